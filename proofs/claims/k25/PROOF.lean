import PyProof.Rows.All
import Wide.All
import OpenK.AllK
import Wide.FinOn
import Lean
import PyProof.EqAt
import PyProof.EqKinds
import PyProof.TupleCall
import PyProof.StrLawsIn
import PyProof.StrLawsJoin
import PyProof.ZipIter
import PyProof.EnumFor
import PyProof.EnumMake
import PyProof.EnumStmt
import PyProof.DictItems
import KE.KPairComp
import KE.KSortTup
import PyProof.DictWalks
import PyProof.Rows.SortWalk
import PyProof.ReprRoads
import PyProof.ReprLen
import PyProof.NsDelKeeps
import PyProof.RulesAs
import PyProof.AttrMissHeap
import KE.KDictOf
import PySem.Challenge.RW_vatyard_k25_a_greatest_flow_is_played
set_option Elab.async false
set_option bootstrap.genMatcherCode false
set_option genSizeOf false
set_option genInjectivity false
set_option compiler.extract_closed false
set_option linter.all false
set_option maxRecDepth 100000
set_option maxHeartbeats 4000000
open List renaming range → u3, length_map → u4, getElem?_eq_getElem → u5, getElem?_map → u6, replicate → u7, length_append → vJ, mem_append → vK, getD_eq_getElem?_getD → vL, mem_range → vM, mem_cons → vN, length_range → vP, size_toArray → vQ, mem_map → vR, mem_cons_of_mem → vU, map_cons → vV, getElem?_eq_some_iff → vW, map_append → vX, nodup_cons → vY, length_set → vZ, mem_cons_self → v6, mem_of_getElem? → v8, lookup_cons → v9, flatMap_cons → wA, append_assoc → wC, map_map → wD, length_take → wF, nodup_append → wG, getElem?_eq_none → wH, append_nil → wI, map_congr_left → wK, getElem?_append_right → wM, getElem?_set_self → wP, lookup → wQ, getElem?_append_left → wR, mem_append_right → wU, getElem?_set → wV, map → wW, filterMap_cons → wX, take_succ → wZ, getElem_mem → w6, range_succ → w9, getElem?_replicate → xB, getElem?_set_ne → xD, length_cons → xE, length_replicate → xF, find?_cons → xH, filterMap_append → xI, zip_append → xK, getElem?_range → xL, take_length → xM, map_set → xN, mem_append_left → xP, map_nil → xQ, any_cons → xR, length_zip → xT, zip_map' → xU, length_drop → xZ, replicate_succ → x6, getElem_map → x8, mem_flatMap → x9, flatten_cons → yC, filter_cons_of_pos → yE, sum_append → yF, take_append_drop → yH, length_singleton → yM, take_of_length_le → yP, getElem?_mapIdx → yR, length_filterMap_le → yS, filter_cons_of_neg → yT, mem_map_of_mem → yU, ext_getElem → yV, getElem_range → yW, length → y8, filterMap_map → y9, eraseIdx_cons_succ → zB, nil_append → zC, ext_getElem? → zG, flatMap_append → zI, sum_cons → zJ, getElem_zip → zK, flatMap → zL, set → zM, getElem?_eq_none_iff → zP, mem_filter → zR, mem_filterMap → zT, of_mem_zip → zV, all_cons → zW, length_filter_le → zZ, length_eq_zero_iff → z5, filterMap → z7, dropLast_eq_take → z8, eq_nil_of_length_eq_zero → k6, take_zero → k7, nodup_range → k8, map_snd_zip → k9, flatten_replicate_singleton → j2, map_replicate → j3, length_mapIdx → j4, getElem?_take_of_lt → j6, find?_eq_none → uaF, getElem_of_mem → uaH, pairwise_cons → uaI, getLast?_cons → uaJ, getLast?_eq_some_iff → uaK, dropLast_concat → uaL, drop_eq_getElem_cons → uaM, map_filterMap → uaN, flatten_append → uaO, mem_of_mem_drop → uaP
open Nat renaming le_refl → u8, le_trans → wB, ne_of_lt → wE, lt_of_lt_of_le → wL, lt_or_ge → wS, zero_le → wY, lt_irrefl → w8, add_mul → xV, le_of_lt → xX, add_sub_cancel → yG, mul_comm → yN, le_of_succ_le → yO, mul_le_mul_right → yX, le_succ → y6, lt_succ_of_lt → zD, lt_succ_self → zU, lt_trichotomy → z6, add_assoc → j5, eq_zero_or_pos → uaC
open PySem.PyData renaming int → u9, list → xJ, tuple → yD, canLayAll0 → zE, depthAll → zF
open Int renaming toNat_natCast → vI, le_refl → xC, eq_ofNat_of_zero_le → yA, emod_nonneg → yY, emod_lt_of_pos → yZ, le_trans → zH, add_zero → zN
open PySem.Value renaming ref → vO, isStrOf → xG, int → xW, isInt → yI, str → yJ, none → yK, bool → y3, float → zO
open Bool renaming false_ne_true → vS, false_eq_true → xS, eq_iff_iff → y4, and_eq_true → zA, not_eq_true → zY, and_eq_true_iff → uaA
open PySem.Heap renaming lt_size → vT, get?_push_of_some → v7, get?_push_size → wT, size_push → yB, get?_update_self → j7, get?_update_other → j8, get?_some_iff → uaB
open Option renaming map_eq_some_iff → wJ, some → wO, isSome_iff_exists → xA, isSome_map → yQ, bind_eq_some_iff → z9, isSome_some → j9, isNone_none → uaD, map_eq_none_iff → uaG
open Sum renaming inl → wN, inr → xO
open Array renaming length_toList → xY, append_assoc → zQ, toList → zS, getElem?_toList → zX, eraseIdxIfInBounds → uaE
open PySem.Str renaming ofString → yL
local macro_rules|`(tactic|walk_at "vi")=>`(tactic|first|exact .inl rfl|exact .inr rfl|assumption)
noncomputable abbrev Fg:=PySem.W.Frag
namespace L2
open PySem PySem.Spec PyProof.Rows
noncomputable abbrev Key:=Sum Int Str
noncomputable def zny:Key->Value->Bool
|.inl k,v=>yI k v
|.inr x,v=>xG x v
noncomputable def keyH (w:World):Key->Int
|.inl k=>hashInt k
|.inr x=>hashStr w x
theorem zt1:∀ {k:Key} {v:Value},zny k v=true->(∃ i t,k=wN i/\v=xW i t) \/ (∃ x t,k=xO x/\v=yJ x t)
|.inl i,v,h=>by
  obtain ⟨t,e⟩:=Value.isInt_shape (k:=i) (v:=v) h
  exact .inl ⟨i,t,rfl,e⟩
|.inr x,v,h=>by
  obtain ⟨t,e⟩:=Value.isStrOf_shape (x:=x) (v:=v) h
  exact .inr ⟨x,t,rfl,e⟩
theorem zwg (i:Int) (t:Tok):zny (.inl i) (.int i t)=true:=by simp [zny,yI]
theorem zqr (x:Str) (t:Tok):zny (.inr x) (.str x t)=true:=by simp [zny,xG]
theorem zk81 (a b:Int):decide ((wN a:Key)=wN b)=(a == b):=by
 by_cases e:a=b
 ·subst e;simp
 ·have h:¬ (wN a:Key)=wN b:=λ q=>e (wN.inj q)
  rw [decide_eq_false h]
  exact (beq_eq_false_iff_ne.mpr e).symm
theorem zba1 (a b:Str):decide ((xO a:Key)=xO b)=decide (a=b):=by
 by_cases e:a=b
 ·subst e;simp
 ·have h:¬ (xO a:Key)=xO b:=λ q=>e (xO.inj q)
  rw [decide_eq_false h,decide_eq_false e]
theorem zk91 (a:Int) (b:Str):decide ((wN a:Key)=xO b)=false:=decide_eq_false (λ q=>nomatch q)
theorem zp91 (a:Str) (b:Int):decide ((xO a:Key)=wN b)=false:=decide_eq_false (λ q=>nomatch q)
noncomputable def zy1 (prog:Program) (w:World):PySem.KeyKind prog w Key where
 is:=zny
 hash:=keyH w
 inj:=λ v a b ha hb=>by
  rcases zt1 ha with ⟨i,t,rfl,rfl⟩|⟨x,t,rfl,rfl⟩
  ·rcases zt1 hb with ⟨j,u,rfl,e⟩|⟨y,u,rfl,e⟩
   ·injection e with e1 _;rw [e1]
   ·exact nomatch e
  ·rcases zt1 hb with ⟨j,u,rfl,e⟩|⟨y,u,rfl,e⟩
   ·exact nomatch e
   ·injection e with e1 _;rw [e1]
 byValue:=λ k v h=>by
  rcases zt1 h with ⟨i,t,rfl,rfl⟩|⟨x,t,rfl,rfl⟩ <;> rfl
 pyHash:=λ hv h=>by
  rcases zt1 hv with ⟨i,t,rfl,rfl⟩|⟨x,t,rfl,rfl⟩
  ·exact wpAny_pyHash_int h
  ·exact wpAny_pyHash_str h
 eqBool:=λ hu hv h=>by
  rcases zt1 hu with ⟨i,t,rfl,rfl⟩|⟨x,t,rfl,rfl⟩
  ·rcases zt1 hv with ⟨j,u,rfl,rfl⟩|⟨y,u,rfl,rfl⟩
   ·rw [zk81] at h;exact wpAny_eqBool_int h
   ·rw [zk91] at h;exact SeqAt.EqAt.int_str i t y u _ _ _ _ h
  ·rcases zt1 hv with ⟨j,u,rfl,rfl⟩|⟨y,u,rfl,rfl⟩
   ·rw [zp91] at h;exact SeqAt.EqAt.str_int x t j u _ _ _ _ h
   ·rw [zba1] at h;exact wpAny_eqBool_str h
 «strs»:=λ k x t v h=>by
  rcases zt1 h with ⟨i,u,rfl,e⟩|⟨y,u,rfl,e⟩
  ·exact nomatch e
  ·injection e with e1 _
   subst e1
   cases v <;> rfl
theorem zwn (prog:Program) (w:World) (i:Int) (t:Tok):(zy1 prog w).is (.inl i) (.int i t)=true:=zwg i t
theorem zhn (prog:Program) (w:World) (x:Str) (t:Tok):(zy1 prog w).is (.inr x) (.str x t)=true:=zqr x t
set_option genInjectivity true in
inductive V where
|non|bl (b:Bool)|int (i:Int)|str (x:Str)|byt (b:Array UInt8)|flt (b:UInt64)|ref (a:Addr)|ty (n:String)
 deriving DecidableEq
noncomputable def RelV:V->Value->Prop
|.non,u=>u=yK
|.bl b,u=>u=y3 b
|.int i,u=>∃ t,u=xW i t
|.str x,u=>∃ t,u=yJ x t
|.byt b,u=>∃ t,u=Value.bytes b t
|.flt b,u=>∃ t,u=zO b t
|.ref a,u=>u=vO a
|.ty n,u=>u=Value.type n
noncomputable abbrev Vals:List V->List Value->Prop:=Paired RelV
theorem Vals.length {xs:List V} {us:List Value} (r:Vals xs us):xs.length=us.length:=Paired.length r
theorem Vals.get:∀ {xs:List V} {us:List Value} {i:Nat} {x:V},Vals xs us->xs[i]?=some x->∃ u,us[i]?=some u/\RelV x u
|_,_,_,_,.nil,e=>by simp at e
|_,_,0,_,.cons r _,e=>by simp at e;subst e;exact ⟨_,rfl,r⟩
|_,_,i+1,x,.cons _ t,e=>by
  obtain ⟨u,h1,h2⟩:=Vals.get (i:=i) (x:=x) t (by simpa using e)
  exact ⟨u,by simpa using h1,h2⟩
theorem Vals.set {x:V} {u:Value} (r:RelV x u):∀ {xs:List V} {us:List Value} (i:Nat),Vals xs us->Vals (xs.set i x) (us.set i u)
|_,_,_,.nil=>.nil
|_,_,0,.cons _ t=>.cons r t
|_,_,i+1,.cons q t=>.cons q (Vals.set r i t)
theorem Vals.append:∀ {xs ys:List V} {us ws:List Value},Vals xs us->Vals ys ws->Vals (xs++ys) (us++ws)
|_,_,_,_,.nil,s=>s
|_,_,_,_,.cons r t,s=>.cons r (Vals.append t s)
theorem Vals.take:∀ {xs:List V} {us:List Value} (n:Nat),Vals xs us->Vals (xs.take n) (us.take n)
|_,_,0,_=>.nil
|_,_,_+1,.nil=>.nil
|_,_,n+1,.cons r t=>.cons r (Vals.take n t)
theorem Vals.drop:∀ {xs:List V} {us:List Value} (n:Nat),Vals xs us->Vals (xs.drop n) (us.drop n)
|_,_,0,r=>r
|_,_,_+1,.nil=>.nil
|_,_,n+1,.cons _ t=>Vals.drop n t
theorem Vals.none_of:∀ {xs:List V} {us:List Value} {i:Nat},Vals xs us->xs[i]?=none->us[i]?=none:=λ {xs us i} r e=>by
 have h1:=r.length
 have h2:xs.length<=i:=zP.mp e
 exact zP.mpr (by lia)
noncomputable def RelO:Option V->Option Value->Prop
|some v,some u=>RelV v u
|none,none=>True
|_,_=>False
noncomputable def KV {κ:Type}:List (κ×V)->List (κ×Value)->Prop:=Paired λ (p:κ×V) (q:κ×Value)=>p.1=q.1/\RelV p.2 q.2
noncomputable def kV:Key->V
|.inl i=>.int i
|.inr x=>.str x
inductive HO where
 /-- a list -/
|lst (xs:List V)
 /-- a tuple (never changes) -/
|tup (xs:List V)
 /-- a dict whose keys are ints and texts;one whose keys are tuples of ints and texts (the empty one is both) -/
|dK (kvs:List (Key×V))|dT (kvs:List (List Key×V))
 /-- a set of ints: its members,its size -/
|set (S:Int->Bool) (n:Nat)
 /-- an instance of the class at C,its dict at dx,its attributes -/
|ins (C dx:Addr) (fs:List (Str×V))
 /-- the dict of the instance at x -/
|own (x:Addr)
 /-- the dict of an exception -/
|xd (fs:List (Str×V))
 /-- a bound method,f of x -/
|met (f x:Addr)
 /-- a range object lo,lo+1,.. below hi -/
|rng (lo hi:Int)
 /-- a thing that is known to the object (the script;a dict while a loop walks it): read,never written while it is so -/
|frz (o:Obj) (u:HO)
 /-- a code object's table -/
|tbl (ps:Array Value)
 /-- any other thing,by what is true of its one object (a def of one's own: SetO a S n:=HO.ext λ h=>..) -/
|ext (φ:Heap->Prop)
noncomputable abbrev Hp:=Addr->Option HO
noncomputable def upd (H:Hp) (a:Addr) (o:HO):Hp:=λ b=>if b=a then some o else H b
theorem zo0 {H:Hp} {a:Addr} {o:HO}:upd H a o a=some o:=by unfold upd;rw [if_pos rfl]
theorem zw0 {H:Hp} {a b:Addr} {o:HO} (h:b≠a):upd H a o b=H b:=by unfold upd;rw [if_neg h]
theorem zz51 {H:Hp} {a b:Addr} {o u:HO} (h:H a=some o) (h':H b=some u) (d:o≠u):a≠b:=by
 intro e;subst e;rw [h] at h';exact d (wO.inj h')
theorem zy3 {H:Hp} {a b:Addr} {o:HO} (h:H a=some o) (h':H b=none):a≠b:=by
 intro e;subst e;rw [h] at h';cases h'
section
variable (P:Program) (w:World)
noncomputable def ObjOk (H:Hp) (h:Heap) (a:Addr):HO->Prop
|.lst xs=>xs.length<=sizeLine/\∃ (its:List Value) (n:Nat),Vals xs its/\h.get? a=some { cls:=.type "list",data:=.seq its.toArray n }
|.tup xs=>xs.length<=sizeLine/\∃ its:List Value,Vals xs its/\IsTup h a its.toArray
|.dK kvs=>kvs.length<=sizeLine/\(a == sysModules)=false/\∃ vs,KV kvs vs/\h.DictOf (zy1 P w) a vs
|.dT kvs=>kvs.length<=sizeLine/\(a == sysModules)=false/\∃ xs:List (List Key×Addr×Value),
   Paired (λ (p:List Key×V) (q:List Key×Addr×Value)=>p.1=q.1/\H q.2.1=some (.tup (p.1.map kV))/\RelV p.2 q.2.2) kvs xs /\
   ∃ o es ep,h.get? a=some o/\o.ExactDict/\o.data=.dict es ep/\es.toList=xs.map (entryOfKey (tupleKind (zy1 P w)))/\(xs.map (·.1)).Nodup
|.set S n=>h.SetOf (intKind P w) a S n
|.ins C dx fs=>H dx=some (.own a)/\fs.length<=1000/\dx≠a/\h.get? a=some (PySem.W.instObj C dx) /\
   ∃ mA,h.Ns1 dx mA/\(∀ f,RelO (fs.lookup f) (mA f))/\PySem.Within mA (fs.map (·.1))
|.own _=>∃ o,h.get? a=some o
|.xd fs=>∃ mA,h.Ns1 a mA/\∀ f,RelO (fs.lookup f) (mA f)
|.rng lo hi=>∃ t u v,h.get? a=some { cls:=.type "range",data:=.fields #[.int lo t,.int hi u,.int 1 v] }
|.frz o u=>h.get? a=some o/\ObjOk H h a u
|.tbl ps=>h.get? a=some { cls:=.none,data:=.fields ps }
|.met f x=>h.get? a=some (PySem.W.methodObj (.ref f) (.ref x))
|.ext φ=>φ h/\(∃ o,h.get? a=some o)/\∀ h1 h2:Heap,φ h1->(∀ o,h1.get? a=some o->h2.get? a=some o)->φ h2
noncomputable def HOk (H:Hp) (h:Heap):Prop:=∀ a o,H a=some o->ObjOk P w H h a o
end
section
variable {P:Program} {w:World} {H H':Hp} {h h':Heap} {a:Addr} {o:HO}
theorem ObjOk.lt (x:ObjOk P w H h a o):a < h.objs.size:=by
 cases o with
|lst xs=>obtain ⟨_,_,_,_,e⟩:=x;exact vT e
|tup xs=>obtain ⟨_,_,_,p⟩:=x;exact p.lt
|dK kvs=>obtain ⟨_,_,_,_,o,_,_,e,_⟩:=x;exact vT e
|dT kvs=>obtain ⟨_,_,_,_,o,_,_,e,_⟩:=x;exact vT e
|set S n=>obtain ⟨o,_,_,_,e,_⟩:=x;exact vT e
|ins C dx fs=>obtain ⟨_,_,_,e,_⟩:=x;exact vT e
|own y=>obtain ⟨_,e⟩:=x;exact vT e
|xd fs=>obtain ⟨_,⟨_,_,_,e,_⟩,_⟩:=x;exact vT e
|rng lo hi=>obtain ⟨_,_,_,e⟩:=x;exact vT e
|frz ob u=>obtain ⟨e,_⟩:=x;exact vT e
|tbl ps=>exact vT (show h.get? a=some _ from x)
|met f y=>exact vT (show h.get? a=some _ from x)
|ext φ=>obtain ⟨_,⟨_,e⟩,_⟩:=x;exact vT e
theorem Paired.mapP {α β:Type} {F G:α->β->Prop}:∀ {l₁:List α} {l₂:List β},Paired F l₁ l₂->(∀ a b,F a b->G a b)->Paired G l₁ l₂
|_,_,.nil,_=>.nil
|_,_,.cons r t,f=>.cons (f _ _ r) (Paired.mapP t f)
theorem ObjOk.stay (x:ObjOk P w H h a o) (k:∀ b u,(b=a \/ H b=some (.own a))->h.get? b=some u->h'.get? b=some u)
  (ho:∀ b,H b=some (.own a)->H' b=some (.own a)) (ht:∀ b xs,H b=some (.tup xs)->H' b=some (.tup xs)):ObjOk P w H' h' a o:=by
 induction o with
|lst xs=>obtain ⟨z,its,n,r,e⟩:=x;exact ⟨z,its,n,r,k _ _ (.inl rfl) e⟩
|tup xs=>obtain ⟨z,its,r,ob,e,c⟩:=x;exact ⟨z,its,r,ob,k _ _ (.inl rfl) e,c⟩
|dK kvs=>obtain ⟨z,y,vs,r,ob,es,ep,e,c⟩:=x;exact ⟨z,y,vs,r,ob,es,ep,k _ _ (.inl rfl) e,c⟩
|dT kvs =>
  obtain ⟨z,y,xs,r,ob,es,ep,e,c⟩:=x
  exact ⟨z,y,xs,Paired.mapP r λ p q z=>⟨z.1,ht _ _ z.2.1,z.2.2⟩,ob,es,ep,k _ _ (.inl rfl) e,c⟩
|set S n=>obtain ⟨ob,es,ep,t,e,c⟩:=x;exact ⟨ob,es,ep,t,k _ _ (.inl rfl) e,c⟩
|ins C dx fs =>
  obtain ⟨d,z,ne,e,mA,⟨od,es,ep,e2,c⟩,r⟩:=x
  exact ⟨ho _ d,z,ne,k _ _ (.inl rfl) e,mA,⟨od,es,ep,k _ _ (.inr d) e2,c⟩,r⟩
|own y=>obtain ⟨ob,e⟩:=x;exact ⟨ob,k _ _ (.inl rfl) e⟩
|xd fs=>obtain ⟨mA,⟨od,es,ep,e,c⟩,r⟩:=x;exact ⟨mA,⟨od,es,ep,k _ _ (.inl rfl) e,c⟩,r⟩
|rng lo hi=>obtain ⟨t,u,v,e⟩:=x;exact ⟨t,u,v,k _ _ (.inl rfl) e⟩
|frz ob u ih=>obtain ⟨e,q⟩:=x;exact ⟨k _ _ (.inl rfl) e,ih q⟩
|tbl ps =>
  have e:h.get? a=some { cls:=.none,data:=.fields ps }:=x
  show h'.get? a=some { cls:=.none,data:=.fields ps }
  exact k a _ (.inl rfl) e
|met f y =>
  have e:h.get? a=some (PySem.W.methodObj (.ref f) (.ref y)):=x
  show h'.get? a=some (PySem.W.methodObj (.ref f) (.ref y))
  exact k a _ (.inl rfl) e
|ext φ=>obtain ⟨p,⟨o,e⟩,st⟩:=x;exact ⟨st _ _ p λ o q=>k _ _ (.inl rfl) q,⟨o,k _ _ (.inl rfl) e⟩,st⟩
theorem HOk.lt (x:HOk P w H h) (e:H a=some o):a < h.objs.size:=(x a o e).lt
theorem HOk.fresh (x:HOk P w H h) (e:h.objs.size<=a):H a=none:=by
 cases q:H a with
|none=>rfl
|some u=>exact absurd (wL (x.lt q) e) (w8 _)
theorem HOk.kept (x:HOk P w H h) (k:∀ b u,h.get? b=some u->h'.get? b=some u):HOk P w H h':=λ a o e =>
 (x a o e).stay (λ b u _ q=>k b u q) (λ _ q=>q) λ _ _ q=>q
theorem HOk.laid (x:HOk P w H h) (k:∀ b u,h.get? b=some u->h'.get? b=some u) (hp:h.objs.size<=a) (new:ObjOk P w (upd H a o) h' a o):HOk P w (upd H a o) h':=λ b u e=>by
 have hn:=x.fresh hp
 by_cases hb:b=a
 ·subst hb;rw [zo0] at e;cases e;exact new
 ·rw [zw0 hb] at e
  exact (x b u e).stay (λ c v _ q=>k c v q) (λ c q=>by rw [zw0 (zy3 q hn)];exact q) λ c xs q=>by rw [zw0 (zy3 q hn)];exact q
end
noncomputable def Rd (H:Hp) (a:Addr) (u:HO):Prop:=H a=some u \/ ∃ o,H a=some (.frz o u)
theorem Rd.ok {P:Program} {w:World} {H:Hp} {h:Heap} {a:Addr} {u:HO} (r:Rd H a u) (x:HOk P w H h):ObjOk P w H h a u:=by
 rcases r with r|⟨o,r⟩
 ·exact x a u r
 ·obtain ⟨_,q⟩:=x a _ r
  exact q
noncomputable def Mut:Option HO->Prop
|some (.lst _)=>True
|some (.dK _)=>True
|some (.dT _)=>True
|some (.set _ _)=>True
|some (.ins _ _ _)=>True
|some (.ext _)=>True
|_=>False
section
variable {P:Program} {w:World} {H:Hp} {h h':Heap} {x e:Addr} {o':HO}
theorem HOk.write (ok:HOk P w H h) (mu:Mut (H x)) (he:e=x \/ H e=some (.own x)) (k:∀ b u,b≠e->h.get? b=some u->h'.get? b=some u) (heo:∃ u,h'.get? e=some u)
  (new:ObjOk P w (upd H x o') h' x o'):HOk P w (upd H x o') h':=λ b u q=>by
 have nown:∀ c y,H c=some (.own y)->c≠x:=λ c y r z=>by subst z;rw [r] at mu;exact mu
 have ntup:∀ c xs,H c=some (.tup xs)->c≠x:=λ c xs r z=>by subst z;rw [r] at mu;exact mu
 by_cases hb:b=x
 ·subst hb;rw [zo0] at q;cases q;exact new
 ·rw [zw0 hb] at q
  by_cases hbe:b=e
  ·have q':H b=some (.own x):=by
    rcases he with z|z
    ·exact absurd (hbe.trans z) hb
    ·rw [hbe];exact z
   rw [q] at q';cases q'
   obtain ⟨v,hv⟩:=heo
   exact ⟨v,by rw [hbe];exact hv⟩
  ·refine (ok b u q).stay (λ c v hc r=>k c v ?_ r) (λ c r=>by rw [zw0 (nown c b r)];exact r) λ c xs r=>by rw [zw0 (ntup c xs r)];exact r
   rcases hc with rfl|hc
   ·exact hbe
   ·rintro rfl
    rcases he with z|z
    ·exact nown c b hc z
    ·rw [hc] at z;cases z;exact hb rfl
end
structure Un (fs ex:List Addr) (H H':Hp) (h h':Heap):Prop where
 keep:∀ b o,h.get? b=some o->H b=none->b ∉ fs->b ∉ ex->h'.get? b=some o
 slot:∀ b o,h.get? b=some o->H b=none->b∈fs->b ∉ ex->∃ sl,h'.get? b=some { o with slots:=sl }
 free:∀ b o,h.get? b=some o->H b=none->b ∉ ex->H' b=none
 there:∀ b o,h.get? b=some o->b ∉ ex->∃ o',h'.get? b=some o'
 tups:∀ b xs,H b=some (.tup xs)->H' b=some (.tup xs)
 frzs:∀ b o u,H b=some (.frz o u)->H' b=some (.frz o u)
 tbls:∀ b ps,H b=some (.tbl ps)->∃ more,H' b=some (.tbl (ps++more))
section
variable {fs fs' ex ex':List Addr} {H H1 H2:Hp} {h h1 h2 h':Heap} {a x e:Addr} {o:HO}
theorem Un.any (u:Un fs ex H H1 h h1) {b:Addr} {ob:Obj} (q:h.get? b=some ob) (n:H b=none) (hx:b ∉ ex):∃ sl,h1.get? b=some { ob with slots:=sl }:=by
 by_cases hb:b∈fs
 ·exact u.slot b ob q n hb hx
 ·exact ⟨ob.slots,u.keep b ob q n hb hx⟩
theorem Un.kept (k:∀ b u,h.get? b=some u->h'.get? b=some u):Un fs ex H H h h' :=
 ⟨λ b ob q _ _ _=>k b ob q,λ b ob q _ _ _=>⟨ob.slots,k b ob q⟩,λ _ _ _ n _=>n,λ b ob q _=>⟨ob,k b ob q⟩,λ _ _ q=>q,λ _ _ _ q=>q,λ _ ps q=>⟨#[],by rw [q];simp⟩⟩
theorem Un.refl:Un fs ex H H h h:=Un.kept λ _ _ q=>q
theorem Un.laid (k:∀ b u,h.get? b=some u->h'.get? b=some u) (hp:h.objs.size<=a) (hn:H a=none):Un fs ex H (upd H a o) h h' where
 keep:=λ b u q _ _ _=>k b u q
 slot:=λ b u q _ _ _=>⟨u.slots,k b u q⟩
 free:=λ b u q n _=>by rw [zw0 (wE (wL (vT q) hp))];exact n
 there:=λ b u q _=>⟨u,k b u q⟩
 tups:=λ b xs q=>by rw [zw0 (zy3 q hn)];exact q
 frzs:=λ b u xs q=>by rw [zw0 (zy3 q hn)];exact q
 tbls:=λ b ps q=>⟨#[],by rw [zw0 (zy3 q hn),q];simp⟩
theorem Un.write (mu:Mut (H x)) (he:e=x \/ H e=some (.own x)) (k:∀ b u,b≠e->h.get? b=some u->h'.get? b=some u) (heo:∃ u,h'.get? e=some u):Un fs ex H (upd H x o) h h':=by
 have hx:∀ b,H b=none->b≠x:=λ b n z=>by subst z;rw [n] at mu;exact mu
 have hb:∀ b,H b=none->b≠e:=λ b n z=>by
  subst z
  rcases he with r|r
  ·exact hx b n r
  ·rw [n] at r;cases r
 have hm:∀ b u,H b=some u->¬ Mut (some u)->b≠x:=λ b u q nm z=>by subst z;rw [q] at mu;exact nm mu
 refine ⟨λ b u q n _ _=>k b u (hb b n) q,λ b u q n _ _=>⟨u.slots,k b u (hb b n) q⟩,λ b u q n _=>by rw [zw0 (hx b n)];exact n,λ b u q _=>?_,
  λ b xs q=>by rw [zw0 (hm b _ q λ z=>z)];exact q,λ b u xs q=>by rw [zw0 (hm b _ q λ z=>z)];exact q,λ b ps q=>⟨#[],by rw [zw0 (hm b _ q λ z=>z),q];simp⟩⟩
 by_cases hbe:b=e
 ·subst hbe;exact heo
 ·exact ⟨u,k b u hbe q⟩
end
noncomputable def trk (h:Heap) (H:Hp):List Addr:=(u3 h.objs.size).filter λ a=>(H a).isSome
noncomputable def hidT (h:Heap) (H:Hp):Heap:=PySem.W.hideAll h (trk h H)
theorem zxs (h:Heap) (H:Hp):(hidT h H).objs.size=h.objs.size:=PySem.W.hideAll_size _ _
theorem zuv {h:Heap} {H:Hp} {b:Addr} {o:Obj} (e:h.get? b=some o) (n:H b=none):(hidT h H).get? b=some o :=
 PySem.W.hideAll_get _ e λ hm=>by
  have q:(H b).isSome=true:=(zR.mp hm).2
  rw [n] at q;simp at q
theorem zm21 {h:Heap} {H:Hp} {b:Addr} {o:Obj} (e:(hidT h H).get? b=some o):h.get? b=some o/\H b=none:=by
 have e':h.get? b=some o:=PySem.W.of_hideAll (trk h H) e
 refine ⟨e',?_⟩
 cases q:H b with
|none=>rfl
|some x =>
  have hm:b∈trk h H:=zR.mpr ⟨vM.mpr (vT e'),by simp [q]⟩
  have z:(hidT h H).get? b=none:=PySem.W.hideAll_none (trk h H) hm
  rw [z] at e;cases e
structure Mod (K:Fg) (mg:Str->Option Value) (base:Heap):Prop where
 kin:K.In base
 glob:base.Ns mainGlobals mg
 blt:∃ mb,base.Ns builtinsNs mb/\∀ x:Str,x ≠ "__name__"->mb x=bootBuiltins x
 nolimit:base.NoLimit
structure Cx where
 prog:Program
 w:World
 K:Fg
 mg:Str->Option Value
 base:Heap
 A:Around
 N:List Str
 s₀:Shared
 H₀:Hp
 env:Env
 outer:List Env
 stack:List Env
 ex:List Addr
 fn:Str->Bool
 calm:Bool
 pn:List (Addr×Obj)
 xe:Value->Shared->Prop
noncomputable def frs (l:List Env):List Addr:=l.filterMap (·.frame)
noncomputable abbrev Cx.fs (X:Cx):List Addr:=frs X.outer
noncomputable def Vis (sc:Scope) (x:Str):Prop:=sc.names.lookup x=some .local \/ sc.names.lookup x=some .cell \/ sc.names.lookup x=some .free
noncomputable def Loc (sc:Scope) (x:Str):Prop:=sc.names.lookup x=some .local \/ sc.names.lookup x=some .cell
noncomputable def Look (env:Env) (h:Heap) (m:Str->Option Value) (x:Str) (u:Value):Prop :=
 (env.kindOf x=some .local/\m x=some u) \/ ((env.kindOf x=some .cell \/ env.kindOf x=some .free)/\∃ c,env.cells.lookup x=some c/\h.IsCell c (some u))
structure Cx.Ok (X:Cx):Prop where
 mod:Mod X.K X.mg X.base
 kind:X.env.scope.kind=.function
 glob:X.env.globals=mainGlobals
 blt:X.env.builtins=builtinsNs
 above:X.s₀.heap.objs.size<=X.env.locals
 inj:∀ x y c,X.env.cells.lookup x=some c->X.env.cells.lookup y=some c->x=y
 has:∀ x,(X.env.kindOf x=some .cell \/ X.env.kindOf x=some .free)->∃ c,X.env.cells.lookup x=some c
 cab:∀ x c,X.fn x=true->X.env.cells.lookup x=some c->X.s₀.heap.objs.size<=c
 hd:X.calm=true->X.A.handled=none
 frames:X.A.frames=some X.stack
 stk:X.stack=X.outer \/ (X.stack=X.env :: X.outer/\X.env.frame=some X.env.locals)
 exf:∀ b∈X.ex,b≠X.env.locals/\∀ x c,X.env.cells.lookup x=some c->c≠b
 bs:∀ b o,X.base.get? b=some o->X.s₀.heap.get? b=some o/\X.H₀ b=none
 bsz:X.base.objs.size<=X.s₀.heap.objs.size
 noex:∀ b o,X.base.get? b=some o->b ∉ X.ex
 exfs:∀ b∈X.ex,b ∉ X.fs
 funs:X.s₀.heap.FunFrames X.base X.outer
 frf:∀ b∈X.fs,X.H₀ b=none
structure Inv (X:Cx) (pins:List (Addr×Obj)) (Y:List (Option V)) (H:Hp) (s:Shared):Prop where
 ok:X.Ok
 os:s.os=X.s₀.os
 bare:AllBare s.gens
 base:Un X.fs X.ex X.H₀ H X.s₀.heap s.heap
 loc:∃ m,s.heap.Ns X.env.locals m/\∀ (i:Nat) (x:Str) (v:V),X.N[i]?=some x->Y[i]?=some (some v)->Vis X.env.scope x->∃ u,RelV v u/\Look X.env s.heap m x u
 cell:∀ x c,X.env.cells.lookup x=some c->∃ v,s.heap.IsCell c v
 free:H X.env.locals=none
 freeC:∀ x c,X.env.cells.lookup x=some c->H c=none
 pin:∀ p∈X.pn++pins,s.heap.get? p.1=some p.2/\H p.1=none/\p.1≠X.env.locals/\p.1 ∉ X.fs/\∀ v,p.2.data≠.cell v
 hok:HOk X.prog X.w H s.heap
 len:Y.length=X.N.length
section
variable {X:Cx} {pins:List (Addr×Obj)} {Y:List (Option V)} {H H':Hp} {s:Shared} {h':Heap}
theorem Cx.Ok.nofr (ok:X.Ok) {b:Addr} {o:Obj} (e:X.base.get? b=some o):b ∉ X.fs:=λ hb=>by
 have:=(ok.funs.mem hb).1
 rw [e] at this;cases this
theorem Inv.bs (I:Inv X pins Y H s):∀ b o,X.base.get? b=some o->s.heap.get? b=some o/\H b=none:=λ b o e =>
 ⟨I.base.keep b o (I.ok.bs b o e).1 (I.ok.bs b o e).2 (I.ok.nofr e) (I.ok.noex b o e),I.base.free b o (I.ok.bs b o e).1 (I.ok.bs b o e).2 (I.ok.noex b o e)⟩
theorem Inv.bk (I:Inv X pins Y H s):∀ b o,X.base.get? b=some o->s.heap.get? b=some o:=λ b o e=>(I.bs b o e).1
theorem Inv.mod (I:Inv X pins Y H s):Mod X.K X.mg X.base:=I.ok.mod
theorem Inv.kIn (I:Inv X pins Y H s):X.K.In s.heap:=I.ok.mod.kin.keeps I.bk
theorem Inv.lt (I:Inv X pins Y H s):X.env.locals < s.heap.objs.size:=let ⟨_,hn,_⟩:=I.loc;hn.lt
theorem Inv.sz (I:Inv X pins Y H s):X.s₀.heap.objs.size<=s.heap.objs.size:=wB I.ok.above (xX I.lt)
theorem Inv.nofs (I:Inv X pins Y H s) {a:Addr} (h:s.heap.objs.size<=a):a ∉ X.fs:=λ hb=>by
 obtain ⟨_,o,ho,_⟩:=I.ok.funs.mem hb
 exact absurd (wL (vT ho) (wB I.sz h)) (w8 _)
theorem Inv.cne (I:Inv X pins Y H s):∀ x c,X.env.cells.lookup x=some c->c≠X.env.locals:=λ x c e z=>by
 obtain ⟨v,o,ho,hd⟩:=I.cell x c e
 obtain ⟨m,⟨o',es,ep,ho',hd',_⟩,_⟩:=I.loc
 rw [z,ho'] at ho;cases ho;rw [hd'] at hd;cases hd
theorem Inv.funs (I:Inv X pins Y H s):s.heap.FunFrames X.base X.outer:=by
 have all:∀ (l:List Env),(∀ b∈frs l,b∈X.fs)->X.s₀.heap.FunFrames X.base l->s.heap.FunFrames X.base l:=by
  intro l
  induction l with
 |nil=>intro _ _;trivial
 |cons env r ih =>
   intro hs hl
   obtain ⟨hk,⟨L,o,hf,hn,ho,hd⟩,hr⟩:=hl
   have hL:L∈X.fs:=hs L (by unfold frs;rw [wX,hf];exact v6)
   obtain ⟨sl,e⟩:=I.base.slot L o ho (I.ok.frf L hL) hL λ z=>I.ok.exfs L z hL
   exact ⟨hk,⟨L,_,hf,hn,e,hd⟩,ih (λ b hb=>hs b (by unfold frs;rw [wX,hf];exact vU _ hb)) hr⟩
 exact all X.outer (λ _ hb=>hb) I.ok.funs
theorem Inv.stack (I:Inv X pins Y H s):s.heap.FunFrames X.base X.stack:=by
 rcases I.ok.stk with e|⟨e,hf⟩
 ·rw [e];exact I.funs
 ·rw [e]
  obtain ⟨m,hn,_⟩:=I.loc
  refine .cons (by rw [I.ok.kind];decide) hf hn ?_ I.funs
  exact Heap.get?_none_of_le (wB I.ok.bsz I.ok.above)
theorem Inv.stkSub (I:Inv X pins Y H s):∀ b∈frs X.stack,b∈X.env.locals :: X.fs:=λ b hb=>by
 rcases I.ok.stk with e|⟨e,hf⟩
 ·rw [e] at hb;exact vU _ hb
 ·rw [e] at hb
  unfold frs at hb
  rw [wX,hf] at hb
  exact hb
theorem Inv.stkFree (I:Inv X pins Y H s):∀ b∈frs X.stack,H b=none:=λ b hb=>by
 rcases vN.mp (I.stkSub b hb) with e|hb
 ·rw [e];exact I.free
 ·obtain ⟨_,o,ho,_⟩:=I.ok.funs.mem hb
  exact I.base.free b o ho (I.ok.frf b hb) λ z=>I.ok.exfs b z hb
theorem Inv.step {g':Array GenState} {t':Nat} {d':Drawn} {ch:List Addr} (I:Inv X pins Y H s)
  (hch:∀ b∈ch,(b∈X.ex \/ X.s₀.heap.objs.size<=b)/\b≠X.env.locals/\(∀ x c,X.env.cells.lookup x=some c->c≠b)/\∀ p∈X.pn++pins,p.1≠b)
  (keep:∀ b o,b≠X.env.locals->b ∉ X.fs->b ∉ ch->s.heap.get? b=some o->H b=none->h'.get? b=some o)
  (slot:∀ b o,b≠X.env.locals->b∈X.fs->b ∉ ch->s.heap.get? b=some o->H b=none->∃ sl,h'.get? b=some { o with slots:=sl }) (free:∀ b o,b ∉ ch->s.heap.get? b=some o->H b=none->H' b=none)
  (there:∀ b o,b ∉ ch->s.heap.get? b=some o->∃ o',h'.get? b=some o')
  (tups:∀ b xs,H b=some (.tup xs)->H' b=some (.tup xs)) (frzs:∀ b o u,H b=some (.frz o u)->H' b=some (.frz o u)) (tbls:∀ b ps,H b=some (.tbl ps)->∃ more,H' b=some (.tbl (ps++more)))
  (ns:∀ m,s.heap.Ns X.env.locals m->h'.Ns X.env.locals m) (hok:HOk X.prog X.w H' h') (hg:AllBare g') :
  Inv X pins Y H' { s with heap:=h',gens:=g',drawn:=d',toks:=t' }:=by
 have neL:∀ b o,X.s₀.heap.get? b=some o->b≠X.env.locals:=λ b o e=>wE (wL (vT e) I.ok.above)
 have neC:∀ b o,X.s₀.heap.get? b=some o->b ∉ X.ex->b ∉ ch:=λ b o e hx hb=>by
  rcases (hch b hb).1 with z|z
  ·exact hx z
  ·exact absurd (wL (vT e) z) (w8 _)
 have cellK:∀ x c,X.env.cells.lookup x=some c->∀ v,s.heap.IsCell c v->h'.IsCell c v:=λ x c e v ⟨o,ho,hd⟩=>by
  have nch:c ∉ ch:=λ z=>(hch c z).2.2.1 x c e rfl
  by_cases hc:c∈X.fs
  ·obtain ⟨sl,q⟩:=slot c o (I.cne x c e) hc nch ho (I.freeC x c e)
   exact ⟨_,q,hd⟩
  ·exact ⟨o,keep c o (I.cne x c e) hc nch ho (I.freeC x c e),hd⟩
 refine ⟨I.ok,I.os,hg,⟨λ b o e n hb hx=>?_,λ b o e n hb hx=>?_,λ b o e n hx=>?_,λ b o e hx=>?_,λ b xs e=>tups b xs (I.base.tups b xs e),λ b o xs e=>frzs b o xs (I.base.frzs b o xs e),λ b ps e=>?_⟩,?_,λ x c e=>?_,?_,λ x c e=>?_,λ p hp=>?_,hok,I.len⟩
 ·exact keep b o (neL b o e) hb (neC b o e hx) (I.base.keep b o e n hb hx) (I.base.free b o e n hx)
 ·obtain ⟨sl,e1⟩:=I.base.slot b o e n hb hx
  obtain ⟨sl',e2⟩:=slot b _ (neL b o e) hb (neC b o e hx) e1 (I.base.free b o e n hx)
  exact ⟨sl',e2⟩
 ·obtain ⟨o',e1⟩:=I.base.there b o e hx
  exact free b o' (neC b o e hx) e1 (I.base.free b o e n hx)
 ·obtain ⟨o',e1⟩:=I.base.there b o e hx
  exact there b o' (neC b o e hx) e1
 ·obtain ⟨m1,e1⟩:=I.base.tbls b ps e
  obtain ⟨m2,e2⟩:=tbls b _ e1
  exact ⟨m1++m2,by rw [e2,zQ]⟩
 ·obtain ⟨m,hn,hl⟩:=I.loc
  refine ⟨m,ns m hn,λ i x v e1 e2 e3=>?_⟩
  obtain ⟨u,r,l⟩:=hl i x v e1 e2 e3
  refine ⟨u,r,?_⟩
  rcases l with l|⟨k,c,e,z⟩
  ·exact .inl l
  ·exact .inr ⟨k,c,e,cellK x c e _ z⟩
 ·obtain ⟨v,z⟩:=I.cell x c e
  exact ⟨v,cellK x c e v z⟩
 ·obtain ⟨m,⟨o,_,_,ho,_⟩,_⟩:=I.loc
  exact free _ o (λ z=>(hch _ z).2.1 rfl) ho I.free
 ·obtain ⟨v,o,ho,hd⟩:=I.cell x c e
  exact free c o (λ z=>(hch c z).2.2.1 x c e rfl) ho (I.freeC x c e)
 ·obtain ⟨e,n,ne,nf,d⟩:=I.pin p hp
  have nch:p.1 ∉ ch:=λ z=>(hch p.1 z).2.2.2 p hp rfl
  exact ⟨keep p.1 p.2 ne nf nch e n,free p.1 p.2 nch e n,ne,nf,d⟩
theorem Inv.un {t':Nat} (I:Inv X pins Y H s) (u:Un X.fs [] H H' s.heap h') (hok:HOk X.prog X.w H' h'):Inv X pins Y H' { s with heap:=h',toks:=t' }:=by
 obtain ⟨m,⟨o,es,ep,ho,r⟩,_⟩:=id I.loc
 obtain ⟨sl,hL⟩:=u.any ho I.free (by simp)
 exact I.step (g':=s.gens) (d':=s.drawn) (ch:=[]) (λ _ z=>nomatch z) (λ b o _ hb _ e n=>u.keep b o e n hb (by simp)) (λ b o _ hb _ e n=>u.slot b o e n hb (by simp)) (λ b o _ e n=>u.free b o e n (by simp)) (λ b o _ e=>u.there b o e (by simp)) u.tups u.frzs u.tbls (λ m' hm=>by
  obtain ⟨o',es',ep',ho',r'⟩:=hm
  rw [ho] at ho';cases ho'
  exact ⟨_,es',ep',hL,r'⟩) hok I.bare
theorem Inv.call {g':Array GenState} {t':Nat} {d':Drawn} {ch:List Addr} (I:Inv X pins Y H s) (u:Un (frs X.stack) ch H H' s.heap h') (hok:HOk X.prog X.w H' h') (hg:AllBare g')
  (hch:∀ b∈ch,(b∈X.ex \/ X.s₀.heap.objs.size<=b)/\b≠X.env.locals/\(∀ x c,X.env.cells.lookup x=some c->c≠b)/\∀ p∈X.pn++pins,p.1≠b) :
  Inv X pins Y H' { s with heap:=h',gens:=g',drawn:=d',toks:=t' }:=by
 obtain ⟨m,⟨o,es,ep,ho,r⟩,_⟩:=id I.loc
 obtain ⟨sl,hL⟩:=u.any ho I.free λ z=>(hch _ z).2.1 rfl
 exact I.step (ch:=ch) hch (λ b o hL hb hc e n=>u.keep b o e n (λ z=>(vN.mp (I.stkSub b z)).elim hL hb) hc) (λ b o _ _ hc e n=>u.any e n hc) (λ b o hc e n=>u.free b o e n hc) (λ b o hc e=>u.there b o e hc) u.tups u.frzs u.tbls (λ m' hm=>by
  obtain ⟨o',es',ep',ho',r'⟩:=hm
  rw [ho] at ho';cases ho'
  exact ⟨_,es',ep',hL,r'⟩) hok hg
theorem Inv.turned {t':Nat} {it:Addr} (I:Inv X pins Y H s) (k:∀ b o,b≠it->s.heap.get? b=some o->h'.get? b=some o) (hn:H it=none) (hL:it≠X.env.locals)
  (h1:it∈X.ex \/ X.s₀.heap.objs.size<=it) (h2:∀ x c,X.env.cells.lookup x=some c->c≠it) (h3:∀ p∈X.pn++pins,p.1≠it):Inv X pins Y H { s with heap:=h',toks:=t' }:=by
 have nit:∀ b u,H b=some u->b≠it:=λ b u e z=>by rw [z,hn] at e;cases e
 refine I.step (g':=s.gens) (d':=s.drawn) (ch:=[it]) (λ b hb=>?_) (λ b o _ _ hc e _=>k b o (λ z=>hc (by simp [z])) e) (λ b o _ _ hc e _=>⟨o.slots,k b o (λ z=>hc (by simp [z])) e⟩) (λ _ _ _ _ n=>n)
  (λ b o hc e=>⟨o,k b o (λ z=>hc (by simp [z])) e⟩) (λ _ _ e=>e) (λ _ _ _ e=>e) (λ b ps e=>⟨#[],by rw [e];simp⟩) (λ m hm=>?_) (λ b u e=>?_) I.bare
 ·have e:b=it:=by simpa using hb
  subst e
  exact ⟨h1,hL,h2,h3⟩
 ·obtain ⟨o,es,ep,ho,r⟩:=hm
  exact ⟨o,es,ep,k _ o (Ne.symm hL) ho,r⟩
 ·refine (I.hok b u e).stay (λ c v hc q=>k c v ?_ q) (λ _ q=>q) λ _ _ q=>q
  rcases hc with z|z
  ·rw [z];exact nit b u e
  ·exact nit c _ z
theorem Inv.tok (I:Inv X pins Y H s) (t:Nat):Inv X pins Y H { s with toks:=t }:=I.un (h':=s.heap) (t':=t) Un.refl I.hok
theorem Inv.kept {t':Nat} (I:Inv X pins Y H s) (k:∀ b u,s.heap.get? b=some u->h'.get? b=some u):Inv X pins Y H { s with heap:=h',toks:=t' }:=I.un (Un.kept k) (I.hok.kept k)
theorem Inv.laid {a:Addr} {o:HO} {t':Nat} (I:Inv X pins Y H s) (k:∀ b u,s.heap.get? b=some u->h'.get? b=some u) (hp:s.heap.objs.size<=a) (new:ObjOk X.prog X.w (upd H a o) h' a o) :
  Inv X pins Y (upd H a o) { s with heap:=h',toks:=t' }:=I.un (Un.laid k hp (I.hok.fresh hp)) (I.hok.laid k hp new)
theorem Inv.write {x e:Addr} {o:HO} {t':Nat} (I:Inv X pins Y H s) (mu:Mut (H x)) (he:e=x \/ H e=some (.own x)) (k:∀ b u,b≠e->s.heap.get? b=some u->h'.get? b=some u) (heo:∃ u,h'.get? e=some u)
  (new:ObjOk X.prog X.w (upd H x o) h' x o):Inv X pins Y (upd H x o) { s with heap:=h',toks:=t' }:=I.un (Un.write mu he k heo) (I.hok.write mu he k heo new)
theorem Inv.pins_of {pins':List (Addr×Obj)} (I:Inv X pins Y H s) (h:∀ p∈pins',s.heap.get? p.1=some p.2/\H p.1=none/\p.1≠X.env.locals/\p.1 ∉ X.fs/\∀ v,p.2.data≠.cell v):Inv X pins' Y H s :=
 ⟨I.ok,I.os,I.bare,I.base,I.loc,I.cell,I.free,I.freeC,λ p hp=>(vK.mp hp).elim (λ z=>I.pin p (xP _ z)) (h p),I.hok,I.len⟩
theorem zqp {N:List Str} (hN:N.Nodup) {i j:Nat} {x:Str} (a:N[i]?=some x) (b:N[j]?=some x):i=j:=by
 obtain ⟨h1,e1⟩:=vW.mp a
 obtain ⟨h2,e2⟩:=vW.mp b
 exact (List.getElem_inj hN).mp (e1.trans e2.symm)
theorem zfm {M:Model} {A:Around} {E:Value->Shared->Prop} {i:Nat} {x:Str} {v:V} {u:Value} {Q:Unit->Shared->Prop} (I:Inv X pins Y H s) (hN:X.N.Nodup) (hi:X.N[i]?=some x) (hx:Loc X.env.scope x) (r:RelV v u)
  (h:∀ s',Inv X pins (Y.set i (some v)) H s'->(∃ a,Heap.SameBut a s.heap s'.heap/\(a=X.env.locals \/ X.env.cells.lookup x=some a))->Q () s') (hf:X.fn x=true \/ X.env.scope.names.lookup x=some .local:=by walk_at "vi"):wpAny M A (storeName X.env x u) Q E s:=by
 obtain ⟨m,hn,hl⟩:=id I.loc
 have hcls:(X.env.scope.kind == .class || (X.env.scope.kind == .module && X.env.locals != X.env.globals))=false:=by rw [I.ok.kind];rfl
 have hiY:i < Y.length:=by rw [I.len];exact (vW.mp hi).1
 have cne:=I.cne
 have tracked:∀ {a:Addr} {h':Heap},(∃ o,s.heap.get? a=some o/\H a=none)->Heap.SameBut a s.heap h'->HOk X.prog X.w H h':=λ {a h'} ha hs b ob e=>by
  obtain ⟨_,_,hfree⟩:=ha
  refine (I.hok b ob e).stay (λ c w' hc q=>(hs.2 c ?_).trans q) (λ _ q=>q) λ _ _ q=>q
  rintro rfl
  rcases hc with rfl|hc
  ·rw [hfree] at e;cases e
  ·rw [hfree] at hc;cases hc
 rcases hx with hk|hk
 ·refine wpAny_storeName_local hk hn (λ h' hn' hs=>?_) hcls
  obtain ⟨oL,_,_,hoL,_⟩:=id hn
  refine h _ ⟨I.ok,I.os,I.bare,⟨λ b o e n hb hx=>?_,λ b o e n hb hx=>?_,I.base.free,λ b o e hx=>?_,I.base.tups,I.base.frzs,I.base.tbls⟩,⟨_,hn',λ j y v' e1 e2 e3=>?_⟩,λ y c e=>?_,I.free,I.freeC,λ p hp=>?_,tracked ⟨oL,hoL,I.free⟩ hs,by simpa using I.len⟩ ⟨_,hs,.inl rfl⟩
  ·exact (hs.2 b (wE (wL (vT e) I.ok.above))).trans (I.base.keep b o e n hb hx)
  ·obtain ⟨sl,e1⟩:=I.base.slot b o e n hb hx
   exact ⟨sl,(hs.2 b (wE (wL (vT e) I.ok.above))).trans e1⟩
  ·obtain ⟨o',e1⟩:=I.base.there b o e hx
   exact ⟨o',(hs.2 b (wE (wL (vT e) I.ok.above))).trans e1⟩
  ·by_cases hj:j=i
   ·subst hj
    rw [hi] at e1;cases e1
    rw [wP hiY] at e2
    cases e2
    exact ⟨u,r,.inl ⟨hk,by simp⟩⟩
   ·rw [xD (Ne.symm hj)] at e2
    obtain ⟨u',r',q⟩:=hl j y v' e1 e2 e3
    refine ⟨u',r',?_⟩
    rcases q with ⟨k,e⟩|⟨k,c,e,z⟩
    ·refine .inl ⟨k,?_⟩
     have:y≠x:=λ e=>hj (zqp hN e1 (e ▸ hi))
     simp [this,e]
    ·exact .inr ⟨k,c,e,z.sameBut hs (cne y c e)⟩
  ·obtain ⟨w',z⟩:=I.cell y c e
   exact ⟨w',z.sameBut hs (cne y c e)⟩
  ·obtain ⟨e,n,ne,nf,d⟩:=I.pin p hp
   exact ⟨(hs.2 p.1 ne).trans e,n,ne,nf,d⟩
 ·have hfn:X.fn x=true:=by
   rcases hf with z|z
   ·exact z
   ·rw [z] at hk;cases hk
  obtain ⟨c,hc⟩:=I.ok.has x (.inl hk)
  obtain ⟨w',z⟩:=I.cell x c hc
  refine wpAny_storeName_cell I.ok.kind hk hc z (λ h' hc' hs=>?_)
  obtain ⟨oc,hoc,hocd⟩:=id z
  refine h { s with heap:=h' } ⟨I.ok,I.os,I.bare,⟨λ b o e n hb hx=>?_,λ b o e n hb hx=>?_,I.base.free,λ b o e hx=>?_,I.base.tups,I.base.frzs,I.base.tbls⟩,⟨m,hn.sameBut hs (Ne.symm (cne x c hc)),λ j y v' e1 e2 e3=>?_⟩,λ y c' e=>?_,I.free,I.freeC,λ p hp=>?_,tracked ⟨oc,hoc,I.freeC x c hc⟩ hs,by simpa using I.len⟩ ⟨c,hs,.inr hc⟩
  ·exact (hs.2 b (wE (wL (vT e) (I.ok.cab x c hfn hc)))).trans (I.base.keep b o e n hb hx)
  ·obtain ⟨sl,e1⟩:=I.base.slot b o e n hb hx
   exact ⟨sl,(hs.2 b (wE (wL (vT e) (I.ok.cab x c hfn hc)))).trans e1⟩
  ·obtain ⟨o',e1⟩:=I.base.there b o e hx
   exact ⟨o',(hs.2 b (wE (wL (vT e) (I.ok.cab x c hfn hc)))).trans e1⟩
  ·by_cases hj:j=i
   ·subst hj
    rw [hi] at e1;cases e1
    rw [wP hiY] at e2
    cases e2
    exact ⟨u,r,.inr ⟨.inl hk,c,hc,hc'⟩⟩
   ·rw [xD (Ne.symm hj)] at e2
    obtain ⟨u',r',q⟩:=hl j y v' e1 e2 e3
    refine ⟨u',r',?_⟩
    rcases q with q|⟨k,c',e,z'⟩
    ·exact .inl q
    ·refine .inr ⟨k,c',e,z'.sameBut hs ?_⟩
     rintro rfl
     exact hj (zqp hN e1 (I.ok.inj _ _ _ e hc ▸ hi))
  ·by_cases hcc:c'=c
   ·subst hcc;exact ⟨_,hc'⟩
   ·obtain ⟨w2,z2⟩:=I.cell y c' e
    exact ⟨w2,z2.sameBut hs hcc⟩
  ·obtain ⟨e,n,ne,nf,d⟩:=I.pin p hp
   refine ⟨(hs.2 p.1 ?_).trans e,n,ne,nf,d⟩
   intro q
   rw [q,hoc] at e
   have q':oc=p.2:=wO.inj e
   exact d w' (by rw [<- q'];exact hocd)
theorem zsk {M:Model} {A:Around} {E:Value->Shared->Prop} {i:Nat} {x:Str} {v:V} {u:Value} {Q:Unit->Shared->Prop} (I:Inv X pins Y H s) (hN:X.N.Nodup) (hi:X.N[i]?=some x) (hx:Loc X.env.scope x) (r:RelV v u)
  (h:∀ s',Inv X pins (Y.set i (some v)) H s'->Q () s') (hf:X.fn x=true \/ X.env.scope.names.lookup x=some .local:=by walk_at "vi"):wpAny M A (storeName X.env x u) Q E s :=
 zfm I hN hi hx r (λ s' I' _=>h s' I') hf
theorem Inv.call' {s':Shared} {ch:List Addr} (I:Inv X pins Y H s) (ho:s'.os=s.os) (u:Un (frs X.stack) ch H H' s.heap s'.heap) (hok:HOk X.prog X.w H' s'.heap) (hg:AllBare s'.gens)
  (hch:∀ b∈ch,(b∈X.ex \/ X.s₀.heap.objs.size<=b)/\b≠X.env.locals/\(∀ x c,X.env.cells.lookup x=some c->c≠b)/\∀ p∈X.pn++pins,p.1≠b):Inv X pins Y H' s':=by
 obtain ⟨h',g',d',t',o'⟩:=s'
 have e:o'=s.os:=ho
 subst e
 exact I.call (g':=g') (t':=t') (d':=d') u hok hg hch
end
noncomputable abbrev XK:=Value->Option Addr->Hp->Prop
noncomputable abbrev St:=List (Option V)
noncomputable abbrev VK:=V->Hp->Prop
noncomputable abbrev TE:=St->Hp->VK->Prop
noncomputable abbrev TT:=St->Hp->(Bool->Hp->Prop)->Prop
noncomputable abbrev TA:=St->Hp->(List V->Hp->Prop)->Prop
structure Ends where
 nx:St->Hp->Prop
 rt:VK
 bk:St->Hp->Prop:=λ _ _=>False
 ct:St->Hp->Prop:=λ _ _=>False
noncomputable abbrev TS:=Ends->St->Hp->Prop
noncomputable def EP (X:Cx) (pins:List (Addr×Obj)) (Y:St) (Q:VK) (u:Value) (s':Shared):Prop:=∃ v H',Inv X pins Y H' s'/\RelV v u/\Q v H'
noncomputable def TP (X:Cx) (pins:List (Addr×Obj)) (Y:St) (Q:Bool->Hp->Prop) (b:Bool) (s':Shared):Prop:=∃ H',Inv X pins Y H' s'/\Q b H'
noncomputable def AP (X:Cx) (pins:List (Addr×Obj)) (Y:St) (Q:List V->Hp->Prop) (us:List Value) (s':Shared):Prop:=∃ vs H',Inv X pins Y H' s'/\Vals vs us/\Q vs H'
noncomputable def SP (X:Cx) (pins:List (Addr×Obj)) (D:Ends) (f:Flow) (s':Shared):Prop :=
 match f with
|.next=>∃ Y' H',Inv X pins Y' H' s'/\D.nx Y' H'
|.brk=>∃ Y' H',Inv X pins Y' H' s'/\D.bk Y' H'
|.cont=>∃ Y' H',Inv X pins Y' H' s'/\D.ct Y' H'
|.ret u=>∃ v Y' H',Inv X pins Y' H' s'/\RelV v u/\D.rt v H'
noncomputable def PE (X:Cx) (e:Expr) (t:TE):Prop :=
 ∀ (pins:List (Addr×Obj)) (s:Shared) (Y:St) (H:Hp) (Q:VK),Inv X pins Y H s->t Y H Q->wpAny (model X.prog X.w) X.A (eval e X.env) (EP X pins Y Q) X.xe s
noncomputable def PT (X:Cx) (e:Expr) (t:TT):Prop :=
 ∀ (pins:List (Addr×Obj)) (s:Shared) (Y:St) (H:Hp) (Q:Bool->Hp->Prop),Inv X pins Y H s->t Y H Q->wpAny (model X.prog X.w) X.A (isTrue e X.env (eval e X.env)) (TP X pins Y Q) X.xe s
noncomputable def PW (X:Cx) (e:Expr) (t:TT):Prop :=
 ∀ (whole:Sem Value) (pins:List (Addr×Obj)) (s:Shared) (Y:St) (H:Hp) (Q:Bool->Hp->Prop),Inv X pins Y H s->t Y H Q->wpAny (model X.prog X.w) X.A (isTrue e X.env whole) (TP X pins Y Q) X.xe s
theorem PW.pt {X:Cx} {e:Expr} {t:TT} (h:PW X e t):PT X e t:=h _
noncomputable def PA (X:Cx) (es:List Expr) (t:TA):Prop :=
 ∀ (pos:Pos) (pins:List (Addr×Obj)) (s:Shared) (Y:St) (H:Hp) (Q:List V->Hp->Prop),Inv X pins Y H s->t Y H Q->wpAny (model X.prog X.w) X.A (spliced (backTo pos (starEach es X.env))) (AP X pins Y Q) X.xe s
noncomputable def PS (X:Cx) (st:Stmt) (t:TS):Prop :=
 ∀ (pins:List (Addr×Obj)) (s:Shared) (Y:St) (H:Hp) (D:Ends),Inv X pins Y H s->t D Y H->wpAny (model X.prog X.w) X.A (exec st X.env) (SP X pins D) X.xe s
noncomputable def PSs (X:Cx) (st:List Stmt) (t:TS):Prop :=
 ∀ (pins:List (Addr×Obj)) (s:Shared) (Y:St) (H:Hp) (D:Ends),Inv X pins Y H s->t D Y H->wpAny (model X.prog X.w) X.A (execs st X.env) (SP X pins D) X.xe s
theorem thn {α:Type} {t:Sem α} {Q Q':α->Shared->Prop} {M:Model} {A:Around} {E:Value->Shared->Prop} {s:Shared} (h:wpAny M A t Q E s) (hQ:∀ a s,Q a s->Q' a s):wpAny M A t Q' E s:=wpAny_mono h hQ λ _ _ x=>x
section
variable {X:Cx}
noncomputable def tVar (i:Nat):TE:=λ Y H Q=>∃ v,Y[i]?=some (some v)/\Q v H
noncomputable def tC (v:V):TE:=λ _ H Q=>Q v H
theorem zv91 {i:Nat} {x:Str} {pos:Pos} (hN:X.N[i]?=some x) (hv:Vis X.env.scope x) (hd:(x == ("__debug__":Str))=false:=by decide) (hcd:(x == ("__classdict__":Str))=false:=by decide):PE X (.Name x pos) (tVar i):=by
 intro pins s Y H Q I h
 obtain ⟨v,e,h⟩:=h
 obtain ⟨m,hn,hl⟩:=I.loc
 obtain ⟨u,r,l⟩:=hl i x v hN e hv
 have fin:EP X pins Y Q u s:=⟨v,H,I,r,h⟩
 rcases l with ⟨hk,hm⟩|⟨hk,c,hc,hcell⟩
 ·exact wpAny_Name (wpAny_loadName_local I.ok.kind hk hn hm fin) hd
 ·rcases hk with hk|hk
  ·exact wpAny_Name (wpAny_loadName_cell I.ok.kind hk hc hcell fin) hd
  ·exact wpAny_Name (wpAny_loadName_free I.ok.kind hk hc hcell fin hcd) hd
theorem zf0 {i j pos}:PE X (.Constant (.int i) j pos) (tC (.int i)):=λ _ _ _ H _ I h=>wpAny_Constant_int ⟨.int i,H,I.tok _,⟨_,rfl⟩,h⟩
theorem zo41 {b j pos}:PE X (.Constant (.bool b) j pos) (tC (.bl b)):=λ _ _ _ H _ I h=>Constant_bool ⟨.bl b,H,I,rfl,h⟩
theorem zcy {j pos}:PE X (.Constant .none j pos) (tC .non):=λ _ _ _ H _ I h=>Constant_none ⟨.non,H,I,rfl,h⟩
theorem zhj {x j pos}:PE X (.Constant (.str x) j pos) (tC (.str x)):=λ _ _ _ H _ I h=>Calls.Constant_str ⟨.str x,H,I.tok _,⟨_,rfl⟩,h⟩
noncomputable def Gl (X:Cx) (x:Str):Prop:=X.env.kindOf x=some .globalImplicit
theorem zzt {E:Value->Shared->Prop} {pins:List (Addr×Obj)} {s:Shared} {Y:St} {H:Hp} {x:Str} {u:Value} {pos:Pos} {Q:Value->Shared->Prop} (I:Inv X pins Y H s) (hg:Gl X x) (hm:X.mg x=some u) (h:Q u s)
  (hd:(x == ("__debug__":Str))=false:=by decide):wpAny (model X.prog X.w) X.A (eval (.Name x pos) X.env) Q E s :=
 Calls.Name_function_global I.ok.kind hg (Calls.loadGlobal_global (by rw [I.ok.glob];exact I.mod.glob.keeps I.bk) hm h) hd
theorem zyn {E:Value->Shared->Prop} {pins:List (Addr×Obj)} {s:Shared} {Y:St} {H:Hp} {x:Str} {u:Value} {pos:Pos} {Q:Value->Shared->Prop} (I:Inv X pins Y H s) (hg:Gl X x) (hm:X.mg x=none) (hv:bootBuiltins x=some u) (h:Q u s)
  (hn:x ≠ "__name__":=by decide) (hd:(x == ("__debug__":Str))=false:=by decide):wpAny (model X.prog X.w) X.A (eval (.Name x pos) X.env) Q E s:=by
 obtain ⟨mb,h1,h2⟩:=I.mod.blt
 exact Calls.Name_function_global I.ok.kind hg (Calls.loadGlobal_builtin (by rw [I.ok.glob];exact I.mod.glob.keeps I.bk) hm (by rw [I.ok.blt];exact h1.keeps I.bk) ((h2 x hn).trans hv) h) hd
theorem ze41 {x:Str} {v:V} {u:Value} {pos:Pos} (hg:Gl X x) (hm:X.mg x=none) (hv:bootBuiltins x=some u) (r:RelV v u) (hn:x ≠ "__name__":=by decide) (hd:(x == ("__debug__":Str))=false:=by decide):PE X (.Name x pos) (tC v) :=
 λ _ _ _ H _ I h=>zyn I hg hm hv ⟨v,H,I,r,h⟩ hn hd
variable {a b:Expr} {ta tb:TE} {pos:Pos}
variable {tA tB':TT} {rest:List Expr}
noncomputable def tAnd (t u:TT):TT:=λ Y H Q=>t Y H λ c H1=>if c=true then u Y H1 Q else Q false H1
noncomputable def tOr (t u:TT):TT:=λ Y H Q=>t Y H λ c H1=>if c=true then Q true H1 else u Y H1 Q
noncomputable def tNot (t:TT):TT:=λ Y H Q=>t Y H λ c H1=>Q (!c) H1
theorem zmh (ha:PT X a tA):PW X (.BoolOp .And [a] pos) tA:=by
 intro wh pins s Y H Q I h
 refine isTrue_and (thn (ha pins s Y H Q I h) λ c s1 e=>?_)
 cases c with
|true=>exact isTrue_and_nil e
|false=>exact e
theorem zey (ha:PT X a tA):PW X (.BoolOp .Or [a] pos) tA:=by
 intro wh pins s Y H Q I h
 refine isTrue_or (thn (ha pins s Y H Q I h) λ c s1 e=>?_)
 cases c with
|false=>exact isTrue_or_nil e
|true=>exact e
theorem zbp (ha:PT X a tA) (hb:PW X (.BoolOp .And (b :: rest) pos) tB'):PW X (.BoolOp .And (a :: b :: rest) pos) (tAnd tA tB'):=by
 intro wh pins s Y H Q I h
 refine isTrue_and (thn (ha pins s Y H _ I h) λ c s1 hz=>?_)
 obtain ⟨H1,I1,q1⟩:=hz
 cases c with
|true=>exact hb wh pins s1 Y H1 Q I1 q1
|false=>exact ⟨H1,I1,q1⟩
theorem zz41 (ha:PT X a tA) (hb:PW X (.BoolOp .Or (b :: rest) pos) tB'):PW X (.BoolOp .Or (a :: b :: rest) pos) (tOr tA tB'):=by
 intro wh pins s Y H Q I h
 refine isTrue_or (thn (ha pins s Y H _ I h) λ c s1 hz=>?_)
 obtain ⟨H1,I1,q1⟩:=hz
 cases c with
|true=>exact ⟨H1,I1,q1⟩
|false=>exact hb wh pins s1 Y H1 Q I1 q1
theorem zlr (ha:PT X a tA):PT X (.UnaryOp .Not a pos) (tNot tA):=by
 intro pins s Y H Q I h
 exact isTrue_not (ha pins s Y H (λ c H1=>Q (!c) H1) I h)
noncomputable def tIf (t:TT) (ta tb:TE):TE:=λ Y H Q=>t Y H λ c H1=>if c=true then ta Y H1 Q else tb Y H1 Q
theorem zjk {c:Expr} (hc:PT X c tA) (ha:PE X a ta) (hb:PE X b tb):PE X (.IfExp c a b pos) (tIf tA ta tb):=by
 intro pins s Y H Q I h
 refine wpAny_IfExp (thn (hc pins s Y H _ I h) λ d s1 hz=>?_)
 obtain ⟨H1,I1,q1⟩:=hz
 cases d with
|true=>exact ha pins s1 Y H1 Q I1 q1
|false=>exact hb pins s1 Y H1 Q I1 q1
end
noncomputable def SqL (K:Fg) (H:Hp) (a:Addr) (xs:List V):Prop :=
 Rd H a (.lst xs) \/
  ∃ (o:Obj) (its:Array Value) (n:Nat),K.lookup a=some o/\o.cls=.type "list"/\o.dict=none/\o.data=.seq its n/\its.size<=sizeLine/\Vals xs its.toList
noncomputable def SqT (K:Fg) (H:Hp) (a:Addr) (xs:List V):Prop :=
 Rd H a (.tup xs) \/
  ∃ (o:Obj) (its:Array Value) (n:Nat),K.lookup a=some o/\o.cls=.type "tuple"/\o.data=.seq its n/\its.size<=sizeLine/\Vals xs its.toList
noncomputable def absV:Value->Option V
|.none=>some .non
|.bool b=>some (.bl b)
|.int i _=>some (.int i)
|.str x _=>some (.str x)
|.bytes b _=>some (.byt b)
|.float b _=>some (.flt b)
|.ref a=>some (.ref a)
|.type n=>some (.ty n)
|_=>none
theorem RelV.abs {x:V} {u:Value} (r:RelV x u):absV u=some x:=by
 cases x with
|non=>cases r;rfl
|bl _=>cases r;rfl
|int _=>obtain ⟨t,rfl⟩:=r;rfl
|str _=>obtain ⟨t,rfl⟩:=r;rfl
|byt _=>obtain ⟨t,rfl⟩:=r;rfl
|flt _=>obtain ⟨t,rfl⟩:=r;rfl
|ref _=>cases r;rfl
|ty _=>cases r;rfl
theorem RelV.inj {x y:V} {u:Value} (r:RelV x u) (q:RelV y u):x=y:=wO.inj (r.abs.symm.trans q.abs)
theorem Vals.inj:∀ {xs ys:List V} {us:List Value},Vals xs us->Vals ys us->xs=ys
|_,_,_,.nil,.nil=>rfl
|_,_,_,.cons r t,.cons r' t'=>by rw [r.inj r',Vals.inj t t']
section
variable {X:Cx} {pins:List (Addr×Obj)} {Y:St} {H:Hp} {s:Shared} {a:Addr} {xs ys:List V}
theorem SqL.of {K:Fg} (h:H a=some (.lst xs)):SqL K H a xs:=.inl (.inl h)
theorem SqT.of {K:Fg} (h:H a=some (.tup xs)):SqT K H a xs:=.inl (.inl h)
theorem Inv.list (I:Inv X pins Y H s) (h:SqL X.K H a xs):∃ its:List Value,Vals xs its/\PlainL s.heap a its.toArray/\xs.length<=sizeLine:=by
 rcases h with h|⟨o,its,n,hk,hc,hd,hs,hz,r⟩
 ·obtain ⟨z,its,n,r,e⟩:=h.ok I.hok
  exact ⟨its,r,⟨_,n,e,rfl,rfl,rfl⟩,z⟩
 ·refine ⟨its.toList,r,⟨o,n,I.kIn a o hk,hc,hd,by simpa using hs⟩,?_⟩
  have e:=r.length
  simp only [xY] at e
  lia
theorem Inv.tuple (I:Inv X pins Y H s) (h:SqT X.K H a xs):∃ its:List Value,Vals xs its/\IsTup s.heap a its.toArray/\xs.length<=sizeLine:=by
 rcases h with h|⟨o,its,n,hk,hc,hs,hz,r⟩
 ·obtain ⟨z,its,r,p⟩:=h.ok I.hok
  exact ⟨its,r,p,z⟩
 ·refine ⟨its.toList,r,⟨o,I.kIn a o hk,hc,n,by simpa using hs⟩,?_⟩
  have e:=r.length
  simp only [xY] at e
  lia
theorem Inv.list_inj (I:Inv X pins Y H s) (h:SqL X.K H a xs) (h':SqL X.K H a ys):xs=ys:=by
 obtain ⟨its,r,⟨o,n,e,_,_,d⟩,_⟩:=I.list h
 obtain ⟨its',r',⟨o',n',e',_,_,d'⟩,_⟩:=I.list h'
 rw [e] at e';cases e'
 rw [d] at d'
 injection d' with d1 _
 have:its=its':=by simpa using congrArg zS d1
 subst this
 exact r.inj r'
theorem Inv.tuple_inj (I:Inv X pins Y H s) (h:SqT X.K H a xs) (h':SqT X.K H a ys):xs=ys:=by
 obtain ⟨its,r,⟨o,e,_,n,d⟩,_⟩:=I.tuple h
 obtain ⟨its',r',⟨o',e',_,n',d'⟩,_⟩:=I.tuple h'
 rw [e] at e';cases e'
 rw [d] at d'
 injection d' with d1 _
 have:its=its':=by simpa using congrArg zS d1
 subst this
 exact r.inj r'
end
noncomputable abbrev Cx.wish (X:Cx) (E:Value->Shared->Prop):Cx:={ X with xe:=E }
noncomputable abbrev Cx.nox (X:Cx):Cx:=X.wish λ _ _=>False
theorem Cx.Ok.wish {X:Cx} (ok:X.Ok) (E:Value->Shared->Prop):(X.wish E).Ok :=
 ⟨ok.mod,ok.kind,ok.glob,ok.blt,ok.above,ok.inj,ok.has,ok.cab,ok.hd,ok.frames,ok.stk,ok.exf,ok.bs,ok.bsz,ok.noex,ok.exfs,ok.funs,ok.frf⟩
theorem Cx.Ok.unwish {X:Cx} {E:Value->Shared->Prop} (ok:(X.wish E).Ok):X.Ok :=
 ⟨ok.mod,ok.kind,ok.glob,ok.blt,ok.above,ok.inj,ok.has,ok.cab,ok.hd,ok.frames,ok.stk,ok.exf,ok.bs,ok.bsz,ok.noex,ok.exfs,ok.funs,ok.frf⟩
section
variable {X:Cx} {pins:List (Addr×Obj)} {Y:St} {H:Hp} {s:Shared} {E:Value->Shared->Prop}
theorem Inv.wish (I:Inv X pins Y H s) (E:Value->Shared->Prop):Inv (X.wish E) pins Y H s:=⟨I.ok.wish E,I.os,I.bare,I.base,I.loc,I.cell,I.free,I.freeC,I.pin,I.hok,I.len⟩
theorem Inv.unwish (I:Inv (X.wish E) pins Y H s):Inv X pins Y H s:=⟨I.ok.unwish,I.os,I.bare,I.base,I.loc,I.cell,I.free,I.freeC,I.pin,I.hok,I.len⟩
theorem SP.unwish {D:Ends} {f:Flow} {s':Shared} (h:SP (X.wish E) pins D f s'):SP X pins D f s':=by
 cases f with
|next=>obtain ⟨Y',H',I,q⟩:=h;exact ⟨Y',H',I.unwish,q⟩
|brk=>obtain ⟨Y',H',I,q⟩:=h;exact ⟨Y',H',I.unwish,q⟩
|cont=>obtain ⟨Y',H',I,q⟩:=h;exact ⟨Y',H',I.unwish,q⟩
|ret u=>obtain ⟨v,Y',H',I,r,q⟩:=h;exact ⟨v,Y',H',I.unwish,r,q⟩
theorem PSs.nox {st:List Stmt} {t:TS} (h:PSs X.nox st t):PSs X st t:=λ pins s Y H D I hw =>
 wpAny_mono (h pins s Y H D (I.wish _) hw) (λ _ _ q=>q.unwish) λ _ _ z=>False.elim z
end
section
variable {X:Cx} {st:Stmt} {rest:List Stmt} {t u:TS} {e:Expr} {te:TE} {pos:Pos}
noncomputable def zsa1:TS:=λ D Y H=>D.nx Y H
noncomputable def tSeq (t u:TS):TS:=λ D Y H=>t { D with nx:=u D } Y H
theorem zi1:PSs X [] zsa1:=λ _ _ Y H _ I h=>wpAny_execs_nil ⟨Y,H,I,h⟩
theorem zc0 (h1:PS X st t) (h2:PSs X rest u):PSs X (st :: rest) (tSeq t u):=by
 intro pins s Y H D I h
 refine wpAny_execs_cons (thn (h1 pins s Y H { D with nx:=u D } I h) λ f s1 q=>?_)
 cases f with
|next =>
  obtain ⟨Y',H',I',q⟩:=q
  exact h2 pins s1 Y' H' D I' q
|ret v=>exact q
|brk=>exact q
|cont=>exact q
theorem zj0 (h1:PS X st t):PSs X [st] t:=by
 intro pins s Y H D I h
 refine wpAny_execs_cons (thn (h1 pins s Y H D I h) λ f s1 q=>?_)
 cases f with
|next=>exact wpAny_execs_nil q
|ret v=>exact q
|brk=>exact q
|cont=>exact q
theorem Inv.quiet {pins:List (Addr×Obj)} {Y:St} {H:Hp} {s:Shared} (I:Inv X pins Y H s):interactive X.env=false:=by simp [interactive,I.ok.kind]
noncomputable def zma1 (te:TE):TS:=λ D Y H=>te Y H λ _ H1=>D.nx Y H1
theorem zk1 (he:PE X e te) (hs:swapsWith e none pos.line X.env=pure false:=by rfl):PS X (.Expr e pos) (zma1 te):=by
 intro pins s Y H D I h
 exact wpAny_Expr_any (thn (he pins s Y H _ I h) λ v s1 ⟨x,H1,I1,r1,q1⟩=>⟨Y,H1,I1,q1⟩) I.quiet hs
noncomputable def tRet (te:TE):TS:=λ D Y H=>te Y H D.rt
theorem zg1 (he:PE X e te):PS X (.Return (some e) pos) (tRet te):=by
 intro pins s Y H D I h
 exact wpAny_Return_some (thn (he pins s Y H _ I h) λ v s1 ⟨x,H1,I1,r1,q1⟩=>⟨x,Y,H1,I1,r1,q1⟩)
noncomputable def tIfS (c:TT) (t u:TS):TS:=λ D Y H=>c Y H λ b H1=>if b=true then t D Y H1 else u D Y H1
theorem zr8 {c:Expr} {a b:List Stmt} {tc:TT} (hc:PT X c tc) (ha:PSs X a t) (hb:PSs X b u):PS X (.If c a b pos) (tIfS tc t u):=by
 intro pins s Y H D I h
 refine wpAny_If (thn (hc pins s Y H _ I h) λ d s1 hz=>?_)
 obtain ⟨H1,I1,q1⟩:=hz
 cases d with
|true=>exact ha pins s1 Y H1 D I1 q1
|false=>exact hb pins s1 Y H1 D I1 q1
end
noncomputable abbrev TG:=V->St->Hp->(St->Hp->Prop)->Prop
noncomputable abbrev TGs:=List V->St->Hp->(St->Hp->Prop)->Prop
noncomputable def PG (X:Cx) (target:Expr) (t:TG):Prop :=
 ∀ (pins:List (Addr×Obj)) (s:Shared) (Y:St) (H:Hp) (v:V) (u:Value) (Q:St->Hp->Prop),Inv X pins Y H s->RelV v u->t v Y H Q ->
  wpAny (model X.prog X.w) X.A (assign target X.env u) (λ _ s'=>∃ Y' H',Inv X pins Y' H' s'/\Q Y' H') X.xe s
noncomputable def PGs (X:Cx) (ts:List Expr) (t:TGs):Prop :=
 ∀ (pins:List (Addr×Obj)) (s:Shared) (Y:St) (H:Hp) (vs:List V) (us:List Value) (Q:St->Hp->Prop),Inv X pins Y H s->Vals vs us->t vs Y H Q ->
  wpAny (model X.prog X.w) X.A (assignInOrder ((assignEach ts X.env).map (·.2)) us) (λ _ s'=>∃ Y' H',Inv X pins Y' H' s'/\Q Y' H') X.xe s
noncomputable abbrev TSet:=V->V->V->Hp->(Hp->Prop)->Prop
noncomputable def PSet (X:Cx) (t:TSet):Prop :=
 ∀ (pins:List (Addr×Obj)) (s:Shared) (Y:St) (H:Hp) (o i v:V) (ov iv u:Value) (Q:Hp->Prop),Inv X pins Y H s->RelV o ov->RelV i iv->RelV v u->t o i v H Q ->
  wpAny (model X.prog X.w) X.A (setItem ov iv u) (λ _ s'=>∃ H',Inv X pins Y H' s'/\Q H') X.xe s
noncomputable abbrev TIp:=V->V->Hp->VK->Prop
noncomputable def PIp (X:Cx) (op:Operator) (t:TIp):Prop :=
 ∀ (pins:List (Addr×Obj)) (s:Shared) (Y:St) (H:Hp) (x y:V) (v u:Value) (Q:VK),Inv X pins Y H s->RelV x v->RelV y u->t x y H Q ->
  wpAny (model X.prog X.w) X.A (inplaceOp op v u) (EP X pins Y Q) X.xe s
section
variable {X:Cx} {pos:Pos}
noncomputable def zvq (i:Nat):TG:=λ v Y H Q=>Q (Y.set i (some v)) H
theorem zt01 {i:Nat} {x:Str} (hN:X.N.Nodup) (hi:X.N[i]?=some x) (hx:Loc X.env.scope x) (hf:X.fn x=true \/ X.env.scope.names.lookup x=some .local:=by walk_at "vi"):PG X (.Name x pos) (zvq i):=by
 intro pins s Y H v u Q I r h
 exact wpAny_assign_Name (zsk I hN hi hx r (λ s' I'=>⟨_,H,I',h⟩) hf)
noncomputable def gNil:TGs:=λ vs Y H Q=>vs=[]/\Q Y H
noncomputable def zob1 (t:TG) (u:TGs):TGs:=λ vs Y H Q=>∃ v r,vs=v :: r/\t v Y H λ Y' H'=>u r Y' H' Q
theorem zm6:PGs X [] gNil:=by
 intro pins s Y H vs us Q I r h
 obtain ⟨e,h⟩:=h
 subst e
 cases r
 exact assignInOrder_nil ⟨Y,H,I,h⟩
theorem zv0 {e:Expr} {es:List Expr} {t:TG} {u:TGs} (h1:PG X e t) (h2:PGs X es u)
  (hs:(assignEach (e :: es) X.env).map (·.2)=assign e X.env :: (assignEach es X.env).map (·.2):=by rfl):PGs X (e :: es) (zob1 t u):=by
 intro pins s Y H vs us Q I r h
 obtain ⟨v,vr,e1,h⟩:=h
 subst e1
 cases r with
|cons r rr =>
  rw [hs]
  refine assignInOrder_cons (thn (h1 pins s Y H _ _ _ I r h) λ _ s1 hz=>?_)
  obtain ⟨Y1,H1,I1,q1⟩:=hz
  exact h2 pins s1 Y1 H1 _ _ Q I1 rr q1
noncomputable def gTup (K:Fg) (n:Nat) (t:TGs):TG:=λ v Y H Q=>∃ a xs,v=.ref a/\SqT K H a xs/\xs.length=n/\t xs Y H Q
theorem zi61 {es:List Expr} {k:Nat} {t:TGs} {n:Nat} (hc:X.calm=true) (h:PGs X es t)
  (hn:(assignEach es X.env).length=n:=by rfl) (hst:(assignEach es X.env).findIdx? (·.1)=none:=by rfl):PG X (.Tuple es k pos) (gTup X.K n t):=by
 intro pins s Y H v u Q I r hw
 obtain ⟨a,xs,e1,hq,hl,hw⟩:=hw
 subst e1
 cases r
 obtain ⟨its,rv,ht,hz⟩:=I.tuple hq
 refine assign_Tuple_tuple (I.ok.hd hc) ht (by simp [hn,<- hl,rv.length]) hst λ h' hx=>?_
 have I1:Inv X pins Y H { s with heap:=h' }:=I.kept (t':=s.toks) λ b o e=>hx b o (wE (vT e)) e
 exact h pins _ Y H xs _ Q I1 (by simpa using rv) hw
noncomputable def gSub (to ti:TE) (t:TSet):TG:=λ v Y H Q=>to Y H λ o H1=>ti Y H1 λ i H2=>t o i v H2 λ H3=>Q Y H3
theorem zqn {o i:Expr} {to ti:TE} {t:TSet} (ho:PE X o to) (hi:PE X i ti) (hs:PSet X t)
  (ha:∀ v,assign (.Subscript o i pos) X.env v=(do
   let ov <- holding [v] (eval o X.env)
   let iv <- holding [v,ov] (eval i X.env)
   standAt pos
   holding [v,ov,iv] (setItem ov iv v)
   release [v,ov,iv] []):=by intro _;rfl):PG X (.Subscript o i pos) (gSub to ti t):=by
 intro pins s Y H v u Q I r h
 rw [ha]
 refine wpAny_bind (wpAny_holding (thn (ho pins s Y H _ I h) λ ov s1 hz=>?_))
 obtain ⟨x,H1,I1,r1,q1⟩:=hz
 refine wpAny_bind (wpAny_holding (thn (hi pins s1 Y H1 _ I1 q1) λ iv s2 hz=>?_))
 obtain ⟨y,H2,I2,r2,q2⟩:=hz
 refine wpAny_bind (wpAny_standAt (wpAny_bind (wpAny_holding (thn (hs pins s2 Y H2 x y v ov iv u _ I2 r1 r2 r q2) λ _ s3 hz=>?_))))
 obtain ⟨H3,I3,q3⟩:=hz
 exact wpAny_release ⟨Y,H3,I3,q3⟩
noncomputable def tAsg (te:TE) (g:TG):TS:=λ D Y H=>te Y H λ x H1=>g x Y H1 D.nx
theorem zxd {tg e:Expr} {te:TE} {g:TG} (he:PE X e te) (hg:PG X tg g) (hs:swapsWithSole [tg] e pos.line X.env=pure false:=by rfl) (hw:swappedStores [tg] e X.env=pure none:=by rfl)
  (h1:(assignEach [tg] X.env).map (·.2)=[assign tg X.env]:=by rfl):PS X (.Assign [tg] e pos) (tAsg te g):=by
 intro pins s Y H D I h
 refine wpAny_Assign_stores (thn (he pins s Y H _ I h) λ v s1 hz=>?_) hs hw
 obtain ⟨x,H1,I1,r1,q1⟩:=hz
 rw [h1]
 exact thn (hg pins s1 Y H1 x v _ I1 r1 q1) λ _ s2 q=>q
theorem zb71 {i:Nat} {x:Str} {e:Expr} {te:TE} {pos':Pos} (hN:X.N.Nodup) (hi:X.N[i]?=some x) (hx:Loc X.env.scope x) (he:PE X e te) (hs:swapsWith e (some (.Name x pos')) pos.line X.env=pure false:=by rfl) (hf:X.fn x=true \/ X.env.scope.names.lookup x=some .local:=by walk_at "vi") :
  PS X (.Assign [.Name x pos'] e pos) (tAsg te (zvq i)):=by
 intro pins s Y H D I h
 refine wpAny_Assign_Name (thn (he pins s Y H _ I h) λ v s1 hz=>?_) hs
 obtain ⟨y,H1,I1,r1,q1⟩:=hz
 exact zsk I1 hN hi hx r1 (λ s2 I2=>⟨_,H1,I2,q1⟩) hf
noncomputable def tAug (i:Nat) (te:TE) (ti:TIp):TS:=λ D Y H=>∃ x,Y[i]?=some (some x)/\te Y H λ y H1=>ti x y H1 λ z H2=>D.nx (Y.set i (some z)) H2
theorem zg01 {i:Nat} {x:Str} {e:Expr} {te:TE} {op:Operator} {ti:TIp} {pos':Pos} (hN:X.N.Nodup) (hi:X.N[i]?=some x) (hx:Loc X.env.scope x) (he:PE X e te) (ho:PIp X op ti) (hf:X.fn x=true \/ X.env.scope.names.lookup x=some .local:=by walk_at "vi") :
  PS X (.AugAssign (.Name x pos') op e pos) (tAug i te ti):=by
 intro pins s Y H D I h
 obtain ⟨v,e1,h⟩:=h
 obtain ⟨m,hn,hl⟩:=I.loc
 have vis:Vis X.env.scope x:=by rcases hx with k|k;exact .inl k;exact .inr (.inl k)
 obtain ⟨u,r,l⟩:=hl i x v hi e1 vis
 refine wpAny_AugAssign_Name ?_
 have go:wpAny (model X.prog X.w) X.A (eval e X.env) (λ w s₂=>wpAny (model X.prog X.w) X.A (inplaceOp op u w) (λ r s₃=>wpAny (model X.prog X.w) X.A (storeName X.env x r) (λ _=>SP X pins D .next) X.xe s₃) X.xe s₂) X.xe s:=by
  refine thn (he pins s Y H _ I h) λ w s1 hz=>?_
  obtain ⟨y,H1,I1,r1,q1⟩:=hz
  refine thn (ho pins s1 Y H1 v y u w _ I1 r r1 q1) λ z s2 hz=>?_
  obtain ⟨zv,H2,I2,r2,q2⟩:=hz
  exact zsk I2 hN hi hx r2 (λ s3 I3=>⟨_,H2,I3,q2⟩) hf
 rcases l with ⟨hk,hm⟩|⟨hk,c,hc,hcell⟩
 ·exact wpAny_loadName_local I.ok.kind hk hn hm go
 ·rcases hk with hk|hk
  ·exact wpAny_loadName_cell I.ok.kind hk hc hcell go
  ·rcases hx with k|k
   ·have:X.env.scope.names.lookup x=some .free:=hk
    rw [k] at this;cases this
   ·have:X.env.scope.names.lookup x=some .free:=hk
    rw [k] at this;cases this
noncomputable def zn71 (to ti te:TE) (tget:V->V->Hp->VK->Prop) (tip:TIp) (tset:TSet):TS:=λ D Y H=>to Y H λ o H1=>ti Y H1 λ i H2=>tget o i H2 λ x H3=>te Y H3 λ y H4=>tip x y H4 λ z H5=>tset o i z H5 λ H6=>D.nx Y H6
noncomputable def PGet (X:Cx) (t:V->V->Hp->VK->Prop):Prop :=
 ∀ (pins:List (Addr×Obj)) (s:Shared) (Y:St) (H:Hp) (o i:V) (ov iv:Value) (Q:VK),Inv X pins Y H s->RelV o ov->RelV i iv->t o i H Q ->
  wpAny (model X.prog X.w) X.A (getItem ov iv) (EP X pins Y Q) X.xe s
theorem zoj {o i e:Expr} {to ti te:TE} {tget:V->V->Hp->VK->Prop} {tip:TIp} {tset:TSet} {op:Operator} {tpos:Pos} (ho:PE X o to) (hi:PE X i ti) (hg:PGet X tget) (he:PE X e te) (hp:PIp X op tip) (hs:PSet X tset)
  (ha:∀ ov iv new,augStore i ov iv new=(do holding [new,ov,iv] (setItem ov iv new);release [new,ov,iv] [];pure .next):=by intros;rfl):PS X (.AugAssign (.Subscript o i tpos) op e pos) (zn71 to ti te tget tip tset):=by
 intro pins s Y H D I h
 refine wpAny_AugAssign_SubscriptAny (thn (ho pins s Y H _ I h) λ ov s1 hz=>?_) ha
 obtain ⟨x1,H1,I1,r1,q1⟩:=hz
 refine thn (hi pins s1 Y H1 _ I1 q1) λ iv s2 hz=>?_
 obtain ⟨x2,H2,I2,r2,q2⟩:=hz
 refine thn (hg pins s2 Y H2 x1 x2 ov iv _ I2 r1 r2 q2) λ old s3 hz=>?_
 obtain ⟨x3,H3,I3,r3,q3⟩:=hz
 refine thn (he pins s3 Y H3 _ I3 q3) λ v s4 hz=>?_
 obtain ⟨x4,H4,I4,r4,q4⟩:=hz
 refine thn (hp pins s4 Y H4 x3 x4 old v _ I4 r3 r4 q4) λ new s5 hz=>?_
 obtain ⟨x5,H5,I5,r5,q5⟩:=hz
 exact thn (hs pins s5 Y H5 x1 x2 x5 ov iv new _ I5 r1 r2 r5 q5) λ _ s6 ⟨H6,I6,q6⟩=>⟨Y,H6,I6,q6⟩
noncomputable def ipI (f:Int->Int->Int):TIp:=λ x y H Q=>∃ i j,x=.int i/\y=.int j/\Q (.int (f i j)) H
theorem zep:PIp X .Add (ipI λ i j=>i+j):=by
 intro pins s Y H x y v u Q I r1 r2 h
 obtain ⟨i,j,e1,e2,q⟩:=h
 subst e1;subst e2
 obtain ⟨t,rfl⟩:=r1
 obtain ⟨t',rfl⟩:=r2
 exact iadd_int ⟨.int _,H,I.tok _,⟨_,rfl⟩,q⟩
theorem zj41:PIp X .Sub (ipI λ i j=>i - j):=by
 intro pins s Y H x y v u Q I r1 r2 h
 obtain ⟨i,j,e1,e2,q⟩:=h
 subst e1;subst e2
 obtain ⟨t,rfl⟩:=r1
 obtain ⟨t',rfl⟩:=r2
 exact isub_int ⟨.int _,H,I.tok _,⟨_,rfl⟩,q⟩
end
section
variable {X:Cx} {pos:Pos}
noncomputable def zz31 (c:TT) (tb:TS):TS:=λ D Y H=>∃ W:Nat->St->Hp->Prop,(∃ m,W m Y H)/\∀ m Y H,W m Y H ->
 c Y H λ b H1=>if b=true then ∃ N:St->Hp->Prop,(∀ Y' H',N Y' H'->∃ m',m' < m/\W m' Y' H')/\tb { D with nx:=N,ct:=N,bk:=D.nx } Y H1 else D.nx Y H1
theorem zqa {c:Expr} {body:List Stmt} {tc:TT} {tb:TS} (hp:PassesOwn (model X.prog X.w) X.A X.env X.xe) (hc:PT X c tc) (hb:PSs X body tb):PS X (.While c body [] pos) (zz31 tc tb):=by
 intro pins s Y H D I h
 obtain ⟨W,⟨m0,w0⟩,turn⟩:=h
 refine wpAny_While (codeAny_whileLoop (λ n s'=>∃ Y' H',Inv X pins Y' H' s'/\W n Y' H') ?_ m0 ⟨Y,H,I,w0⟩)
 rintro n s1 ⟨Y1,H1,I1,w1⟩
 refine wpAny_passesOwn hp (thn (hc pins s1 Y1 H1 _ I1 (turn n Y1 H1 w1)) λ b s2 hz=>?_)
 obtain ⟨H2,I2,q2⟩:=hz
 cases b with
|true =>
  obtain ⟨N,hN,q2⟩:=q2
  rw [if_pos rfl]
  refine wpAny_passesOwn hp (thn (hb pins s2 Y1 H2 _ I2 q2) λ f s3 q3=>?_)
  cases f with
 |next =>
   obtain ⟨Y3,H3,I3,n3⟩:=q3
   obtain ⟨m',hm,w3⟩:=hN Y3 H3 n3
   exact ⟨m',hm,Y3,H3,I3,w3⟩
 |cont =>
   obtain ⟨Y3,H3,I3,n3⟩:=q3
   obtain ⟨m',hm,w3⟩:=hN Y3 H3 n3
   exact ⟨m',hm,Y3,H3,I3,w3⟩
 |brk=>exact q3
 |ret v=>exact q3
|false =>
  rw [if_neg vS]
  exact wpAny_execs_nil ⟨Y1,H2,I2,q2⟩
end
structure It where
 go:Nat->Hp->Prop
 yld:Nat->Hp->V->Hp->Prop
 stop:Nat->Hp->Prop
noncomputable def FpOk (X:Cx) (pins:List (Addr×Obj)) (H:Hp) (b:Addr):Prop :=
 H b=none/\b≠X.env.locals/\b ∉ X.fs/\(b∈X.ex \/ X.s₀.heap.objs.size<=b)/\(∀ x c,X.env.cells.lookup x=some c->c≠b)/\∀ p∈X.pn++pins,p.1≠b
theorem Inv.fpOk {X:Cx} {pins:List (Addr×Obj)} {Y:St} {H H':Hp} {s:Shared} {b:Addr} (I:Inv X pins Y H s) (hb:s.heap.objs.size<=b) (hn:H' b=none):FpOk X pins H' b:=by
 refine ⟨hn,Nat.ne_of_gt (wL I.lt hb),I.nofs hb,.inr (wB I.sz hb),λ x c e z=>?_,λ p hp z=>?_⟩
 ·obtain ⟨v,q⟩:=I.cell x c e
  exact absurd (wL q.lt (by rw [z];exact hb)) (w8 _)
 ·exact absurd (wL (vT (I.pin p hp).1) (by rw [z];exact hb)) (w8 _)
structure Turn (P:Program) (w:World) (K:Fg) (tg:Expr) (J:It) (fp:List Addr) (it:Addr) (tn:Nat->Heap->Prop):Prop where
 mem:it∈fp
 obj:∀ i h,tn i h->∀ b∈fp,∃ o,h.get? b=some o/\∀ v,o.data≠.cell v
 keep:∀ i h h',tn i h->(∀ b∈fp,∀ o,h.get? b=some o->h'.get? b=some o)->tn i h'
 item:∀ (X:Cx),X.prog=P->X.w=w->X.K=K->X.calm=true->∀ (i:Nat) (pins:List (Addr×Obj)) (s:Shared) (Y:St) (H:Hp) (E:Value->Shared->Prop),Inv X pins Y H s->(∀ b∈fp,FpOk X pins H b)->tn i s.heap->J.go i H ->
  wpAny (model P w) X.A (pyNext (.ref it)) (λ r s1=>∃ u,r=some u /\
   wpAny (model P w) X.A (letOwnedTupleGo tg (.ref it) u) (λ _ s2=>∃ x H',Inv X pins Y H' s2/\RelV x u/\J.yld i H x H'/\tn (i+1) s2.heap/\∀ b∈fp,H' b=none) E s1) E s
 done:∀ (X:Cx),X.prog=P->X.w=w->X.K=K->X.calm=true->∀ (i:Nat) (pins:List (Addr×Obj)) (s:Shared) (Y:St) (H:Hp) (E:Value->Shared->Prop),Inv X pins Y H s->(∀ b∈fp,FpOk X pins H b)->tn i s.heap->J.stop i H ->
  wpAny (model P w) X.A (pyNext (.ref it)) (λ r s1=>r=none/\Inv X pins Y H s1) E s
 self:∀ (A:Around) (i:Nat) (s:Shared) (Q:Value->Shared->Prop) (E:Value->Shared->Prop),tn i s.heap->Q (.ref it) s->wpAny (model P w) A (pyIter (.ref it)) Q E s
noncomputable abbrev TI:=St->Hp->(It->Hp->Prop)->Prop
noncomputable def PIE (X:Cx) (pins:List (Addr×Obj)) (Y:St) (tg:Expr) (R:It->Hp->Prop) (itv:Value) (s2:Shared):Prop :=
 ∃ (it:Addr) (fp:List Addr) (tn:Nat->Heap->Prop) (J:It) (H':Hp),itv=.ref it/\Inv X pins Y H' s2/\Turn X.prog X.w X.K tg J fp it tn/\tn 0 s2.heap/\(∀ b∈fp,FpOk X pins H' b)/\R J H'
noncomputable def PI (X:Cx) (tg iter:Expr) (wi:TI):Prop :=
 ∀ (pins:List (Addr×Obj)) (s:Shared) (Y:St) (H:Hp) (R:It->Hp->Prop),Inv X pins Y H s->wi Y H R ->
  wpAny (model X.prog X.w) X.A (eval iter X.env) (λ v s1=>wpAny (model X.prog X.w) X.A (pyIter v) (PIE X pins Y tg R) X.xe s1) X.xe s
theorem ze51 {M : Model} {A : Around} {E : Value → Shared → Prop} {s : Shared} {tg : Expr} {it : Addr} {u : Value} {o : Obj} {n : String} {vs : Array Value} {Q : Unit → Shared → Prop} (ho : s.heap.get? it = some o) (hc : o.cls = .type n) (hd : o.data = .fields vs)
    (hn : ["enumerate", "zip", "dict_itemiterator", "dict_reverseitemiterator", "odict_iterator", "itertools.zip_longest", "itertools.pairwise"].contains n = false) (hQ : Q () s) : wpAny M A (letOwnedTupleGo tg (.ref it) u) Q E s := by
  unfold letOwnedTupleGo
  cases tg <;> first
    | exact wpAny_pure hQ
    | (cases u <;> first
        | exact wpAny_pure hQ
        | (refine wpAny_bind (wpAny_load ho ?_)
           rw [hc, hd]
           show wpAny M A (if (["enumerate", "zip", "dict_itemiterator", "dict_reverseitemiterator", "odict_iterator", "itertools.zip_longest", "itertools.pairwise"].contains n && vs[0]? == some (rawInt _)) = true then _ else _) Q E s
           rw [if_neg (by intro h; rw [hn, Bool.false_and] at h; cases h)]
           exact wpAny_pure hQ))
noncomputable def Itl (K:Fg) (a:Addr):It :=
 ⟨λ i H=>∃ xs x,SqL K H a xs/\xs[i]?=some x,λ i H x H'=>H'=H/\∀ xs,SqL K H a xs->xs[i]?=some x,λ i H=>∃ xs,SqL K H a xs/\xs.length<=i⟩
noncomputable def Itt (K:Fg) (a:Addr):It :=
 ⟨λ i H=>∃ xs x,SqT K H a xs/\xs[i]?=some x,λ i H x H'=>H'=H/\∀ xs,SqT K H a xs->xs[i]?=some x,λ i H=>∃ xs,SqT K H a xs/\xs.length<=i⟩
noncomputable def Itr (lo:Int) (n:Nat):It:=⟨λ i _=>i < n,λ i H x H'=>H'=H/\x=.int (lo+i),λ i _=>n<=i⟩
theorem zes {P:Program} {w:World} {K:Fg} {tg:Expr} (a it:Addr):Turn P w K tg (Itl K a) [it] it (λ i h=>h.IsListIter it a i) where
 mem:=by simp
 obj:=λ i h st b hb=>by
  have e:b=it:=by simpa using hb
  subst e
  obtain ⟨o,e,c,d⟩:=st
  exact ⟨o,e,λ v z=>by rw [d] at z;cases z⟩
 keep:=λ i h h' st k=>st.at λ o e=>k it (by simp) o e
 item:=by
  intro X hP hw hK hc i pins s Y H E I hf st hg
  subst hP hw hK
  obtain ⟨xs,x,hq,hx⟩:=hg
  obtain ⟨its,rv,p,hz⟩:=I.list hq
  obtain ⟨u,hu,ru⟩:=rv.get hx
  obtain ⟨f0,f1,f2,f3,f4,f5⟩:=hf it (by simp)
  refine wpAny_pyNext_list_item st p.isList (x:=u) (by simpa using hu) λ h' st' sb=>?_
  have I1:Inv X pins Y H { s with heap:=h' }:=I.turned (t':=s.toks) (λ b o hb e=>(sb.2 b hb).trans e) f0 f1 f3 f4 f5
  obtain ⟨o,e,c,d⟩:=id st'
  exact ⟨u,rfl,ze51 (s:={ s with heap:=h' }) e c d (by decide) ⟨x,H,I1,ru,⟨rfl,λ ys hy=>by rw [I.list_inj hy hq];exact hx⟩,st',λ b hb=>(hf b hb).1⟩⟩
 done:=by
  intro X hP hw hK hc i pins s Y H E I hf st hg
  subst hP hw hK
  obtain ⟨xs,hq,hx⟩:=hg
  obtain ⟨its,rv,p,hz⟩:=I.list hq
  obtain ⟨f0,f1,f2,f3,f4,f5⟩:=hf it (by simp)
  have hl:=rv.length
  exact wpAny_pyNext_list_end (I.ok.hd hc) st p.isList (by simp;lia) λ h' eb=>⟨rfl,I.turned (t':=s.toks) (λ b o hb e=>eb b o hb e) f0 f1 f3 f4 f5⟩
 self:=λ _ _ _ _ _ st h=>wpAny_pyIter_listiter st h
theorem zsq {P:Program} {w:World} {K:Fg} {tg:Expr} (a it:Addr):Turn P w K tg (Itt K a) [it] it (λ i h=>h.IsTupleIter it a i) where
 mem:=by simp
 obj:=λ i h st b hb=>by
  have e:b=it:=by simpa using hb
  subst e
  obtain ⟨o,e,c,d⟩:=st
  exact ⟨o,e,λ v z=>by rw [d] at z;cases z⟩
 keep:=λ i h h' st k=>st.at λ o e=>k it (by simp) o e
 item:=by
  intro X hP hw hK hc i pins s Y H E I hf st hg
  subst hP hw hK
  obtain ⟨xs,x,hq,hx⟩:=hg
  obtain ⟨its,rv,p,hz⟩:=I.tuple hq
  obtain ⟨u,hu,ru⟩:=rv.get hx
  obtain ⟨f0,f1,f2,f3,f4,f5⟩:=hf it (by simp)
  refine wpAny_pyNext_tuple_item st (show s.heap.IsTuple a its.toArray from p) (x:=u) (by simpa using hu) λ h' st' sb=>?_
  have I1:Inv X pins Y H { s with heap:=h' }:=I.turned (t':=s.toks) (λ b o hb e=>(sb.2 b hb).trans e) f0 f1 f3 f4 f5
  obtain ⟨o,e,c,d⟩:=id st'
  exact ⟨u,rfl,ze51 (s:={ s with heap:=h' }) e c d (by decide) ⟨x,H,I1,ru,⟨rfl,λ ys hy=>by rw [I.tuple_inj hy hq];exact hx⟩,st',λ b hb=>(hf b hb).1⟩⟩
 done:=by
  intro X hP hw hK hc i pins s Y H E I hf st hg
  subst hP hw hK
  obtain ⟨xs,hq,hx⟩:=hg
  obtain ⟨its,rv,p,hz⟩:=I.tuple hq
  obtain ⟨f0,f1,f2,f3,f4,f5⟩:=hf it (by simp)
  have hl:=rv.length
  exact wpAny_pyNext_tuple_end (I.ok.hd hc) st (show s.heap.IsTuple a its.toArray from p) (by simp;lia) λ h' eb=>⟨rfl,I.turned (t':=s.toks) (λ b o hb e=>eb b o hb e) f0 f1 f3 f4 f5⟩
 self:=λ _ _ _ _ _ st h=>wpAny_pyIter_tupleiter st h
theorem znq {P:Program} {w:World} {K:Fg} {tg:Expr} (it:Addr) (lo:Int) (n:Nat):Turn P w K tg (Itr lo n) [it] it (λ i h=>IsRangeIter h it (lo+(i:Nat) * 1) ((n:Int) - (i:Nat)) 1) where
 mem:=by simp
 obj:=λ i h st b hb=>by
  have e:b=it:=by simpa using hb
  subst e
  exact ⟨_,st,λ v z=>by
   have z':Data.fields _=Data.cell v:=z
   cases z'⟩
 keep:=λ i h h' st k=>k it (by simp) _ st
 item:=by
  intro X hP hw hK hc i pins s Y H E I hf st hg
  subst hP hw hK
  obtain ⟨f0,f1,f2,f3,f4,f5⟩:=hf it (by simp)
  have W:=Walks.range (prog:=X.prog) (w:=X.w) (I.ok.hd hc) it lo 1 n
  refine W.item i s _ _ hg st λ v h' tk hv st' kk=>?_
  obtain ⟨t,rfl⟩:=hv
  have I1:Inv X pins Y H { s with heap:=h',toks:=tk }:=I.turned (λ b o hb e=>kk b o (by simpa using hb) e) f0 f1 f3 f4 f5
  refine ⟨_,rfl,ze51 (s:={ s with heap:=h',toks:=tk }) (n := "range_iterator") st' rfl rfl (by decide) ⟨.int (lo+i),H,I1,⟨t,?_⟩,⟨rfl,rfl⟩,st',λ b hb=>(hf b hb).1⟩⟩
  rw [Int.mul_one]
 done:=by
  intro X hP hw hK hc i pins s Y H E I hf st hg
  subst hP hw hK
  obtain ⟨f0,f1,f2,f3,f4,f5⟩:=hf it (by simp)
  exact wpAny_pyNext_range_end (I.ok.hd hc) st (by have:n<=i:=hg;lia) λ h' eb=>⟨rfl,I.turned (t':=s.toks) (λ b o hb e=>eb b o hb e) f0 f1 f3 f4 f5⟩
 self:=λ _ _ _ _ _ st h=>wpAny_pyIter_rangeiter st h
section
variable {X:Cx} {tg:Expr}
theorem zop {pins:List (Addr×Obj)} {Y:St} {H:Hp} {s:Shared} {R:It->Hp->Prop} {E:Value->Shared->Prop} {lo hi:Int} {t u v:Tok} {tk:Nat} (I:Inv X pins Y H s) (h1:-(2 ^ 62)<=lo) (h2:lo < 2 ^ 62) (h3:-(2 ^ 62)<=hi) (h4:hi < 2 ^ 62)
  (q:R (Itr lo (hi - lo).toNat) H):wpAny (model X.prog X.w) X.A (pyIter (.ref s.heap.objs.size)) (PIE X pins Y tg R) E { s with heap:=s.heap.push { cls:=.type "range",data:=.fields #[.int lo t,.int hi u,.int 1 v] },toks:=tk }:=by
 refine wpAny_pyIter_range (IsRange.new ..) (small_one h1 h2 h3 h4) ?_
 have I1:Inv X pins Y H { s with heap:=s.heap.push { cls:=.type "range",data:=.fields #[.int lo t,.int hi u,.int 1 v] },toks:=tk }:=I.kept λ b o e=>v7 _ e
 refine ⟨(s.heap.push { cls:=.type "range",data:=.fields #[.int lo t,.int hi u,.int 1 v] }).objs.size,[(s.heap.push { cls:=.type "range",data:=.fields #[.int lo t,.int hi u,.int 1 v] }).objs.size],_,_,H,rfl,
  I1.kept (t':=tk) λ b o e=>v7 _ e,znq _ lo (hi - lo).toNat,?_,λ b hb=>?_,q⟩
 ·have e1:lo+((0:Nat):Int) * 1=lo:=by simp
  have e2:(((hi - lo).toNat:Nat):Int) - ((0:Nat):Int)=Builtin.Range.rangeSize lo hi 1:=by rw [rangeSize_one];split <;> lia
  show IsRangeIter _ _ (lo+((0:Nat):Int) * 1) ((((hi - lo).toNat:Nat):Int) - ((0:Nat):Int)) 1
  rw [e1,e2]
  exact wT _ rfl
 ·have e:b=(s.heap.push { cls:=.type "range",data:=.fields #[.int lo t,.int hi u,.int 1 v] }).objs.size:=by simpa using hb
  subst e
  exact I1.fpOk (u8 _) (I1.hok.fresh (u8 _))
noncomputable def zac1 (ta:TA):TI:=λ Y H R=>ta Y H λ vs H1=>∃ j:Int,vs=[.int j]/\-(2 ^ 62)<=j/\j < 2 ^ 62/\R (Itr 0 j.toNat) H1
noncomputable def zec1 (ta:TA):TI:=λ Y H R=>ta Y H λ vs H1=>∃ i j:Int,vs=[.int i,.int j]/\(-(2 ^ 62)<=i/\i < 2 ^ 62/\-(2 ^ 62)<=j/\j < 2 ^ 62)/\R (Itr i (j - i).toNat) H1
theorem zb1 {a:Expr} {ta:TA} {p pos:Pos} (hg:Gl X "range") (hm:X.mg "range"=none) (ha:PA X [a] ta) (hs:starEach [a] X.env=[(false,eval a X.env)]:=by rfl):PI X tg (.Call (.Name "range" p) [a] [] pos) (zac1 ta):=by
 intro pins s Y H R I h
 refine Call_ (zyn I hg hm boot_range (PyProof.Rows.callWith_type1 (thn (ha pos pins s Y H _ I h) λ us s1 hz=>?_) hs rfl))
 obtain ⟨vs,H1,I1,r1,q1⟩:=hz
 obtain ⟨j,e,q1,q2,q⟩:=q1
 subst e
 cases r1 with
|cons r rr =>
  cases rr
  obtain ⟨t,rfl⟩:=r
  exact call_range_1 (zop I1 (by lia) (by lia) q1 q2 (by simpa using q))
theorem zus {a b:Expr} {ta:TA} {p pos:Pos} (hg:Gl X "range") (hm:X.mg "range"=none) (ha:PA X [a,b] ta) (hs:starEach [a,b] X.env=[(false,eval a X.env),(false,eval b X.env)]:=by rfl) (hs2:starEach [b] X.env=[(false,eval b X.env)]:=by rfl) :
  PI X tg (.Call (.Name "range" p) [a,b] [] pos) (zec1 ta):=by
 intro pins s Y H R I h
 refine Call_ (zyn I hg hm boot_range (PyProof.Rows.callWith_type1 (thn (ha pos pins s Y H _ I h) λ us s1 hz=>?_) (by rw [hs,hs2]) (by rw [hs2];rfl)))
 obtain ⟨vs,H1,I1,r1,q1⟩:=hz
 obtain ⟨i,j,e,⟨q1,q2,q3,q4⟩,q⟩:=q1
 subst e
 cases r1 with
|cons r rr =>
  cases rr with
 |cons r' rr =>
   cases rr
   obtain ⟨t,rfl⟩:=r
   obtain ⟨t',rfl⟩:=r'
   exact call_range_2 (zop I1 q1 q2 q3 q4 q)
noncomputable def tFor (wi:TI) (g:TG) (tb:TS):TS:=λ D Y H=>wi Y H λ J H1=>∃ W:Nat->Nat->St->Hp->Prop,(∃ m,W 0 m Y H1)/\∀ i m Y H,W i m Y H ->
 (J.stop i H/\D.nx Y H) \/ (J.go i H/\∃ N:St->Hp->Prop,(∀ Y' H',N Y' H'->∃ m',m' < m/\W (i+1) m' Y' H')/\∀ x H',J.yld i H x H'->g x Y H' λ Y2 H2=>tb { D with nx:=N,ct:=N,bk:=D.nx } Y2 H2)
noncomputable def ztp (fp:List Addr) (h:Heap):List (Addr×Obj):=fp.filterMap λ b=>(h.get? b).map λ o=>(b,o)
theorem zm7 {fp:List Addr} {h:Heap} {b:Addr} {o:Obj} (hb:b∈fp) (e:h.get? b=some o):(b,o)∈ztp fp h:=zT.mpr ⟨b,hb,by rw [e];rfl⟩
theorem zkr {fp:List Addr} {h:Heap} {p:Addr×Obj} (hp:p∈ztp fp h):p.1∈fp/\h.get? p.1=some p.2:=by
 obtain ⟨b,hb,e⟩:=zT.mp hp
 cases q:h.get? b with
|none=>rw [q] at e;cases e
|some o =>
  rw [q] at e
  have e':(b,o)=p:=wO.inj e
  subst e'
  exact ⟨hb,q⟩
theorem Inv.pinned {pins:List (Addr×Obj)} {Y:St} {H:Hp} {s:Shared} {fp:List Addr} (I:Inv X pins Y H s) (hf:∀ b∈fp,FpOk X pins H b) (ho:∀ b∈fp,∃ o,s.heap.get? b=some o/\∀ v,o.data≠.cell v):Inv X (pins++ztp fp s.heap) Y H s :=
 I.pins_of λ p hp=>(vK.mp hp).elim (λ z=>I.pin p (wU _ z)) λ z=>by
  obtain ⟨hb,e⟩:=zkr z
  obtain ⟨f0,f1,f2,_⟩:=hf p.1 hb
  obtain ⟨o,e',d⟩:=ho p.1 hb
  rw [e] at e';cases e'
  exact ⟨e,f0,f1,f2,d⟩
theorem Inv.unpinned {pins pl:List (Addr×Obj)} {Y:St} {H:Hp} {s:Shared} (I:Inv X (pins++pl) Y H s):Inv X pins Y H s:=I.pins_of λ p hp=>I.pin p (wU _ (xP _ hp))
theorem zw3 {iter:Expr} {body:List Stmt} {wi:TI} {g:TG} {tb:TS} {pos:Pos} (hp:PassesOwn (model X.prog X.w) X.A X.env X.xe) (hc:X.calm=true) (hi:PI X tg iter wi) (hg:PG X tg g) (hb:PSs X body tb)
  (hs:∀ x,foldedSetIterable iter X.env x=pure x:=by intro _;rfl):PS X (.For tg iter body [] pos) (tFor wi g tb):=by
 intro pins s Y H D I h
 refine wpAny_For (thn (hi pins s Y H _ I h) λ v s1 h1=>thn h1 λ itv s2 h2=>?_) hs
 obtain ⟨it,fp,tn,J,H2,e,I2,T,st2,f2,W,⟨m0,w0⟩,turn⟩:=h2
 subst e
 -- what stays true of the iterator's objects through the loop
 have stat:∀ {H':Hp},(∀ b∈fp,H' b=none)->∀ b∈fp,FpOk X pins H' b:=λ hn b hb=>⟨hn b hb,(f2 b hb).2⟩
 refine codeAny_forLoop_any (λ n s'=>∃ i Y' H',Inv X pins Y' H' s'/\tn i s'.heap/\(∀ b∈fp,H' b=none)/\W i n Y' H') ?_ m0 ⟨0,Y,H2,I2,st2,λ b hb=>(f2 b hb).1,w0⟩
 rintro n s3 ⟨i,Y3,H3,I3,st3,fr3,w3⟩
 rcases turn i n Y3 H3 w3 with ⟨stop,qn⟩|⟨go,N,hN,step⟩
 ·refine wpAny_passesOwn hp (thn (T.done X rfl rfl rfl hc i pins s3 Y3 H3 X.xe I3 (stat fr3) st3 stop) λ r s4 hz=>?_)
  obtain ⟨hr,I4⟩:=hz
  subst hr
  exact wpAny_execs_nil ⟨Y3,H3,I4,qn⟩
 ·refine wpAny_passesOwn hp (thn (T.item X rfl rfl rfl hc i pins s3 Y3 H3 X.xe I3 (stat fr3) st3 go) λ r s4 hz=>?_)
  obtain ⟨u,hr,h4⟩:=hz
  subst hr
  refine wpAny_passesOwn hp (thn h4 λ _ s5 hz=>?_)
  obtain ⟨x,H5,I5,r5,y5,st5,fr5⟩:=hz
  have I5':=I5.pinned (stat fr5) (T.obj _ _ st5)
  refine wpAny_passesOwn hp (thn (hg _ s5 Y3 H5 x u _ I5' r5 (step x H5 y5)) λ _ s6 hz=>?_)
  obtain ⟨Y6,H6,I6,q6⟩:=hz
  refine wpAny_passesOwn hp (thn (hb _ s6 Y6 H6 _ I6 q6) λ f s7 q7=>?_)
  have again:∀ {Y7:St} {H7:Hp},Inv X (pins++ztp fp s5.heap) Y7 H7 s7->N Y7 H7->∃ m,m < n/\∃ i Y' H',Inv X pins Y' H' s7/\tn i s7.heap/\(∀ b∈fp,H' b=none)/\W i m Y' H':=λ {Y7 H7} I7 n7=>by
   obtain ⟨m',hm,w7⟩:=hN Y7 H7 n7
   refine ⟨m',hm,i+1,Y7,H7,I7.unpinned,T.keep _ _ _ st5 λ b hb o e=>(I7.pin (b,o) (wU _ (wU _ (zm7 hb e)))).1,λ b hb=>?_,w7⟩
   obtain ⟨o,e,d⟩:=T.obj _ _ st5 b hb
   exact (I7.pin (b,o) (wU _ (wU _ (zm7 hb e)))).2.1
  cases f with
 |next=>obtain ⟨Y7,H7,I7,n7⟩:=q7;exact again I7 n7
 |cont=>obtain ⟨Y7,H7,I7,n7⟩:=q7;exact again I7 n7
 |brk=>obtain ⟨Y7,H7,I7,q7⟩:=q7;exact ⟨Y7,H7,I7.unpinned,q7⟩
 |ret v=>obtain ⟨x7,Y7,H7,I7,r7,q7⟩:=q7;exact ⟨x7,Y7,H7,I7.unpinned,r7,q7⟩
end
noncomputable abbrev R2:=V->V->Hp->VK->Prop
noncomputable def OpR (X:Cx) (f:Value->Value->Sem Value) (r:R2):Prop :=
 ∀ (pins:List (Addr×Obj)) (s:Shared) (Y:St) (H:Hp) (x y:V) (v u:Value) (Q:VK),Inv X pins Y H s->RelV x v->RelV y u->r x y H Q ->
  wpAny (model X.prog X.w) X.A (f v u) (EP X pins Y Q) X.xe s
noncomputable def UnR (X:Cx) (f:Value->Sem Value) (r:V->Hp->VK->Prop):Prop :=
 ∀ (pins:List (Addr×Obj)) (s:Shared) (Y:St) (H:Hp) (x:V) (v:Value) (Q:VK),Inv X pins Y H s->RelV x v->r x H Q ->
  wpAny (model X.prog X.w) X.A (f v) (EP X pins Y Q) X.xe s
noncomputable def CallR (X:Cx) (f:Value) (r:List V->Hp->VK->Prop):Prop :=
 ∀ (pins:List (Addr×Obj)) (s:Shared) (Y:St) (H:Hp) (xs:List V) (us:List Value) (Q:VK),Inv X pins Y H s->Vals xs us->r xs H Q ->
  wpAny (model X.prog X.w) X.A (call f us) (EP X pins Y Q) X.xe s
noncomputable def TruR (X:Cx) (r:V->Hp->(Bool->Hp->Prop)->Prop):Prop :=
 ∀ (pins:List (Addr×Obj)) (s:Shared) (Y:St) (H:Hp) (x:V) (v:Value) (Q:Bool->Hp->Prop),Inv X pins Y H s->RelV x v->r x H Q ->
  wpAny (model X.prog X.w) X.A (truthy v) (TP X pins Y Q) X.xe s
noncomputable def tOp (r:R2) (ta tb:TE):TE:=λ Y H Q=>ta Y H λ x H1=>tb Y H1 λ y H2=>r x y H2 Q
noncomputable def tUn (r:V->Hp->VK->Prop) (ta:TE):TE:=λ Y H Q=>ta Y H λ x H1=>r x H1 Q
noncomputable def rI (C:Int->Int->Prop) (g:Int->Int->V):R2:=λ x y H Q=>∃ i j,x=.int i/\y=.int j/\C i j/\Q (g i j) H
noncomputable def rI0 (g:Int->Int->V):R2:=λ x y H Q=>∃ i j,x=.int i/\y=.int j/\Q (g i j) H
noncomputable def rU (g:Int->V):V->Hp->VK->Prop:=λ x H Q=>∃ i,x=.int i/\Q (g i) H
section
variable {X:Cx} {a b c:Expr} {ta tb tc:TE} {pos:Pos}
theorem binT (ha:PE X a ta) (hb:PE X b tb) {pins:List (Addr×Obj)} {s:Shared} {Y:St} {H:Hp} {R:V->V->Hp->Prop} (I:Inv X pins Y H s)
  (h:ta Y H λ x H1=>tb Y H1 λ y H2=>R x y H2) {Q:Value->Shared->Prop} {f:Value->Value->Sem Value}
  (hf:∀ v u s2 x y H2,Inv X pins Y H2 s2->RelV x v->RelV y u->R x y H2->wpAny (model X.prog X.w) X.A (f v u) Q X.xe s2) :
  wpAny (model X.prog X.w) X.A (eval a X.env) (λ v s₁=>wpAny (model X.prog X.w) X.A (eval b X.env) (λ u s₂=>wpAny (model X.prog X.w) X.A (f v u) Q X.xe s₂) X.xe s₁) X.xe s:=by
 refine thn (ha pins s Y H _ I h) λ v s1 hz=>?_
 obtain ⟨x,H1,I1,r1,q1⟩:=hz
 refine thn (hb pins s1 Y H1 _ I1 q1) λ u s2 hz=>?_
 obtain ⟨y,H2,I2,r2,q2⟩:=hz
 exact hf v u s2 x y H2 I2 r1 r2 q2
theorem zr0 {op:Operator} {r:R2} (ho:OpR X (binaryOp op) r) (ha:PE X a ta) (hb:PE X b tb):PE X (.BinOp a op b pos) (tOp r ta tb):=by
 intro pins s Y H Q I h
 exact wpAny_BinOp (binT ha hb I h λ v u s2 x y H2 I2 rx ry q=>ho pins s2 Y H2 x y v u Q I2 rx ry q)
theorem zh81 {op:UnaryOp} {r:V->Hp->VK->Prop} (ho:UnR X (unaryOp op) r) (ha:PE X a ta):PE X (.UnaryOp op a pos) (tUn r ta):=by
 intro pins s Y H Q I h
 exact UnaryOp_ (thn (ha pins s Y H _ I h) λ v s1 ⟨x,H1,I1,r1,q1⟩=>ho pins s1 Y H1 x v Q I1 r1 q1)
theorem opI {f:Value->Value->Sem Value} {C:Int->Int->Prop} {g:Int->Int->Int}
  (rule:∀ (i j:Int) (t u:Tok) (s:Shared) (Q:Value->Shared->Prop) (E:Value->Shared->Prop),C i j->Q (.int (g i j) s.toks) { s with toks:=s.toks+1 }->wpAny (model X.prog X.w) X.A (f (.int i t) (.int j u)) Q E s) :
  OpR X f (rI C λ i j=>.int (g i j)):=by
 intro pins s Y H x y v u Q I rx ry h
 obtain ⟨i,j,rfl,rfl,hc,q⟩:=h
 obtain ⟨t,rfl⟩:=rx
 obtain ⟨t',rfl⟩:=ry
 exact rule i j t t' s _ _ hc ⟨.int (g i j),H,I.tok _,⟨_,rfl⟩,q⟩
theorem opI0 {f:Value->Value->Sem Value} {g:Int->Int->Int}
  (rule:∀ (i j:Int) (t u:Tok) (s:Shared) (Q:Value->Shared->Prop) (E:Value->Shared->Prop),Q (.int (g i j) s.toks) { s with toks:=s.toks+1 }->wpAny (model X.prog X.w) X.A (f (.int i t) (.int j u)) Q E s) :
  OpR X f (rI0 λ i j=>.int (g i j)):=by
 intro pins s Y H x y v u Q I rx ry h
 obtain ⟨i,j,rfl,rfl,q⟩:=h
 obtain ⟨t,rfl⟩:=rx
 obtain ⟨t',rfl⟩:=ry
 exact rule i j t t' s _ _ ⟨.int (g i j),H,I.tok _,⟨_,rfl⟩,q⟩
theorem opB0 {f:Value->Value->Sem Value} {g:Int->Int->Bool}
  (rule:∀ (i j:Int) (t u:Tok) (s:Shared) (Q:Value->Shared->Prop) (E:Value->Shared->Prop),Q (.bool (g i j)) s->wpAny (model X.prog X.w) X.A (f (.int i t) (.int j u)) Q E s) :
  OpR X f (rI0 λ i j=>.bl (g i j)):=by
 intro pins s Y H x y v u Q I rx ry h
 obtain ⟨i,j,rfl,rfl,q⟩:=h
 obtain ⟨t,rfl⟩:=rx
 obtain ⟨t',rfl⟩:=ry
 exact rule i j t t' s _ _ ⟨.bl (g i j),H,I,rfl,q⟩
noncomputable def CPow (i j:Int):Prop:=0<=j/\j<=1000000/\i.natAbs < 2 ^ 64
noncomputable def CMul (i j:Int):Prop:=(-(2 ^ 64) < i/\i < 2 ^ 64) \/ (-(2 ^ 64) < j/\j < 2 ^ 64)
theorem CMul.ok {i j:Int} (h:CMul i j):IntMulOk i j:=by
 rcases h with ⟨h1,h2⟩|⟨h1,h2⟩
 ·exact .of_left (intBits_le_64 h1 h2)
 ·exact .of_right (intBits_le_64 h1 h2)
theorem zq91:OpR X (binaryOp .Add) (rI0 λ i j=>.int (i+j)):=opI0 λ _ _ _ _ _ _ _ q=>add_int q
theorem zjh:OpR X (binaryOp .Sub) (rI0 λ i j=>.int (i - j)):=opI0 λ _ _ _ _ _ _ _ q=>sub_int q
theorem ze91:OpR X (binaryOp .Mult) (rI CMul λ i j=>.int (i * j)):=opI λ _ _ _ _ _ _ _ hc q=>mul_int q hc.ok
theorem zg2:OpR X (binaryOp .Mod) (rI (λ _ j=>0 < j) λ i j=>.int (i % j)):=opI λ i j _ _ _ _ _ hc q=>by
 have h1:(0:Int) < j:=hc
 exact mod_int' (by lia) (by rw [Int.fmod_eq_emod_of_nonneg i (by lia)];exact q)
theorem zs21:OpR X (binaryOp .Pow) (rI CPow λ i j=>.int (i ^ j.toNat)):=opI λ _ _ _ _ _ _ _ hc q=>pow_int_small hc.1 hc.2.1 hc.2.2 q
theorem zk31:OpR X (binaryOp .BitXor) (rI0 λ i j=>.int (Builtin.bitXor i j)):=opI0 λ _ _ _ _ _ _ _ q=>xor_int q
theorem unI {f:Value->Sem Value} {g:Int->Int}
  (rule:∀ (i:Int) (t:Tok) (s:Shared) (Q:Value->Shared->Prop) (E:Value->Shared->Prop),Q (.int (g i) s.toks) { s with toks:=s.toks+1 }->wpAny (model X.prog X.w) X.A (f (.int i t)) Q E s) :
  UnR X f (rU λ i=>.int (g i)):=by
 intro pins s Y H x v Q I rx h
 obtain ⟨i,rfl,q⟩:=h
 obtain ⟨t,rfl⟩:=rx
 exact rule i t s _ _ ⟨.int (g i),H,I.tok _,⟨_,rfl⟩,q⟩
theorem ztv:UnR X (unaryOp .USub) (rU λ i=>.int (-i)):=unI λ _ _ _ _ _ q=>neg_int q
end
noncomputable def scal:V->V->Bool
|.non,.non=>true|.non,.int _=>true|.int _,.non=>true|.non,.bl _=>true|.bl _,.non=>true|.non,.str _=>true|.str _,.non=>true
|.int _,.int _=>true|.bl _,.bl _=>true|.str _,.str _=>true|.byt _,.byt _=>true
|.int _,.str _=>true|.str _,.int _=>true|.bl _,.str _=>true|.str _,.bl _=>true
|_,_=>false
noncomputable def rEq:R2:=λ x y H Q=>scal x y=true/\Q (.bl (decide (x=y))) H
noncomputable def rNe:R2:=λ x y H Q=>scal x y=true/\Q (.bl (!decide (x=y))) H
theorem zei {i j:Int}:decide (V.int i=V.int j)=(i == j):=by
 rw [y4]
 simp
theorem zno {i j:Bool}:decide (V.bl i=V.bl j)=(i == j):=by
 rw [y4]
 simp
theorem zui {i j:Str}:decide (V.str i=V.str j)=(i == j):=by
 rw [y4]
 simp
theorem zbu {i j:Array UInt8}:decide (V.byt i=V.byt j)=(i.toList == j.toList):=by
 rw [y4]
 cases i
 cases j
 simp
section
variable {X:Cx} {a b c:Expr} {ta tb tc:TE} {pos:Pos}
theorem zu1 {pins:List (Addr×Obj)} {Y:St} {H:Hp} {s:Shared} {Q:VK} {k k':Bool} (I:Inv X pins Y H s) (q:Q (.bl k) H) (e:k=k'):EP X pins Y Q (.bool k') s:=by
 subst e
 exact ⟨.bl k,H,I,rfl,q⟩
theorem zkd1:OpR X (compareOp .Eq) rEq:=by
 intro pins s Y H x y v u Q I rx ry h
 obtain ⟨hs,q⟩:=h
 cases x with
|non =>
  cases rx
  cases y with
 |non=>cases ry;exact PySem.EqNone.eq_none_none (zu1 I q (by simp))
 |bl j=>cases ry;exact PySem.EqNone.eq_none_bool (zu1 I q (by simp))
 |int j=>obtain ⟨t',rfl⟩:=ry;exact PySem.EqNone.eq_none_int (zu1 I q (by simp))
 |str j=>obtain ⟨t',rfl⟩:=ry;exact PySem.EqNone.eq_none_str (zu1 I q (by simp))
 |_=>exact absurd (show false=true from hs) vS
|bl i =>
  cases rx
  cases y with
 |non=>cases ry;exact PySem.EqNone.eq_bool_none (zu1 I q (by simp))
 |bl j=>cases ry;exact eq_bool (zu1 I q zno)
 |str j=>obtain ⟨t',rfl⟩:=ry;exact PySem.EqMixed.eq_bool_str (zu1 I q (by simp))
 |_=>exact absurd (show false=true from hs) vS
|int i =>
  obtain ⟨t,rfl⟩:=rx
  cases y with
 |non=>cases ry;exact PySem.EqNone.eq_int_none (zu1 I q (by simp))
 |int j=>obtain ⟨t',rfl⟩:=ry;exact eq_int (zu1 I q zei)
 |str j=>obtain ⟨t',rfl⟩:=ry;exact PySem.EqMixed.eq_int_str (zu1 I q (by simp))
 |_=>exact absurd (show false=true from hs) vS
|str i =>
  obtain ⟨t,rfl⟩:=rx
  cases y with
 |non=>cases ry;exact PySem.EqNone.eq_str_none (zu1 I q (by simp))
 |bl j=>cases ry;exact PySem.EqMixed.eq_str_bool (zu1 I q (by simp))
 |int j=>obtain ⟨t',rfl⟩:=ry;exact PySem.EqMixed.eq_str_int (zu1 I q (by simp))
 |str j=>obtain ⟨t',rfl⟩:=ry;exact eq_str (zu1 I q zui)
 |_=>exact absurd (show false=true from hs) vS
|byt i =>
  obtain ⟨t,rfl⟩:=rx
  cases y with
 |byt j=>obtain ⟨t',rfl⟩:=ry;exact PySem.W.eq_bytes (zu1 I q zbu)
 |_=>exact absurd (show false=true from hs) vS
|_=>cases y <;> exact absurd (show false=true from hs) vS
theorem zvd1:OpR X (compareOp .NotEq) rNe:=by
 intro pins s Y H x y v u Q I rx ry h
 obtain ⟨hs,q⟩:=h
 cases x with
|non =>
  cases rx
  cases y with
 |non=>cases ry;exact PySem.EqNone.ne_none_none (zu1 I q (by simp))
 |bl j=>cases ry;exact PySem.EqNone.ne_none_bool (zu1 I q (by simp))
 |int j=>obtain ⟨t',rfl⟩:=ry;exact PySem.EqNone.ne_none_int (zu1 I q (by simp))
 |str j=>obtain ⟨t',rfl⟩:=ry;exact PySem.EqNone.ne_none_str (zu1 I q (by simp))
 |_=>exact absurd (show false=true from hs) vS
|bl i =>
  cases rx
  cases y with
 |non=>cases ry;exact PySem.EqNone.ne_bool_none (zu1 I q (by simp))
 |bl j=>cases ry;exact ne_bool (zu1 I q (congrArg not zno))
 |str j=>obtain ⟨t',rfl⟩:=ry;exact PySem.EqMixed.ne_bool_str (zu1 I q (by simp))
 |_=>exact absurd (show false=true from hs) vS
|int i =>
  obtain ⟨t,rfl⟩:=rx
  cases y with
 |non=>cases ry;exact PySem.EqNone.ne_int_none (zu1 I q (by simp))
 |int j=>obtain ⟨t',rfl⟩:=ry;exact ne_int (zu1 I q (congrArg not zei))
 |str j=>obtain ⟨t',rfl⟩:=ry;exact PySem.EqMixed.ne_int_str (zu1 I q (by simp))
 |_=>exact absurd (show false=true from hs) vS
|str i =>
  obtain ⟨t,rfl⟩:=rx
  cases y with
 |non=>cases ry;exact PySem.EqNone.ne_str_none (zu1 I q (by simp))
 |bl j=>cases ry;exact PySem.EqMixed.ne_str_bool (zu1 I q (by simp))
 |int j=>obtain ⟨t',rfl⟩:=ry;exact PySem.EqMixed.ne_str_int (zu1 I q (by simp))
 |str j=>obtain ⟨t',rfl⟩:=ry;exact ne_str (zu1 I q (congrArg not zui))
 |_=>exact absurd (show false=true from hs) vS
|byt i =>
  obtain ⟨t,rfl⟩:=rx
  cases y with
 |byt j=>obtain ⟨t',rfl⟩:=ry;exact PySem.W.ne_bytes (zu1 I q (congrArg not zbu))
 |_=>exact absurd (show false=true from hs) vS
|_=>cases y <;> exact absurd (show false=true from hs) vS
theorem zry:OpR X (compareOp .Lt) (rI0 λ i j=>.bl (decide (i < j))):=opB0 λ _ _ _ _ _ _ _ q=>lt_int q
theorem zk41:OpR X (compareOp .LtE) (rI0 λ i j=>.bl (decide (i<=j))):=opB0 λ _ _ _ _ _ _ _ q=>le_int q
theorem zpo:OpR X (compareOp .Gt) (rI0 λ i j=>.bl (decide (j < i))):=opB0 λ _ _ _ _ _ _ _ q=>gt_int q
theorem zya1:OpR X (compareOp .GtE) (rI0 λ i j=>.bl (decide (j<=i))):=opB0 λ _ _ _ _ _ _ _ q=>ge_int q
theorem zjr:OpR X (compareOp .In) (λ x y H Q=>∃ i j,x=.str i/\y=.str j/\Q (.bl (!(Builtin.Str.occurrences j i 0 j.length 1).isEmpty)) H):=by
 intro pins s Y H x y v u Q I rx ry h
 obtain ⟨i,j,rfl,rfl,q⟩:=h
 obtain ⟨t,rfl⟩:=rx
 obtain ⟨t',rfl⟩:=ry
 exact in_str (zu1 I q rfl)
theorem zy71:OpR X (compareOp .Is) (λ x y H Q=>y=.non/\Q (.bl (decide (x=.non))) H):=by
 intro pins s Y H x y v u Q I rx ry h
 obtain ⟨rfl,q⟩:=h
 cases ry
 refine is_none_gen (zu1 I q ?_)
 cases x <;> first
 |(cases rx;rfl)
 |(obtain ⟨t,rfl⟩:=rx;rfl)
theorem zv31:OpR X (compareOp .IsNot) (λ x y H Q=>y=.non/\Q (.bl (!decide (x=.non))) H):=by
 intro pins s Y H x y v u Q I rx ry h
 obtain ⟨rfl,q⟩:=h
 cases ry
 refine isnot_none_gen (zu1 I q ?_)
 cases x <;> first
 |(cases rx;rfl)
 |(obtain ⟨t,rfl⟩:=rx;rfl)
theorem OpR.or {f:Value->Value->Sem Value} {r r':R2} (h:OpR X f r) (h':OpR X f r'):OpR X f (λ x y H Q=>r x y H Q \/ r' x y H Q):=by
 intro pins s Y H x y v u Q I rx ry q
 rcases q with q|q
 ·exact h pins s Y H x y v u Q I rx ry q
 ·exact h' pins s Y H x y v u Q I rx ry q
theorem zm1 (b:Expr) {op:CmpOp} (h:op≠.In:=by decide) (h2:op≠.NotIn:=by decide):behindInMarks op b=false:=by
 have e1:(op == CmpOp.In)=false:=by cases op <;> first|rfl|exact absurd rfl h
 have e2:(op == CmpOp.NotIn)=false:=by cases op <;> first|rfl|exact absurd rfl h2
 cases b <;> simp [behindInMarks,e1,e2]
theorem zkt {op:CmpOp} {r:R2} (ho:OpR X (compareOp op) r) (ha:PE X a ta) (hb:PE X b tb) (hm:behindInMarks op b=false):PE X (.Compare a [op] [b] pos) (tOp r ta tb):=by
 intro pins s Y H Q I h
 exact wpAny_Compare1 (binT ha hb I h λ v u s2 x y H2 I2 rx ry q=>ho pins s2 Y H2 x y v u Q I2 rx ry q) hm
noncomputable def zda1 (t:TE):TT:=λ Y H Q=>t Y H λ x H'=>∃ k,x=.bl k/\Q k H'
theorem zj01 {op:CmpOp} {r:R2} (ho:OpR X (compareOp op) r) (ha:PE X a ta) (hb:PE X b tb) (hm:behindInMarks op b=false):PT X (.Compare a [op] [b] pos) (zda1 (tOp r ta tb)):=by
 intro pins s Y H Q I h
 refine wpAny_isTrue_Compare1 (thn (ha pins s Y H _ I h) λ v s1 ⟨x,H1,I1,r1,q1⟩=>thn (hb pins s1 Y H1 _ I1 q1) λ u s2 ⟨y,H2,I2,r2,q2⟩ =>
  thn (ho pins s2 Y H2 x y v u _ I2 r1 r2 q2) λ c s3 hz=>?_) hm
 obtain ⟨z,H3,I3,r3,k,e,q3⟩:=hz
 subst e
 cases r3
 exact wpAny_truthy_bool ⟨H3,I3,q3⟩
noncomputable def znv (r r':R2) (ta tb tc:TE):TE:=λ Y H Q=>ta Y H λ x H1=>tb Y H1 λ y H2=>r x y H2 λ z H3=>∃ k,z=.bl k /\
 (if k=true then tc Y H3 λ w' H4=>r' y w' H4 Q else Q (.bl false) H3)
theorem ziw {op op':CmpOp} {r r':R2} (ho:OpR X (compareOp op) r) (ho':OpR X (compareOp op') r') (ha:PE X a ta) (hb:PE X b tb) (hc:PE X c tc)
  (hm:lastMarks [op,op'] [b,c]=false:=by with_unfolding_all rfl):PT X (.Compare a [op,op'] [b,c] pos) (zda1 (znv r r' ta tb tc)):=by
 intro pins s Y H Q I h
 refine isTrue_chain (thn (ha pins s Y H _ I h) λ v s1 ⟨x,H1,I1,r1,q1⟩=>test_link (thn (hb pins s1 Y H1 _ I1 q1) λ u s2 ⟨y,H2,I2,r2,q2⟩ =>
  thn (ho pins s2 Y H2 x y v u _ I2 r1 r2 q2) λ d s3 hz=>?_)) hm
 obtain ⟨z,H3,I3,r3,k,e,q3⟩:=hz
 subst e
 cases r3
 refine wpAny_truthy_bool ?_
 cases k with
|false =>
  obtain ⟨k',e',q'⟩:=q3
  cases e'
  exact ite_ff ⟨H3,I3,q'⟩
|true =>
  refine ite_tt (test_last (thn (hc pins s3 Y H3 _ I3 q3) λ w' s4 ⟨z',H4,I4,r4,q4⟩=>thn (ho' pins s4 Y H4 y z' u w' _ I4 r2 r4 q4) λ d' s5 hz=>?_))
  obtain ⟨z2,H5,I5,r5,k2,e2,q5⟩:=hz
  subst e2
  cases r5
  exact wpAny_truthy_bool ⟨H5,I5,q5⟩
noncomputable def TruV (K:Fg) (x:V) (H:Hp) (k:Bool):Prop :=
 match x with
|.non=>k=false
|.bl b=>k=b
|.int i=>k=(i != 0)
|.str y=>y.length<=sizeLine/\k=((y.length:Int) != 0)
|.byt y=>y.size<=sizeLine/\k=((y.size:Int) != 0)
|.ref p=>(∃ xs,SqL K H p xs/\k=!xs.isEmpty) \/ (∃ xs,SqT K H p xs/\k=!xs.isEmpty) \/ ∃ kvs,H p=some (.dK kvs)/\k=!kvs.isEmpty
|_=>False
theorem zoo {κ:Type} {kvs:List (κ×V)} {vs:List (κ×Value)} (r:KV kvs vs):(!vs.isEmpty)=!kvs.isEmpty:=by
 cases r <;> rfl
theorem zaj {xs:List V} {its:List Value} (r:Vals xs its):(!its.toArray.isEmpty)=!xs.isEmpty:=by
 cases r <;> simp
theorem zkk:(sizeLine:Nat) < 2 ^ 63:=by rw [sizeLine_eq];decide
theorem zy61:TruR X (λ x H Q=>∃ k,TruV X.K x H k/\Q k H):=by
 intro pins s Y H x v Q I rx h
 obtain ⟨k,e,q⟩:=h
 have hl:=zkk
 have hs:sizeLine=16777216:=sizeLine_eq
 cases x with
|non =>
  cases rx
  have e':k=false:=e
  subst e'
  exact truthy_none ⟨H,I,q⟩
|bl b =>
  cases rx
  have e':k=b:=e
  subst e'
  exact wpAny_truthy_bool ⟨H,I,q⟩
|int i =>
  obtain ⟨t,rfl⟩:=rx
  have e':k=(i != 0):=e
  subst e'
  exact PySem.P.truthy_int ⟨H,I,q⟩
|str y =>
  obtain ⟨t,rfl⟩:=rx
  obtain ⟨hy,e'⟩:y.length<=sizeLine/\k=((y.length:Int) != 0):=e
  subst e'
  exact PySem.P.truthy_str (by lia) ⟨H,I.tok _,q⟩
|byt y =>
  obtain ⟨t,rfl⟩:=rx
  obtain ⟨hy,e'⟩:y.size<=sizeLine/\k=((y.size:Int) != 0):=e
  subst e'
  exact PySem.W.truthy_bytes (by lia) ⟨H,I.tok _,q⟩
|ref p =>
  cases rx
  have e':(∃ xs,SqL X.K H p xs/\k=!xs.isEmpty) \/ (∃ xs,SqT X.K H p xs/\k=!xs.isEmpty) \/ ∃ kvs,H p=some (.dK kvs)/\k=!kvs.isEmpty:=e
  rcases e' with ⟨xs,hx,e'⟩|⟨xs,hx,e'⟩|⟨kvs,hx,e'⟩
  ·subst e'
   obtain ⟨its,r,pl,hz⟩:=I.list hx
   have hlen:=r.length
   exact wpAny_truthy_list pl.isList (by simp only [vQ];lia) ⟨H,I.tok _,by rw [zaj r];exact q⟩
  ·subst e'
   obtain ⟨its,r,pl,hz⟩:=I.tuple hx
   have hlen:=r.length
   exact truthy_tuple pl (by simp only [vQ];lia) ⟨H,I.tok _,by rw [zaj r];exact q⟩
  ·subst e'
   obtain ⟨hz,hS,vs,r,m⟩:kvs.length<=sizeLine/\(p == sysModules)=false/\∃ vs,KV kvs vs/\s.heap.DictOf (zy1 X.prog X.w) p vs:=I.hok p _ hx
   have hlen:kvs.length=vs.length:=Paired.length r
   exact wpAny_truthy_dict hS m (by lia) ⟨H,I.tok _,by rw [zoo r];exact q⟩
|_=>exact (show False from e).elim
theorem zhy (ha:PE X a ta) (he:∀ whole,isTrue a X.env whole=(do let v <- whole;standAt a.pos;holding [v] (truthy v))) :
  PT X a (λ Y H Q=>ta Y H λ x H'=>∃ k,TruV X.K x H' k/\Q k H'):=by
 intro pins s Y H Q I h
 exact isTrue_plain (thn (ha pins s Y H _ I h) λ v s1 ⟨x,H1,I1,r1,q1⟩=>zy61 pins s1 Y H1 x v Q I1 r1 q1) (he _)
theorem zhq:OpR X (binaryOp .Add) (λ x y H Q=>∃ i j,x=.str i/\y=.str j/\i.length+j.length<=sizeLine/\Q (.str (i++j)) H):=by
 intro pins s Y H x y v u Q I rx ry h
 obtain ⟨i,j,rfl,rfl,hz,q⟩:=h
 obtain ⟨t,rfl⟩:=rx
 obtain ⟨t',rfl⟩:=ry
 exact add_str (λ t' tk=>⟨.str (i++j),H,I.tok _,⟨_,rfl⟩,q⟩) hz
theorem zyy {x:V} {us:List Value} (r:Vals [x] us):∃ u,us=[u]/\RelV x u:=by
 cases r with
|cons r1 r2=>cases r2;exact ⟨_,rfl,r1⟩
theorem zrb1 {x y:V} {us:List Value} (r:Vals [x,y] us):∃ u w',us=[u,w']/\RelV x u/\RelV y w':=by
 cases r with
|cons r1 r2 =>
  cases r2 with
 |cons r3 r4=>cases r4;exact ⟨_,_,rfl,r1,r3⟩
noncomputable def LenV (K:Fg) (x:V) (H:Hp) (n:Nat):Prop :=
 match x with
|.str y=>y.length<=sizeLine/\n=y.length
|.byt y=>y.size<=sizeLine/\n=y.size
|.ref p=>(∃ xs,SqL K H p xs/\n=xs.length) \/ ∃ xs,SqT K H p xs/\n=xs.length
|_=>False
theorem zay:CallR X (.builtin "len") (λ xs H Q=>∃ x n,xs=[x]/\LenV X.K x H n/\Q (.int n) H):=by
 intro pins s Y H xs us Q I r h
 obtain ⟨x,n,rfl,e,q⟩:=h
 obtain ⟨u,rfl,rx⟩:=zyy r
 have hl:=zkk
 have hs:sizeLine=16777216:=sizeLine_eq
 cases x with
|str y =>
  obtain ⟨t,rfl⟩:=rx
  obtain ⟨hy,e'⟩:y.length<=sizeLine/\n=y.length:=e
  subst e'
  exact len_str (by lia) ⟨.int _,H,I.tok _,⟨_,rfl⟩,q⟩
|byt y =>
  obtain ⟨t,rfl⟩:=rx
  obtain ⟨hy,e'⟩:y.size<=sizeLine/\n=y.size:=e
  subst e'
  exact PySem.W.len_bytes (by lia) ⟨.int _,H,I.tok _,⟨_,rfl⟩,q⟩
|ref p =>
  cases rx
  have e':(∃ xs,SqL X.K H p xs/\n=xs.length) \/ ∃ xs,SqT X.K H p xs/\n=xs.length:=e
  rcases e' with ⟨xs,hx,e'⟩|⟨xs,hx,e'⟩
  ·subst e'
   obtain ⟨its,r',pl,hz⟩:=I.list hx
   have hlen:=r'.length
   exact Calls.call_len_list pl.isList (by simp only [vQ];lia) ⟨.int xs.length,H,I.tok _,⟨_,by simp only [vQ];rw [hlen]⟩,q⟩
  ·subst e'
   obtain ⟨its,r',pl,hz⟩:=I.tuple hx
   have hlen:=r'.length
   exact len_tuple pl (by simp only [vQ];lia) ⟨.int xs.length,H,I.tok _,⟨_,by simp only [vQ];rw [hlen]⟩,q⟩
|_=>exact (show False from e).elim
end
structure ObjM (h:Heap) (x dx C:Addr) (mA:Str->Option Value):Prop where
 obj:h.get? x=some (PySem.W.instObj C dx)
 ns:h.Ns1 dx mA
 ne:dx≠x
theorem ztr {h:Heap} {dx:Addr} {mA:Str->Option Value} (n:h.Ns1 dx mA):∃ od,h.get? dx=some od/\∀ name,PySem.W.lookIn name od=some (mA name):=by
 obtain ⟨o,es,ep,ho,hd,hk,_,hm⟩:=n
 refine ⟨o,ho,λ name=>?_⟩
 have e:=hm name
 unfold nsFind findBy at e
 rw [<- Array.find?_toList] at e
 unfold PySem.W.lookIn
 rw [hd]
 dsimp only
 split
 ·rename_i y q
  rw [q] at e
  exact congrArg some e
 ·rename_i q
  rw [q] at e
  have a:es.toList.any (·.refKey)=false:=by
   rw [List.any_eq_false]
   intro y hy
   obtain ⟨z,t,hkey⟩:=hk y (Array.mem_toList_iff.mp hy)
   simp [DictEntry.refKey,hkey]
  have a':¬ es.toList.any (·.refKey)=true:=by rw [a];exact vS
  rw [if_neg a']
  exact congrArg some e
theorem ObjM.look {h:Heap} {x dx C:Addr} {mA:Str->Option Value} (I:ObjM h x dx C mA):∃ od,PySem.W.InstAt h x (PySem.W.instObj C dx) C (some od)/\∀ name,PySem.W.lookIn name od=some (mA name) :=
 let ⟨od,ho,hl⟩:=ztr I.ns
 ⟨od,⟨I.obj,rfl,rfl,ho⟩,hl⟩
section
variable {prog:Program} {w:World} {A:Around} {E:Value->Shared->Prop} {s:Shared} {K:Fg} {x dx C f:Addr} {mA:Str->Option Value} {name:Str} {v:Value}
theorem zjz {expr:Bool} {Q:Value->Shared->Prop} (X:K.In s.heap) (I:ObjM s.heap x dx C mA) (hg:PySem.W.plainGet K C name=true) (hh:PySem.W.hasDictIn K C=true)
  (ha:PySem.W.findIn K (.ref C) name=some none) (hv:mA name=some v) (hv':PySem.W.handedIn v=true) (h:Q v { s with toks:=s.toks+1 }) :
  wpAny (model prog w) A (getAttr (.ref x) name expr) Q E s:=by
 obtain ⟨od,J,hl⟩:=I.look
 exact PySem.W.get_value X J (PySem.W.plainGet_of hg).1 (PySem.W.findObj_own hh ha rfl (by rw [hl,hv])) hv' h
theorem zvv {pl:Sem Bool} {Q:Value×List Value->Shared->Prop} (X:K.In s.heap) (I:ObjM s.heap x dx C mA) (hg:PySem.W.plainGet K C name=true)
  (hf:PySem.W.findIn K (.ref C) name=some (some (.ref f))) (ht:PySem.W.isFn K (.ref f)=true) (hv:mA name=none) (h:Q (.ref f,[.ref x]) s) :
  wpAny (model prog w) A (getMethod (.ref x) name pl) Q E s:=by
 obtain ⟨od,J,hl⟩:=I.look
 exact PySem.W.method_fn X J (PySem.W.plainGet_of hg).1 (PySem.W.plainGet_of hg).2 hf (beq_iff_eq.mp ht) (by show (PySem.W.lookIn name od).map (·.isSome)=some false;rw [hl,hv];rfl) h
theorem zwz {ns:List Str} {Q:Unit->Shared->Prop} (X:K.In s.heap) (I:ObjM s.heap x dx C mA)
  (hs:PySem.W.findIn K (.ref C) "__setattr__"=some (some (.builtin "object.__setattr__"))) (hp:PySem.W.plainOver K C=true) (ht:PySem.W.takerIn K C name=some none) (hh:PySem.W.hasDictIn K C=true)
  (hw:PySem.Within mA ns) (hsz:ns.length<=sizeLine)
  (h:∀ h',ObjM h' x dx C (λ y=>if y=name then some v else mA y)->Heap.SameBut dx s.heap h'->Q () { s with heap:=h',toks:=s.toks+2 }) :
  wpAny (model prog w) A (setAttr (.ref x) name v) Q E s:=by
 obtain ⟨od,J,hl⟩:=I.look
 refine PySem.W.set_plain X J hs (PySem.W.osa_open (s:={ s with toks:=s.toks+1 }) (r:=none) X J hp ht λ b=>?_)
 obtain ⟨cd,hc,hd'⟩:=PySem.W.any_some hh
 have hx:s.heap.get? x=some ⟨.ref C,some dx,.plain,#[]⟩:=I.obj
 refine wpAny_bind (wpAny_pure (wpAny_bind (wpAny_bind (wpAny_loadPart hx (wpAny_bind (PySem.W.Looks.here (s:={ s with toks:=s.toks+1 }) (PySem.W.looks_clsIn X hc) ?_))))))
 rw [hd']
 refine wpAny_pure (a:=some dx) (wpAny_bind (wpAny_pure (wpAny_bind ?_)))
 refine wpAny_nsSet1 (s:={ s with toks:=s.toks+1 }) I.ns λ h' hn2 hs2=>?_
 obtain ⟨oD,esD,epD,hoD,hdD,hcD⟩:=hn2.count (PySem.Within.cons name v hw)
 refine wpAny_bind (wpAny_lookBehind hoD (by rw [hdD];exact pastItsLine_dict (wB hcD (by rw [xE];lia))) ?_)
 exact wpAny_pure (h _ ⟨(hs2.2 _ (Ne.symm I.ne)).trans I.obj,hn2,I.ne⟩ hs2)
theorem zjy {R:Result->Shared->Prop} {vs:List Value} {kw:List (Str×Value)} (X:K.In s.heap) (hm:PySem.W.makesIn K C=true)
  (hi:PySem.W.findIn K (.ref C) "__init__"=some (some (.ref f))) (hf:PySem.W.typeIn K (.ref f)=some (.type "function"))
  (h:codeAny (model prog w) (A.under (.builtin "type.__call__" ⟨.ref C :: vs,kw⟩)) (.call (.ref f) ⟨.ref (s.heap.objs.size+1) :: vs,kw⟩) (PySem.W.InitBack (s.heap.objs.size+1) R)
   { s with heap:=(s.heap.push PySem.W.emptyDict).push (PySem.W.instObj C s.heap.objs.size) }) :
  codeAny (model prog w) A (.call (.ref C) ⟨vs,kw⟩) R s:=by
 obtain ⟨hh,g,d,t,os⟩:=s
 exact PySem.W.make_core (PySem.W.makes_of X hm) (PySem.W.looks_findIn X hi) (λ self=>PySem.W.bind_fn X self hf) (.inl rfl) h
end
noncomputable def putF (f:Str) (v:V):List (Str×V)->List (Str×V)
|[]=>[(f,v)]
|(g,x) :: r=>if g=f then (g,v) :: r else (g,x) :: putF f v r
theorem zje (f g:Str) (v:V):∀ fs:List (Str×V),(putF f v fs).lookup g=if g=f then some v else fs.lookup g
|[]=>by
  show wQ g [(f,v)]=_
  by_cases h:g=f
  ·have hb:(g == f)=true:=beq_iff_eq.mpr h
   simp only [wQ,hb,if_pos h]
  ·have hb:(g == f)=false:=beq_eq_false_iff_ne.mpr h
   simp only [wQ,hb,if_neg h]
|(k,x) :: r=>by
  have ih:=zje f g v r
  rw [show putF f v ((k,x) :: r)=(if k=f then (k,v) :: r else (k,x) :: putF f v r) from rfl]
  by_cases hk:k=f
  ·rw [if_pos hk]
   by_cases h:g=k
   ·have hb:(g == k)=true:=beq_iff_eq.mpr h
    simp only [wQ,hb,if_pos (h.trans hk)]
   ·have hb:(g == k)=false:=beq_eq_false_iff_ne.mpr h
    simp only [wQ,hb,if_neg (λ e:g=f=>h (e.trans hk.symm))]
  ·rw [if_neg hk]
   by_cases h:g=k
   ·have hb:(g == k)=true:=beq_iff_eq.mpr h
    simp only [wQ,hb,if_neg (λ e:g=f=>hk (h.symm.trans e))]
   ·have hb:(g == k)=false:=beq_eq_false_iff_ne.mpr h
    simp only [wQ,hb]
    exact ih
theorem zif (f:Str) (v:V):∀ fs:List (Str×V),f∈(putF f v fs).map (·.1)/\∀ g,g∈fs.map (·.1)->g∈(putF f v fs).map (·.1)
|[]=>⟨by simp [putF],λ g h=>by simp at h⟩
|(k,x) :: r=>by
  obtain ⟨i1,i2⟩:=zif f v r
  rw [show putF f v ((k,x) :: r)=(if k=f then (k,v) :: r else (k,x) :: putF f v r) from rfl]
  by_cases hk:k=f
  ·rw [if_pos hk]
   subst hk
   exact ⟨by simp,λ g h=>by simpa using h⟩
  ·rw [if_neg hk]
   refine ⟨?_,λ g h=>?_⟩
   ·rw [vV]
    exact vU _ i1
   ·rw [vV] at h ⊢
    rcases vN.mp h with e|e
    ·exact vN.mpr (.inl e)
    ·exact vU _ (i2 g e)
theorem zhe (f:Str) (v:V):∀ fs:List (Str×V),(putF f v fs).length<=fs.length+1
|[]=>by simp [putF]
|(k,x) :: r=>by
  have ih:=zhe f v r
  rw [show putF f v ((k,x) :: r)=(if k=f then (k,v) :: r else (k,x) :: putF f v r) from rfl]
  by_cases hk:k=f
  ·rw [if_pos hk,xE,xE];lia
  ·rw [if_neg hk,xE,xE];lia
theorem RelO.some_of {v:V} {o:Option Value} (r:RelO (some v) o):∃ u,o=some u/\RelV v u:=by
 cases o with
|none=>exact (show False from r).elim
|some u=>exact ⟨u,rfl,r⟩
theorem RelO.none_of {o:Option Value} (r:RelO none o):o=none:=by
 cases o with
|none=>rfl
|some u=>exact (show False from r).elim
theorem zwr {v:V} {u:Value} (r:RelV v u):PySem.W.handedIn u=true:=by
 cases v with
|non=>cases (show u=yK from r);rfl
|bl b=>cases (show u=y3 b from r);rfl
|int i=>obtain ⟨t,e⟩:=(show ∃ t,u=xW i t from r);cases e;rfl
|str x=>obtain ⟨t,e⟩:=(show ∃ t,u=yJ x t from r);cases e;rfl
|byt b=>obtain ⟨t,e⟩:=(show ∃ t,u=Value.bytes b t from r);cases e;rfl
|flt b=>obtain ⟨t,e⟩:=(show ∃ t,u=zO b t from r);cases e;rfl
|ref a=>cases (show u=vO a from r);rfl
|ty n=>cases (show u=Value.type n from r);rfl
section
variable {P:Program} {w:World} {H H':Hp} {h h':Heap} {a C dx:Addr} {fs fs':List (Str×V)}
theorem zen (hok:HOk P w H h) (e:H a=some (.ins C dx fs)):∃ mA,ObjM h a dx C mA/\(∀ f,RelO (fs.lookup f) (mA f))/\PySem.Within mA (fs.map (·.1))/\fs.length<=1000/\H dx=some (.own a):=by
 obtain ⟨d,z,ne,ob,mA,n,r,q⟩:=(show ObjOk P w H h a (.ins C dx fs) from hok a _ e)
 exact ⟨mA,⟨ob,n,ne⟩,r,q,z,d⟩
end
structure Cls (K:Fg) (C:Addr):Prop where
 pg:PySem.W.plainGet K C Str.empty=true
 hd:PySem.W.hasDictIn K C=true
 po:PySem.W.plainOver K C=true
 sa:PySem.W.findIn K (.ref C) "__setattr__"=some (some (.builtin "object.__setattr__"))
theorem Cls.get {K:Fg} {C:Addr} (c:Cls K C) (f:Str):PySem.W.plainGet K C f=true:=c.pg
noncomputable def NoAttr (K:Fg) (C:Addr) (f:Str):Prop:=PySem.W.findIn K (.ref C) f=some none
theorem NoAttr.taker {K:Fg} {C:Addr} {f:Str} (n:NoAttr K C f):PySem.W.takerIn K C f=some none:=by
 unfold PySem.W.takerIn
 rw [show PySem.W.findIn K (.ref C) f=some none from n]
 rfl
structure Meth (K:Fg) (C:Addr) (m:Str) (f:Addr):Prop where
 at_:PySem.W.findIn K (.ref C) m=some (some (.ref f))
 fn:PySem.W.isFn K (.ref f)=true
 kp:PySem.W.keepIn K (.ref f)=true
section
variable {X:Cx} {pins:List (Addr×Obj)} {Y:St} {H:Hp} {s:Shared} {a C dx:Addr} {fs:List (Str×V)} {f:Str} {v:V} {A:Around} {E:Value->Shared->Prop}
theorem zli {b:Bool} {Q:Value->Shared->Prop} (I:Inv X pins Y H s) (e:H a=some (.ins C dx fs)) (c:Cls X.K C) (n:NoAttr X.K C f) (l:fs.lookup f=some v)
  (h:∀ u s',Inv X pins Y H s'->RelV v u->Q u s'):wpAny (model X.prog X.w) A (getAttr (.ref a) f b) Q E s:=by
 obtain ⟨mA,O,r,_,_,_⟩:=zen I.hok e
 obtain ⟨u,hu,ru⟩:=RelO.some_of (v:=v) (o:=mA f) (by rw [<- l];exact r f)
 exact zjz I.kIn O (c.get f) c.hd n hu (zwr ru) (h u _ (I.tok _) ru)
theorem zx7 {m:Str} {g:Addr} {pl:Sem Bool} {Q:Value×List Value->Shared->Prop} (I:Inv X pins Y H s) (e:H a=some (.ins C dx fs)) (c:Cls X.K C) (k:Meth X.K C m g) (l:fs.lookup m=none)
  (h:Q (.ref g,[.ref a]) s):wpAny (model X.prog X.w) A (getMethod (.ref a) m pl) Q E s:=by
 obtain ⟨mA,O,r,_,_,_⟩:=zen I.hok e
 have hn:mA m=none:=RelO.none_of (by rw [<- l];exact r m)
 exact zvv I.kIn O (c.get m) k.at_ k.fn hn h
theorem zoi {y:V} {u:Value} {Q:Unit->Shared->Prop} (I:Inv X pins Y H s) (e:H a=some (.ins C dx fs)) (c:Cls X.K C) (n:NoAttr X.K C f) (hl:fs.length < 1000) (ry:RelV y u)
  (h:∀ s',Inv X pins Y (upd H a (.ins C dx (putF f y fs))) s'->Q () s'):wpAny (model X.prog X.w) A (setAttr (.ref a) f u) Q E s:=by
 obtain ⟨mA,O,r,wi,_,ho⟩:=zen I.hok e
 have hz:(fs.map (·.1)).length<=sizeLine:=by rw [u4,sizeLine_eq];lia
 refine zwz I.kIn O c.sa c.po n.taker c.hd wi hz λ h' O' sb=>h _ ?_
 have hd:∃ o,h'.get? dx=some o:=let ⟨o,_,_,e',_⟩:=O'.ns;⟨o,e'⟩
 refine I.write (x:=a) (e:=dx) (by rw [e];exact True.intro) (.inr ho) (λ b q hb z=>(sb.2 b hb).trans z) hd ?_
 refine ⟨by rw [zw0 O.ne];exact ho,?_,O.ne,O'.obj,_,O'.ns,λ g=>?_,λ g hg=>?_⟩
 ·have:=zhe f y fs;lia
 ·show RelO ((putF f y fs).lookup g) (if g=f then some u else mA g)
  rw [zje]
  by_cases q:g=f
  ·rw [if_pos q,if_pos q];exact ry
  ·rw [if_neg q,if_neg q];exact r g
 ·by_cases q:g=f
  ·rw [q];exact (zif f y fs).1
  ·refine (zif f y fs).2 g (wi g λ z=>hg ?_)
   show (if g=f then some u else mA g)=none
   rw [if_neg q];exact z
theorem Inv.made (I:Inv X pins Y H s):Inv X pins Y (upd (upd H s.heap.objs.size (.own (s.heap.objs.size+1))) (s.heap.objs.size+1) (.ins C s.heap.objs.size []))
  { s with heap:=(s.heap.push PySem.W.emptyDict).push (PySem.W.instObj C s.heap.objs.size) }:=by
 have e1:(s.heap.push PySem.W.emptyDict).get? s.heap.objs.size=some PySem.W.emptyDict:=wT s.heap rfl
 have e2:((s.heap.push PySem.W.emptyDict).push (PySem.W.instObj C s.heap.objs.size)).get? (s.heap.objs.size+1)=some (PySem.W.instObj C s.heap.objs.size):=by
  have:=wT (s.heap.push PySem.W.emptyDict) (o:=PySem.W.instObj C s.heap.objs.size) rfl
  rwa [yB] at this
 have e3:(s.heap.push PySem.W.emptyDict).Ns s.heap.objs.size (λ _=>none):=⟨PySem.W.emptyDict,#[],_,e1,rfl,(λ e he=>absurd he (by simp)),λ _=>rfl⟩
 have I1:=I.laid (a:=s.heap.objs.size) (o:=.own (s.heap.objs.size+1)) (h':=s.heap.push PySem.W.emptyDict) (t':=s.toks) (λ b u q=>v7 _ q) (u8 _) ⟨_,e1⟩
 refine I1.laid (a:=s.heap.objs.size+1) (o:=.ins C s.heap.objs.size []) (t':=s.toks) (λ b u q=>v7 _ q) (Nat.le_of_eq (yB _ _)) ?_
 have ne:s.heap.objs.size≠s.heap.objs.size+1:=wE (zU _)
 refine ⟨by rw [zw0 ne,zo0],wY _,ne,e2,λ _=>none,(Heap.Ns1.of_empty e3).at λ o q=>v7 _ q,λ _=>True.intro,λ y hy=>absurd rfl hy⟩
theorem zf21 {prog:Program} {w:World} {env:Env} {e:Expr} {f:Str} {pos:Pos} {s:Shared} {Q:Value->Shared->Prop} (hb:attributeBase e f env (eval e env)=eval e env)
  (h:wpAny (model prog w) A (eval e env) (λ o s₁=>wpAny (model prog w) A (getAttr o f true) Q E s₁) E s):wpAny (model prog w) A (eval (.Attribute e f pos) env) Q E s :=
 Attribute_any_ h (by rw [arm_eval_Attribute,hb])
end
noncomputable def tFld (K:Fg) (ta:TE) (f:Str):TE:=λ Y H Q=>ta Y H λ x H1=>∃ a C dx fs v,x=.ref a/\H1 a=some (.ins C dx fs)/\Cls K C/\NoAttr K C f/\fs.lookup f=some v/\Q v H1
noncomputable def sFld (K:Fg) (ta tv:TE) (f:Str):TS:=λ D Y H=>tv Y H λ y H1=>ta Y H1 λ x H2=>∃ a C dx fs,x=.ref a/\H2 a=some (.ins C dx fs)/\Cls K C/\NoAttr K C f/\fs.length < 1000 /\
 D.nx Y (upd H2 a (.ins C dx (putF f y fs)))
noncomputable def InOp (X:Cx) (op:Operator) (rd:V->V->Hp->VK->Prop):Prop :=
 ∀ (pins:List (Addr×Obj)) (s:Shared) (Y:St) (H:Hp) (x y:V) (u v:Value) (Q:VK),Inv X pins Y H s->RelV x u->RelV y v->rd x y H Q->wpAny (model X.prog X.w) X.A (inplaceOp op u v) (EP X pins Y Q) X.xe s
noncomputable def zgu (K:Fg) (ta tv:TE) (rd:V->V->Hp->VK->Prop) (f:Str):TS:=λ D Y H=>ta Y H λ x H1=>∃ a C dx fs v,x=.ref a/\H1 a=some (.ins C dx fs)/\Cls K C/\NoAttr K C f/\fs.lookup f=some v /\
 tv Y H1 λ y H2=>rd v y H2 λ z H3=>∃ dx' fs',H3 a=some (.ins C dx' fs')/\fs'.length < 1000/\D.nx Y (upd H3 a (.ins C dx' (putF f z fs')))
section
variable {X:Cx} {o e value:Expr} {f:Str} {pos pos' tpos:Pos} {ta tv:TE}
theorem zg91 (he:PE X e ta) (hb:attributeBase e f X.env (eval e X.env)=eval e X.env):PE X (.Attribute e f pos) (tFld X.K ta f):=by
 intro pins s Y H Q I h
 refine zf21 hb (thn (he pins s Y H _ I h) λ u s1 hz=>?_)
 obtain ⟨x,H1,I1,rx,a,C,dx,fs,v,ex,ea,c,n,l,q⟩:=hz
 subst ex
 obtain rfl:u=vO a:=rx
 exact zli I1 ea c n l λ u' s2 I2 ru=>⟨v,H1,I2,ru,q⟩
theorem zr5 (ha:PE X o ta) (hv:PE X value tv) (hs:swapsWith value (some (.Attribute o f pos')) pos.line X.env=pure false):PS X (.Assign [.Attribute o f pos'] value pos) (sFld X.K ta tv f):=by
 intro pins s Y H D I h
 refine plainObj_wpAny_Assign_Attribute (thn (hv pins s Y H _ I h) λ u s1 ⟨y,H1,I1,ry,q⟩=>thn (ha pins s1 Y H1 _ I1 q) λ ov s2 hz=>?_) hs
 obtain ⟨x,H2,I2,rx,a,C,dx,fs,ex,ea,c,n,l,q2⟩:=hz
 subst ex
 obtain rfl:ov=vO a:=rx
 exact zoi I2 ea c n l ry λ s3 I3=>⟨Y,_,I3,q2⟩
theorem zat {op:Operator} {rd:V->V->Hp->VK->Prop} (ha:PE X o ta) (hv:PE X value tv) (hop:InOp X op rd):PS X (.AugAssign (.Attribute o f tpos) op value pos) (zgu X.K ta tv rd f):=by
 intro pins s Y H D I h
 refine wpAny_AugAssign_AttributeAny (thn (ha pins s Y H _ I h) λ ov s1 hz=>?_)
 obtain ⟨x,H1,I1,rx,a,C,dx,fs,v,ex,ea,c,n,l,q⟩:=hz
 subst ex
 obtain rfl:ov=vO a:=rx
 refine zli I1 ea c n l λ u s2 I2 ru=>thn (hv pins s2 Y H1 _ I2 q) λ w3 s3 ⟨y,H2,I3,ry,q3⟩=>thn (hop pins s3 Y H2 v y u w3 _ I3 ru ry q3) λ w4 s4 hz=>?_
 obtain ⟨z,H3,I4,rz,dx',fs',ea',l',q4⟩:=hz
 exact zoi I4 ea' c n l' rz λ s5 I5=>⟨Y,_,I5,q4⟩
noncomputable def rAdd:V->V->Hp->VK->Prop:=λ x y H Q=>∃ i j,x=.int i/\y=.int j/\Q (.int (i+j)) H
theorem zf91:InOp X .Add rAdd:=by
 rintro pins s Y H x y u v Q I rx ry ⟨i,j,rfl,rfl,q⟩
 obtain ⟨t,rfl⟩:=(show ∃ t,u=xW i t from rx)
 obtain ⟨t',rfl⟩:=(show ∃ t',v=xW j t' from ry)
 exact PyProof.Rows.iadd_int ⟨.int (i+j),H,I.tok _,⟨_,rfl⟩,q⟩
end
section
variable {X:Cx} {pins:List (Addr×Obj)} {Y:St} {H:Hp} {s:Shared} {A:Around} {E:Value->Shared->Prop} {Q:Value->Shared->Prop} {c:Value} {b:Bool}
inductive TyOf (K:Fg) (H:Hp):V->Value->Prop where
|non:TyOf K H .non (.type "NoneType")
|bl (x:Bool):TyOf K H (.bl x) (.type "bool")
|int (i:Int):TyOf K H (.int i) (.type "int")
|str (x:Str):TyOf K H (.str x) (.type "str")
|flt (x:UInt64):TyOf K H (.flt x) (.type "float")
|lst {a:Addr} {xs:List V} (e:H a=some (.lst xs)):TyOf K H (.ref a) (.type "list")
|frz {a:Addr} {o:Obj} {xs:List V} (e:H a=some (.frz o (.lst xs))):TyOf K H (.ref a) (.type "list")
|tup {a:Addr} {xs:List V} (e:H a=some (.tup xs)):TyOf K H (.ref a) (.type "tuple")
|dK {a:Addr} {kvs:List (Key×V)} (e:H a=some (.dK kvs)):TyOf K H (.ref a) (.type "dict")
|dT {a:Addr} {kvs:List (List Key×V)} (e:H a=some (.dT kvs)):TyOf K H (.ref a) (.type "dict")
|ins {a C dx:Addr} {fs:List (Str×V)} (e:H a=some (.ins C dx fs)) (cl:Cls K C) (ha:PySem.W.findIn K (.ref C) "__class__"=some (some (.builtin "object.__class__")))
   (hn:PySem.W.specialIn K (.builtin "object.__class__") "__get__"=some (some (.builtin "getset_descriptor.__get__"))) (htk:PySem.W.takesIn K (.builtin "object.__class__")=some true)
   (hm:PySem.W.mroIn K C (.type "object")=some true):TyOf K H (.ref a) (.ref C)
theorem zsr {x:V} {u t:Value} (I:Inv X pins Y H s) (rx:RelV x u) (ty:TyOf X.K H x t) (e:PySem.W.kitOne X.K t c=some b) (h:∀ tk,Q (.bool b) { s with toks:=tk }) :
  wpAny (model X.prog X.w) A (call (.builtin "isinstance") [u,c]) Q E s:=by
 cases ty with
|non=>cases (show u=yK from rx);exact PySem.W.kia_one PySem.W.kitx_none I.kIn True.intro e (λ z=>nomatch z) h
|bl y=>cases (show u=y3 y from rx);exact PySem.W.kia_one PySem.W.kitx_bool I.kIn True.intro e (λ z=>nomatch z) h
|int i=>obtain ⟨t,q⟩:=(show ∃ t,u=xW i t from rx);cases q;exact PySem.W.kia_one PySem.W.kitx_int I.kIn True.intro e (λ z=>nomatch z) h
|str y=>obtain ⟨t,q⟩:=(show ∃ t,u=yJ y t from rx);cases q;exact PySem.W.kia_one PySem.W.kitx_str I.kIn True.intro e (λ z=>nomatch z) h
|flt y=>obtain ⟨t,q⟩:=(show ∃ t,u=zO y t from rx);cases q;exact PySem.W.kia_one PySem.W.kitx_float I.kIn True.intro e (λ z=>nomatch z) h
|@lst a xs ea =>
  cases (show u=vO a from rx)
  obtain ⟨_,_,n,_,h1⟩:=(show ObjOk X.prog X.w H s.heap a (.lst xs) from I.hok a _ ea)
  exact PySem.W.kia_one PySem.W.kitx_list I.kIn ⟨_,h1,rfl⟩ e (λ z=>nomatch z) h
|@frz a ob xs ea =>
  cases (show u=vO a from rx)
  obtain ⟨_,_,_,n,_,h1⟩:=(show ObjOk X.prog X.w H s.heap a (.frz ob (.lst xs)) from I.hok a _ ea)
  exact PySem.W.kia_one PySem.W.kitx_list I.kIn ⟨_,h1,rfl⟩ e (λ z=>nomatch z) h
|@tup a xs ea =>
  cases (show u=vO a from rx)
  obtain ⟨_,_,_,p⟩:=(show ObjOk X.prog X.w H s.heap a (.tup xs) from I.hok a _ ea)
  obtain ⟨o,h1,h2,_⟩:=p
  exact PySem.W.kia_one PySem.W.kitx_tuple I.kIn ⟨o,h1,h2⟩ e (λ z=>nomatch z) h
|@dK a kvs ea =>
  cases (show u=vO a from rx)
  obtain ⟨_,_,vs,_,p⟩:=(show ObjOk X.prog X.w H s.heap a (.dK kvs) from I.hok a _ ea)
  obtain ⟨o,es,ep,h1,h2,_⟩:=p
  exact PySem.W.kia_one PySem.W.kitx_dict I.kIn ⟨o,h1,h2.1⟩ e (λ z=>nomatch z) h
|@dT a kvs ea =>
  cases (show u=vO a from rx)
  obtain ⟨_,_,xs,_,o,es,ep,h1,h2,_⟩:=(show ObjOk X.prog X.w H s.heap a (.dT kvs) from I.hok a _ ea)
  exact PySem.W.kia_one PySem.W.kitx_dict I.kIn ⟨o,h1,h2.1⟩ e (λ z=>nomatch z) h
|@ins a C dx fs ea cl ha hn htk hm =>
  cases (show u=vO a from rx)
  obtain ⟨mA,O,_⟩:=zen I.hok ea
  obtain ⟨od,J,_⟩:=O.look
  exact PySem.W.kia_one (PySem.W.kitx_own (cl.get _) cl.hd ha hn htk hm) I.kIn J e (λ z=>nomatch z) h
end
structure Room (k:Nat) (A:Around):Prop where
 hd:A.handled=none
 dp:A.depth+3 * k+5 < recursionLimit
 gd:A.guards=some []
 un:A.units+16 * k+200 < cLine
theorem Room.mono {j k:Nat} {A:Around} (r:Room k A) (h:j<=k):Room j A:=⟨r.hd,by have:=r.dp;lia,r.gd,by have:=r.un;lia⟩
theorem Room.deeper {k:Nat} {A:Around} (r:Room (k+1) A) (env:Env):Room k (A.deeper env) :=
 ⟨r.hd,by have:=r.dp;show A.depth+1+3 * k+5 < _;lia,r.gd,by have:=r.un;show A.units+3+16 * k+200 < _;lia⟩
theorem zvo {A:Around} {C:Addr} {us:List Value} {kw:List (Str×Value)}:(A.under (.builtin "type.__call__" ⟨.ref C :: us,kw⟩)).depth=A.depth+1:=by
 first|rfl|simp [Around.under,Code.weight,Code.isCreation,Code.isGuard,Code.isCaller,Code.frames,Code.isFrame,guardIds]
theorem zdp {A:Around} {C:Addr} {us:List Value} {kw:List (Str×Value)}:(A.under (.builtin "type.__call__" ⟨.ref C :: us,kw⟩)).units=A.units+1:=by
 first|rfl|simp [Around.under,Code.cUnits,Code.frames,Code.isFrame]
theorem Room.make {k:Nat} {A:Around} (r:Room (k+1) A) (C:Addr) (us:List Value) (kw:List (Str×Value)):Room k (A.under (.builtin "type.__call__" ⟨.ref C :: us,kw⟩)) :=
 ⟨r.hd,by have:=r.dp;rw [zvo];lia,r.gd,by have:=r.un;rw [zdp];lia⟩
theorem Room.depth {k:Nat} {A:Around} (r:Room k A):A.depth < recursionLimit:=by have:=r.dp;lia
theorem Room.units {k:Nat} {A:Around} (r:Room k A):A.units+64 < cLine:=by have:=r.un;lia
noncomputable def tNil:TA:=λ _ H Q=>Q [] H
noncomputable def zrn (ta:TE) (tr:TA):TA:=λ Y H Q=>ta Y H λ x H1=>tr Y H1 λ xs H2=>Q (x :: xs) H2
section
variable {X:Cx} {e:Expr} {es:List Expr} {te:TE} {t:TA} {pos:Pos}
theorem zh0:PA X [] tNil:=λ _ _ _ _ H Q I h=>Calls.spliced_nil ⟨[],H,I,.nil,h⟩
theorem zb0 (ha:PE X e te) (hr:PA X es t) (hs:starEach (e :: es) X.env=(false,eval e X.env) :: starEach es X.env:=by rfl):PA X (e :: es) (zrn te t):=by
 intro pos pins s Y H Q I h
 rw [hs]
 show wpAny _ _ (spliced ((false,eval e X.env) :: backTo pos (starEach es X.env))) _ _ s
 refine Calls.spliced_cons (thn (ha pins s Y H _ I h) λ u s1 hz=>?_)
 obtain ⟨x,H1,I1,r1,q1⟩:=hz
 exact thn (hr pos pins s1 Y H1 _ I1 q1) λ us s2 ⟨xs,H2,I2,r2,q2⟩=>⟨x :: xs,H2,I2,.cons r1 r2,q2⟩
noncomputable def tTup (t:TA):TE:=λ Y H Q=>t Y H λ xs H1=>xs.length<=sizeLine/\∀ p,H1 p=none->Q (.ref p) (upd H1 p (.tup xs))
noncomputable def tLst (t:TA):TE:=λ Y H Q=>t Y H λ xs H1=>xs.length<=sizeLine/\∀ p,H1 p=none->Q (.ref p) (upd H1 p (.lst xs))
theorem zz61 {x1} (h:PA X es t):PE X (.Tuple es x1 pos) (tTup t):=by
 intro pins s Y H Q I hq
 refine wpAny_Tuple_spliced (thn (h pos pins s Y H _ I hq) λ us s1 ⟨xs,H1,I1,r,z,q⟩=>⟨by rw [<- r.length];exact z,?_⟩)
 have hf:H1 s1.heap.objs.size=none:=I1.hok.fresh (u8 _)
 refine ⟨.ref s1.heap.objs.size,upd H1 s1.heap.objs.size (.tup xs),I1.laid (t':=s1.toks) (λ b u e=>v7 _ e) (u8 _) ?_,rfl,q _ hf⟩
 exact ⟨z,us,r,⟨_,wT _ rfl,rfl,_,rfl⟩⟩
theorem zt51 (h:PA X es t):PE X (.List es pos) (tLst t):=by
 intro pins s Y H Q I hq
 refine wpAny_List_spliced (thn (h pos pins s Y H _ I hq) λ us s1 ⟨xs,H1,I1,r,z,q⟩=>⟨by rw [<- r.length];exact z,?_⟩)
 have hf:H1 s1.heap.objs.size=none:=I1.hok.fresh (u8 _)
 refine ⟨.ref s1.heap.objs.size,upd H1 s1.heap.objs.size (.lst xs),I1.laid (t':=s1.toks) (λ b u e=>v7 _ e) (u8 _) ?_,rfl,q _ hf⟩
 exact ⟨z,us,0,r,wT _ rfl⟩
end
noncomputable abbrev Sp:=List V->Hp->VK->XK->Prop
noncomputable abbrev CXT:=List Env->Hp->Shared->XK->Value->Shared->Prop
structure Env0 (P:Program) (w:World) (K:Fg) (mg:Str->Option Value) (base:Heap) (A:Around) (outer:List Env) (s:Shared) (H:Hp):Prop where
 frames:A.frames=some outer
 mod:Mod K mg base
 bs:∀ b o,base.get? b=some o->s.heap.get? b=some o/\H b=none
 bsz:base.objs.size<=s.heap.objs.size
 funs:s.heap.FunFrames base outer
 frf:∀ b∈frs outer,H b=none
 hok:HOk P w H s.heap
 bare:AllBare s.gens
noncomputable def CE (outer:List Env) (P:Program) (w:World) (H:Hp) (s:Shared) (Q:VK) (u:Value) (s':Shared):Prop :=
 ∃ v H',s'.os=s.os/\AllBare s'.gens/\Un (frs outer) [] H H' s.heap s'.heap/\HOk P w H' s'.heap/\RelV v u/\Q v H'
noncomputable def CR (CX:CXT) (outer:List Env) (P:Program) (w:World) (H:Hp) (s:Shared) (Q:VK) (E:XK) (r:Result) (s':Shared):Prop :=
 match r with
|.ok (.ret u)=>CE outer P w H s Q u s'
|.ok _=>False
|.error e=>CX outer H s E e s'
structure FnOk (P:Program) (w:World) (K:Fg) (mg:Str->Option Value) (base:Heap) (CX:CXT) (k:Nat) (f:Addr) (fd:FuncData) (ps:List Str) (sp:Sp):Prop where
 len:∀ vs H Q E,sp vs H Q E->vs.length=ps.length
 run:∀ (A:Around) (outer:List Env) (s:Shared) (H:Hp) (args:Args) (us:List Value) (vs:List V) (Q:VK) (E:XK),Room k A->Env0 P w K mg base A outer s H->BindsTo s fd args (ps.zip us)->Vals vs us->sp vs H Q E ->
  codeAny (model P w) A (.call (.ref f) args) (CR CX outer P w H s Q E) s
theorem Env0.make {P:Program} {w:World} {K:Fg} {mg:Str->Option Value} {base:Heap} {A:Around} {outer:List Env} {s:Shared} {H:Hp} (e:Env0 P w K mg base A outer s H) (C:Addr) (us:List Value) (kw:List (Str×Value)) :
  Env0 P w K mg base (A.under (.builtin "type.__call__" ⟨.ref C :: us,kw⟩)) outer s H:=⟨by first|exact e.frames|(simpa [Around.under,Code.envs,Code.isFrame,pushEnvs] using e.frames),e.mod,e.bs,e.bsz,e.funs,e.frf,e.hok,e.bare⟩
section
variable {X:Cx} {pins:List (Addr×Obj)} {Y:St} {H:Hp} {s s':Shared}
theorem Inv.env0 (I:Inv X pins Y H s):Env0 X.prog X.w X.K X.mg X.base X.A X.stack s H :=
 ⟨I.ok.frames,I.ok.mod,I.bs,wB I.ok.bsz I.sz,I.stack,I.stkFree,I.hok,I.bare⟩
theorem Inv.after {Q:VK} {u:Value} (I:Inv X pins Y H s) (h:CE X.stack X.prog X.w H s Q u s'):EP X pins Y Q u s':=by
 obtain ⟨v,H',os,bare,un,hok,r,q⟩:=h
 obtain ⟨hh,g,d,t,os'⟩:=s'
 obtain rfl:os'=s.os:=os
 exact ⟨v,H',I.call (h':=hh) (g':=g) (d':=d) (t':=t) (ch:=[]) un hok bare (λ b z=>absurd z (by simp)),r,q⟩
end
noncomputable def zlv (sp:Sp) (dvs:List V) (E:XK) (t:TA):TE:=λ Y H Q=>t Y H λ vs H1=>sp (vs++dvs) H1 Q E
noncomputable def zzy (C:Addr) (m:Str) (sp:Sp) (dvs:List V) (E:XK) (ta:TE) (t:TA):TE:=λ Y H Q=>ta Y H λ x H1=>∃ a dx fs,x=.ref a/\H1 a=some (.ins C dx fs)/\fs.lookup m=none /\
 t Y H1 λ vs H2=>sp (x :: (vs++dvs)) H2 Q E
noncomputable def zs81 (C:Addr) (sp:Sp) (dvs:List V) (E:XK) (t:TA):TE:=λ Y H Q=>t Y H λ vs H1=>∀ x dx,H1 x=none->H1 dx=none->dx≠x ->
 sp (.ref x :: (vs++dvs)) (upd (upd H1 dx (.own x)) x (.ins C dx [])) (λ v H2=>v=.non/\Q (.ref x) H2) E
noncomputable def Binds (K:Fg) (fd:FuncData) (ps:List Str) (ds:List Value):Prop :=
 ∀ (s:Shared) (us:List Value),K.In s.heap->(us++ds).length=ps.length->BindsTo s fd ⟨us,[]⟩ (ps.zip (us++ds))
theorem Binds.all {K:Fg} {fd:FuncData} {ps:List Str} (h:∀ us:List Value,us.length=ps.length->bindArgs fd ⟨us,[]⟩=pure (ps.zip us)):Binds K fd ps []:=λ s us _ hl=>by
 rw [wI] at hl ⊢
 exact .of_eq (h us hl)
noncomputable def zak (CX:CXT) (X:Cx) (E:XK):Prop:=∀ (pins:List (Addr×Obj)) (Y:St) (H:Hp) (s:Shared) (e:Value) (s':Shared),Inv X pins Y H s->CX X.stack H s E e s'->X.xe e s'
section
variable {X:Cx} {CX:CXT} {k:Nat} {f C:Addr} {fd:FuncData} {ps:List Str} {sp:Sp} {dvs:List V} {ds:List Value} {E:XK} {x m:Str} {p pos apos:Pos} {e o:Expr} {es:List Expr} {ta:TE} {t:TA}
theorem zyr {pins:List (Addr×Obj)} {Y:St} {H:Hp} {s:Shared} {Q:VK} {us:List Value} {vs:List V} (F:FnOk X.prog X.w X.K X.mg X.base CX k f fd ps sp) (hr:Room k X.A) (hb:Binds X.K fd ps ds) (hd:Vals dvs ds) (hx:zak CX X E)
  (I:Inv X pins Y H s) (r:Vals vs us) (h:sp (vs++dvs) H Q E):wpAny (model X.prog X.w) X.A (call (.ref f) us) (EP X pins Y Q) X.xe s:=by
 have r2:Vals (vs++dvs) (us++ds):=r.append hd
 have hl:(us++ds).length=ps.length:=by rw [<- r2.length];exact F.len _ _ _ _ h
 refine wpAny_call (codeAny_mono (F.run X.A X.stack s H ⟨us,[]⟩ (us++ds) (vs++dvs) Q E hr I.env0 (hb s us I.kIn hl) r2 h) λ r s' hq=>?_)
 cases r with
|error e=>exact hx pins Y H s e s' I hq
|ok fl =>
  cases fl with
 |ret u=>exact I.after hq
 |next=>exact False.elim hq
 |brk=>exact False.elim hq
 |cont=>exact False.elim hq
theorem znt (F:FnOk X.prog X.w X.K X.mg X.base CX k f fd ps sp) (hr:Room k X.A) (hg:Gl X x) (hm:X.mg x=some (.ref f)) (hk:PySem.W.keepIn X.K (.ref f)=true) (hb:Binds X.K fd ps ds) (hd:Vals dvs ds) (hx:zak CX X E)
  (ha:PA X (e :: es) t) (hdb:(x == ("__debug__":Str))=false:=by decide) (he:starEach (e :: es) X.env=(false,eval e X.env) :: starEach es X.env:=by rfl) (hpl:(backTo pos (starEach es X.env)).any (·.1)=false:=by rfl) :
  PE X (.Call (.Name x p) (e :: es) [] pos) (zlv sp dvs E t):=by
 intro pins s Y H Q I h
 refine wpAny_Call_Name_kw (zzt I hg hm ?_ hdb)
 refine PySem.W.callWith_K (h₀:=X.base) I.ok.mod.kin hk (thn (ha pos pins s Y H _ I h) λ us s1 ⟨vs,H1,I1,r,q⟩=>⟨I1.kIn,?_⟩) he hpl
 exact zyr F hr hb hd hx I1 r q
theorem zh01 {pl:Sem Bool} (he:PE X o ta) (c:Cls X.K C) (hm:Meth X.K C m f) (F:FnOk X.prog X.w X.K X.mg X.base CX k f fd ps sp) (hr:Room k X.A) (hb:Binds X.K fd ps ds) (hd:Vals dvs ds) (hx:zak CX X E) (ha:PA X (e :: es) t)
  (hst:starEach (e :: es) X.env=(false,eval e X.env) :: starEach es X.env:=by rfl) (hpl:(backTo pos (starEach es X.env)).any (·.1)=false:=by rfl)
  (ht:eval (.Call (.Attribute o m apos) (e :: es) [] pos) X.env=(do
   let ov <- eval o X.env
   standAt apos.atName
   let (f,first) <- holding [ov] (getMethod ov m pl)
   callWith pos f first (backTo pos (starEach (e :: es) X.env)) (backToKw pos (keywordEach [] X.env))):=by rfl) :
  PE X (.Call (.Attribute o m apos) (e :: es) [] pos) (zzy C m sp dvs E ta t):=by
 intro pins s Y H Q I h
 refine PySem.W.methodCall_KW (pl:=pl) (thn (he pins s Y H _ I h) λ u s1 hz=>?_) ht
 obtain ⟨x,H1,I1,rx,a,dx,fs,ex,ea,l,q⟩:=hz
 subst ex
 obtain rfl:u=vO a:=rx
 refine zx7 I1 ea c hm l ?_
 refine PySem.W.callWith_K (first:=[.ref a]) (h₀:=X.base) I.ok.mod.kin hm.kp (thn (ha pos pins s1 Y H1 _ I1 q) λ us s2 ⟨vs,H2,I2,r,q2⟩=>⟨I2.kIn,?_⟩) hst hpl
 exact zyr (us:=.ref a :: us) (vs:=.ref a :: vs) F hr hb hd hx I2 (.cons rfl r) q2
theorem zjx {pl:Sem Bool} (he:PE X o ta) (c:Cls X.K C) (hm:Meth X.K C m f) (F:FnOk X.prog X.w X.K X.mg X.base CX k f fd ps sp) (hr:Room k X.A) (hb:Binds X.K fd ps ds) (hd:Vals dvs ds) (hx:zak CX X E)
  (ht:eval (.Call (.Attribute o m apos) [] [] pos) X.env=(do
   let ov <- eval o X.env
   standAt apos.atName
   let (f,first) <- holding [ov] (getMethod ov m pl)
   callWith pos f first (backTo pos (starEach [] X.env)) (backToKw pos (keywordEach [] X.env))):=by rfl) :
  PE X (.Call (.Attribute o m apos) [] [] pos) (zzy C m sp dvs E ta tNil):=by
 intro pins s Y H Q I h
 refine PySem.W.methodCall_KW (pl:=pl) (thn (he pins s Y H _ I h) λ u s1 hz=>?_) ht
 obtain ⟨x,H1,I1,rx,a,dx,fs,ex,ea,l,q⟩:=hz
 subst ex
 obtain rfl:u=vO a:=rx
 refine zx7 I1 ea c hm l ?_
 exact PySem.W.callWith_K0 (first:=[.ref a]) I1.kIn hm.kp (zyr (us:=[.ref a]) (vs:=[.ref a]) F hr hb hd hx I1 (.cons rfl .nil) q)
structure Mk (K:Fg) (C f:Addr):Prop where
 makes:PySem.W.makesIn K C=true
 init:PySem.W.findIn K (.ref C) "__init__"=some (some (.ref f))
 fn:PySem.W.isFn K (.ref f)=true
 kp:PySem.W.keepIn K (.ref C)=true
theorem zgw {pins:List (Addr×Obj)} {Y:St} {H:Hp} {s:Shared} {Q:VK} {us:List Value} {vs:List V} (M:Mk X.K C f) (F:FnOk X.prog X.w X.K X.mg X.base CX k f fd ps sp) (hr:Room (k+1) X.A) (hb:Binds X.K fd ps ds) (hd:Vals dvs ds)
  (hx:zak CX X E) (I:Inv X pins Y H s) (r:Vals vs us)
  (h:∀ x dx,H x=none->H dx=none->dx≠x->sp (.ref x :: (vs++dvs)) (upd (upd H dx (.own x)) x (.ins C dx [])) (λ v H2=>v=.non/\Q (.ref x) H2) E) :
  wpAny (model X.prog X.w) X.A (call (.ref C) us) (EP X pins Y Q) X.xe s:=by
 have hq:=h (s.heap.objs.size+1) s.heap.objs.size (I.hok.fresh (y6 _)) (I.hok.fresh (u8 _)) (wE (zU _))
 have I2:=Inv.made (C:=C) I
 have r2:Vals (V.ref (s.heap.objs.size+1) :: (vs++dvs)) (vO (s.heap.objs.size+1) :: (us++ds)):=.cons rfl (r.append hd)
 have hl:(vO (s.heap.objs.size+1) :: us++ds).length=ps.length:=by
  have e:=r2.length
  rw [F.len _ _ _ _ hq] at e
  exact e.symm
 refine wpAny_call (zjy (f:=f) I.kIn M.makes M.init (beq_iff_eq.mp M.fn) (codeAny_mono (F.run _ X.stack _ _ ⟨vO (s.heap.objs.size+1) :: us,[]⟩ (vO (s.heap.objs.size+1) :: (us++ds)) _ _ E (hr.make C us [])
  (I2.env0.make C us []) (hb _ (vO (s.heap.objs.size+1) :: us) I2.kIn hl) r2 hq) λ r s' hq'=>?_))
 cases r with
|error e=>exact hx pins Y _ _ e s' I2 hq'
|ok fl =>
  cases fl with
 |ret u =>
   obtain ⟨v,H',I3,rv,ev,q3⟩:=I2.after hq'
   subst ev
   exact ⟨rv,⟨V.ref (s.heap.objs.size+1),H',I3,rfl,q3⟩⟩
 |next=>exact False.elim hq'
 |brk=>exact False.elim hq'
 |cont=>exact False.elim hq'
theorem zp11 (M:Mk X.K C f) (F:FnOk X.prog X.w X.K X.mg X.base CX k f fd ps sp) (hr:Room (k+1) X.A) (hg:Gl X x) (hm:X.mg x=some (.ref C)) (hb:Binds X.K fd ps ds) (hd:Vals dvs ds) (hx:zak CX X E)
  (ha:PA X (e :: es) t) (hdb:(x == ("__debug__":Str))=false:=by decide) (he:starEach (e :: es) X.env=(false,eval e X.env) :: starEach es X.env:=by rfl) (hpl:(backTo pos (starEach es X.env)).any (·.1)=false:=by rfl) :
  PE X (.Call (.Name x p) (e :: es) [] pos) (zs81 C sp dvs E t):=by
 intro pins s Y H Q I h
 refine wpAny_Call_Name_kw (zzt I hg hm ?_ hdb)
 refine PySem.W.callWith_K (h₀:=X.base) I.ok.mod.kin M.kp (thn (ha pos pins s Y H _ I h) λ us s1 ⟨vs,H1,I1,r,q⟩=>⟨I1.kIn,?_⟩) he hpl
 exact zgw M F hr hb hd hx I1 r q
end
section
variable {X:Cx} {CX:CXT} {k:Nat} {f C:Addr} {fd:FuncData} {ps ks:List Str} {sp:Sp} {E:XK} {x m:Str} {p pos apos kpos:Pos} {e o:Expr} {es:List Expr} {kws:List Keyword} {te ta:TE} {t tk:TA} {nm:Option Str}
variable {g:List Value->List Value->List Value} {gV:List V->List V->List V}
end
structure FnScope (N P:List Str) (sc:Scope):Prop where
 kind:sc.kind=.function
 co:sc.isCoroutine=false
 gen:sc.isGenerator=false
 nd:N.Nodup
 pre:N.take P.length=P
 par:∀ x∈P,sc.names.lookup x=some .local \/ sc.names.lookup x=some .cell
 nofree:∀ y∈sc.names,y.2≠.free
theorem zmm {kindOf:Str->Option NameKind} {x:Str}:∀ {binds:List (Str×Value)} {m:Str->Option Value},(∀ v,(x,v) ∉ binds)->bindL kindOf binds m x=m x
|[],_,_=>rfl
|(n,v) :: r,m,h=>by
  unfold bindL
  rw [zmm λ w hw=>h w (vU _ hw)]
  split
  ·have:x≠n:=by rintro rfl;exact h v v6
   simp [this]
  ·rfl
theorem zbm {kindOf:Str->Option NameKind} {x:Str}:∀ {binds:List (Str×Value)} {m:Str->Option Value},(∀ v,(x,v) ∉ binds)->bindC kindOf binds m x=m x
|[],_,_=>rfl
|(n,v) :: r,m,h=>by
  unfold bindC
  rw [zbm λ w hw=>h w (vU _ hw)]
  split
  ·rfl
  ·have:x≠n:=by rintro rfl;exact h v v6
   simp [this]
theorem zlm {kindOf:Str->Option NameKind} {x:Str} {v:Value}:∀ {P:List Str} {vs:List Value} {i:Nat} {m:Str->Option Value},P.Nodup->P[i]?=some x->vs[i]?=some v->kindOf x=some .local ->
  bindL kindOf (P.zip vs) m x=some v
|[],_,_,_,_,h,_,_=>by simp at h
|_ :: _,[],_,_,_,_,h,_=>by simp at h
|p :: P,w :: vs,0,m,nd,h1,h2,hk=>by
  simp at h1 h2;subst h1;subst h2
  show bindL kindOf ((p,w) :: P.zip vs) m p=_
  unfold bindL
  rw [zmm λ v hv=>(vY.mp nd).1 (zV hv).1,if_pos hk]
  simp
|p :: P,w :: vs,i+1,m,nd,h1,h2,hk=>by
  show bindL kindOf ((p,w) :: P.zip vs) m x=_
  unfold bindL
  exact zlm (i:=i) (vY.mp nd).2 (by simpa using h1) (by simpa using h2) hk
theorem zam {kindOf:Str->Option NameKind} {x:Str} {v:Value}:∀ {P:List Str} {vs:List Value} {i:Nat} {m:Str->Option Value},P.Nodup->P[i]?=some x->vs[i]?=some v->kindOf x≠some .local ->
  bindC kindOf (P.zip vs) m x=some v
|[],_,_,_,_,h,_,_=>by simp at h
|_ :: _,[],_,_,_,_,h,_=>by simp at h
|p :: P,w :: vs,0,m,nd,h1,h2,hk=>by
  simp at h1 h2;subst h1;subst h2
  show bindC kindOf ((p,w) :: P.zip vs) m p=_
  unfold bindC
  rw [zbm λ v hv=>(vY.mp nd).1 (zV hv).1,if_neg hk]
  simp
|p :: P,w :: vs,i+1,m,nd,h1,h2,hk=>by
  show bindC kindOf ((p,w) :: P.zip vs) m x=_
  unfold bindC
  exact zam (i:=i) (vY.mp nd).2 (by simpa using h1) (by simpa using h2) hk
noncomputable def start (N:List Str) (vs:List V):St:=vs.map some++u7 (N.length - vs.length) none
noncomputable def cxOf (CX:CXT) (P:Program) (w:World) (K:Fg) (mg:Str->Option Value) (base:Heap) (N:List Str) (qual:Str) (scope:Scope) (f:Addr) (cd:Value) (A:Around) (outer:List Env) (s:Shared) (H:Hp) (E:XK):Cx where
 prog:=P
 w:=w
 K:=K
 mg:=mg
 base:=base
 A:=A.deeper (envOfC qual scope s.heap.objs.size f cd)
 N:=N
 s₀:=s
 H₀:=H
 env:=envOfC qual scope s.heap.objs.size f cd
 outer:=outer
 stack:=envOfC qual scope s.heap.objs.size f cd :: outer
 ex:=[]
 calm:=true
 fn:=λ _=>true
 pn:=[]
 xe:=λ e s'=>wpAny (model P w) (A.deeper (envOfC qual scope s.heap.objs.size f cd)) (leaving (envOfC qual scope s.heap.objs.size f cd) e) (λ _ s''=>CX outer H s E e s'') (λ e' s''=>CX outer H s E e' s'') s'
theorem zaq {sc:Scope} {n:Nat} {x:Str} (h:sc.names.lookup x=some .cell):∃ c,(cellsFrom n sc.names []).lookup x=some c:=by
 have q:=PySem.W.cellsFrom_some sc.names n [] (.inl h)
 exact xA.mp q
theorem zis {CX:CXT} {P:Program} {w:World} {K:Fg} {mg:Str->Option Value} {base:Heap} {N ps:List Str} {qual:Str} {scope:Scope} {f:Addr} {cd:Value} {A:Around} {outer:List Env} {s s1:Shared} {H:Hp} {E:XK} {us:List Value} {vs:List V}
  (S:FnScope N ps scope) (hd:A.handled=none) (e0:Env0 P w K mg base A outer s H) (hl:vs.length=ps.length) (r:Vals vs us)
  (x:InCallC s s.heap.objs.size (bindL (envOfC qual scope s.heap.objs.size f cd).kindOf (ps.zip us) λ _=>none) (cellsFrom (s.heap.objs.size+1) scope.names []) (bindC (envOfC qual scope s.heap.objs.size f cd).kindOf (ps.zip us) λ _=>none) s1) :
  Inv (cxOf CX P w K mg base N qual scope f cd A outer s H E) [] (start N vs) H s1:=by
 have hpl:ps.length<=N.length:=by have:=congrArg y8 S.pre;rw [wF] at this;lia
 obtain ⟨h1,tk,rfl,hk⟩:=x.done
 have noA:∀ b:Addr,b ∉ (cxOf CX P w K mg base N qual scope f cd A outer s H E).ex:=λ b z=>absurd (show b∈([]:List Addr) from z) (by simp)
 refine ⟨⟨e0.mod,S.kind,rfl,rfl,u8 _,λ y z c h1 h2=>?_,λ y hy=>?_,λ y c _ h=>?_,λ _=>hd,Around.frames_deeper e0.frames,.inr ⟨rfl,rfl⟩,λ b z=>absurd z (noA b),e0.bs,e0.bsz,λ b _ _=>noA b,λ b z=>absurd z (noA b),e0.funs,e0.frf⟩,
  rfl,e0.bare,Un.kept hk,⟨_,x.toInCall.ns,λ i y v h1 h2 h3=>?_⟩,λ y c h=>⟨_,x.cell y c h⟩,e0.hok.fresh (u8 _),λ y c h=>?_,λ p hp=>absurd (show p∈([]:List (Addr×Obj)) from hp) (by simp),e0.hok.kept hk,?_⟩
 ·exact name_of_addr x.apart (PySem.mem_of_lookup h1) (PySem.mem_of_lookup h2)
 ·have hy:scope.names.lookup y=some .cell \/ scope.names.lookup y=some .free:=hy
  rcases hy with hy|hy
  ·exact zaq hy
  ·exact absurd rfl (S.nofree _ (PySem.mem_of_lookup hy))
 ·exact xX (x.above y c (PySem.mem_of_lookup h))
 ·have hi:i < vs.length:=by
   unfold start at h2
   by_cases hi:i < vs.length
   ·exact hi
   ·rw [wM (by simpa using hi)] at h2
    rw [xB] at h2
    split at h2 <;> cases h2
  have ha:vs[i]?=some v:=by
   unfold start at h2
   rw [wR (by simpa using hi),u6] at h2
   cases e:vs[i]? with
  |none=>rw [e] at h2;cases h2
  |some a=>rw [e] at h2;cases h2;rfl
  obtain ⟨u,hu,rv⟩:=r.get ha
  have hp:ps[i]?=some y:=by
   rw [<- S.pre,j6 (by lia)];exact h1
  have ndP:ps.Nodup:=by rw [<- S.pre];exact S.nd.sublist (List.take_sublist _ _)
  refine ⟨u,rv,?_⟩
  rcases S.par y (v8 hp) with k|k
  ·exact .inl ⟨k,zlm ndP hp hu k⟩
  ·obtain ⟨c,e⟩:=zaq (n:=s.heap.objs.size+1) k
   refine .inr ⟨.inl k,c,e,?_⟩
   have q:=x.cell y c e
   rw [zam ndP hp hu (by show scope.names.lookup y≠_;rw [k];decide)] at q
   exact q
 ·exact e0.hok.fresh (xX (x.above y c (PySem.mem_of_lookup h)))
 ·unfold start
  show _=N.length
  rw [vJ,u4,xF]
  lia
theorem zub1 {CX:CXT} {P:Program} {w:World} {K:Fg} {mg:Str->Option Value} {base:Heap} {k:Nat} {f:Addr} {name qual:Str} {params:Arguments} {body:List Stmt} {scope:Scope} {dV kV doc pm cdv ct oc:Value} {an od:Option Addr}
  {osl:Array (Option Value)} {N ps:List Str} {sp:Sp} (lk:K.lookup f=some ⟨oc,od,.func (PySem.W.fnOf name qual params body scope dV kV doc pm an cdv ct),osl⟩) (hcd:PySem.W.codeIn K cdv qual=true) (S:FnScope N ps scope)
  (len:∀ vs H Q E,sp vs H Q E->vs.length=ps.length)
  (hbody:∀ (A:Around) (outer:List Env) (s:Shared) (H:Hp) (vs:List V) (Q:VK) (E:XK),Room k (A.deeper (envOfC qual scope s.heap.objs.size f cdv))->sp vs H Q E ->
   ∃ t,PSs (cxOf CX P w K mg base N qual scope f cdv A outer s H E) body t/\t { nx:=λ _ H'=>Q .non H',rt:=Q } (start N vs) H) :
  FnOk P w K mg base CX (k+1) f (PySem.W.fnOf name qual params body scope dV kV doc pm an cdv ct) ps sp:=by
 refine ⟨len,λ A outer s H args us vs Q E hr e0 hb r hsp=>?_⟩
 have hl:=len _ _ _ _ hsp
 have KX:K.In s.heap:=e0.mod.kin.keeps λ b o e=>(e0.bs b o e).1
 have lim:s.heap.NoLimit:=e0.mod.nolimit.keeps λ b o e=>(e0.bs b o e).1
 have hkind:∀ y∈ps.zip us,scope.names.lookup y.1=some .local \/ (scope.names.lookup y.1=some .cell/\((cellsFrom (s.heap.objs.size+1) scope.names []).lookup y.1).isSome=true):=λ ⟨n,v⟩ hy=>by
  rcases S.par n (zV hy).1 with q|q
  ·exact .inl q
  ·exact .inr ⟨q,PySem.W.cellsFrom_some _ _ _ (.inl q)⟩
 refine codeAny_call_function hr.depth (KX _ _ lk) rfl S.co S.gen rfl (PySem.W.codeRec_of KX hcd) (hb _ _ _ _ ?_)
 refine wpAny_newFunctionEnv_cells S.kind hkind λ env he s1 x=>?_
 subst he
 refine ⟨lim.keeps x.toInCall.keep,codeAny_func ?_⟩
 obtain ⟨t,ht,hq⟩:=hbody A outer s H vs Q E (hr.deeper _) hsp
 have I:Inv (cxOf CX P w K mg base N qual scope f cdv A outer s H E) [] (start N vs) H s1:=zis S hr.hd e0 hl r x
 refine wpAny_mono (ht [] s1 (start N vs) H _ I hq) (λ fl s' hs=>?_) λ e s' hs=>hs
 have fin:∀ {Y':St} {H':Hp} {v:V} {u:Value},Inv (cxOf CX P w K mg base N qual scope f cdv A outer s H E) [] Y' H' s'->RelV v u->Q v H'->CE outer P w H s Q u s' :=
  λ {Y' H' v u} J rv q=>⟨v,H',J.os,J.bare,J.base,J.hok,rv,q⟩
 cases fl with
|ret u =>
  obtain ⟨v,Y',H',J,rv,q⟩:=hs
  exact fin J rv q
|next =>
  obtain ⟨Y',H',J,q⟩:=hs
  exact fin (v:=V.non) (u:=yK) J rfl q
|brk =>
  obtain ⟨_,_,_,q⟩:=hs
  exact False.elim q
|cont =>
  obtain ⟨_,_,_,q⟩:=hs
  exact False.elim q
section
variable {X:Cx} {x:Str} {p pos:Pos} {e:Expr} {es:List Expr} {t:TA} {id T:String} {r:List V->Hp->VK->Prop}
noncomputable def tCB (r:List V->Hp->VK->Prop) (t:TA):TE:=λ Y H Q=>t Y H λ vs H1=>r vs H1 Q
theorem zh1 (hc:CallR X (.builtin id) r) (hg:Gl X x) (hm:X.mg x=none) (hv:bootBuiltins x=some (.builtin id)) (ha:PA X (e :: es) t) (hn:x ≠ "__name__":=by decide) (hdb:(x == ("__debug__":Str))=false:=by decide)
  (he:starEach (e :: es) X.env=(false,eval e X.env) :: starEach es X.env:=by rfl) (hpl:(backTo pos (starEach es X.env)).any (·.1)=false:=by rfl):PE X (.Call (.Name x p) (e :: es) [] pos) (tCB r t):=by
 intro pins s Y H Q I h
 refine wpAny_Call_Name_kw (zyn I hg hm hv ?_ hn hdb)
 exact PyProof.Rows.callWith_builtin1 (thn (ha pos pins s Y H _ I h) λ us s1 ⟨vs,H1,I1,r1,q1⟩=>hc pins s1 Y H1 vs us Q I1 r1 q1) he hpl
theorem zh4 (hc:CallR X (.type T) r) (hg:Gl X x) (hm:X.mg x=none) (hv:bootBuiltins x=some (.type T)) (ha:PA X (e :: es) t) (hn:x ≠ "__name__":=by decide) (hdb:(x == ("__debug__":Str))=false:=by decide)
  (he:starEach (e :: es) X.env=(false,eval e X.env) :: starEach es X.env:=by rfl) (hpl:(backTo pos (starEach es X.env)).any (·.1)=false:=by rfl):PE X (.Call (.Name x p) (e :: es) [] pos) (tCB r t):=by
 intro pins s Y H Q I h
 refine wpAny_Call_Name_kw (zyn I hg hm hv ?_ hn hdb)
 exact PyProof.Rows.callWith_type1 (thn (ha pos pins s Y H _ I h) λ us s1 ⟨vs,H1,I1,r1,q1⟩=>hc pins s1 Y H1 vs us Q I1 r1 q1) he hpl
end
end L2
namespace HT
open PySem PyProof.Rows
section
open PySem.SeqAt
open PySem.AutoSeq1 (wpAny_loadPart')
open PySem.MeetsSeq PySem.MeetsSeq2 PySem.MeetsSeq3
end
section
variable {prog:Program} {w:World} {A:Around} {E:Value->Shared->Prop} {s:Shared}
theorem cat_tup {t b:Addr} {vs ws:List Value} {Q:Value->Shared->Prop} (ht:IsTup s.heap t vs.toArray) (hb:IsTup s.heap b ws.toArray) (hv:vs≠[])
  (h1:ws=[]->Q (.ref t) s) (h2:ws≠[]->Q (.ref s.heap.objs.size) { s with heap:=s.heap.push { cls:=.type "tuple",data:=.seq (vs++ws).toArray } })
  (hsz:vs.length+ws.length<=sizeLine):wpAny (model prog w) A (binaryOp .Add (.ref t) (.ref b)) Q E s:=by
 obtain ⟨⟨cls,dd,data,sl⟩,ho,hc,n,hd⟩:=id ht
 obtain ⟨⟨cls2,dd2,data2,sl2⟩,ho2,hc2,n2,hd2⟩:=id hb
 simp only at hc hd hc2 hd2
 subst hc hd hc2 hd2
 have e:vs.toArray++ws.toArray=(vs++ws).toArray:=by simp
 by_cases hw:ws=[]
 ·exact concat_meets ⟨_,ho,rfl⟩ ⟨_,ho2,rfl⟩ noFill_tuple_add seq_tuple_add PySem.F.slot_tuple_add PySem.F.entry_tuple_add (PySem.F.args_tuple_add_2 _ _)
   (tuple_addW1 t b vs.toArray ws.toArray n n2 dd dd2 sl sl2 (by simpa using hv) (by simp [hw])) ⟨ho,ho2,h1 hw⟩
 ·refine concat_meets ⟨_,ho,rfl⟩ ⟨_,ho2,rfl⟩ noFill_tuple_add seq_tuple_add PySem.F.slot_tuple_add PySem.F.entry_tuple_add (PySem.F.args_tuple_add_2 _ _)
   (tuple_addW2 t b vs.toArray ws.toArray n n2 dd dd2 sl sl2 (by simpa using hv) (by simpa using hw) (by rw [vQ,vQ];exact hsz)) ⟨ho,ho2,?_⟩
  rw [e]
  exact h2 hw
noncomputable def sIx (n d:Nat):Option Int->Nat
|none=>d
|some v=>if v < 0 then (v+(n:Int)).toNat else min v.toNat n
theorem zuu (n d k:Nat):sIx n d (some (k:Int))=min k n:=by
 show (if (k:Int) < 0 then ((k:Int)+(n:Int)).toNat else min (k:Int).toNat n)=min k n
 rw [if_neg (by lia),vI]
theorem za71 (n d:Nat) (hd:d<=n) (o:Option Int):sIx n d o<=n:=by
 cases o with
|none=>exact hd
|some v =>
  show (if v < 0 then (v+(n:Int)).toNat else min v.toNat n)<=n
  by_cases hv:v < 0
  ·rw [if_pos hv];lia
  ·rw [if_neg hv];exact Nat.min_le_right _ _
theorem zcv (v:Int) (n d:Nat):(if v < 0 then max (v+(n:Int)) 0 else min v (n:Int))=((sIx n d (some v):Nat):Int):=by
 show (if v < 0 then max (v+(n:Int)) 0 else min v (n:Int))=(((if v < 0 then (v+(n:Int)).toNat else min v.toNat n):Nat):Int)
 by_cases hv:v < 0
 ·simp only [if_pos hv];lia
 ·simp only [if_neg hv];lia
theorem zjp (lo hi:Option Int) (n:Nat):Builtin.Slice.sliceAdjust lo hi 1 (n:Int)=(((sIx n 0 lo:Nat):Int),((sIx n n hi:Nat):Int)):=by
 have h1:¬ ((1:Int) < 0):=by lia
 unfold Builtin.Slice.sliceAdjust
 simp only [h1,if_false]
 refine Prod.ext ?_ ?_
 ·cases lo with
 |none=>rfl
 |some v=>exact zcv v n 0
 ·cases hi with
 |none=>rfl
 |some v=>exact zcv v n n
theorem zqo (i j:Nat):Builtin.Slice.slicePlaces (i:Int) (j:Int) 1=j - i:=by
 unfold Builtin.Slice.slicePlaces
 have h1:(1:Int) > 0:=by lia
 simp only [h1,if_true,Int.ediv_one]
 split <;> lia
theorem zgj {v:Value} {o:Option Int} {Q:Option Int->Shared->Prop} (p:IsPart v o) (h:Q o s):wpAny (model prog w) A (Builtin.Slice.slicePartIndex v) Q E s:=by
 cases p with
|none=>exact slicePart_none h
|int i t=>exact slicePart_int h
theorem zwc {sl:Addr} {vl vu:Value} {lo hi:Option Int} {n:Nat} {Q:Int×Int×Nat->Shared->Prop} (hs:s.heap.IsSliceOf sl vl vu .none) (pl:IsPart vl lo) (pu:IsPart vu hi)
  (h:Q (((sIx n 0 lo:Nat):Int),1,sIx n n hi - sIx n 0 lo) s):wpAny (model prog w) A (Builtin.Slice.sliceApplied (.ref sl) (pure (n:Int))) Q E s:=by
 obtain ⟨os,hos,hcs,hds⟩:=id hs
 unfold Builtin.Slice.sliceApplied Builtin.Slice.sliceFields
 refine wpAny_bind (wpAny_bind (wpAny_field hos hds (x:=vl) rfl (wpAny_bind (wpAny_field hos hds (x:=vu) rfl (wpAny_bind (wpAny_field hos hds (x:=.none) rfl (wpAny_pure ?_)))))))
 refine wpAny_bind (slicePart_none ?_)
 show wpAny _ _ (if ((1:Int) == 0)=true then _ else _) _ _ s
 rw [if_neg (by decide)]
 refine wpAny_bind (zgj pl (wpAny_bind (zgj pu (wpAny_bind (wpAny_pure ?_)))))
 show wpAny _ _ (match Builtin.Slice.sliceAdjust lo hi 1 (n:Int) with|(lo,hi)=>pure (lo,(1:Int),Builtin.Slice.slicePlaces lo hi 1)) _ _ s
 rw [zjp lo hi n]
 show wpAny _ _ (pure (((sIx n 0 lo:Nat):Int),(1:Int),Builtin.Slice.slicePlaces ((sIx n 0 lo:Nat):Int) ((sIx n n hi:Nat):Int) 1)) _ _ s
 rw [zqo]
 exact wpAny_pure h
theorem zby (xs:Array Value) (i k:Nat):((u3 k).filterMap λ (m:Nat)=>xs[((i:Int)+(m:Int) * 1).toNat]?).toArray=((xs.toList.drop i).take k).toArray:=by
 have e:(λ (m:Nat)=>xs[((i:Int)+(m:Int) * 1).toNat]?)=λ m=>xs[i+m]?:=by
  funext m
  have:((i:Int)+(m:Int) * 1).toNat=i+m:=by lia
  rw [this]
 rw [e]
 have:=pick_run xs i k
 rw [y9] at this
 have e2:((λ x=>xs[x]?) ∘ λ x=>i+x)=λ m=>xs[i+m]?:=rfl
 rw [e2] at this
 rw [this]
theorem getItem_tuple_cut {t sl:Addr} {items:Array Value} {vl vu:Value} {lo hi:Option Int} {Q:Value->Shared->Prop} (ht:IsTup s.heap t items) (hs:s.heap.IsSliceOf sl vl vu .none) (pl:IsPart vl lo) (pu:IsPart vu hi)
  (hw:¬ (sIx items.size 0 lo=0/\sIx items.size items.size hi=items.size))
  (h:Q (.ref s.heap.objs.size) { s with heap:=s.heap.push { cls:=.type "tuple",data:=.seq ((items.toList.drop (sIx items.size 0 lo)).take (sIx items.size items.size hi - sIx items.size 0 lo)).toArray } })
  (hsz:items.size<=sizeLine):wpAny (model prog w) A (getItem (.ref t) (.ref sl)) Q E s:=by
 have htake:sizeOk (.seq ((items.toList.drop (sIx items.size 0 lo)).take (sIx items.size items.size hi - sIx items.size 0 lo)).toArray):=by
  show ((items.toList.drop (sIx items.size 0 lo)).take (sIx items.size items.size hi - sIx items.size 0 lo)).toArray.size<=sizeLine
  rw [vQ,wF,xZ,xY]
  lia
 have hj:sIx items.size items.size hi<=items.size:=za71 _ _ (u8 _) hi
 obtain ⟨os,hos,hcs,hds⟩:=id hs
 have hTs:s.TypeIs (.ref sl) "slice":=⟨os,hos,hcs⟩
 unfold getItem
 try with_reducible refine wpAny_holding ?_
 first|refine wpAny_bind (wpAny_pure ?_)|skip
 refine wpAny_bind (wpAny_sequenceKey ht.typeIs (by decide) ?_)
 refine wpAny_bind (wpAny_callSpecial?_slot (name:=yL "__getitem__") ht.typeIs PyProof.Rows.slot_tuple_getitem
  (wpAny_call_entry PyProof.Rows.slot_tuple_getitem ht.typeIs entry_tuple_getitem ?_ (args_tuple_getitem _ _)))
 show wpAny _ _ (Builtin.Tuple.tupleItemsOf (.ref t) >>= _) _ _ s
 refine wpAny_bind (tupleItemsOf_ ht ?_)
 refine wpAny_bind (wpAny_typeOf hTs ?_)
 rw [if_pos (by decide)]
 refine wpAny_bind (zwc hs pl pu ?_)
 have hno:¬ ((((sIx items.size 0 lo:Nat):Int) == 0 && (1:Int) == 1 && (sIx items.size items.size hi - sIx items.size 0 lo) == items.size)=true):=by
  intro q
  rw [zA,zA] at q
  have q1:((sIx items.size 0 lo:Nat):Int)=0:=eq_of_beq q.1.1
  have q2:sIx items.size items.size hi - sIx items.size 0 lo=items.size:=eq_of_beq q.2
  exact hw ⟨by lia,by lia⟩
 show wpAny _ _ (if (((sIx items.size 0 lo:Nat):Int) == 0 && (1:Int) == 1 && (sIx items.size items.size hi - sIx items.size 0 lo) == items.size)=true then _ else _) _ _ s
 rw [if_neg hno,zby]
 first
 |exact wpAny_bind (m:=Builtin.Tuple.tupleExact _) (wpAny_newObj_type (wpAny_pure ⟨_,rfl,wpAny_pure h⟩) htake)
 |exact wpAny_bind (m:=Builtin.Tuple.tupleExact _) (wpAny_newObj_type (wpAny_bind (wpAny_pure (wpAny_pure ⟨_,rfl,wpAny_pure h⟩))) htake)
 |exact wpAny_bind (wpAny_bind (m:=Builtin.Tuple.tupleExact _) (wpAny_newObj_type (wpAny_pure (wpAny_pure ⟨_,rfl,wpAny_pure h⟩)) htake))
 |exact wpAny_bind (wpAny_bind (m:=Builtin.Tuple.tupleExact _) (wpAny_newObj_type (wpAny_pure ⟨_,rfl,wpAny_pure h⟩) htake))
end
end HT
namespace L2
open PySem PySem.Spec PyProof.Rows
noncomputable abbrev TO:=St->Hp->(Option Int->Hp->Prop)->Prop
noncomputable def PO (X:Cx) (e:Option Expr) (t:TO):Prop :=
 ∀ (pins:List (Addr×Obj)) (s:Shared) (Y:St) (H:Hp) (Q:Option Int->Hp->Prop),Inv X pins Y H s->t Y H Q ->
  wpAny (model X.prog X.w) X.A (evalPart e X.env) (λ u s'=>∃ o H',Inv X pins Y H' s'/\IsPart u o/\Q o H') X.xe s
noncomputable def zyu:TO:=λ _ H Q=>Q none H
noncomputable def zhd1 (t:TE):TO:=λ Y H Q=>t Y H λ x H1=>∃ i,x=.int i/\Q (some i) H1
theorem zsa {ns:List Int}:∀ {us:List Value},Vals (ns.map V.int) us->IntsAre us ns:=by
 induction ns with
|nil=>intro us r;rw [xQ] at r;cases r;exact .nil
|cons n ns ih =>
  intro us r
  rw [vV] at r
  cases r with
 |cons r1 r2 =>
   obtain ⟨t,e⟩:=r1
   subst e
   exact .cons n t (ih r2)
section
variable {X:Cx} {e:Expr} {te:TE} {lo hi:Option Expr} {tl th:TO} {pos p2:Pos}
theorem zio:PO X none zyu:=by
 intro pins s Y H Q I h
 rw [evalPart_none]
 exact wpAny_pure ⟨none,H,I,.none,h⟩
theorem zr01 (h:PE X e te):PO X (some e) (zhd1 te):=by
 intro pins s Y H Q I hw
 rw [evalPart_some]
 refine thn (h pins s Y H _ I hw) λ u s1 hz=>?_
 obtain ⟨x,H1,I1,r1,q1⟩:=hz
 obtain ⟨i,rfl,q⟩:=q1
 obtain ⟨t,rfl⟩:=r1
 exact ⟨some i,H1,I1,.int i t,q⟩
noncomputable def SlR (X:Cx) (r:V->Option Int->Option Int->Hp->VK->Prop):Prop :=
 ∀ (pins:List (Addr×Obj)) (s:Shared) (Y:St) (H:Hp) (x:V) (v vl vu:Value) (lo hi:Option Int) (sl:Addr) (Q:VK),Inv X pins Y H s->RelV x v->s.heap.IsSliceOf sl vl vu .none->IsPart vl lo->IsPart vu hi->r x lo hi H Q ->
  ∃ T id,typeLookup (.type T) "__getitem__"=pure (some (.builtin id))/\s.TypeIs v T/\wpAny (model X.prog X.w) X.A (getItem v (.ref sl)) (EP X pins Y Q) X.xe s
theorem SlR.or {r r':V->Option Int->Option Int->Hp->VK->Prop} (h:SlR X r) (h':SlR X r'):SlR X (λ x lo hi H Q=>r x lo hi H Q \/ r' x lo hi H Q):=by
 intro pins s Y H x v vl vu lo hi sl Q I rx hs pl pu q
 rcases q with q|q
 ·exact h pins s Y H x v vl vu lo hi sl Q I rx hs pl pu q
 ·exact h' pins s Y H x v vl vu lo hi sl Q I rx hs pl pu q
noncomputable def tSl (r:V->Option Int->Option Int->Hp->VK->Prop) (te:TE) (tl th:TO):TE:=λ Y H Q=>te Y H λ x H1=>tl Y H1 λ l H2=>th Y H2 λ u H3=>r x l u H3 Q
theorem zhx {r:V->Option Int->Option Int->Hp->VK->Prop} (hr:SlR X r) (he:PE X e te) (hl:PO X lo tl) (hu:PO X hi th):PE X (.Subscript e (.Slice lo hi none p2) pos) (tSl r te tl th):=by
 intro pins s Y H Q I h
 refine Subscript_ (thn (he pins s Y H _ I h) λ v s1 hz=>?_)
 obtain ⟨x,H1,I1,r1,q1⟩:=hz
 refine wpAny_Slice (thn (hl pins s1 Y H1 _ I1 q1) λ vl s2 ⟨l,H2,I2,pl,q2⟩=>thn (hu pins s2 Y H2 _ I2 q2) λ vu s3 hz=>?_)
 obtain ⟨u,H3,I3,pu,q3⟩:=hz
 rw [evalPart_none]
 refine wpAny_pure ?_
 have I4:Inv X pins Y H3 { s3 with heap:=s3.heap.push { cls:=.type "slice",data:=.fields #[vl,vu,.none] } }:=I3.kept (t':=s3.toks) λ b ob q=>v7 _ q
 obtain ⟨T,id,hT,ht,hg⟩:=hr pins { s3 with heap:=s3.heap.push { cls:=.type "slice",data:=.fields #[vl,vu,.none] } } Y H3 x v vl vu l u s3.heap.objs.size Q I4 r1 (Heap.IsSliceOf.new ..) pl pu q3
 show wpAny (model X.prog X.w) X.A (subscriptTail e (.Slice lo hi none p2) v (.ref s3.heap.objs.size)) (EP X pins Y Q) X.xe { s3 with heap:=s3.heap.push { cls:=.type "slice",data:=.fields #[vl,vu,.none] } }
 exact tail_any (ops:=[.ref s3.heap.objs.size,v]) ht hT hg (by with_unfolding_all rfl)
noncomputable def cutV (xs:List V) (lo hi:Option Int):List V:=(xs.drop (HT.sIx xs.length 0 lo)).take (HT.sIx xs.length xs.length hi - HT.sIx xs.length 0 lo)
theorem zge (xs:List V) (lo hi:Option Int):(cutV xs lo hi).length<=xs.length:=by
 unfold cutV
 rw [wF,xZ]
 lia
noncomputable def rSlT (K:Fg):V->Option Int->Option Int->Hp->VK->Prop:=λ x lo hi H Q=>∃ a xs,x=.ref a/\SqT K H a xs /\
 ¬ (HT.sIx xs.length 0 lo=0/\HT.sIx xs.length xs.length hi=xs.length)/\∀ p,H p=none->Q (.ref p) (upd H p (.tup (cutV xs lo hi)))
theorem zv71:SlR X (rSlT X.K):=by
 intro pins s Y H x v vl vu lo hi sl Q I rx hs pl pu h
 obtain ⟨a,xs,rfl,hx,hw,q⟩:=h
 cases rx
 obtain ⟨its,r,ht,hz⟩:=I.tuple hx
 have hlen:its.toArray.size=xs.length:=by rw [vQ];exact r.length.symm
 refine ⟨"tuple",_,PyProof.Rows.slot_tuple_getitem.lookup,ht.typeIs,?_⟩
 refine HT.getItem_tuple_cut ht hs pl pu (by rw [hlen];exact hw) ?_ (by rw [hlen];exact hz)
 rw [hlen]
 refine ⟨.ref s.heap.objs.size,_,I.laid (t':=s.toks) (o:=.tup (cutV xs lo hi)) (λ b ob q=>v7 _ q) (u8 _) ?_,rfl,q _ (I.hok.fresh (u8 _))⟩
 exact ⟨wB (zge xs lo hi) hz,_,(r.drop (HT.sIx xs.length 0 lo)).take (HT.sIx xs.length xs.length hi - HT.sIx xs.length 0 lo),IsTup.new _ _⟩
noncomputable def zia1 (K:Fg):R2:=λ x y H Q=>∃ a b xs ys,x=.ref a/\y=.ref b/\SqT K H a xs/\SqT K H b ys/\xs≠[]/\xs.length+ys.length<=sizeLine /\
 (ys=[]->Q (.ref a) H)/\(ys≠[]->∀ p,H p=none->Q (.ref p) (upd H p (.tup (xs++ys))))
theorem Vals.nil_iff {xs:List V} {us:List Value} (r:Vals xs us):us=[] ↔ xs=[]:=by
 cases r with
|nil=>simp
|cons _ _=>simp
theorem zn01:OpR X (binaryOp .Add) (zia1 X.K):=by
 intro pins s Y H x y v u Q I rx ry h
 obtain ⟨a,b,xs,ys,rfl,rfl,ha,hb,hx,hz,q1,q2⟩:=h
 cases rx
 cases ry
 obtain ⟨its,r1,p1,_⟩:=I.tuple ha
 obtain ⟨its2,r2,p2,_⟩:=I.tuple hb
 refine HT.cat_tup p1 p2 (λ z=>hx (r1.nil_iff.mp z)) (λ z=>⟨.ref a,H,I,rfl,q1 (r2.nil_iff.mp z)⟩) (λ z=>?_) (by rw [<- r1.length,<- r2.length];exact hz)
 refine ⟨.ref s.heap.objs.size,_,I.laid (t':=s.toks) (o:=.tup (xs++ys)) (λ b ob q=>v7 _ q) (u8 _) ?_,rfl,q2 (λ w=>z (r2.nil_iff.mpr w)) _ (I.hok.fresh (u8 _))⟩
 exact ⟨by rw [vJ];exact hz,_,r1.append r2,IsTup.new _ _⟩
end
noncomputable def ixN (n:Nat) (i:Int):Option Nat:=if 0<=i then (if i < n then some i.toNat else none) else if -(n:Int)<=i then some (i+n).toNat else none
noncomputable def atI {α:Type} (xs:List α) (i:Int):Option α:=(ixN xs.length i).bind λ j=>xs[j]?
theorem ziu {n:Nat} {i:Int} {j:Nat} (h:ixN n i=some j):seqIndex? i n=some j/\j < n/\-(n:Int)<=i/\i < n:=by
 unfold ixN at h
 by_cases h0:0<=i
 ·rw [if_pos h0] at h
  by_cases h1:i < n
  ·rw [if_pos h1] at h
   have e:i.toNat=j:=wO.inj h
   exact ⟨by rw [seqIndex_of h0 h1,e],by lia,by lia,h1⟩
  ·rw [if_neg h1] at h;cases h
 ·rw [if_neg h0] at h
  by_cases h1:-(n:Int)<=i
  ·rw [if_pos h1] at h
   have e:(i+n).toNat=j:=wO.inj h
   exact ⟨by rw [seqIndex_neg (by lia) h1,e],by lia,h1,by lia⟩
  ·rw [if_neg h1] at h;cases h
theorem zfp {α:Type} {xs:List α} {i:Int} {v:α} (h:atI xs i=some v):∃ j,seqIndex? i xs.length=some j/\xs[j]?=some v/\j < xs.length/\-(xs.length:Int)<=i/\i < xs.length:=by
 unfold atI at h
 cases e:ixN xs.length i with
|none=>rw [e] at h;cases h
|some j =>
  rw [e] at h
  obtain ⟨h1,h2,h3,h4⟩:=ziu e
  exact ⟨j,h1,h,h2,h3,h4⟩
theorem zdt {α:Type} {xs:List α} {j:Nat} {v:α} (h:xs[j]?=some v):atI xs (j:Int)=some v:=by
 have hj:j < xs.length:=(vW.mp h).1
 have e:ixN xs.length (j:Int)=some j:=by
  unfold ixN
  rw [if_pos (by lia),if_pos (by lia)];simp
 unfold atI;rw [e];exact h
noncomputable def zlt (b:Expr):Prop:=∀ o i,subscripted b false o i=operate [o,i] (getItem o i)
noncomputable def IxR (X:Cx) (r:R2):Prop :=
 ∀ (value slice:Expr) (pins:List (Addr×Obj)) (s:Shared) (Y:St) (H:Hp) (x y:V) (v u:Value) (Q:VK),Inv X pins Y H s->RelV x v->RelV y u->r x y H Q ->
  subscripted slice false v u=operate [v,u] (getItem v u)->wpAny (model X.prog X.w) X.A (subscriptTail value slice v u) (EP X pins Y Q) X.xe s
noncomputable def MtR (X:Cx) (id:String) (r:V->List V->Hp->VK->Prop):Prop :=
 ∀ (pins:List (Addr×Obj)) (s:Shared) (Y:St) (H:Hp) (x:V) (xs:List V) (v:Value) (us:List Value) (Q:VK),Inv X pins Y H s->RelV x v->Vals xs us->r x xs H Q ->
  wpAny (model X.prog X.w) X.A (call (.builtin id) (v :: us)) (EP X pins Y Q) X.xe s
section
variable {X:Cx} {a b:Expr} {ta tb:TE} {pos:Pos}
theorem IxR.or {r r':R2} (h:IxR X r) (h':IxR X r'):IxR X (λ x y H Q=>r x y H Q \/ r' x y H Q):=by
 intro value slice pins s Y H x y v u Q I rx ry q hs
 rcases q with q|q
 ·exact h value slice pins s Y H x y v u Q I rx ry q hs
 ·exact h' value slice pins s Y H x y v u Q I rx ry q hs
theorem zuc1 {r:R2} (hr:IxR X r) (ha:PE X a ta) (hb:PE X b tb) (hs:zlt b):PE X (.Subscript a b pos) (tOp r ta tb):=by
 intro pins s Y H Q I h
 exact Subscript_ (binT ha hb I h λ v u s2 x y H2 I2 rx ry q=>hr a b pins s2 Y H2 x y v u Q I2 rx ry q (hs _ _))
noncomputable def rIxL (K:Fg):R2:=λ x y H Q=>∃ p xs i v,x=.ref p/\y=.int i/\SqL K H p xs/\atI xs i=some v/\Q v H
noncomputable def rIxT (K:Fg):R2:=λ x y H Q=>∃ p xs i v,x=.ref p/\y=.int i/\SqT K H p xs/\atI xs i=some v/\Q v H
noncomputable def rIxS:R2:=λ x y H Q=>∃ z i c,x=.str z/\y=.int i/\z.length<=sizeLine/\atI z.cps.toList i=some c/\Q (.str ⟨#[c]⟩) H
theorem zd31:IxR X (rIxL X.K):=by
 intro value slice pins s Y H x y v u Q I rx ry h hs
 obtain ⟨p,xs,i,z,rfl,rfl,hq,he,q⟩:=h
 cases rx
 obtain ⟨t,rfl⟩:=ry
 obtain ⟨its,r,pl,hz⟩:=I.list hq
 obtain ⟨j,h1,h2,h3,h4,h5⟩:=zfp he
 obtain ⟨w,ew,rw'⟩:=r.get h2
 have hl:=r.length
 have hn:=zkk
 have fin:EP X pins Y Q w s:=⟨z,H,I,rw',q⟩
 by_cases h0:0<=i
 ·have hj:i.toNat=j:=by
   rw [seqIndex_of h0 h5] at h1
   exact wO.inj h1
  exact item_listR pl.isList h0 (by lia) (by rw [hj];simpa using ew) fin hs
 ·have hj:(i+(its.toArray.size:Int)).toNat=j:=by
   rw [seqIndex_neg (by lia) h4] at h1
   rw [vQ,<- hl]
   exact wO.inj h1
  exact subscriptTail_builtinR (x:=w) pl.isList.typeIs slot_list_getitem.lookup
   (wpAny_getItem_list_neg (Q:=λ r s'=>r=w/\EP X pins Y Q r s') pl.isList (by lia) (by rw [vQ] <;> lia) (by lia) (by rw [hj];simpa using ew) ⟨rfl,fin⟩) hs
theorem zz91:IxR X (rIxT X.K):=by
 intro value slice pins s Y H x y v u Q I rx ry h hs
 obtain ⟨p,xs,i,z,rfl,rfl,hq,he,q⟩:=h
 cases rx
 obtain ⟨t,rfl⟩:=ry
 obtain ⟨its,r,pl,hz⟩:=I.tuple hq
 obtain ⟨j,h1,h2,h3,h4,h5⟩:=zfp he
 obtain ⟨w,ew,rw'⟩:=r.get h2
 have hl:=r.length
 have hn:=zkk
 have fin:EP X pins Y Q w s:=⟨z,H,I,rw',q⟩
 exact subscriptTail_builtinR (x:=w) pl.typeIs slot_tuple_getitem.lookup
  (getItem_tuple (j:=j) (Q:=λ r s'=>r=w/\EP X pins Y Q r s') pl (by lia) (by lia) (by rw [vQ,<- hl];exact h1) (by simpa using ew) ⟨rfl,fin⟩) hs
theorem zw81:IxR X rIxS:=by
 intro value slice pins s Y H x y v u Q I rx ry h hs
 obtain ⟨z,i,c,rfl,rfl,hz,he,q⟩:=h
 obtain ⟨t,rfl⟩:=rx
 obtain ⟨t',rfl⟩:=ry
 obtain ⟨j,h1,h2,h3,h4,h5⟩:=zfp he
 have hl:z.cps.toList.length=z.length:=by simp [Str.length]
 rw [hl] at h1 h4 h5
 have hn:=zkk
 exact tail_any (typeIs_str s z t) slot_str_getitem.lookup (getItem_str (c:=c) (by
  have e1:decide (i < -(2 ^ 63:Int))=false:=decide_eq_false (by lia)
  have e2:decide (i ≥ 2 ^ 63)=false:=decide_eq_false (by lia)
  rw [e1,e2,Bool.or_false]) (by rw [h1];simpa using h2) ⟨.str ⟨#[c]⟩,H,I.tok _,⟨_,rfl⟩,q⟩) hs
noncomputable def rIx (K:Fg):R2:=λ x y H Q=>rIxL K x y H Q \/ rIxT K x y H Q \/ rIxS x y H Q
theorem zn81:IxR X (rIx X.K):=zd31.or (zz91.or zw81)
theorem zzp (its:List Value) (n j:Nat) (u:Value):Obj.mapSeq (·.setIfInBounds j u) { cls:=.type "list",data:=.seq its.toArray n }={ cls:=.type "list",data:=.seq (its.set j u).toArray n }:=by
 simp [Obj.mapSeq]
theorem Inv.lst {pins:List (Addr×Obj)} {Y:St} {H:Hp} {s:Shared} {p:Addr} {xs:List V} (I:Inv X pins Y H s) (h:H p=some (.lst xs)) :
  ∃ (its:List Value) (n:Nat),Vals xs its/\s.heap.get? p=some { cls:=.type "list",data:=.seq its.toArray n }/\xs.length<=sizeLine:=by
 obtain ⟨z,its,n,r,e⟩:=I.hok p _ h
 exact ⟨its,n,r,e,z⟩
theorem Inv.lstUpd {pins:List (Addr×Obj)} {Y:St} {H:Hp} {s:Shared} {p:Addr} {xs ys:List V} {its its':List Value} {n n':Nat} {f:Obj->Obj} (I:Inv X pins Y H s) (h:H p=some (.lst xs))
  (ho:s.heap.get? p=some { cls:=.type "list",data:=.seq its.toArray n }) (hf:f { cls:=.type "list",data:=.seq its.toArray n }={ cls:=.type "list",data:=.seq its'.toArray n' }) (r:Vals ys its') (hz:ys.length<=sizeLine) (t:Nat) :
  Inv X pins Y (upd H p (.lst ys)) { s with heap:=s.heap.update p f,toks:=t }:=by
 have e:(s.heap.update p f).get? p=some { cls:=.type "list",data:=.seq its'.toArray n' }:=by
  rw [j7 f ho (by rw [hf] <;> rfl),hf]
 refine I.write (x:=p) (e:=p) (by rw [h];trivial) (.inl rfl) (λ b u hb q=>(j8 _ _ (Ne.symm hb)).trans q) ⟨_,e⟩ ?_
 exact ⟨hz,its',n',r,e⟩
noncomputable def zdc1:V->V->V->Hp->(Hp->Prop)->Prop:=λ o i v H Q=>∃ p xs k j,o=.ref p/\i=.int k/\H p=some (.lst xs)/\ixN xs.length k=some j/\Q (upd H p (.lst (xs.set j v)))
theorem zww:PSet X zdc1:=by
 intro pins s Y H o i v ov iv u Q I ro ri rv h
 obtain ⟨p,xs,k,j,rfl,rfl,hp,hj,q⟩:=h
 cases ro
 obtain ⟨t,rfl⟩:=ri
 obtain ⟨its,n,r,ho,hz⟩:=I.lst hp
 obtain ⟨h1,h2,h3,h4⟩:=ziu hj
 have hl:=r.length
 have hn:=zkk
 have I':Inv X pins Y (upd H p (.lst (xs.set j v))) { s with heap:=s.heap.update p (Obj.mapSeq (·.setIfInBounds j u)) } :=
  I.lstUpd hp ho (zzp its n j u) (r.set rv j) (by rw [vZ];exact hz) s.toks
 by_cases h0:0<=k
 ·have hk:k.toNat=j:=by
   rw [seqIndex_of h0 h4] at h1
   exact wO.inj h1
  exact PySem.W.ki_setAt ho h0 (by lia) (by rw [vQ,<- hl];exact h4) (by rw [hk];exact ⟨_,I',q⟩)
 ·have hk:(k+(its.toArray.size:Int)).toNat=j:=by
   rw [seqIndex_neg (by lia) h3] at h1
   rw [vQ,<- hl]
   exact wO.inj h1
  exact PySem.W.ki_setBack ho (by lia) (by rw [vQ,<- hl];exact h3) (by lia) (by rw [hk];exact ⟨_,I',q⟩)
theorem zck (lo hi:Option Int) (n:Nat):(sliceBounds lo hi none n).1=((HT.sIx n 0 lo:Nat):Int)/\(sliceBounds lo hi none n).2.1=((HT.sIx n n hi:Nat):Int)/\(sliceBounds lo hi none n).2.2=1:=by
 refine ⟨?_,?_,rfl⟩
 ·cases lo with
 |none=>simp [sliceBounds,HT.sIx]
 |some i =>
   simp only [sliceBounds,HT.sIx,Option.getD_none,show (1:Int) > 0 by decide,if_true]
   by_cases h:i < 0
   ·simp only [h,if_true] <;> lia
   ·simp only [h,if_false] <;> lia
 ·cases hi with
 |none=>simp [sliceBounds,HT.sIx]
 |some i =>
   simp only [sliceBounds,HT.sIx,Option.getD_none,show (1:Int) > 0 by decide,if_true]
   by_cases h:i < 0
   ·simp only [h,if_true] <;> lia
   ·simp only [h,if_false] <;> lia
theorem zlh (its:List Value) (lo hi:Option Int):slicePick its.toArray lo hi none=((its.drop (HT.sIx its.length 0 lo)).take (HT.sIx its.length its.length hi - HT.sIx its.length 0 lo)).toArray:=by
 obtain ⟨h1,h2,h3⟩:=zck lo hi its.toArray.size
 unfold slicePick
 rw [h1,h2,h3]
 simp only [sliceRange_one,pick_run,vQ] <;> rfl
noncomputable def rSlL (K:Fg):V->Option Int->Option Int->Hp->VK->Prop:=λ x lo hi H Q=>∃ a xs,x=.ref a/\SqL K H a xs/\∀ p,H p=none->Q (.ref p) (upd H p (.lst (cutV xs lo hi)))
theorem zlz:SlR X (rSlL X.K):=by
 intro pins s Y H x v vl vu lo hi sl Q I rx hs pl pu h
 obtain ⟨a,xs,rfl,hx,q⟩:=h
 cases rx
 obtain ⟨its,r,ht,hz⟩:=I.list hx
 have hlen:=r.length
 refine ⟨"list",_,slot_list_getitem.lookup,ht.isList.typeIs,?_⟩
 refine wpAny_getItem_list_slice ht.isList hs pl pu .none (by simp) ?_ (by rw [vQ] <;> lia)
 rw [zlh,<- hlen]
 refine ⟨.ref s.heap.objs.size,_,I.laid (t':=s.toks) (o:=.lst (cutV xs lo hi)) (λ b ob q=>v7 _ q) (u8 _) ?_,rfl,q _ (I.hok.fresh (u8 _))⟩
 exact ⟨wB (zge xs lo hi) hz,_,0,(r.drop (HT.sIx xs.length 0 lo)).take (HT.sIx xs.length xs.length hi - HT.sIx xs.length 0 lo),wT _ rfl⟩
noncomputable def zdu:V->Bool
|.non=>true
|.bl _=>true
|.int _=>true
|.str _=>true
|_=>false
noncomputable def eqV:V->V->Bool
|.non,.non=>true
|.bl a,.bl b=>a == b
|.bl a,.int b=>(if a then 1 else 0) == b
|.int a,.bl b=>a == (if b then 1 else 0)
|.int a,.int b=>a == b
|.str a,.str b=>a == b
|_,_=>false
theorem ze61 {A:Around} {s:Shared} {y x:V} {u v:Value} (ry:RelV y u) (rx:RelV x v) (fy:zdu y=true) (fx:zdu x=true):SeqAt.EqAt A s u v (eqV y x):=by
 cases y with
|non =>
  cases ry
  cases x with
 |non=>cases rx;exact SeqAt.EqAt.same _
 |bl b=>cases rx;exact SeqAt.EqAt.none_bool b
 |int b=>obtain ⟨t,rfl⟩:=rx;exact SeqAt.EqAt.none_int b t
 |str b=>obtain ⟨t,rfl⟩:=rx;exact SeqAt.EqAt.none_str b t
 |_=>exact absurd (show false=true from fx) vS
|bl a =>
  cases ry
  cases x with
 |non=>cases rx;exact SeqAt.EqAt.bool_none a
 |bl b=>cases rx;exact SeqAt.EqAt.bool_bool a b
 |int b=>obtain ⟨t,rfl⟩:=rx;exact SeqAt.EqAt.bool_int a b t
 |str b=>obtain ⟨t,rfl⟩:=rx;exact SeqAt.EqAt.bool_str a b t
 |_=>exact absurd (show false=true from fx) vS
|int a =>
  obtain ⟨t',rfl⟩:=ry
  cases x with
 |non=>cases rx;exact SeqAt.EqAt.int_none a t'
 |bl b=>cases rx;exact SeqAt.EqAt.int_bool a t' b
 |int b=>obtain ⟨t,rfl⟩:=rx;exact SeqAt.EqAt.int_int a t' b t
 |str b=>obtain ⟨t,rfl⟩:=rx;exact SeqAt.EqAt.int_str a t' b t
 |_=>exact absurd (show false=true from fx) vS
|str a =>
  obtain ⟨t',rfl⟩:=ry
  cases x with
 |non=>cases rx;exact SeqAt.EqAt.str_none a t'
 |bl b=>cases rx;exact SeqAt.EqAt.str_bool a t' b
 |int b=>obtain ⟨t,rfl⟩:=rx;exact SeqAt.EqAt.str_int a t' b t
 |str b=>obtain ⟨t,rfl⟩:=rx;exact SeqAt.EqAt.str_str a t' b t
 |_=>exact absurd (show false=true from fx) vS
|_=>exact absurd (show false=true from fy) vS
noncomputable def eqU (x:V) (u:Value):Bool:=match u with
|.none=>eqV .non x
|.bool b=>eqV (.bl b) x
|.int i _=>eqV (.int i) x
|.str z _=>eqV (.str z) x
|_=>false
theorem zx21 {x y:V} {u:Value} (r:RelV y u) (f:zdu y=true):eqU x u=eqV y x:=by
 cases y with
|non=>cases r;rfl
|bl b=>cases r;rfl
|int i=>obtain ⟨t,rfl⟩:=r;rfl
|str z=>obtain ⟨t,rfl⟩:=r;rfl
|_=>exact absurd (show false=true from f) vS
theorem zpi {x:V}:∀ {xs:List V} {us:List Value},Vals xs us->xs.all zdu=true->us.any (eqU x)=xs.any λ y=>eqV y x
|_,_,.nil,_=>rfl
|y :: xs,u :: us,.cons r t,f=>by
  rw [zW,zA] at f
  rw [xR,xR,zx21 r f.1,zpi t f.2]
theorem ztb {A:Around} {s:Shared} {x:V} {v:Value} (rx:RelV x v) (fx:zdu x=true):∀ {xs:List V} {us:List Value},Vals xs us->xs.all zdu=true->∀ u∈us,SeqAt.EqAt A s u v (eqU x u)
|_,_,.nil,_=>λ u hu=>by cases hu
|y :: xs,u :: us,.cons r t,f=>λ u' hu=>by
  rw [zW,zA] at f
  rcases vN.mp hu with rfl|hu
  ·rw [zx21 r f.1];exact ze61 r rx f.1 fx
  ·exact ztb rx fx t f.2 u' hu
noncomputable def inV (x:V) (xs:List V):Bool:=xs.any λ y=>eqV y x
noncomputable def rIn (K:Fg) (neg:Bool):R2:=λ x y H Q=>∃ p xs,y=.ref p/\(SqL K H p xs \/ SqT K H p xs)/\zdu x=true/\xs.all zdu=true/\Q (.bl (if neg then !inV x xs else inV x xs)) H
theorem zbs:OpR X (compareOp .In) (rIn X.K false):=by
 intro pins s Y H x y v u Q I rx ry h
 obtain ⟨p,xs,rfl,hq,fx,fs,q⟩:=h
 cases ry
 rcases hq with hq|hq
 ·obtain ⟨its,r,pl,hz⟩:=I.list hq
  refine SeqAt.in_listAt (eqU x) pl.isList (λ w hw=>ztb rx fx r fs w (by simpa using hw)) ⟨.bl _,H,I,rfl,?_⟩
  rw [show its.toArray.any (eqU x)=its.any (eqU x) by simp,zpi r fs]
  exact q
 ·obtain ⟨its,r,pl,hz⟩:=I.tuple hq
  refine SeqAt.in_tupleAt (eqU x) pl (λ w hw=>ztb rx fx r fs w (by simpa using hw)) ⟨.bl _,H,I,rfl,?_⟩
  rw [show its.toArray.any (eqU x)=its.any (eqU x) by simp,zpi r fs]
  exact q
theorem zfk:OpR X (compareOp .NotIn) (rIn X.K true):=by
 intro pins s Y H x y v u Q I rx ry h
 obtain ⟨p,xs,rfl,hq,fx,fs,q⟩:=h
 cases ry
 rcases hq with hq|hq
 ·obtain ⟨its,r,pl,hz⟩:=I.list hq
  refine SeqAt.notIn_listAt (eqU x) pl.isList (λ w hw=>ztb rx fx r fs w (by simpa using hw)) ⟨.bl _,H,I,rfl,?_⟩
  rw [show its.toArray.any (eqU x)=its.any (eqU x) by simp,zpi r fs]
  exact q
 ·obtain ⟨its,r,pl,hz⟩:=I.tuple hq
  refine SeqAt.notIn_tupleAt (eqU x) pl (λ w hw=>ztb rx fx r fs w (by simpa using hw)) ⟨.bl _,H,I,rfl,?_⟩
  rw [show its.toArray.any (eqU x)=its.any (eqU x) by simp,zpi r fs]
  exact q
theorem zwk:OpR X (compareOp .NotIn) (λ x y H Q=>∃ i j,x=.str i/\y=.str j/\Q (.bl (!(!(Builtin.Str.occurrences j i 0 j.length 1).isEmpty))) H):=by
 intro pins s Y H x y v u Q I rx ry h
 obtain ⟨i,j,rfl,rfl,q⟩:=h
 obtain ⟨t,rfl⟩:=rx
 obtain ⟨t',rfl⟩:=ry
 exact notIn_str ⟨.bl _,H,I,rfl,q⟩
theorem CallR.or {f:Value} {r r':List V->Hp->VK->Prop} (h:CallR X f r) (h':CallR X f r'):CallR X f (λ xs H Q=>r xs H Q \/ r' xs H Q):=by
 intro pins s Y H xs us Q I rs q
 rcases q with q|q
 ·exact h pins s Y H xs us Q I rs q
 ·exact h' pins s Y H xs us Q I rs q
theorem zkl:CallR X (.type "list") (λ xs H Q=>∃ p ys,xs=[.ref p]/\(SqL X.K H p ys \/ SqT X.K H p ys)/\∀ l,H l=none->Q (.ref l) (upd H l (.lst ys))):=by
 intro pins s Y H xs us Q I r h
 obtain ⟨p,ys,rfl,hq,q⟩:=h
 obtain ⟨u,rfl,rx⟩:=zyy r
 cases rx
 have fin:∀ (its:List Value),Vals ys its->ys.length<=sizeLine->∀ (h':Heap) (c':Nat),(∀ b o',s.heap.get? b=some o'->h'.get? b=some o') ->
   h'.get? s.heap.objs.size=some { cls:=.type "list",dict:=none,data:=.seq its.toArray c',slots:=#[] }->EP X pins Y Q (.ref s.heap.objs.size) { s with heap:=h' }:=λ its r' hz h' c' kp e =>
  ⟨.ref s.heap.objs.size,_,I.laid (t':=s.toks) kp (u8 _) (show ObjOk X.prog X.w _ h' _ (.lst ys) from ⟨hz,its,c',r',e⟩),rfl,q _ (I.hok.fresh (u8 _))⟩
 rcases hq with hq|hq
 ·obtain ⟨its,r',pl,hz⟩:=I.list hq
  have hlen:=r'.length
  obtain ⟨o,ho,hc,n,hd⟩:=pl.isList
  exact call_list_seq p (.inl rfl) ho hc hd (λ h' c' kp e=>fin its r' hz h' c' kp e) (by simp only [vQ] <;> lia)
 ·obtain ⟨its,r',pl,hz⟩:=I.tuple hq
  have hlen:=r'.length
  obtain ⟨o,ho,hc,n,hd⟩:=pl
  exact call_list_seq p (.inr rfl) ho hc hd (λ h' c' kp e=>fin its r' hz h' c' kp e) (by simp only [vQ] <;> lia)
noncomputable def tyV (K:Fg) (T:String) (x:V) (H:Hp):Prop:=match x with
|.str _=>T = "str"
|.int _=>T = "int"
|.ref p=>(T = "list"/\∃ xs,SqL K H p xs) \/ (T = "tuple"/\∃ o,K.lookup p=some o/\o.cls=.type "tuple"/\o.dict=none) \/
   (T = "dict"/\((∃ kvs,H p=some (.dK kvs)) \/ ∃ kvs,H p=some (.dT kvs))) \/ (T = "set"/\∃ S n,H p=some (.set S n))
|_=>False
theorem zh41 {pins:List (Addr×Obj)} {Y:St} {H:Hp} {s:Shared} {T:String} {x:V} {v:Value} (I:Inv X pins Y H s) (r:RelV x v) (ty:tyV X.K T x H) :
  s.TypeIs v T/\∀ a,v=.ref a->∃ ob,s.heap.get? a=some ob/\ob.dict=none:=by
 cases x with
|str z =>
  obtain ⟨t,rfl⟩:=r
  cases (show T = "str" from ty)
  exact ⟨typeIs_str s z t,λ _ e=>nomatch e⟩
|int i =>
  obtain ⟨t,rfl⟩:=r
  cases (show T = "int" from ty)
  exact ⟨typeIs_int s i t,λ _ e=>nomatch e⟩
|ref p =>
  cases r
  rcases ty with ⟨rfl,xs,hq⟩|⟨rfl,o,hk,hc,hd⟩|⟨rfl,hk⟩|⟨rfl,S,n,hk⟩
  ·obtain ⟨its,_,pl,_⟩:=I.list hq
   refine ⟨pl.isList.typeIs,λ a e=>?_⟩
   cases e
   obtain ⟨o,n,e,c,hd,_⟩:=pl
   exact ⟨o,e,hd⟩
  ·refine ⟨⟨o,I.kIn p o hk,hc⟩,λ a e=>?_⟩
   cases e
   exact ⟨o,I.kIn _ o hk,hd⟩
  ·have z:∃ o,s.heap.get? p=some o/\o.ExactDict:=by
    rcases hk with ⟨kvs,hk⟩|⟨kvs,hk⟩
    ·obtain ⟨_,_,_,_,o,_,_,e,ex,_⟩:=I.hok p _ hk
     exact ⟨o,e,ex⟩
    ·obtain ⟨_,_,_,_,o,_,_,e,ex,_⟩:=I.hok p _ hk
     exact ⟨o,e,ex⟩
   obtain ⟨o,e,ex⟩:=z
   refine ⟨⟨o,e,ex.1⟩,λ a e2=>?_⟩
   cases e2
   exact ⟨o,e,ex.2.1⟩
  ·obtain ⟨o,_,_,_,e,ex,_⟩:=I.hok p _ hk
   refine ⟨⟨o,e,ex.1⟩,λ a e2=>?_⟩
   cases e2
   exact ⟨o,e,ex.2.1⟩
|_=>exact False.elim ty
noncomputable def tBM0 (K:Fg) (T:String) (r:V->List V->Hp->VK->Prop) (to:TE):TE:=λ Y H Q=>to Y H λ x H1=>tyV K T x H1/\r x [] H1 Q
noncomputable def tBM (K:Fg) (T:String) (r:V->List V->Hp->VK->Prop) (to:TE) (t:TA):TE:=λ Y H Q=>to Y H λ x H1=>tyV K T x H1/\t Y H1 λ xs H2=>r x xs H2 Q
variable {o e:Expr} {es:List Expr} {to:TE} {t:TA} {name:Str} {apos cpos:Pos} {T id:String} {r:V->List V->Hp->VK->Prop}
theorem ze81 (pa:PlainAttrs T) (slot:Slot T name id) (hty:typeOf (.builtin id)=pure (.type "method_descriptor")) (hm:MtR X id r) (ho:PE X o to)
  (hbase:attributeBase o name X.env (eval o X.env)=eval o X.env:=by rfl) (hline:(apos.endLine == cpos.line)=true:=by rfl):PE X (.Call (.Attribute o name apos) [] [] cpos) (tBM0 X.K T r to):=by
 intro pins s Y H Q I h
 refine wpAny_Call_method0_late hbase hline (thn (ho pins s Y H _ I h) λ v s1 hz=>?_)
 obtain ⟨x,H1,I1,r1,ty,q1⟩:=hz
 obtain ⟨h1,h2⟩:=zh41 I1 r1 ty
 exact ⟨T,id,pa,slot,hty,h1,h2,Calls.callWith_builtin rfl (PySem.evalArgs_none (hm pins s1 Y H1 x [] v [] Q I1 r1 .nil q1))⟩
theorem zyc1 (pa:PlainAttrs T) (slot:Slot T name id) (hty:typeOf (.builtin id)=pure (.type "method_descriptor")) (hm:MtR X id r) (ho:PE X o to) (ha:PA X (e :: es) t)
  (hbase:attributeBase o name X.env (eval o X.env)=eval o X.env:=by rfl)
  (hfew:((backTo cpos (starEach (e :: es) X.env)).all (λ x=>!x.1) && (backToKw cpos (keywordEach [] X.env)).all (λ x=>x.1.isSome)
   && decide ((e :: es).length+([]:List Keyword).length+(if ([]:List Keyword).isEmpty then 0 else 1) < 30))=true:=by rfl)
  (hline:(apos.endLine == cpos.line)=true:=by rfl) (hs:starEach (e :: es) X.env=(false,eval e X.env) :: starEach es X.env:=by rfl) (hplain:(backTo cpos (starEach es X.env)).any (·.1)=false:=by rfl) :
  PE X (.Call (.Attribute o name apos) (e :: es) [] cpos) (tBM X.K T r to t):=by
 intro pins s Y H Q I h
 refine wpAny_Call_method_late hbase hfew hline rfl (thn (ho pins s Y H _ I h) λ v s1 hz=>?_)
 obtain ⟨x,H1,I1,r1,ty,q1⟩:=hz
 obtain ⟨h1,h2⟩:=zh41 I1 r1 ty
 refine ⟨T,id,pa,slot,hty,h1,h2,?_⟩
 have hA:=ha cpos pins s1 Y H1 _ I1 q1
 rw [hs] at hA ⊢
 refine Calls.callWith_builtin (by show (false || (backTo cpos (starEach es X.env)).any (·.1))=false;rw [hplain] <;> rfl) (Calls.evalArgs_plain ?_)
 exact thn hA λ us s2 ⟨vs,H2,I2,r2,q2⟩=>hm pins s2 Y H2 x vs v us Q I2 r1 r2 q2
end
noncomputable def MtM (X:Cx) (id:String) (r:V->List V->Hp->VK->Prop):Prop :=
 ∀ (pins:List (Addr×Obj)) (s:Shared) (Y:St) (H:Hp) (x:V) (xs:List V) (v:Value) (us:List Value) (Q:VK),Inv X pins Y H s->RelV x v->Vals xs us->r x xs H Q ->
  wpAny (model X.prog X.w) X.A (call (.builtin id) (v :: us)) (EP X pins Y Q) X.xe s
theorem Vals.one {x:V} {us:List Value} (h:Vals [x] us):∃ u,us=[u]/\RelV x u:=by cases h with|cons r t=>cases t;exact ⟨_,rfl,r⟩
theorem Vals.two {x y:V} {us:List Value} (h:Vals [x,y] us):∃ u v,us=[u,v]/\RelV x u/\RelV y v:=by cases h with|cons r t=>cases t with|cons q t=>cases t;exact ⟨_,_,rfl,r,q⟩
theorem Vals.zero:∀ {us:List Value},Vals [] us->us=[]
|_,.nil=>rfl
theorem Vals.dropLast {xs:List V} {us:List Value} (h:Vals xs us):Vals xs.dropLast us.dropLast:=by
 induction h with
|nil=>exact .nil
|cons r t ih =>
  cases t with
 |nil=>exact .nil
 |cons q t'=>exact .cons r ih
theorem Vals.rep {xs:List V} {us:List Value} (h:Vals xs us):∀ k:Nat,Vals (u7 k xs).flatten (u7 k us).flatten
|0=>.nil
|k+1=>by
  rw [x6,x6,yC,yC]
  exact Vals.append h (Vals.rep h k)
theorem zjq {α:Type} (l:List α):l.eraseIdx (l.length - 1)=l.dropLast:=by
 induction l with
|nil=>rfl
|cons a r ih =>
  cases r with
 |nil=>rfl
 |cons b r =>
   have e:(a :: b :: r).length - 1=((b :: r).length - 1)+1:=by
    have h1:(a :: b :: r).length=r.length+2:=rfl
    have h2:(b :: r).length=r.length+1:=rfl
    lia
   rw [e,zB,ih]
   all_goals rfl
theorem znm (its:List Value):∀ (k:Nat) (acc:List Value),
  List.foldl (λ x1 x2=>x1++x2) acc.toArray (u7 k its.toArray)=(acc++(u7 k its).flatten).toArray
|0,acc=>by simp
|k+1,acc=>by
  have e:acc.toArray++its.toArray=(acc++its).toArray:=by simp
  have e2:(acc++its)++(u7 k its).flatten=acc++(u7 (k+1) its).flatten:=by
   rw [x6,yC,wC]
  rw [<- e2,<- znm its k (acc++its),<- e,x6,List.foldl_cons]
section
variable {X:Cx} {pins:List (Addr×Obj)} {Y:St} {H:Hp} {s:Shared} {l b:Addr} {xs ys zs:List V}
theorem Inv.lset {its its':List Value} {n:Nat} {f:Array Value->Array Value} {t':Nat} (I:Inv X pins Y H s) (hH:H l=some (.lst xs))
  (e:s.heap.get? l=some { cls:=.type "list",data:=.seq its.toArray n }) (hf:f its.toArray=its'.toArray) (hv:Vals ys its') (hz:ys.length<=sizeLine) :
  Inv X pins Y (upd H l (.lst ys)) { s with heap:=s.heap.update l (Obj.mapSeq f),toks:=t' }:=by
 have q:=PySem.IsL.update e f
 rw [hf] at q
 refine I.write (x:=l) (e:=l) (by rw [hH];exact trivial) (.inl rfl) (λ b' u hb hu=>(j8 s.heap (Obj.mapSeq f) (Ne.symm hb)).trans hu) ⟨_,q⟩ ?_
 exact ⟨hz,its',_,hv,q⟩
theorem Inv.lnew {its:List Value} {t':Nat} (I:Inv X pins Y H s) (hv:Vals ys its) (hz:ys.length<=sizeLine) :
  Inv X pins Y (upd H s.heap.objs.size (.lst ys)) { s with heap:=s.heap.push { cls:=.type "list",data:=.seq its.toArray },toks:=t' } :=
 I.laid (λ _ _ q=>v7 _ q) (u8 _) ⟨hz,its,0,hv,wT _ rfl⟩
theorem Inv.fresh (I:Inv X pins Y H s):H s.heap.objs.size=none:=I.hok.fresh (u8 _)
theorem Inv.lstM (I:Inv X pins Y H s) (hH:H l=some (.lst xs)):xs.length<=sizeLine/\∃ (its:List Value) (n:Nat),Vals xs its/\xs.length=its.length/\s.heap.get? l=some { cls:=.type "list",data:=.seq its.toArray n }:=by
 obtain ⟨z,its,n,r,e⟩:=I.hok l _ hH
 exact ⟨z,its,n,r,r.length,e⟩
theorem zhl {n:Nat} (h:n<=sizeLine):Builtin.List.listTooLong n=false:=by
 unfold Builtin.List.listTooLong
 exact decide_eq_false (by lia)
end
section
variable {X:Cx}
noncomputable def zqu:V->List V->Hp->VK->Prop:=λ x vs H Q=>∃ l xs y,x=.ref l/\vs=[y]/\H l=some (.lst xs)/\xs.length < sizeLine/\Q .non (upd H l (.lst (xs++[y])))
theorem zc1:MtM X "list.append" zqu:=by
 intro pins s Y H x vs v us Q I rx rv h
 obtain ⟨l,xs,y,rfl,rfl,hH,hz,q⟩:=h
 cases rx
 obtain ⟨u,rfl,ru⟩:=rv.one
 obtain ⟨z,its,n,r,hl,e⟩:=I.lstM hH
 refine call_meets F.slot_list_append ⟨_,e,rfl⟩ F.entry_list_append (F.args_list_append_2 _ _) (PySem.list_append l its.toArray n u (by rw [vQ];lia)) ⟨e,?_⟩
 refine ⟨.non,_,I.lset (its':=its++[u]) hH e (by simp) (r.append (.cons ru .nil)) ?_,rfl,q⟩
 rw [vJ,yM]
 lia
noncomputable def rPop:V->List V->Hp->VK->Prop:=λ x vs H Q=>∃ l xs y,x=.ref l/\vs=[]/\H l=some (.lst xs)/\xs[xs.length - 1]?=some y/\Q y (upd H l (.lst xs.dropLast))
theorem zkw:MtM X "list.pop" rPop:=by
 intro pins s Y H x vs v us Q I rx rv h
 obtain ⟨l,xs,y,rfl,rfl,hH,hy,q⟩:=h
 cases rx
 have hus:=rv.zero
 subst hus
 obtain ⟨z,its,n,r,hl,e⟩:=I.lstM hH
 obtain ⟨u,hu,ru⟩:=r.get hy
 have hy':its.toArray[its.toArray.size - 1]?=some u:=by
  show its.toArray[its.length - 1]?=some u
  rw [<- zX,<- hl]
  exact hu
 refine call_meets F.slot_list_pop ⟨_,e,rfl⟩ F.entry_list_pop (F.args_list_pop_1 _) (MeetsSeq.list_pop_last l its.toArray n u hy' (by rw [vQ];lia)) ⟨e,?_⟩
 refine ⟨y,_,I.lset (its':=its.dropLast) hH e ?_ r.dropLast ?_,ru,q⟩
 ·show its.toArray.eraseIdxIfInBounds (its.toArray.size - 1)=its.dropLast.toArray
  rw [vQ,List.eraseIdxIfInBounds_toArray,zjq]
 ·rw [List.length_dropLast]
  lia
noncomputable def rCat:R2:=λ x y H Q=>∃ l b xs zs,x=.ref l/\y=.ref b/\H l=some (.lst xs)/\H b=some (.lst zs)/\xs.length+zs.length<=sizeLine/\∀ p,H p=none->Q (.ref p) (upd H p (.lst (xs++zs)))
theorem zi91:OpR X (binaryOp .Add) rCat:=by
 intro pins s Y H x y v u Q I rx ry h
 obtain ⟨l,b,xs,zs,rfl,rfl,hH,hB,hz,q⟩:=h
 cases rx
 cases ry
 obtain ⟨z,its,n,r,hl,e⟩:=I.lstM hH
 obtain ⟨z2,its2,n2,r2,hl2,e2⟩:=I.lstM hB
 refine PySem.P.add_list e e2 ?_ (by rw [vQ,vQ];lia)
 have ea:its.toArray++its2.toArray=(its++its2).toArray:=by simp
 rw [ea]
 exact ⟨.ref _,_,I.lnew (t':=s.toks) (r.append r2) (by rw [vJ];lia),rfl,q _ I.fresh⟩
noncomputable def rRep:R2:=λ x y H Q=>∃ l k xs,x=.ref l/\y=.int k/\H l=some (.lst xs)/\-(2 ^ 63)<=k/\k < 2 ^ 63/\xs.length * k.toNat<=sizeLine /\
 ∀ p,H p=none->Q (.ref p) (upd H p (.lst (u7 k.toNat xs).flatten))
theorem zg31 {α:Type} (xs:List α) (k:Nat):(u7 k xs).flatten.length=k * xs.length:=by
 induction k with
|zero=>simp
|succ k ih=>rw [x6,yC,vJ,ih,Nat.succ_mul,Nat.add_comm]
theorem zb01:OpR X (binaryOp .Mult) rRep:=by
 intro pins s Y H x y v u Q I rx ry h
 obtain ⟨l,k,xs,rfl,rfl,hH,h1,h2,hz,q⟩:=h
 cases rx
 obtain ⟨t,rfl⟩:=ry
 obtain ⟨z,its,n,r,hl,e⟩:=I.lstM hH
 have hlen:its.toArray.size * k.toNat<=sizeLine:=by rw [vQ,<- hl];exact hz
 have hcap:¬ its.toArray.size * k.toNat > (2 ^ 63 - 1) / 8:=by
  have:(sizeLine:Nat)<=(2 ^ 63 - 1) / 8:=by decide
  lia
 have hfit:¬ (!Builtin.List.listFitsIndex k)=true:=by
  rw [fitsIndex_both h1 h2]
  exact vS
 have hlong:¬ Builtin.List.listTooLong (its.toArray.size * k.toNat)=true:=by
  rw [zhl hlen]
  exact vS
 have hnew:List.foldl (λ x1 x2=>x1++x2) #[] (u7 (if its.toArray.isEmpty=true then 0 else k.toNat) its.toArray)=(u7 k.toNat its).flatten.toArray:=by
  have f0:∀ m:Nat,List.foldl (λ x1 x2=>x1++x2) #[] (u7 m its.toArray)=(u7 m its).flatten.toArray:=λ m=>by
   have:=znm its m []
   rw [zC] at this
   exact this
  rw [f0]
  cases its with
 |nil=>simp
 |cons a r'=>rw [if_neg (by simp)]
 refine wpAny_binaryOp_repeat_ref (T := "list") (U := "int") (by decide) ⟨_,e,rfl⟩ (λ s'=>typeIs_int s' k t) noFill_list_mul F.fills_int_mul F.slot_int_rmul repeat_list F.slot_int_index.lookup
  (call_meets F.slot_int_rmul (typeIs_int s k t) F.entry_int_rmul (F.args_int_rmul_2 _ _) (int___rmul___int_list k t l its.toArray n)
   ⟨e,rfl,⟨_,e,rfl⟩,call_meets F.slot_list_mul ⟨_,e,rfl⟩ F.entry_list_mul (F.args_list_mul_2 _ _) (AutoListH.list___mul___list_int_3 l its.toArray n k t hfit hcap hlong) ⟨e,?_⟩⟩)
 rw [hnew]
 exact ⟨.ref _,_,I.lnew (t':=s.toks) (r.rep k.toNat) (by rw [zg31,yN];exact hz),rfl,q _ I.fresh⟩
end
section
variable {prog:Program} {w:World} {A:Around} {E:Value->Shared->Prop} {s:Shared}
end
section
variable {X:Cx}
end
end L2
namespace Att
open PySem PySem.W PySem.Calls PyProof.Rows
theorem zgd {P:Params} {h:Heap}:∀ (ns:List Int) (vs:List Value),WellAll P h vs (ns.map WData.int)->IntsAre vs ns:=by
 intro ns
 induction ns with
|nil =>
  intro vs w
  rw [xQ] at w
  cases w
  exact .nil
|cons n ns ih =>
  intro vs w
  rw [vV] at w
  cases w with
 |cons a b =>
   cases a
   exact .cons _ _ (ih _ b)
theorem zds {l:OpenLaw} {n:Nat} (hn:l.most=some n) {P:Params} {h:Heap} {args:List WData} {vals:List Value}
  (hpre:l.row.toRowW.claim.pre args=true) (hwl:WellAll P h vals args) :
  ∃ a vs ns,vals=[vO a]/\args=[WData.list (ns.map WData.int)]/\h.get? a=some { cls:=.type "list",data:=.seq vs.toArray }/\IntsAre vs ns/\ns.length<=n:=by
 have hsh:WShape.hasAll [] args [.list .int]=true:=(pre_splitW hpre).1
 have hc:l.pre.holds [] { args:=args }=true:=(pre_splitW hpre).2
 obtain ⟨d,r,rfl,h1,h2⟩:=hasAllW_cons hsh
 obtain rfl:=hasAllW_nil h2
 obtain ⟨xs,rfl,h3⟩:=hasW_list h1
 obtain ⟨ns,rfl⟩:=items_int h3
 have hlen:ns.length<=n:=by
  unfold OpenLaw.pre at hc
  have h4:(WTm.not (.lt (.lit (.int (n:Int))) (.len (.arg 0)))).holds [] { args:=[.list (ns.map .int)] }=true:=by
   have h4:=(holds_andW hc).1
   rw [hn] at h4
   exact h4
  have h5:=condW_of h4 (w_not (w_lt w_lit (w_len_list (w_arg rfl))))
  rw [u4] at h5
  refine Nat.le_of_not_lt λ q=>?_
  have q':(n:Int) < ((ns.length:Nat):Int):=by lia
  first
  |(rw [decide_eq_true q'] at h5;exact absurd h5 (by decide))
  |(simp at h5;lia)
 cases hwl with
|cons w1 w2 =>
  cases w2
  cases w1 with
 |list ho hall=>exact ⟨_,_,ns,rfl,rfl,ho,zgd ns _ hall,hlen⟩
theorem zrr (l:OpenLaw) (args:List WData):l.row.toRowW.claim.post args (.bool true) args=true :=
 postW_of (r:=l.row.toRowW) (X:=(true == true))
  (show WShape.has [] (.bool true) .bool=true by first|rfl|decide|simp [WShape.has,WShape.arms,WShape.armsAll])
  (show (WTm.eq .res (.lit (.bool true))).value [] { args:=args,res:=some (.bool true),after:=args }=some (.bool (true == true)) from w_eq_bool (w_res rfl) w_lit) rfl
theorem attach_call {l:OpenLaw} {n:Nat} {q:Program} {loose:List Str} {XP:(Str->Option Value)->Heap->Prop} {YP:World->Heap->Prop} {d:DefRec}
  (hn:l.most=some n) (hdf:d.params.defaults=[])
  (call:∀ (w:World) (s₀ s₁:Shared) (mg mb:Str->Option Value) (fa:Addr) (o:Obj) (pm cd doc:Value) (a:Addr) (vs:List Value) (ns:List Int),
   Ground q loose [] XP w s₀ mg mb s₁.heap->YP w s₁.heap ->
   s₁.heap.get? fa=some o->o.data=.func (docDef d.name d.params d.body d.scope pm cd doc)->s₁.heap.CodeRec cd d.name->mg d.name=some (.ref fa) ->
   s₁.heap.get? a=some { cls:=.type "list",data:=.seq vs.toArray }->IntsAre vs ns->ns.length<=n->s₁.gens=#[] ->
   codeAny (model l.prog w) callerA (.call (.ref fa) ⟨[.ref a],[]⟩) (λ r s'=>r=.ok (.ret (.bool true))/\OldK s₁.heap s'.heap/\s'.os=s₁.os/\AllBare s'.gens) s₁) :
  WalkO q loose XP YP l.row.toRowW d [] (λ f vs=>PySem.call f vs):=by
 intro w s₀ s₁ mg mb G Yv fa o pm cd doc dV kV ho hd hcd hD hmg hg args vals as hpre hlay hrd hwl hlo
 obtain rfl:dV=.none:=Dflts.none hD hdf
 obtain rfl:kV=.none:=Dflts.noKw hD
 obtain ⟨a,vs,ns,rfl,rfl,hobj,hints,hlen⟩:=zds hn hpre hwl
 refine enter_call (codeAny_mono (call w s₀ s₁ mg mb fa o pm cd doc a vs ns G Yv ho (fd_plain hd) hcd hmg hobj hints hlen hg) λ r s' hq=>?_)
 obtain ⟨rfl,h2,h3,h4⟩:=hq
 exact ⟨.inl ⟨.bool true,.bool true,[],rfl,λ _=>rfl,.bool true,zrr l _,λ _=>⟨List.Pairwise.nil,λ _ hm=>(nomatch hm)⟩⟩,h2,h3,h4⟩
section
variable {prog:Program} {w:World} {A:Around} {E:Value->Shared->Prop} {s:Shared} {K:Frag}
end
end Att
namespace L2
open PySem PySem.Spec PyProof.Rows
theorem zda:∀ {vs:List Value} {ns:List Int},IntsAre vs ns->Vals (ns.map V.int) vs
|_,_,.nil=>.nil
|_,_,.cons n t h=>.cons ⟨t,rfl⟩ (zda h)
noncomputable def Only (H:Hp):Prop:=∀ b,H b=none \/ ∃ o xs,H b=some (.frz o (.lst xs))
theorem zcw {P:Program} {w:World} {K:Fg} {mg mb:Str->Option Value} {CX:CXT} {k:Nat} {fa a:Addr} {fd:FuncData} {x:Str} {sp:Sp} {s₁:Shared} {vs:List Value} {ns:List Int}
  (KX:K.In s₁.heap) (hns:s₁.heap.Ns mainGlobals mg) (hb:s₁.heap.Ns builtinsNs mb) (hbb:∀ x:Str,x ≠ "__name__"->mb x=bootBuiltins x) (hlim:s₁.heap.NoLimit) (hg:s₁.gens=#[])
  (ha:s₁.heap.get? a=some { cls:=.type "list",data:=.seq vs.toArray }) (hi:IntsAre vs ns) (hl:ns.length<=sizeLine) (hr:Room k callerA)
  (F:∀ base:Heap,K.In base->base.Ns mainGlobals mg->FnOk P w K mg base CX k fa fd [x] sp) (hbind:∀ (s:Shared) (u:Value),BindsTo s fd ⟨[u],[]⟩ [(x,u)])
  (hsp:∀ H:Hp,Only H->SqL K H a (ns.map V.int)->sp [.ref a] H (λ v _=>v=.bl true) λ _ _ _=>False)
  (hCX:∀ H e s',CX [] H s₁ (λ _ _ _=>False) e s'->False) :
  codeAny (model P w) callerA (.call (.ref fa) ⟨[.ref a],[]⟩) (λ r s'=>r=.ok (.ret (.bool true))/\OldK s₁.heap s'.heap/\s'.os=s₁.os/\AllBare s'.gens) s₁:=by
 have rv:=zda hi
 have lenV:=hi.length
 -- from an abstract heap in which nothing but the script may be tracked
 have core:∀ H:Hp,Only H->SqL K H a (ns.map V.int)->HOk P w H s₁.heap->(∀ b,H b≠none->b=a)->(H a≠none->K.lookup a=none) ->
   codeAny (model P w) callerA (.call (.ref fa) ⟨[.ref a],[]⟩) (λ r s'=>r=.ok (.ret (.bool true))/\OldK s₁.heap s'.heap/\s'.os=s₁.os/\AllBare s'.gens) s₁:=by
  intro H hO hS hok hA hK
  have base_of:∀ {b:Addr} {o:Obj},s₁.heap.get? b=some o->H b=none->(hidT s₁.heap H).get? b=some o:=λ e n=>zuv e n
  have noA:∀ {b:Addr} {o:Obj} {es:Array DictEntry} {ep:Nat},s₁.heap.get? b=some o->o.data=.dict es ep->H b=none:=λ {b o es ep} e d=>by
   cases q:H b with
  |none=>rfl
  |some u =>
    have e':b=a:=hA b (by rw [q];simp)
    subst e'
    rw [ha] at e;cases e
    have d':Data.seq vs.toArray _=Data.dict es ep:=d
    cases d'
  have nsK:∀ {b:Addr} {m:Str->Option Value},s₁.heap.Ns b m->(hidT s₁.heap H).Ns b m:=λ {b m} ⟨o,es,ep,e,d,r⟩=>⟨o,es,ep,base_of e (noA e d),d,r⟩
  have hKb:K.In (hidT s₁.heap H):=λ b o e=>base_of (KX b o e) (by
   cases q:H b with
  |none=>rfl
  |some u =>
    have e':b=a:=hA b (by rw [q];simp)
    subst e'
    rw [hK (by rw [q];simp)] at e;cases e)
  have hM:Mod K mg (hidT s₁.heap H):=⟨hKb,nsK hns,⟨mb,nsK hb,hbb⟩,let ⟨mc,h1,h2⟩:=hlim;⟨mc,nsK h1,h2⟩⟩
  have e0:Env0 P w K mg (hidT s₁.heap H) callerA [] s₁ H:=⟨rfl,hM,λ b o e=>zm21 e,Nat.le_of_eq (zxs _ _),trivial,λ b hb=>absurd (show b∈([]:List Addr) from hb) (by simp),hok,.of_eq hg⟩
  refine codeAny_mono ((F _ hKb (nsK hns)).run callerA [] s₁ H ⟨[.ref a],[]⟩ [.ref a] [.ref a] _ _ hr e0 (hbind s₁ (.ref a)) (.cons rfl .nil) (hsp H hO hS)) λ r s' h=>?_
  cases r with
 |error e=>exact (hCX H e s' h).elim
 |ok fl =>
   cases fl with
  |next=>exact False.elim h
  |brk=>exact False.elim h
  |cont=>exact False.elim h
  |ret u =>
    obtain ⟨v,H',os,bare,un,hok',r',q⟩:=h
    have q':v=.bl true:=q
    subst q'
    obtain rfl:u=y3 true:=r'
    refine ⟨rfl,OldK.of_keep λ b o e=>?_,os,bare⟩
    cases q:H b with
   |none=>exact un.keep b o e q (by intro z;exact absurd (show b∈([]:List Addr) from z) (by simp)) (by simp)
   |some u =>
     rcases hO b with z|⟨ob,xs,z⟩
     ·rw [q] at z;cases z
     ·have z2:=un.frzs b ob _ z
      obtain ⟨e1,_⟩:=hok b _ z
      obtain ⟨e2,_⟩:=hok' b _ z2
      rw [e] at e1;cases e1
      exact e2
 cases hk:K.lookup a with
|some o =>
  -- the script is one of the module's own objects
  have e:=KX a o hk
  rw [ha] at e
  cases e
  refine core (λ _=>none) (λ _=>.inl rfl) (.inr ⟨_,vs.toArray,_,hk,rfl,rfl,rfl,by rw [vQ,lenV];exact hl,by simpa using rv⟩) (λ b u z=>by have z':(none:Option HO)=some u:=z;cases z') (λ b z=>absurd rfl z) λ z=>absurd rfl z
|none =>
  refine core (λ b=>if b=a then some (.frz { cls:=.type "list",data:=.seq vs.toArray } (.lst (ns.map V.int))) else none) (λ b=>?_) (.inl (.inr ⟨{ cls:=.type "list",data:=.seq vs.toArray },if_pos rfl⟩)) (λ b u z=>?_) (λ b z=>?_) λ _=>hk
  ·by_cases hb:b=a
   ·exact .inr ⟨_,_,if_pos hb⟩
   ·exact .inl (if_neg hb)
  ·by_cases hb:b=a
   ·have z':=(if_pos hb).symm.trans z
    cases z'
    subst hb
    exact ⟨ha,by rw [u4];exact hl,vs,_,rv,ha⟩
   ·have z':=(if_neg hb).symm.trans z
    cases z'
  ·by_cases hb:b=a
   ·exact hb
   ·exact absurd (if_neg hb) z
theorem walk_of {l:PySem.W.OpenLaw} {n k:Nat} {q:Program} {loose:List Str} {XP:(Str->Option Value)->Heap->Prop} {YP:World->Heap->Prop} {d:DefRec} {K:Params->Fg} {CX:World->CXT} {sp:World->Sp} {x:Str}
  (hn:l.most=some n) (hn2:n<=sizeLine) (hdf:d.params.defaults=[]) (hr:Room k callerA)
  (hY:∀ (w:World) (h:Heap),YP w h->(K w.params).In h)
  (F:∀ (w:World) (mg:Str->Option Value) (fa:Addr) (h:Heap),(K w.params).In h->h.Ns mainGlobals mg->mg d.name=some (.ref fa) ->
   ∃ fd:FuncData,(∀ (s:Shared) (u:Value),BindsTo s fd ⟨[u],[]⟩ [(x,u)]) /\
    ∀ base:Heap,(K w.params).In base->base.Ns mainGlobals mg->FnOk l.prog w (K w.params) mg base (CX w) k fa fd [x] (sp w))
  (hsp:∀ (w:World) (H:Hp) (a:Addr) (ns:List Int),ns.length<=n->Only H->SqL (K w.params) H a (ns.map V.int)->sp w [.ref a] H (λ v _=>v=.bl true) λ _ _ _=>False)
  (hCX:∀ (w:World) (H:Hp) (s:Shared) (e:Value) (s':Shared),CX w [] H s (λ _ _ _=>False) e s'->False) :
  PySem.W.WalkO q loose XP YP l.row.toRowW d [] (λ f vs=>PySem.call f vs):=by
 refine Att.attach_call hn hdf λ w s₀ s₁ mg mb fa o pm cd doc a vs ns G Yv ho hd hcd hmg hobj hints hlen hg=>?_
 have KX:=hY w _ Yv
 obtain ⟨fd,hb,hF⟩:=F w mg fa _ KX G.T.g hmg
 exact zcw KX G.T.g G.T.b G.T.builtins G.T.nolimit hg hobj hints (wB hlen hn2) hr hF hb (λ H hO hS=>hsp w H a ns hlen hO hS) λ H e s'=>hCX w H s₁ e s'
def zz1 (s:Stmt) (j:Nat):Stmt:=match s with
|.ClassDef _ _ _ body _ _ _ _ _ _ _=>body.getD j (.Pass ⟨0,0,0,0⟩)
|_=>.Pass ⟨0,0,0,0⟩
noncomputable def zz6 (s:Stmt):Arguments:=match s with
|.FunctionDef _ a _ _ _ _ _ _ _ _=>a
|_=>{ posonlyargs:=[],args:=[],vararg:=none,kwonlyargs:=[],kw_defaults:=[],kwarg:=none,defaults:=[] }
def zu2 (s:Stmt):List Stmt:=match s with
|.FunctionDef _ _ b _ _ _ _ _ _ _=>b
|_=>[]
def zg0 (s:Stmt):Scope:=match s with
|.FunctionDef _ _ _ _ _ _ sc _ _ _=>sc
|_=>{ kind:=.function,names:=[],isGenerator:=false,isCoroutine:=false }
noncomputable abbrev CX0:CXT:=λ _ _ _ _ _ _=>False
noncomputable abbrev E0:XK:=λ _ _ _=>False
theorem zuy {X:Cx}:zak CX0 X E0:=λ _ _ _ _ _ _ _ h=>h.elim
structure Fun (K:Fg) (x qual:Str) (st:Stmt) (f:Addr) (fd:FuncData):Prop where
 ex:∃ (oc:Value) (od:Option Addr) (kV doc pm:Value) (an:Option Addr) (cdv ct:Value) (osl:Array (Option Value)),
  fd=PySem.W.fnOf x qual (zz6 st) (zu2 st) (zg0 st) .none kV doc pm an cdv ct/\K.lookup f=some ⟨oc,od,.func fd,osl⟩/\PySem.W.codeIn K cdv qual=true
 kp:PySem.W.keepIn K (.ref f)=true
section
variable {P:Program} {w:World} {K:Fg} {mg:Str->Option Value} {base:Heap}
theorem Fun.ok {x qual:Str} {st:Stmt} {f:Addr} {fd:FuncData} {N ps:List Str} {k:Nat} {sp:Sp} (F:Fun K x qual st f fd) (S:FnScope N ps (zg0 st)) (len:∀ vs H Q E,sp vs H Q E->vs.length=ps.length)
  (hbody:∀ (cdv:Value) (A:Around) (outer:List Env) (s:Shared) (H:Hp) (vs:List V) (Q:VK) (E:XK),Room k (A.deeper (envOfC qual (zg0 st) s.heap.objs.size f cdv))->sp vs H Q E ->
   ∃ t,PSs (cxOf CX0 P w K mg base N qual (zg0 st) f cdv A outer s H E).nox (zu2 st) t/\t { nx:=λ _ H'=>Q .non H',rt:=Q } (start N vs) H):FnOk P w K mg base CX0 (k+1) f fd ps sp:=by
 obtain ⟨oc,od,kV,doc,pm,an,cdv,ct,osl,rfl,lk,hcd⟩:=F.ex
 refine zub1 lk hcd S len λ A outer s H vs Q E hr hsp=>?_
 obtain ⟨t,h,q⟩:=hbody cdv A outer s H vs Q E hr hsp
 exact ⟨t,h.nox,q⟩
theorem Fun.binds {x qual:Str} {st:Stmt} {f:Addr} {fd:FuncData} {ps:List Str} (F:Fun K x qual st f fd)
  (h:∀ (kV doc pm:Value) (an:Option Addr) (cdv ct:Value) (us:List Value),us.length=ps.length->bindArgs (PySem.W.fnOf x qual (zz6 st) (zu2 st) (zg0 st) .none kV doc pm an cdv ct) ⟨us,[]⟩=pure (ps.zip us)):Binds K fd ps []:=by
 obtain ⟨oc,od,kV,doc,pm,an,cdv,ct,osl,rfl,lk,hcd⟩:=F.ex
 exact .all (h kV doc pm an cdv ct)
theorem zn21 {x qual:Str} {st:Stmt} {f:Addr} {oc:Value} {od an:Option Addr} {osl:Array (Option Value)} {kV doc pm cdv ct:Value} (l:K.lookup f=some ⟨oc,od,.func (PySem.W.fnOf x qual (zz6 st) (zu2 st) (zg0 st) .none kV doc pm an cdv ct),osl⟩)
  (c:PySem.W.codeIn K cdv qual=true) (k:PySem.W.keepIn K (.ref f)=true):Fun K x qual st f (PySem.W.fnOf x qual (zz6 st) (zu2 st) (zg0 st) .none kV doc pm an cdv ct):=⟨⟨oc,od,kV,doc,pm,an,cdv,ct,osl,rfl,l,c⟩,k⟩
end
section
variable {X:Cx}
theorem pv (i:Nat) {x:Str} {pos:Pos} (hN:X.N[i]?=some x:=by rfl) (hv:Vis X.env.scope x:=by first|exact Or.inl rfl|exact Or.inr (Or.inl rfl)|exact Or.inr (Or.inr rfl)) (hd:(x == ("__debug__":Str))=false:=by decide)
  (hcd:(x == ("__classdict__":Str))=false:=by decide):PE X (.Name x pos) (tVar i):=zv91 hN hv hd hcd
end
noncomputable def Same (H H':Hp):Prop:=∀ b o,H b=some o->H' b=some o
theorem Same.trans {H H1 H2:Hp} (a:Same H H1) (b:Same H1 H2):Same H H2:=λ c o h=>b c o (a c o h)
theorem Same.seq {K:Fg} {H H':Hp} {a:Addr} {xs:List V} (e:Same H H') (h:SqL K H a xs):SqL K H' a xs:=by
 rcases h with (h|⟨o,h⟩)|h
 ·exact .inl (.inl (e _ _ h))
 ·exact .inl (.inr ⟨o,e _ _ h⟩)
 ·exact .inr h
end L2
namespace L3
open PySem PySem.Spec PyProof.Rows L2
noncomputable abbrev St:=L2.St
noncomputable def zi4 (env:Env):List (Str×NameKind)->List (Str×Addr)->List (Str×Addr)
|[],cs=>cs
|(n,k) :: r,cs=>zi4 env r (if k == .free then (match env.cells.lookup n with|some c=>(n,c) :: cs|none=>cs) else cs)
theorem zea {env:Env}:∀ (names:List (Str×NameKind)) (cs:List (Str×Addr)),(∀ y∈names,y.2=.free->∃ c,env.cells.lookup y.1=some c) ->
  (forIn names cs (λ (x:Str×NameKind) (r:List (Str×Addr))=>(match x with|(name,kind)=>if kind == .free then do let c <- cellOf env name;pure (ForInStep.yield ((name,c) :: r)) else pure (ForInStep.yield r):Sem (ForInStep (List (Str×Addr))))):Sem (List (Str×Addr)))=pure (zi4 env names cs)
|[],cs,_=>rfl
|(n,k) :: r,cs,h=>by
  rw [List.forIn_cons]
  by_cases hk:k=.free
  ·subst hk
   obtain ⟨c,hc⟩:=h (n,.free) v6 rfl
   have hc':env.cells.lookup n=some c:=hc
   have e1:cellOf env n=pure c:=by unfold cellOf;rw [hc']
   simp only [beq_self_eq_true,if_true,e1]
   have:=zea r ((n,c) :: cs) λ y hy=>h y (vU _ hy)
   unfold zi4
   simp only [beq_self_eq_true,if_true,hc']
   exact this
  ·have hb:(k == NameKind.free)=false:=by simpa using hk
   simp only [hb,xS,if_false]
   have:=zea r cs λ y hy=>h y (vU _ hy)
   unfold zi4
   simp only [hb,xS,if_false]
   exact this
theorem zbi {env:Env} {scope:Scope} (h:∀ y∈scope.names,y.2=.free->∃ c,env.cells.lookup y.1=some c):closureFor scope env=pure (zi4 env scope.names []):=by
 unfold closureFor
 show (forIn scope.names [] _ >>= λ cs=>pure cs)=_
 rw [zea scope.names [] h]
 rfl
theorem zhg {env:Env} {x:Str} {c:Addr}:∀ (names:List (Str×NameKind)) (cs:List (Str×Addr)),(∀ x c,cs.lookup x=some c->env.cells.lookup x=some c)->(zi4 env names cs).lookup x=some c->env.cells.lookup x=some c
|[],cs,h,e=>h x c e
|(n,k) :: r,cs,h,e=>by
  unfold zi4 at e
  refine zhg r _ (λ y d q=>?_) e
  split at q
  ·split at q
   ·rename_i c' hc'
    rw [v9] at q
    split at q
    ·rename_i hy
     cases q
     rw [beq_iff_eq.mp hy];exact hc'
    ·exact h y d q
   ·exact h y d q
  ·exact h y d q
theorem zre {env:Env} {x:Str}:∀ (names:List (Str×NameKind)) (cs:List (Str×Addr)),(∃ c,cs.lookup x=some c)->∃ c,(zi4 env names cs).lookup x=some c
|[],cs,h=>h
|(n,k) :: r,cs,⟨c,h⟩=>by
  unfold zi4
  refine zre r _ ?_
  split
  ·split
   ·rename_i c' hc'
    rw [v9]
    split
    ·exact ⟨_,rfl⟩
    ·exact ⟨c,h⟩
   ·exact ⟨c,h⟩
  ·exact ⟨c,h⟩
theorem zmb {env:Env} {x:Str}:∀ (names:List (Str×NameKind)) (cs:List (Str×Addr)),(x,NameKind.free)∈names->(∃ c,env.cells.lookup x=some c)->∃ c,(zi4 env names cs).lookup x=some c
|[],cs,h,_=>nomatch h
|(n,k) :: r,cs,h,⟨c,hc⟩=>by
  rcases vN.mp h with e|h
  ·cases e
   unfold zi4
   simp only [beq_self_eq_true,if_true,hc]
   exact zre r _ ⟨c,by simp [v9]⟩
  ·unfold zi4
   exact zmb r _ h ⟨c,hc⟩
theorem zcf {env:Env} {x:Str} {c:Addr}:∀ (names:List (Str×NameKind)) (cs:List (Str×Addr)),(zi4 env names cs).lookup x=some c->(x,NameKind.free)∈names \/ cs.lookup x=some c
|[],cs,e=>.inr e
|(n,k) :: r,cs,e=>by
  unfold zi4 at e
  rcases zcf r _ e with q|q
  ·exact .inl (vU _ q)
  ·split at q
   ·rename_i hk
    split at q
    ·rw [v9] at q
     split at q
     ·rename_i hy
      rw [beq_iff_eq.mp hy,<- beq_iff_eq.mp hk];exact .inl v6
     ·exact .inr q
    ·exact .inr q
   ·exact .inr q
theorem ze11 {x:Str} {c:Addr}:∀ (names:List (Str×NameKind)) (n:Nat) (acc:List (Str×Addr)),(cellsFrom n names acc).lookup x=some c->acc.lookup x=some c \/ ((x,NameKind.cell)∈names/\n<=c)
|[],_,_,e=>.inl e
|(y,k) :: r,n,acc,e=>by
  unfold cellsFrom at e
  split at e
  ·rename_i hk
   rcases ze11 r (n+1) _ e with q|q
   ·rw [v9] at q
    split at q
    ·rename_i hy
     cases q
     rw [beq_iff_eq.mp hy,<- beq_iff_eq.mp hk]
     exact .inr ⟨v6,u8 _⟩
    ·exact .inl q
   ·exact .inr ⟨vU _ q.1,yO q.2⟩
  ·rcases ze11 r n _ e with q|q
   ·exact .inl q
   ·exact .inr ⟨vU _ q.1,q.2⟩
theorem zax {x:Str}:∀ (names:List (Str×NameKind)) (n:Nat) (acc:List (Str×Addr)),(x,NameKind.cell) ∉ names->(cellsFrom n names acc).lookup x=acc.lookup x
|[],_,_,_=>rfl
|(y,k) :: r,n,acc,h=>by
  unfold cellsFrom
  split
  ·rename_i hk
   rw [zax r _ _ λ z=>h (vU _ z),v9]
   have:(x == y)=false:=by
    refine beq_eq_false_iff_ne.mpr λ e=>h ?_
    rw [e,<- beq_iff_eq.mp hk];exact v6
   rw [this]
  ·exact zax r _ _ λ z=>h (vU _ z)
theorem zxx:∀ (names:List (Str×NameKind)) (n:Nat) (acc:List (Str×Addr)),(∀ x c,acc.lookup x=some c->c < n)->(∀ x y c,acc.lookup x=some c->acc.lookup y=some c->x=y) ->
  ∀ x y c,(cellsFrom n names acc).lookup x=some c->(cellsFrom n names acc).lookup y=some c->x=y
|[],_,_,_,h=>h
|(z,k) :: r,n,acc,hb,h=>by
  unfold cellsFrom
  split
  ·refine zxx r (n+1) _ (λ x c e=>?_) λ x y c e1 e2=>?_
   ·rw [v9] at e
    split at e
    ·cases e;exact zU _
    ·exact zD (hb x c e)
   ·rw [v9] at e1 e2
    by_cases a:(x == z)=true <;> by_cases b:(y == z)=true
    ·rw [beq_iff_eq.mp a,beq_iff_eq.mp b]
    ·rw [a] at e1;rw [zY] at b;rw [b] at e2
     cases e1;exact absurd (hb _ _ e2) (w8 _)
    ·rw [b] at e2;rw [zY] at a;rw [a] at e1
     cases e2;exact absurd (hb _ _ e1) (w8 _)
    ·rw [zY] at a b;rw [a] at e1;rw [b] at e2
     exact h x y c e1 e2
  ·exact zxx r n acc hb h
theorem zbo:∀ (names:List (Str×NameKind)) (h:Heap) (acc:List (Str×Addr)),(∀ x c,acc.lookup x=some c->∃ v,h.IsCell c v) ->
  ∀ x c,(cellsFrom h.objs.size names acc).lookup x=some c->∃ v,(pushCells h names).IsCell c v
|[],_,_,p=>p
|(y,k) :: r,h,acc,p=>by
  unfold cellsFrom pushCells
  split
  ·have q:=zbo r (h.push { cls:=.type "cell",data:=.cell none }) ((y,h.objs.size) :: acc) (by
    intro x c e
    rw [v9] at e
    split at e
    ·cases e;exact ⟨none,_,wT _ rfl,rfl⟩
    ·obtain ⟨v,z⟩:=p x c e
     exact ⟨v,z.keeps λ b o e=>v7 _ e⟩)
   rwa [yB] at q
  ·exact zbo r h acc p
theorem zyk {x:Str} {k k':NameKind}:∀ {names:List (Str×NameKind)},(names.map (·.1)).Nodup->(x,k)∈names->(x,k')∈names->k=k'
|(y,j) :: r,h,a,b=>by
  obtain ⟨h1,h2⟩:=vY.mp h
  rcases vN.mp a with e|a' <;> rcases vN.mp b with e'|b'
  ·cases e;cases e';rfl
  ·cases e;exact (h1 (vR.mpr ⟨_,b',rfl⟩)).elim
  ·cases e';exact (h1 (vR.mpr ⟨_,a',rfl⟩)).elim
  ·exact zyk h2 a' b'
theorem zmi {M:Model} {A:Around} {E:Value->Shared->Prop} {s:Shared} {scope:Scope} {globals:Addr} {cl:List (Str×Addr)} {qual:Str} {env:Env} {Q:Env->Shared->Prop}
  (h:Q { scope,locals:=s.heap.objs.size,globals,cells:=cellsFrom (s.heap.objs.size+1) scope.names cl,qual,func:=none,code:=env.code,frame:=env.frame,builtins:=env.builtins } { s with heap:=pushCells (s.heap.push { cls:=.type "dict",data:=.dict #[] }) scope.names }) :
  wpAny M A (newFunctionEnv scope globals cl [] qual none .none (some env)) Q E s:=by
 simp only [newFunctionEnv,j9,if_true]
 refine wpAny_bind (wpAny_alloc ?_)
 refine wpAny_bind (wpAny_layCells _ (λ name kind cells=>by cases hkc:kind == NameKind.cell <;> simp [hkc]) _ _ _ _ ?_)
 rw [show ({ s with heap:=s.heap.push { cls:=.type "dict",data:=.dict #[] } }:Shared).heap.objs.size=s.heap.objs.size+1 from yB ..]
 rw [List.forIn_nil]
 exact wpAny_bind (wpAny_pure (wpAny_pure h))
section
variable {prog:Program} {w:World} {A:Around} {R:Result->Shared->Prop} {s:Shared}
theorem zzk {elt target iter:Expr} {ifs:List Expr} {scope:Scope} {pos:Pos} {it acc:Value} {env:Env} (I:Nat->Shared->Prop)
  (turn:∀ n s,I n s->wpAny (model prog w) A (pyNext it) (λ r s₁=>match r with
  |none=>R (.ok .next) s₁
  |some v=>wpAny (model prog w) A (letOwnedTupleGo target it v) (λ _ s₁'=>wpAny (model prog w) A (assign target env v) (λ _ s₂ =>
     wpAny (model prog w) A (forIn ifs true λ c r=>if r=true then do let ok <- isTrue c env (eval c env);pure (ForInStep.yield ok) else pure (ForInStep.yield r)) (λ ok s₃ =>
      if ok=true then wpAny (model prog w) A (eval elt env) (λ x s₄ =>
       wpAny (model prog w) A (call (.builtin "list.append") [acc,x]) (λ _ s₅=>∃ m,m < n/\I m s₅) (notedBy (model prog w) A env λ e s'=>R (.error e) s') s₄) (notedBy (model prog w) A env λ e s'=>R (.error e) s') s₃
      else ∃ m,m < n/\I m s₃) (notedBy (model prog w) A env λ e s'=>R (.error e) s') s₂) (notedBy (model prog w) A env λ e s'=>R (.error e) s') s₁') (notedBy (model prog w) A env λ e s'=>R (.error e) s') s₁) (notedBy (model prog w) A env λ e s'=>R (.error e) s') s)
  (n:Nat) (h:I n s) :
  codeAny (model prog w) A (.compLoop (.ListComp elt [⟨target,iter,ifs,0⟩] scope pos) 0 it acc env) R s:=by
 refine codeAny_loop rfl I (λ n s hI=>?_) n h
 show wpAny _ A ((compTurn (.ListComp elt [⟨target,iter,ifs,0⟩] scope pos) 0 it acc env).onRaise (λ x=>do noteFrame x env;theTreesLotGoes x)) _ _ s
 refine wpAny_noted ?_
 rw [compTurn_list]
 refine wpAny_bind (wpAny_standAt (wpAny_bind (wpAny_mono (turn n s hI) (λ r s₁ h₁=>?_) λ _ _ h'=>h')))
 cases r with
|none=>exact wpAny_pure h₁
|some v =>
  refine wpAny_bind (wpAny_mono h₁ (λ _ s₁' h₁'=>?_) λ _ _ h'=>h')
  refine wpAny_bind (wpAny_mono h₁' (λ _ s₂ h₂=>wpAny_bind (wpAny_mono h₂ (λ ok s₃ h₃=>?_) λ _ _ h'=>h')) λ _ _ h'=>h')
  cases ok with
 |false=>exact wpAny_pure ⟨rfl,h₃⟩
 |true =>
   exact wpAny_bind (wpAny_bind (wpAny_mono h₃ (λ x s₄ h₄=>wpAny_bind (wpAny_mono h₄ (λ _ s₅ h₅=>wpAny_pure (wpAny_pure ⟨rfl,h₅⟩)) λ _ _ h'=>h')) λ _ _ h'=>h'))
end
noncomputable abbrev zps (X:Cx) (scope:Scope) (C:Addr):List (Str×Addr):=cellsFrom (C+1) scope.names (zi4 X.env scope.names [])
noncomputable def zk5 (X:Cx) (scope:Scope) (N:List Str) (s₀:Shared) (H₀:Hp) (C:Addr) (fp:List Addr):Cx where
 prog:=X.prog
 w:=X.w
 K:=X.K
 mg:=X.mg
 base:=X.base
 A:=X.A
 N:=N
 s₀:=s₀
 H₀:=H₀
 env:=compEnvC scope (zps X scope C) C X.env
 outer:=X.stack
 stack:=X.stack
 ex:=fp
 fn:=λ x=>decide (scope.names.lookup x=some .cell)
 calm:=X.calm
 pn:=[]
 xe:=λ _ _=>False
def zch (N:List Str) (own:List Str) (ix:List Nat):List Str:=own++ix.map λ i=>N.getD i ""
noncomputable def compY (n:Nat) (ix:List Nat) (Y:St):St:=u7 n none++ix.map λ i=>Y.getD i none
structure CompSc (sc:Scope) (N own:List Str) (ix:List Nat) (scope:Scope):Prop where
 kind:scope.kind=.function
 cell:(scope.names.map (·.1)).Nodup
 names:∀ y∈scope.names,y.2=.local->scope.names.lookup y.1=some .local
 free:∀ y∈scope.names,y.2=.free->sc.names.lookup y.1=some .cell \/ sc.names.lookup y.1=some .free
 caps:∀ i∈ix,i < N.length/\scope.names.lookup (N.getD i "")≠some .local/\scope.names.lookup (N.getD i "")≠some .cell
theorem zmc {env : Env} {x : Str} : ∀ (names : List (Str × NameKind)),
    ((names.map fun (n, k) => if (k == NameKind.free && env.scope.kind == .function && env.kindOf n == some .cell) then (n, NameKind.cell) else (n, k)).lookup x = some .cell ∨
     (names.map fun (n, k) => if (k == NameKind.free && env.scope.kind == .function && env.kindOf n == some .cell) then (n, NameKind.cell) else (n, k)).lookup x = some .free) → names.lookup x = some .free ∨ names.lookup x = some .cell
  | [], h => by rcases h with h | h <;> cases h
  | (n, k) :: r, h => by
    have ih := zmc (env := env) (x := x) r
    rw [vV] at h
    by_cases hx : (x == n) = true
    · rw [v9, hx]
      dsimp only at h ⊢
      by_cases hcc : (k == NameKind.free && env.scope.kind == .function && env.kindOf n == some .cell) = true
      · have : k = .free := by
          have := (uaA.mp (uaA.mp hcc).1).1
          exact beq_iff_eq.mp this
        rw [this]; exact .inl rfl
      · rw [if_neg hcc, v9, hx] at h
        exact h.symm
    · have hx' : (x == n) = false := by simpa using hx
      rw [v9, hx']
      refine ih ?_
      by_cases hcc : (k == NameKind.free && env.scope.kind == .function && env.kindOf n == some .cell) = true
      · simp only [hcc, if_true] at h
        rw [v9, hx'] at h
        exact h
      · simp only [hcc, xS, if_false] at h
        rw [v9, hx'] at h
        exact h
section
variable {X:Cx} {pins:List (Addr×Obj)} {Y:St} {H H':Hp} {s:Shared}
theorem zlw {scope:Scope} {own:List Str} {ix:List Nat} {fp:List Addr} {h₁:Heap} {m:Str->Option Value} {t':Nat} (I:Inv X pins Y H s) (S:CompSc X.env.scope X.N own ix scope)
  (hns:h₁.Ns s.heap.objs.size m) (kc:∀ x c,(zps X scope s.heap.objs.size).lookup x=some c->∃ v,h₁.IsCell c v) (k:∀ b o,s.heap.get? b=some o->h₁.get? b=some o) (hf:∀ b∈fp,FpOk X pins H b) (hfo:∀ b∈fp,b < s.heap.objs.size) :
  Inv (zk5 X scope (zch X.N own ix) s H s.heap.objs.size fp) [] (compY own.length ix Y) H { s with heap:=h₁,toks:=t' }:=by
 have hcl:∀ x c,(zi4 X.env scope.names []).lookup x=some c->X.env.cells.lookup x=some c:=λ x c e=>zhg scope.names [] (λ _ _ q=>by cases q) e
 have hcl2:∀ x c,(zps X scope s.heap.objs.size).lookup x=some c->X.env.cells.lookup x=some c \/ s.heap.objs.size+1<=c:=λ x c e=>(ze11 _ _ _ e).imp (hcl x c) And.right
 have hfree:∀ x,((relabel scope X.env).names.lookup x=some .cell \/ (relabel scope X.env).names.lookup x=some .free)->scope.names.lookup x=some .free \/ scope.names.lookup x=some .cell:=λ x hx=>zmc scope.names hx
 have hX:∀ x,scope.names.lookup x=some .free->X.env.kindOf x=some .cell \/ X.env.kindOf x=some .free:=λ x hx=>S.free (x,.free) (PySem.mem_of_lookup hx) rfl
 refine ⟨⟨I.ok.mod,S.kind,I.ok.glob,I.ok.blt,u8 _,zxx _ _ _ (λ x c e=>?_) (λ x y c e1 e2=>I.ok.inj x y c (hcl x c e1) (hcl y c e2)),λ x hx=>?_,λ x c z e=>?_,I.ok.hd,I.ok.frames,.inl rfl,λ b hb=>?_,I.bs,wB I.ok.bsz I.sz,λ b o e hb=>?_,λ b hb hs=>?_,I.stack,I.stkFree⟩,
  rfl,I.bare,Un.kept k,⟨m,hns,λ i x v e1 e2 e3=>?_⟩,kc,I.hok.fresh (u8 _),λ x c e=>(hcl2 x c e).elim (I.freeC x c) (λ z=>I.hok.fresh (yO z)),λ p hp=>absurd (show p∈([]:List (Addr×Obj)) from hp) (by simp),I.hok.kept k,?_⟩
 ·obtain ⟨v,z⟩:=I.cell x c (hcl x c e)
  exact zD z.lt
 ·refine xA.mp (PySem.W.cellsFrom_some _ _ _ ?_)
  rcases hfree x hx with hx1|hx1
  ·exact .inr (xA.mpr (zmb scope.names [] (PySem.mem_of_lookup hx1) (I.ok.has x (hX x hx1))))
  ·exact .inl hx1
 ·rcases ze11 _ _ _ e with q|q
  ·rcases zcf _ _ q with q|q
   ·have:=zyk S.cell (PySem.mem_of_lookup (of_decide_eq_true z)) q
    cases this
   ·cases q
  ·exact yO q.2
 ·exact ⟨wE (hfo b hb),λ x c e=>(hcl2 x c e).elim ((hf b hb).2.2.2.2.1 x c) λ z e2=>absurd (wL (hfo b hb) (yO (e2 ▸ z))) (w8 _)⟩
 ·rcases (hf b hb).2.2.2.1 with z|z
  ·exact I.ok.noex b o e z
  ·exact absurd (wL (vT e) (wB I.ok.bsz z)) (w8 _)
 ·rcases vN.mp (I.stkSub b hs) with z|z
  ·exact (hf b hb).2.1 z
  ·exact (hf b hb).2.2.1 z
 ·-- a captured name
  have e2':(u7 own.length (none:Option V)++ix.map λ i=>Y.getD i none)[i]?=some (some v):=e2
  have e1':(own++ix.map λ i=>X.N.getD i "")[i]?=some x:=e1
  by_cases hi:i < own.length
  ·rw [wR (by simpa using hi),xB] at e2'
   split at e2' <;> cases e2'
  ·have hi':own.length<=i:=Nat.le_of_not_lt hi
   rw [wM (by simpa using hi'),xF,u6] at e2'
   rw [wM hi',u6] at e1'
   cases hq:ix[i - own.length]? with
  |none=>rw [hq] at e2';cases e2'
  |some q =>
    rw [hq] at e1' e2'
    have ex:X.N.getD q ""=x:=wO.inj e1'
    have ev:Y.getD q none=some v:=wO.inj e2'
    obtain ⟨hql,hnl⟩:=S.caps q (v8 hq)
    rw [ex] at hnl
    have hnc:=hnl.2
    replace hnl:=hnl.1
    have e3':(relabel scope X.env).names.lookup x=some .local \/ (relabel scope X.env).names.lookup x=some .cell \/ (relabel scope X.env).names.lookup x=some .free:=e3
    have hcf:(relabel scope X.env).names.lookup x=some .cell \/ (relabel scope X.env).names.lookup x=some .free:=by
     rcases e3' with z|z
     ·exfalso
      cases hs:scope.names.lookup x with
     |none =>
       have:∀ (names:List (Str×NameKind)),names.lookup x=none->(names.map λ (n,k)=>if (k == NameKind.free && X.env.scope.kind == .function && X.env.kindOf n == some .cell) then (n,NameKind.cell) else (n,k)).lookup x=none:=by
        intro names
        induction names with
       |nil=>intro _;rfl
       |cons y r ih =>
         obtain ⟨n,kk⟩:=y
         intro hh
         rw [v9] at hh
         by_cases hxn:(x == n)=true
         ·rw [hxn] at hh;cases hh
         ·have hx':(x == n)=false:=by simpa using hxn
          rw [hx'] at hh
          rw [vV]
          by_cases hcc:(kk == NameKind.free && X.env.scope.kind == .function && X.env.kindOf n == some .cell)=true
          ·simp only [hcc,if_true];rw [v9,hx'];exact ih hh
          ·simp only [hcc,xS,if_false];rw [v9,hx'];exact ih hh
       have q0:=this scope.names hs
       have z':(scope.names.map λ (n,k)=>if (k == NameKind.free && X.env.scope.kind == .function && X.env.kindOf n == some .cell) then (n,NameKind.cell) else (n,k)).lookup x=some .local:=z
       rw [q0] at z';cases z'
     |some kk =>
       have:∀ (names:List (Str×NameKind)),names.lookup x=some kk->(names.map λ (n,k)=>if (k == NameKind.free && X.env.scope.kind == .function && X.env.kindOf n == some .cell) then (n,NameKind.cell) else (n,k)).lookup x=some .local->kk=.local:=by
        intro names
        induction names with
       |nil=>intro h;cases h
       |cons y r ih =>
         obtain ⟨n,k2⟩:=y
         intro hh hz
         rw [v9] at hh
         rw [vV] at hz
         by_cases hxn:(x == n)=true
         ·rw [hxn] at hh
          have hk2:k2=kk:=wO.inj hh
          by_cases hcc:(k2 == NameKind.free && X.env.scope.kind == .function && X.env.kindOf n == some .cell)=true
          ·simp only [hcc,if_true] at hz;rw [v9,hxn] at hz;cases hz
          ·simp only [hcc,xS,if_false] at hz;rw [v9,hxn] at hz
           rw [<- hk2];exact wO.inj hz
         ·have hx':(x == n)=false:=by simpa using hxn
          rw [hx'] at hh
          by_cases hcc:(k2 == NameKind.free && X.env.scope.kind == .function && X.env.kindOf n == some .cell)=true
          ·simp only [hcc,if_true] at hz;rw [v9,hx'] at hz;exact ih hh hz
          ·simp only [hcc,xS,if_false] at hz;rw [v9,hx'] at hz;exact ih hh hz
       have:=this scope.names hs z
       rw [this] at hs
       exact hnl hs
     ·exact z
    have hfr:=(hfree x hcf).resolve_right hnc
    have hkX:=hX x hfr
    obtain ⟨mX,hnX,hlX⟩:=I.loc
    have eN:X.N[q]?=some x:=by
     rw [<- ex,vL]
     rw [u5 hql];rfl
    have eY:Y[q]?=some (some v):=by
     rw [vL] at ev
     cases hs:Y[q]? with
    |none=>rw [hs] at ev;cases ev
    |some o=>rw [hs] at ev;exact congrArg some ev
    obtain ⟨u,r,l⟩:=hlX q x v eN eY (.inr hkX)
    refine ⟨u,r,.inr ⟨hcf,?_⟩⟩
    rcases l with ⟨hk,_⟩|⟨_,c,ec,hcell⟩
    ·exfalso
     rcases hkX with z|z
     ·rw [hk] at z;cases z
     ·rw [hk] at z;cases z
    ·obtain ⟨c',ec'⟩:=zmb scope.names [] (PySem.mem_of_lookup hfr) ⟨c,ec⟩
     have:=hcl x c' ec'
     rw [ec] at this
     cases this
     exact ⟨c,(zax _ _ _ λ z=>by cases zyk S.cell z (PySem.mem_of_lookup hfr)).trans ec',hcell.keeps k⟩
 ·show (compY own.length ix Y).length=(zch X.N own ix).length
  unfold compY zch
  simp
theorem zmo {scope:Scope} {N:List Str} {pins':List (Addr×Obj)} {Y':St} {fp:List Addr} {s':Shared} {h'':Heap} (I:Inv X pins Y H s) (hf:∀ b∈fp,FpOk X pins H b)
  (I':Inv (zk5 X scope N s H s.heap.objs.size fp) pins' Y' H' s') (sb:Heap.SameBut s.heap.objs.size s'.heap h''):Inv X pins Y H' { s' with heap:=h'' }:=by
 have ext:∀ b o,b≠s.heap.objs.size->s'.heap.get? b=some o->h''.get? b=some o:=λ b o nb e=>by rw [sb.2 b nb];exact e
 have old:∀ b o,s.heap.get? b=some o->b≠s.heap.objs.size:=λ b o e=>wE (vT e)
 have u:=I'.base
 refine I.call' (ch:=fp) I'.os ⟨λ b o e n hb hx=>ext b o (old b o e) (u.keep b o e n hb hx),λ b o e n hb hx=>?_,u.free,λ b o e hx=>?_,u.tups,u.frzs,u.tbls⟩ (λ b ob e=>?_) I'.bare λ b hb=>⟨(hf b hb).2.2.2.1,(hf b hb).2.1,(hf b hb).2.2.2.2.1,(hf b hb).2.2.2.2.2⟩
 ·obtain ⟨sl,q⟩:=u.slot b o e n hb hx
  exact ⟨sl,ext b _ (old b o e) q⟩
 ·obtain ⟨o',q⟩:=u.there b o e hx
  exact ⟨o',ext b _ (old b o e) q⟩
 ·have nC:∀ c v,H' c=some v->c≠s.heap.objs.size:=λ c v q z=>by
   have:=I'.free
   rw [z] at q
   have z2:H' s.heap.objs.size=none:=this
   rw [z2] at q;cases q
  refine (I'.hok b ob e).stay (λ c v hc q=>ext c v ?_ q) (λ _ q=>q) λ _ _ q=>q
  rcases hc with z|z
  ·rw [z];exact nC b ob e
  ·exact nC c _ z
end
noncomputable def zua1 (n:Nat) (ix:List Nat) (g:TG) (tt:TT) (te:TE) (Y:St) (J:It) (H1:Hp) (Q:VK):Prop:=∀ D,H1 D=none->∃ W:Nat->Nat->List V->St->Hp->Prop,(∃ m,W 0 m [] (compY n ix Y) (upd H1 D (.lst []))) /\
 ∀ i m acc Y' H',W i m acc Y' H'->(J.stop i H'/\Q (.ref D) H') \/ (J.go i H'/\∃ N:List V->St->Hp->Prop,(∀ acc' Y2 H2,N acc' Y2 H2->∃ m',m' < m/\W (i+1) m' acc' Y2 H2) /\
  ∀ x H2,J.yld i H' x H2->g x Y' H2 λ Y2 H3=>tt Y2 H3 λ b H4=>if b=true then te Y2 H4 λ y H5=>H5 D=some (.lst acc)/\acc.length < sizeLine/\N (acc++[y]) Y2 (upd H5 D (.lst (acc++[y]))) else N acc Y2 H4)
noncomputable def zt41 (wi:TI) (n:Nat) (ix:List Nat) (g:TG) (tt:TT) (te:TE):TE:=λ Y H Q=>wi Y H λ J H1=>zua1 n ix g tt te Y J H1 Q
noncomputable def zi81:TT:=λ _ H Q=>Q true H
noncomputable def PIf (X:Cx) (ifs:List Expr) (t:TT):Prop :=
 ∀ (pins:List (Addr×Obj)) (s:Shared) (Y:St) (H:Hp) (Q:Bool->Hp->Prop),Inv X pins Y H s->t Y H Q ->
  wpAny (model X.prog X.w) X.A (forIn ifs true λ c r=>if r=true then do let ok <- isTrue c X.env (eval c X.env);pure (ForInStep.yield ok) else pure (ForInStep.yield r)) (TP X pins Y Q) X.xe s
theorem zk3 {X:Cx}:PIf X [] zi81:=λ pins s Y H Q I h=>wpAny_tests_nil ⟨H,I,h⟩
theorem zgp {X:Cx} {c:Expr} {t:TT} (h:PT X c t):PIf X [c] t:=λ pins s Y H Q I q=>wpAny_tests_one (h pins s Y H Q I q)
section
variable {X:Cx} {tg iter elt:Expr} {ifs:List Expr} {scope:Scope} {pos:Pos} {own:List Str} {ix:List Nat} {wi:TI} {g:TG} {tt:TT} {te:TE} {sc:Scope} {N:List Str}
theorem zpj {pins:List (Addr×Obj)} {Y:St} {s2:Shared} {itv:Value} {Q:VK} {RR:Value->Addr->Result->Shared->Prop} {E:Value->Shared->Prop} (hc:X.calm=true) (S:CompSc X.env.scope X.N own ix scope)
  (hb:∀ s₀ H₀ C fp,PG (zk5 X scope (zch X.N own ix) s₀ H₀ C fp) tg g/\PIf (zk5 X scope (zch X.N own ix) s₀ H₀ C fp) ifs tt/\PE (zk5 X scope (zch X.N own ix) s₀ H₀ C fp) elt te)
  (h2:PIE X pins Y tg (λ J H1=>zua1 own.length ix g tt te Y J H1 Q) itv s2)
  (hR:∀ (D C:Addr) (m:Str->Option Value) (s':Shared) (H':Hp),s'.heap.Ns C m->C≠X.env.locals->(∀ x c,X.env.cells.lookup x=some c->c≠C)->H' C=none->(X.s₀.heap.objs.size<=C)->(∀ p∈X.pn++pins,p.1≠C) ->
   (∀ h'',Heap.SameBut C s'.heap h''->Inv X pins Y H' { s' with heap:=h'' })->Q (.ref D) H'->RR (.ref D) C (.ok .next) s') :
  wpAny (model X.prog X.w) X.A (newList []) (λ acc s₃=>wpAny (model X.prog X.w) X.A (newFunctionEnv scope X.env.globals (zi4 X.env scope.names []) [] X.env.qual none .none (some X.env)) (λ cenv s₄ =>
   codeAny (model X.prog X.w) X.A (.compStart (.ListComp elt [⟨tg,iter,ifs,0⟩] scope pos) 0 itv acc { cenv with scope:=relabel scope X.env }) (RR acc cenv.locals) s₄) E s₃) E s2:=by
 obtain ⟨it,fp,tn,J,H1,e,I2,T,st2,f2,h⟩:=h2
 subst e
 have hD:H1 s2.heap.objs.size=none:=I2.hok.fresh (u8 _)
 obtain ⟨W,⟨m0,w0⟩,turn⟩:=h _ hD
 have hlt:∀ b∈fp,b < s2.heap.objs.size:=λ b hbf=>by obtain ⟨o,e,_⟩:=T.obj 0 _ st2 b hbf;exact vT e
 refine wpAny_newObj_type ?_
 -- the new list is tracked
 have I3:Inv X pins Y (upd H1 s2.heap.objs.size (.lst [])) { s2 with heap:=s2.heap.push { cls:=.type "list",dict:=none,data:=.seq ([]:List Value).toArray } }:=I2.lnew (ys:=[]) (its:=[]) .nil (wY _)
 generalize hs3:({ s2 with heap:=s2.heap.push { cls:=.type "list",dict:=none,data:=.seq ([]:List Value).toArray } }:Shared)=s3 at I3 ⊢
 have hsz:s3.heap.objs.size=s2.heap.objs.size+1:=by rw [<- hs3];exact yB ..
 have k3:∀ b o,s2.heap.get? b=some o->s3.heap.get? b=some o:=λ b o e=>by rw [<- hs3];exact v7 _ e
 have neD:∀ b∈fp,b≠s2.heap.objs.size:=λ b hbf=>wE (hlt b hbf)
 have f3:∀ b∈fp,FpOk X pins (upd H1 s2.heap.objs.size (.lst [])) b:=λ b hbf=>⟨by rw [zw0 (neD b hbf)];exact (f2 b hbf).1,(f2 b hbf).2⟩
 have hlt3:∀ b∈fp,b < s3.heap.objs.size:=λ b hbf=>by rw [hsz];exact zD (hlt b hbf)
 refine zmi ?_
 have hns₁:=(Heap.Ns.new s3.heap (.type "dict")).keeps (pushCells_keeps scope.names _)
 have k4:∀ b o,s3.heap.get? b=some o->(pushCells (s3.heap.push { cls:=.type "dict",data:=.dict #[] }) scope.names).get? b=some o:=λ b o e=>pushCells_keeps _ _ b o (v7 _ e)
 have hcl:∀ x c,(zi4 X.env scope.names []).lookup x=some c->X.env.cells.lookup x=some c:=λ x c e=>zhg scope.names [] (λ _ _ q=>by cases q) e
 have kc:=zbo scope.names (s3.heap.push { cls:=.type "dict",data:=.dict #[] }) (zi4 X.env scope.names []) (λ x c e=>by
  obtain ⟨v,z⟩:=I3.cell x c (hcl x c e)
  exact ⟨v,z.keeps λ b o e=>v7 _ e⟩)
 rw [yB] at kc
 generalize pushCells (s3.heap.push { cls:=.type "dict",data:=.dict #[] }) scope.names=h₁ at hns₁ k4 kc ⊢
 have I4:=zlw (t':=s3.toks) I3 S hns₁ kc k4 f3 hlt3
 obtain ⟨hG,hT,hE⟩:=hb s3 (upd H1 s2.heap.objs.size (.lst [])) s3.heap.objs.size fp
 have fp':∀ {H':Hp},(∀ b∈fp,H' b=none)->∀ b∈fp,FpOk (zk5 X scope (zch X.N own ix) s3 (upd H1 s2.heap.objs.size (.lst [])) s3.heap.objs.size fp) [] H' b:=λ {H'} hn b hbf=>by
  refine ⟨hn b hbf,wE (hlt3 b hbf),?_,.inl hbf,λ x c e=>(ze11 _ _ _ e).elim (λ q=>(f2 b hbf).2.2.2.2.1 x c (hcl x c q)) (λ q e2=>absurd (wL (hlt3 b hbf) (yO (e2 ▸ q.2))) (w8 _)),λ p hp=>absurd (show p∈([]:List (Addr×Obj)) from hp) (by simp)⟩
  intro z
  rcases vN.mp (I3.stkSub b z) with z|z
  ·exact (f2 b hbf).2.1 z
  ·exact (f2 b hbf).2.2.1 z
 have st4:tn 0 h₁:=T.keep _ _ _ st2 λ b _ o e=>k4 b o (k3 b o e)
 have cne:∀ x c,X.env.cells.lookup x=some c->c≠s3.heap.objs.size:=λ x c e z=>by
  obtain ⟨v,q⟩:=I3.cell x c e
  exact absurd q.lt (by rw [z];exact w8 _)
 have loop:codeAny (model X.prog X.w) X.A (.compLoop (.ListComp elt [⟨tg,iter,ifs,0⟩] scope pos) 0 (.ref it) (.ref s2.heap.objs.size) (compEnvC scope (zps X scope s3.heap.objs.size) s3.heap.objs.size X.env)) (RR (.ref s2.heap.objs.size) s3.heap.objs.size) { s3 with heap:=h₁ }:=by
  refine zzk (λ n s'=>∃ i acc Y' H',Inv (zk5 X scope (zch X.N own ix) s3 (upd H1 s2.heap.objs.size (.lst [])) s3.heap.objs.size fp) [] Y' H' s'/\tn i s'.heap/\(∀ b∈fp,H' b=none)/\W i n acc Y' H') ?_ m0 ⟨0,[],_,_,I4,st4,λ b hbf=>(f3 b hbf).1,w0⟩
  rintro n s5 ⟨i,acc,Y5,H5,I5,st5,fr5,w5⟩
  rcases turn i n acc Y5 H5 w5 with ⟨stop,qn⟩|⟨go,NN,hN,step⟩
  ·refine thn (T.done (zk5 X scope (zch X.N own ix) s3 (upd H1 s2.heap.objs.size (.lst [])) s3.heap.objs.size fp) rfl rfl rfl hc i [] s5 Y5 H5 _ I5 (fp' fr5) st5 stop) λ r s6 hz=>?_
   obtain ⟨hr,I6⟩:=hz
   subst hr
   obtain ⟨m6,hn6,_⟩:=I6.loc
   exact hR _ _ m6 s6 H5 hn6 (Nat.ne_of_gt I3.lt) cne I6.free (I3.sz) (λ p hp z=>absurd (vT (I3.pin p hp).1) (by rw [z];exact w8 _)) (λ h'' sb=>zmo I3 f3 I6 sb) qn
  ·refine thn (T.item (zk5 X scope (zch X.N own ix) s3 (upd H1 s2.heap.objs.size (.lst [])) s3.heap.objs.size fp) rfl rfl rfl hc i [] s5 Y5 H5 _ I5 (fp' fr5) st5 go) λ r s6 hz=>?_
   obtain ⟨u,hr,h6⟩:=hz
   subst hr
   refine thn h6 λ _ s7 hz=>?_
   obtain ⟨x,H7,I7,r7,y7,st7,fr7⟩:=hz
   have I7':=I7.pinned (fp' fr7) (T.obj _ _ st7)
   have noE:∀ {α:Type} {t:Sem α} {Q1:α->Shared->Prop} {E1:Value->Shared->Prop} {sx:Shared},wpAny (model X.prog X.w) X.A t Q1 (λ _ _=>False) sx->wpAny (model X.prog X.w) X.A t Q1 E1 sx:=λ q=>wpAny_noRaise q
   refine noE (thn (hG _ s7 Y5 H7 x u _ I7' r7 (step x H7 y7)) λ _ s8 hz=>?_)
   obtain ⟨Y8,H8,I8,q8⟩:=hz
   refine noE (thn (hT _ s8 Y8 H8 _ I8 q8) λ b s9 hz=>?_)
   obtain ⟨H9,I9,q9⟩:=hz
   have again:∀ {Yz:St} {Hz:Hp} {sz:Shared} {accz:List V},Inv (zk5 X scope (zch X.N own ix) s3 (upd H1 s2.heap.objs.size (.lst [])) s3.heap.objs.size fp) ([]++ztp fp s7.heap) Yz Hz sz->NN accz Yz Hz->∃ m,m < n/\∃ i acc Y' H',Inv (zk5 X scope (zch X.N own ix) s3 (upd H1 s2.heap.objs.size (.lst [])) s3.heap.objs.size fp) [] Y' H' sz/\tn i sz.heap/\(∀ b∈fp,H' b=none)/\W i m acc Y' H':=λ {Yz Hz sz accz} Iz nz=>by
    obtain ⟨m',hm,wz⟩:=hN accz Yz Hz nz
    refine ⟨m',hm,i+1,accz,Yz,Hz,Iz.unpinned,T.keep _ _ _ st7 λ b hbf o e=>(Iz.pin (b,o) (wU _ (wU _ (zm7 hbf e)))).1,λ b hbf=>?_,wz⟩
    obtain ⟨o,e,d⟩:=T.obj _ _ st7 b hbf
    exact (Iz.pin (b,o) (wU _ (wU _ (zm7 hbf e)))).2.1
   cases b with
  |false =>
    have q9':NN acc Y8 H9:=by simpa using q9
    simp only [xS,if_false]
    exact again I9 q9'
  |true =>
    have q9':te Y8 H9 λ y H5=>H5 s2.heap.objs.size=some (.lst acc)/\acc.length < sizeLine/\NN (acc++[y]) Y8 (upd H5 s2.heap.objs.size (.lst (acc++[y]))):=by simpa using q9
    simp only [if_true]
    refine noE (thn (hE _ s9 Y8 H9 _ I9 q9') λ y s10 hz=>?_)
    obtain ⟨yv,H10,I10,r10,hl,hz,q10⟩:=hz
    refine noE (thn (zc1 _ s10 Y8 H10 (.ref s2.heap.objs.size) [yv] (.ref s2.heap.objs.size) [y] (λ _ H'=>NN (acc++[yv]) Y8 H') I10 rfl (.cons r10 .nil) ⟨_,acc,yv,rfl,rfl,hl,hz,q10⟩) λ _ s11 hz=>?_)
    obtain ⟨_,H11,I11,_,q11⟩:=hz
    exact again I11 q11
 exact codeAny_compStart_list loop (T.self X.A 0 _ _ _ st4 loop)
theorem zk4 (hc:X.calm=true) (hsc:X.env.scope=sc) (hN:X.N=N) (S:CompSc sc N own ix scope) (hi:PI X tg iter wi)
  (hb:∀ s₀ H₀ C fp,PG (zk5 X scope (zch N own ix) s₀ H₀ C fp) tg g/\PIf (zk5 X scope (zch N own ix) s₀ H₀ C fp) ifs tt/\PE (zk5 X scope (zch N own ix) s₀ H₀ C fp) elt te)
  (hs:∀ x,foldedSetIterable iter X.env x=pure x:=by intro _;rfl):PE X (.ListComp elt [⟨tg,iter,ifs,0⟩] scope pos) (zt41 wi own.length ix g tt te):=by
 subst hsc hN
 intro pins s Y H Q I h
 rw [eval_ListComp]
 refine wpAny_comprehension_free (use:=none) (g:=⟨tg,iter,ifs,0⟩) (gs:=[]) rfl hs (zbi λ y hy hf=>I.ok.has y.1 (S.free y hy hf)) S.kind S.names ?_
 show wpAny _ _ (eval iter X.env) _ _ _
 refine thn (hi pins s Y H _ I h) λ v s1 h1=>thn h1 λ itv s2 h2=>?_
 refine zpj (Q:=Q) (RR:=λ acc C=>compPost (model X.prog X.w) X.A X.xe none (EP X pins Y Q) acc C) hc S hb h2 ?_
 intro D C m s' H' hns _ _ _ _ _ hI q
 exact ⟨m,hns,λ h'' sb=>⟨.ref D,H',hI h'' sb,rfl,q⟩⟩
theorem zd4 {i:Nat} {x:Str} {pos' pos2:Pos} (hc:X.calm=true) (hsc:X.env.scope=sc) (hN:X.N=N) (S:CompSc sc N own ix scope) (hnd:X.N.Nodup) (hxi:X.N[i]?=some x) (hx:X.env.scope.names.lookup x=some .local) (hi:PI X tg iter wi)
  (hb:∀ s₀ H₀ C fp,PG (zk5 X scope (zch N own ix) s₀ H₀ C fp) tg g/\PIf (zk5 X scope (zch N own ix) s₀ H₀ C fp) ifs tt/\PE (zk5 X scope (zch N own ix) s₀ H₀ C fp) elt te)
  (hsw:swapsWith (.ListComp elt [⟨tg,iter,ifs,0⟩] scope pos) (some (.Name x pos')) pos2.line X.env=pure true:=by rfl)
  (hs:∀ x,foldedSetIterable iter X.env x=pure x:=by intro _;rfl):PS X (.Assign [.Name x pos'] (.ListComp elt [⟨tg,iter,ifs,0⟩] scope pos) pos2) (tAsg (zt41 wi own.length ix g tt te) (zvq i)):=by
 subst hsc hN
 intro pins s Y H D I h
 rw [exec_Assign_Name_used _ _ _ _ hsw]
 refine wpAny_bind (wpAny_standAt (wpAny_bind ?_))
 show wpAny _ X.A (do let _ <- comprehension (.ListComp elt [⟨tg,iter,ifs,0⟩] scope pos) scope X.env _ (newList []) false (eval iter X.env) (some (assign (.Name x pos') X.env))) _ _ s
 refine wpAny_bind (wpAny_mono (wpAny_comprehension_free (use:=some (assign (.Name x pos') X.env)) (g:=⟨tg,iter,ifs,0⟩) (gs:=[]) (Q:=λ _ s'=>SP X pins D .next s') rfl hs (zbi λ y hy hf=>I.ok.has y.1 (S.free y hy hf)) S.kind S.names
  (thn (hi pins s Y H _ I h) λ v s1 h1=>thn h1 λ itv s2 h2=>?_)) (λ _ s' hq=>wpAny_pure (wpAny_pure hq)) λ _ _ e=>e)
 refine zpj (Q:=λ v H1=>zvq i v Y H1 D.nx) (RR:=λ acc C=>compPost (model X.prog X.w) X.A X.xe (some (assign (.Name x pos') X.env)) (λ _ s'=>SP X pins D .next s') acc C) hc S hb h2 ?_
 intro L C m s' H' hns nL nC hC hC0 hCp hI q
 show wpAny _ _ (assign (.Name x pos') X.env (.ref L)) _ _ s'
 have I':Inv X pins Y H' s':=hI s'.heap ⟨rfl,λ _ _=>rfl⟩
 refine wpAny_assign_Name (zfm I' hnd hxi (.inl hx) (v:=.ref L) rfl (λ s2 I2 hch=>?_) (.inr hx))
 obtain ⟨a,sba,ha⟩:=hch
 have naC:C≠a:=by
  rcases ha with z|z
  ·rw [z];exact nL
  ·exact λ e=>nC x a z e.symm
 refine ⟨m,hns.sameBut sba naC,λ h'' sb=>?_⟩
 refine ⟨_,H',I2.turned (t':=s2.toks) (it:=C) (λ b o nb e=>?_) hC nL (.inr hC0) nC hCp,q⟩
 rw [sb.2 b nb];exact e
end
noncomputable def zta1 (K:Fg):R2:=λ x y H Q=>rI0 (λ i j=>.int (i+j)) x y H Q \/ (∃ i j,x=.str i/\y=.str j/\i.length+j.length<=sizeLine/\Q (.str (i++j)) H) \/ rCat x y H Q \/ zia1 K x y H Q
noncomputable def zza1:R2:=λ x y H Q=>rI CMul (λ i j=>.int (i * j)) x y H Q \/ rRep x y H Q
noncomputable def rSlU (K:Fg):V->Option Int->Option Int->Hp->VK->Prop:=λ x lo hi H Q=>rSlL K x lo hi H Q \/ rSlT K x lo hi H Q
noncomputable def zcd1 (K:Fg) (x:V) (H:Hp) (R:It->Hp->Prop):Prop:=(∃ a,x=.ref a/\(∃ xs,SqL K H a xs)/\R (Itl K a) H) \/ (∃ a,x=.ref a/\(∃ xs,SqT K H a xs)/\R (Itt K a) H)
noncomputable def rLen (K:Fg):List V->Hp->VK->Prop:=λ xs H Q=>∃ x n,xs=[x]/\LenV K x H n/\Q (.int (n:Nat)) H
noncomputable def zdd1 (xs:List V) (H:Hp) (Q:VK):Prop:=xs.length<=sizeLine/\∀ p,H p=none->Q (.ref p) (upd H p (.tup xs))
noncomputable def zvc1 (xs:List V) (H:Hp) (Q:VK):Prop:=xs.length<=sizeLine/\∀ p,H p=none->Q (.ref p) (upd H p (.lst xs))
noncomputable def zfa1 (t:TA):TE:=λ Y H Q=>t Y H λ xs H1=>zdd1 xs H1 Q
noncomputable def zs51 (t:TA):TE:=λ Y H Q=>t Y H λ xs H1=>zvc1 xs H1 Q
noncomputable def zbe1 (x:V) (H:Hp) (Q:Option Int->Hp->Prop):Prop:=∃ i,x=.int i/\Q (some i) H
noncomputable def zi31 (t:TE):TO:=λ Y H Q=>t Y H λ x H1=>zbe1 x H1 Q
noncomputable def kFld (K:Fg) (f:Str) (x:V) (H:Hp) (Q:VK):Prop:=∃ a C dx fs v,x=.ref a/\H a=some (.ins C dx fs)/\Cls K C/\NoAttr K C f/\fs.lookup f=some v/\Q v H
noncomputable def zqa1 (K:Fg) (ta:TE) (f:Str):TE:=λ Y H Q=>ta Y H λ x H1=>kFld K f x H1 Q
noncomputable def kBl (x:V) (H:Hp) (Q:Bool->Hp->Prop):Prop:=∃ k,x=.bl k/\Q k H
noncomputable def zpx (t:TE):TT:=λ Y H Q=>t Y H λ x H'=>kBl x H' Q
noncomputable def kTru (K:Fg) (x:V) (H:Hp) (Q:Bool->Hp->Prop):Prop:=∃ k,TruV K x H k/\Q k H
noncomputable def zl91 (K:Fg) (t:TE):TT:=λ Y H Q=>t Y H λ x H'=>kTru K x H' Q
section
variable {X:Cx} {tg:Expr}
theorem zt11 {K:Fg} (h:X.K=K):OpR X (binaryOp .Add) (zta1 K):=h ▸ zq91.or (zhq.or (zi91.or zn01))
theorem zo01:OpR X (binaryOp .Mult) zza1:=ze91.or zb01
theorem ix_U {K:Fg} (h:X.K=K):IxR X (rIx K):=h ▸ zn81
theorem sl_U {K:Fg} (h:X.K=K):SlR X (rSlU K):=h ▸ zlz.or zv71
theorem zf1 {K:Fg} (h:X.K=K):CallR X (.builtin "len") (rLen K):=h ▸ zay
theorem zh2 {es:List Expr} {t:TA} {x1} {pos:Pos} (h:PA X es t):PE X (.Tuple es x1 pos) (zfa1 t):=zz61 h
theorem zo1 {es:List Expr} {t:TA} {pos:Pos} (h:PA X es t):PE X (.List es pos) (zs51 t):=zt51 h
theorem za5 {e:Expr} {te:TE} (h:PE X e te):PO X (some e) (zi31 te):=zr01 h
theorem zq0 {K:Fg} (h:X.K=K) {e:Expr} {f:Str} {pos:Pos} {ta:TE} (he:PE X e ta) (hb:attributeBase e f X.env (eval e X.env)=eval e X.env):PE X (.Attribute e f pos) (zqa1 K ta f):=h ▸ zg91 he hb
theorem zt0 {a b:Expr} {ta tb:TE} {pos:Pos} {op:CmpOp} {r:R2} (ho:OpR X (compareOp op) r) (ha:PE X a ta) (hb:PE X b tb) (hm:behindInMarks op b=false):PT X (.Compare a [op] [b] pos) (zpx (tOp r ta tb)):=zj01 ho ha hb hm
theorem zym {a b c:Expr} {ta tb tc:TE} {pos:Pos} {op op':CmpOp} {r r':R2} (ho:OpR X (compareOp op) r) (ho':OpR X (compareOp op') r') (ha:PE X a ta) (hb:PE X b tb) (hc:PE X c tc)
  (hm:lastMarks [op,op'] [b,c]=false:=by with_unfolding_all rfl):PT X (.Compare a [op,op'] [b,c] pos) (zpx (znv r r' ta tb tc)):=ziw ho ho' ha hb hc hm
theorem zuc {K:Fg} (h:X.K=K) {a:Expr} {ta:TE} (ha:PE X a ta) (he:∀ whole,isTrue a X.env whole=(do let v <- whole;standAt a.pos;holding [v] (truthy v))):PT X a (zl91 K ta):=h ▸ zhy ha he
noncomputable def clsV:V->Option Value
|.ty n=>some (.type n)
|.ref a=>some (.ref a)
|_=>none
theorem zlp {cV:V} {c v:Value} (h:clsV cV=some c) (r:RelV cV v):v=c:=by
 cases cV with
|ty n=>cases h;exact r
|ref a=>cases h;exact r
|_=>cases h
noncomputable def rIsI (K:Fg):List V->Hp->VK->Prop:=λ xs H Q=>∃ x cV c t b,xs=[x,cV]/\clsV cV=some c/\TyOf K H x t/\PySem.W.kitOne K t c=some b/\Q (.bl b) H
theorem zsn {K:Fg} (h:X.K=K):CallR X (.builtin "isinstance") (rIsI K):=by
 subst h
 intro pins s Y H xs us Q I r h
 obtain ⟨x,cV,c,t,b,rfl,rc,ty,e,q⟩:=h
 obtain ⟨u,v,rfl,ru,rv⟩:=r.two
 obtain rfl:=zlp rc rv
 exact zsr I ru ty e λ tk=>⟨.bl b,H,I.tok tk,rfl,q⟩
end
noncomputable def Def (P:Program) (w:World) (K:Fg) (mg:Str->Option Value) (base:Heap) (x:Str) (k:Nat) (ps:List Str) (sp:Sp):Prop :=
 ∃ f fd,FnOk P w K mg base CX0 k f fd ps sp/\Binds K fd ps []/\PySem.W.keepIn K (.ref f)=true/\mg x=some (.ref f)
noncomputable def zzn (P:Program) (w:World) (K:Fg) (mg:Str->Option Value) (base:Heap) (x:Str) (C:Addr) (k:Nat) (ps:List Str) (sp:Sp):Prop :=
 ∃ f fd,Mk K C f/\FnOk P w K mg base CX0 k f fd ps sp/\Binds K fd ps []/\mg x=some (.ref C)
noncomputable def MethD (P:Program) (w:World) (K:Fg) (mg:Str->Option Value) (base:Heap) (C:Addr) (m:Str) (k:Nat) (ps:List Str) (sp:Sp):Prop :=
 ∃ f fd,Cls K C/\Meth K C m f/\FnOk P w K mg base CX0 k f fd ps sp/\Binds K fd ps []
section
variable {X:Cx} {k:Nat} {C:Addr} {ps:List Str} {sp:Sp} {x m:Str} {p pos apos:Pos} {e o:Expr} {es:List Expr} {ta:TE} {t:TA}
theorem zx0 (d:Def X.prog X.w X.K X.mg X.base x k ps sp) (hr:Room k X.A) (hg:Gl X x) (ha:PA X (e :: es) t) (hdb:(x == ("__debug__":Str))=false:=by decide)
  (he:starEach (e :: es) X.env=(false,eval e X.env) :: starEach es X.env:=by rfl) (hpl:(backTo pos (starEach es X.env)).any (·.1)=false:=by rfl):PE X (.Call (.Name x p) (e :: es) [] pos) (zlv sp [] E0 t):=by
 obtain ⟨f,fd,F,b,kp,m⟩:=d
 exact znt F hr hg m kp b .nil zuy ha hdb he hpl
theorem zbb (d:zzn X.prog X.w X.K X.mg X.base x C k ps sp) (hr:Room (k+1) X.A) (hg:Gl X x) (ha:PA X (e :: es) t) (hdb:(x == ("__debug__":Str))=false:=by decide)
  (he:starEach (e :: es) X.env=(false,eval e X.env) :: starEach es X.env:=by rfl) (hpl:(backTo pos (starEach es X.env)).any (·.1)=false:=by rfl):PE X (.Call (.Name x p) (e :: es) [] pos) (zs81 C sp [] E0 t):=by
 obtain ⟨f,fd,M,F,b,m⟩:=d
 exact zp11 M F hr hg m b .nil zuy ha hdb he hpl
theorem zt3 {pl:Sem Bool} (d:MethD X.prog X.w X.K X.mg X.base C m k ps sp) (hr:Room k X.A) (he:PE X o ta) (ha:PA X (e :: es) t)
  (hst:starEach (e :: es) X.env=(false,eval e X.env) :: starEach es X.env:=by rfl) (hpl:(backTo pos (starEach es X.env)).any (·.1)=false:=by rfl)
  (ht:eval (.Call (.Attribute o m apos) (e :: es) [] pos) X.env=(do
   let ov <- eval o X.env
   standAt apos.atName
   let (f,first) <- holding [ov] (getMethod ov m pl)
   callWith pos f first (backTo pos (starEach (e :: es) X.env)) (backToKw pos (keywordEach [] X.env))):=by rfl) :
  PE X (.Call (.Attribute o m apos) (e :: es) [] pos) (zzy C m sp [] E0 ta t):=by
 obtain ⟨f,fd,c,M,F,b⟩:=d
 exact zh01 he c M F hr b .nil zuy ha hst hpl ht
end
theorem zq2 {H:Hp} {p:Addr} (h:H p=none) (o:HO):Same H (upd H p o):=λ b u q=>by rw [zw0 (zy3 q h)];exact q
theorem zhu {K:Fg} {H H':Hp} {a:Addr} {xs:List V} (e:Same H H') (h:SqT K H a xs):SqT K H' a xs:=by
 rcases h with (h|⟨o,h⟩)|h
 ·exact .inl (.inl (e _ _ h))
 ·exact .inl (.inr ⟨o,e _ _ h⟩)
 ·exact .inr h
section
variable {K:Fg} {Y:St} {H:Hp} {Q:VK} {D:Ends} {a b p:Addr} {i j k:Int} {x y v:V} {xs ys:List V} {ta tb te:TE} {t u:TS} {tA:TA} {tt tt':TT} {A B:Prop}
theorem zsd1 (h:SqT K H a xs) (e:atI xs i=some v) (q:Q v H):rIx K (.ref a) (.int i) H Q:=.inr (.inl ⟨a,xs,i,v,rfl,rfl,h,e,q⟩)
end
theorem ze7:bootBuiltins "len"=some (.builtin "len"):=by decide +kernel
theorem zf61:bootBuiltins "min"=some (.builtin "min"):=by decide +kernel
theorem zoh:bootBuiltins "isinstance"=some (.builtin "isinstance"):=by decide +kernel
theorem zx8:bootBuiltins "list"=some (.type "list"):=by decide +kernel
structure Md (K:Fg) (mg:Str->Option Value):Prop where
 ex:∃ h:Heap,K.In h/\h.Ns mainGlobals mg
theorem Md.got {K:Fg} {mg:Str->Option Value} (M:Md K mg) {x:Str} {v:Value} (e:PySem.W.nsIn K mainGlobals x=some (some v)):mg x=some v:=let ⟨_,X,G⟩:=M.ex;PySem.W.mg_of X G e
theorem Md.not {K:Fg} {mg:Str->Option Value} (M:Md K mg) {x:Str} (e:PySem.W.nsIn K mainGlobals x=some none):mg x=none:=let ⟨_,X,G⟩:=M.ex;PySem.W.mg_none_of X G e
structure TopDef (K:Fg) (x:Str) (st:Stmt):Prop where
 ex:∃ f fd,PySem.W.nsIn K mainGlobals x=some (some (.ref f))/\Fun K x x st f fd
theorem zvr {K:Fg} {x:Str} {st:Stmt} {f:Addr} {oc:Value} {od an:Option Addr} {osl:Array (Option Value)} {kV doc pm cdv ct:Value} (a:PySem.W.nsIn K mainGlobals x=some (some (.ref f)))
  (l:K.lookup f=some ⟨oc,od,.func (PySem.W.fnOf x x (zz6 st) (zu2 st) (zg0 st) .none kV doc pm an cdv ct),osl⟩) (c:PySem.W.codeIn K cdv x=true) (k:PySem.W.keepIn K (.ref f)=true):TopDef K x st:=⟨⟨_,_,a,zn21 l c k⟩⟩
structure TopMeth (K:Fg) (C:Addr) (m qual:Str) (st:Stmt):Prop where
 ex:∃ f fd,PySem.W.findIn K (.ref C) m=some (some (.ref f))/\PySem.W.isFn K (.ref f)=true/\Fun K m qual st f fd
theorem zsp {K:Fg} {C:Addr} {x qual:Str} {st:Stmt} {f:Addr} {oc:Value} {od an:Option Addr} {osl:Array (Option Value)} {kV doc pm cdv ct:Value} (a:PySem.W.findIn K (.ref C) x=some (some (.ref f))) (i:PySem.W.isFn K (.ref f)=true)
  (l:K.lookup f=some ⟨oc,od,.func (PySem.W.fnOf x qual (zz6 st) (zu2 st) (zg0 st) .none kV doc pm an cdv ct),osl⟩) (c:PySem.W.codeIn K cdv qual=true) (k:PySem.W.keepIn K (.ref f)=true):TopMeth K C x qual st:=⟨⟨_,_,a,i,zn21 l c k⟩⟩
structure TopCls (K:Fg) (x:Str) (C:Addr):Prop where
 at_:PySem.W.nsIn K mainGlobals x=some (some (.ref C))
 cls:Cls K C
 mkk:PySem.W.makesIn K C=true
 kp:PySem.W.keepIn K (.ref C)=true
theorem zvs {K:Fg} {x:Str} {C:Addr} (a:PySem.W.nsIn K mainGlobals x=some (some (.ref C))) (pg:PySem.W.plainGet K C Str.empty=true) (hd:PySem.W.hasDictIn K C=true) (po:PySem.W.plainOver K C=true)
  (sa:PySem.W.findIn K (.ref C) "__setattr__"=some (some (.builtin "object.__setattr__"))) (mk:PySem.W.makesIn K C=true) (kc:PySem.W.keepIn K (.ref C)=true):TopCls K x C:=⟨a,⟨pg,hd,po,sa⟩,mk,kc⟩
section
variable {P:Program} {w:World} {K:Fg} {mg:Str->Option Value} {base:Heap}
noncomputable abbrev zjb (x qual:Str) (st:Stmt) (ps:List Str):Prop :=
 ∀ (kV doc pm:Value) (an:Option Addr) (cdv ct:Value) (us:List Value),us.length=ps.length->bindArgs (PySem.W.fnOf x qual (zz6 st) (zu2 st) (zg0 st) .none kV doc pm an cdv ct) ⟨us,[]⟩=pure (ps.zip us)
noncomputable abbrev zj7 (P:Program) (w:World) (K:Fg) (mg:Str->Option Value) (base:Heap) (qual:Str) (st:Stmt) (N:List Str) (k:Nat) (sp:Sp):Prop :=
 ∀ (f:Addr) (cdv:Value) (A:Around) (outer:List Env) (s:Shared) (H:Hp) (vs:List V) (Q:VK) (E:XK),Room k (A.deeper (envOfC qual (zg0 st) s.heap.objs.size f cdv))->sp vs H Q E ->
   ∃ t,PSs (cxOf CX0 P w K mg base N qual (zg0 st) f cdv A outer s H E).nox (zu2 st) t/\t { nx:=λ _ H'=>Q .non H',rt:=Q } (start N vs) H
theorem zg7 {x:Str} {st:Stmt} {N ps:List Str} {k:Nat} {sp:Sp} (M:Md K mg) (T:TopDef K x st) (S:FnScope N ps (zg0 st)) (hb:zjb x x st ps) (len:∀ vs H Q E,sp vs H Q E->vs.length=ps.length)
  (body:zj7 P w K mg base x st N k sp):Def P w K mg base x (k+1) ps sp:=by
 obtain ⟨f,fd,a,F⟩:=T.ex
 exact ⟨f,fd,F.ok S len (λ cdv A outer s H vs Q E hr h=>body f cdv A outer s H vs Q E hr h),F.binds hb,F.kp,M.got a⟩
theorem zi3 {C:Addr} {m qual:Str} {st:Stmt} {N ps:List Str} {k:Nat} {sp:Sp} (c:Cls K C) (T:TopMeth K C m qual st) (S:FnScope N ps (zg0 st)) (hb:zjb m qual st ps) (len:∀ vs H Q E,sp vs H Q E->vs.length=ps.length)
  (body:zj7 P w K mg base qual st N k sp):MethD P w K mg base C m (k+1) ps sp:=by
 obtain ⟨f,fd,a,i,F⟩:=T.ex
 exact ⟨f,fd,c,⟨a,i,F.kp⟩,F.ok S len (λ cdv A outer s H vs Q E hr h=>body f cdv A outer s H vs Q E hr h),F.binds hb⟩
theorem zxh {x qual:Str} {C:Addr} {st:Stmt} {N ps:List Str} {k:Nat} {sp:Sp} (M:Md K mg) (c:TopCls K x C) (T:TopMeth K C "__init__" qual st) (S:FnScope N ps (zg0 st)) (hb:zjb "__init__" qual st ps)
  (len:∀ vs H Q E,sp vs H Q E->vs.length=ps.length) (body:zj7 P w K mg base qual st N k sp):zzn P w K mg base x C (k+1) ps sp:=by
 obtain ⟨f,fd,a,i,F⟩:=T.ex
 exact ⟨f,fd,⟨c.mkk,a,i,c.kp⟩,F.ok S len (λ cdv A outer s H vs Q E hr h=>body f cdv A outer s H vs Q E hr h),F.binds hb,M.got c.at_⟩
theorem zk51 {st:Stmt} {N:List Str} {k:Nat} {sp:Sp} {fa:Addr} (M:Md K mg) (T:TopDef K "law" st) (hfa:mg "law"=some (.ref fa)) (S:FnScope N ["script"] (zg0 st)) (hb:zjb "law" "law" st ["script"]) (len:∀ vs H Q E,sp vs H Q E->vs.length=1)
  (body:∀ base:Heap,K.In base->base.Ns mainGlobals mg->zj7 P w K mg base "law" st N k sp) :
  ∃ fd:FuncData,(∀ (s:Shared) (v:Value),BindsTo s fd ⟨[v],[]⟩ [("script",v)])/\∀ base:Heap,K.In base->base.Ns mainGlobals mg->FnOk P w K mg base CX0 (k+1) fa fd ["script"] sp:=by
 obtain ⟨f,fd,a,F⟩:=T.ex
 have e:=hfa.symm.trans (M.got a)
 cases e
 obtain ⟨oc,od,kV,doc,pm,an,cdv,ct,osl,e1,lk,hcd⟩:=id F.ex
 refine ⟨fd,λ s v=>.of_eq ?_,λ base kb nb=>F.ok S len λ cdv A outer s H vs Q E hr h=>body base kb nb fa cdv A outer s H vs Q E hr h⟩
 rw [e1]
 exact hb kV doc pm an cdv ct [v] rfl
end
section
variable {K:Fg} {a D:Addr} {xs:List V} {Q:VK} {Y:St} {H:Hp} {n:Nat} {ix:List Nat} {g:TG} {tt:TT} {te:TE}
end
noncomputable def zt31:PyData->Bool
|.int _=>true
|.str _=>true
|_=>false
mutual
inductive Is (K:Fg) (H:Hp):V->PyData->Prop
|non:Is K H .non .none
|bl (b:Bool):Is K H (.bl b) (.bool b)
|int (i:Int):Is K H (.int i) (.int i)
|str (x:Str):Is K H (.str x) (.str x)
|lst {a:Addr} {xs:List V} {ds:List PyData}:SqL K H a xs->IsAll K H xs ds->Is K H (.ref a) (.list ds)
|tup {a:Addr} {xs:List V} {ds:List PyData}:H a=some (.tup xs)->IsAll K H xs ds->Is K H (.ref a) (.tuple ds)
|tuc {a:Addr} {xs:List V} {ds:List PyData}:SqT K H a xs->IsAll K H xs ds->ds.all zt31=false->Is K H (.ref a) (.tuple ds)
inductive IsAll (K:Fg) (H:Hp):List V->List PyData->Prop
|nil:IsAll K H [] []
|cons {x:V} {d:PyData} {xs:List V} {ds:List PyData}:Is K H x d->IsAll K H xs ds->IsAll K H (x :: xs) (d :: ds)
end
mutual
theorem Is.mono {K:Fg} {H H':Hp} (s:Same H H'):∀ {v:V} {d:PyData},Is K H v d->Is K H' v d
|_,_,.non=>.non
|_,_,.bl b=>.bl b
|_,_,.int i=>.int i
|_,_,.str x=>.str x
|_,_,.lst h r=>.lst (s.seq h) (IsAll.mono s r)
|_,_,.tup h r=>.tup (s _ _ h) (IsAll.mono s r)
|_,_,.tuc h r n=>.tuc (zhu s h) (IsAll.mono s r) n
theorem IsAll.mono {K:Fg} {H H':Hp} (s:Same H H'):∀ {v:List V} {d:List PyData},IsAll K H v d->IsAll K H' v d
|_,_,.nil=>.nil
|_,_,.cons h r=>.cons (Is.mono s h) (IsAll.mono s r)
end
section
variable {X:Cx} {pins:List (Addr×Obj)} {Y:St} {H:Hp} {s:Shared}
mutual
theorem zga (I:Inv X pins Y H s):∀ {v:V} {d:PyData} {u:Value},Is X.K H v d->RelV v u->∃ as,Reads s.heap u d as
|_,_,_,.non,r=>by cases r;exact ⟨_,.none⟩
|_,_,_,.bl b,r=>by cases r;exact ⟨_,.bool b⟩
|_,_,_,.int i,r=>by obtain ⟨t,rfl⟩:=r;exact ⟨_,.int i t⟩
|_,_,_,.str x,r=>by obtain ⟨t,rfl⟩:=r;exact ⟨_,.str x t⟩
|_,_,_,.lst h q,r=>by
  cases r
  obtain ⟨its,rv,p,_⟩:=I.list h
  obtain ⟨as,z⟩:=za6 I q rv
  obtain ⟨o,ho,hc,n,hd⟩:=p.isList
  exact ⟨_,.list ho hc hd (by simpa using z)⟩
|_,_,_,.tup h q,r=>by
  cases r
  obtain ⟨its,rv,p,_⟩:=I.tuple (SqT.of h)
  obtain ⟨as,z⟩:=za6 I q rv
  obtain ⟨o,ho,hc,n,hd⟩:=(show s.heap.IsTuple _ its.toArray from p)
  exact ⟨_,.tuple ho hc hd (by simpa using z)⟩
|_,_,_,.tuc h q _,r=>by
  cases r
  obtain ⟨its,rv,p,_⟩:=I.tuple h
  obtain ⟨as,z⟩:=za6 I q rv
  obtain ⟨o,ho,hc,n,hd⟩:=(show s.heap.IsTuple _ its.toArray from p)
  exact ⟨_,.tuple ho hc hd (by simpa using z)⟩
theorem za6 (I:Inv X pins Y H s):∀ {v:List V} {d:List PyData} {u:List Value},IsAll X.K H v d->Vals v u->∃ as,ReadsAll s.heap u d as
|_,_,_,.nil,r=>by cases r;exact ⟨_,.nil⟩
|_,_,_,.cons h q,r=>by
  cases r with
 |cons r1 r2 =>
   obtain ⟨as,z⟩:=zga I h r1
   obtain ⟨bs,y⟩:=za6 I q r2
   exact ⟨_,.cons z y⟩
end
end
noncomputable def rEqU (K:Fg):R2:=λ x y H Q=>rEq x y H Q \/ (∃ d e,Is K H x d/\Is K H y e/\SeqAt.shaped d=true/\SeqAt.shaped e=true/\Q (.bl (PyData.eqv d e)) H)
noncomputable def rNeU (K:Fg):R2:=λ x y H Q=>rNe x y H Q \/ (∃ d e,Is K H x d/\Is K H y e/\SeqAt.shaped d=true/\SeqAt.shaped e=true/\Q (.bl (!PyData.eqv d e)) H)
section
variable {X:Cx}
theorem zn9 {K:Fg} (h:X.K=K) (hu:X.A.units+64 < cLine):OpR X (compareOp .Eq) (rEqU K):=by
 subst h
 refine zkd1.or ?_
 intro pins s Y H x y v u Q I rx ry q
 obtain ⟨d,e,hd,he,sd,se,q⟩:=q
 obtain ⟨as,r1⟩:=zga I hd rx
 obtain ⟨bs,r2⟩:=zga I he ry
 exact eq_dataH r1 r2 sd se hu ⟨.bl _,H,I,rfl,q⟩
theorem zso {K:Fg} (h:X.K=K) (hu:X.A.units+64 < cLine):OpR X (compareOp .NotEq) (rNeU K):=by
 subst h
 refine zvd1.or ?_
 intro pins s Y H x y v u Q I rx ry q
 obtain ⟨d,e,hd,he,sd,se,q⟩:=q
 obtain ⟨as,r1⟩:=zga I hd rx
 obtain ⟨bs,r2⟩:=zga I he ry
 exact ne_dataH r1 r2 sd se hu ⟨.bl _,H,I,rfl,q⟩
noncomputable def zu01 (P:Program) (w:World) (K:Fg) (mg:Str->Option Value) (base:Heap) (m:Str) (k:Nat) (ta:TE) (t:TA):TE:=λ Y H Q=>ta Y H λ x H1=>∃ a C dx fs ps sp,x=.ref a/\H1 a=some (.ins C dx fs)/\fs.lookup m=none /\
 MethD P w K mg base C m k ps sp/\t Y H1 λ vs H2=>sp (x :: vs) H2 Q E0
theorem ziy {P:Program} {w:World} {K:Fg} {mg:Str->Option Value} {base:Heap} {k:Nat} {m:Str} {pos apos:Pos} {e o:Expr} {es:List Expr} {ta:TE} {t:TA} {pl:Sem Bool} (hP:X.prog=P) (hw:X.w=w) (hK:X.K=K) (hmg:X.mg=mg) (hbs:X.base=base) (hr:Room k X.A) (he:PE X o ta) (ha:PA X (e :: es) t)
  (hst:starEach (e :: es) X.env=(false,eval e X.env) :: starEach es X.env:=by rfl) (hpl:(backTo pos (starEach es X.env)).any (·.1)=false:=by rfl)
  (ht:eval (.Call (.Attribute o m apos) (e :: es) [] pos) X.env=(do
   let ov <- eval o X.env
   standAt apos.atName
   let (f,first) <- holding [ov] (getMethod ov m pl)
   callWith pos f first (backTo pos (starEach (e :: es) X.env)) (backToKw pos (keywordEach [] X.env))):=by rfl) :
  PE X (.Call (.Attribute o m apos) (e :: es) [] pos) (zu01 P w K mg base m k ta t):=by
 subst hP hw hK hmg hbs
 intro pins s Y H Q I h
 refine PySem.W.methodCall_KW (pl:=pl) (thn (he pins s Y H _ I h) λ u s1 hz=>?_) ht
 obtain ⟨x,H1,I1,rx,a,C,dx,fs,ps,sp,ex,ea,l,d,q⟩:=hz
 subst ex
 obtain rfl:u=vO a:=rx
 obtain ⟨f,fd,c,hm,F,b⟩:=d
 refine zx7 I1 ea c hm l ?_
 refine PySem.W.callWith_K (first:=[.ref a]) (h₀:=X.base) I.ok.mod.kin hm.kp (thn (ha pos pins s1 Y H1 _ I1 q) λ us s2 ⟨vs,H2,I2,r,q2⟩=>⟨I2.kIn,?_⟩) hst hpl
 exact zyr (us:=.ref a :: us) (vs:=.ref a :: vs) (dvs:=[]) (ds:=[]) F hr b .nil zuy I2 (.cons rfl r) (by rw [wI];exact q2)
end
section
variable {K:Fg} {Y:St} {H:Hp} {Q:VK} {x y:V} {ta:TE} {tA:TA}
end
end L3
namespace L3
open PySem PySem.Builtin PySem.Builtin.Str PySem.StrLaws
end L3
namespace L3
open PySem PySem.Spec PyProof.Rows L2
section
variable {X:Cx}
noncomputable def Its (z:Str):It:=⟨λ i _=>i < z.cps.size,λ i H x H'=>H'=H/\∃ c,z.cps[i]?=some c/\x=.str ⟨#[c]⟩,λ i _=>z.cps.size<=i⟩
theorem zuw {P:Program} {w:World} {K:Fg} {tg:Expr} (z:Str) (t:Tok) (it:Addr):Turn P w K tg (Its z) [it] it (λ i h=>h.IsStrIter it "str_ascii_iterator" z t i) where
 mem:=by simp
 obj:=λ i h st b hb=>by
  have e:b=it:=by simpa using hb
  subst e
  obtain ⟨o,e,c,d⟩:=st
  exact ⟨o,e,λ v z=>by rw [d] at z;cases z⟩
 keep:=λ i h h' st k=>by
  obtain ⟨o,e,c,d⟩:=st
  exact ⟨o,k it (by simp) o e,c,d⟩
 item:=by
  intro X hP hw hK hc i pins s Y H E I hf st hg
  subst hP hw hK
  have hg':i < z.cps.size:=hg
  obtain ⟨f0,f1,f2,f3,f4,f5⟩:=hf it (by simp)
  have hx:z.cps[i]?=some z.cps[i]:=by simp [hg']
  refine wpAny_pyNext_ascii_item st hx λ h' st' sb=>?_
  have I1:Inv X pins Y H { s with heap:=h',toks:=s.toks+1 }:=I.turned (t':=s.toks+1) (λ b o hb e=>(sb.2 b hb).trans e) f0 f1 f3 f4 f5
  obtain ⟨o,e,c,d⟩:=id st'
  exact ⟨_,rfl,ze51 (s:={ s with heap:=h',toks:=s.toks+1 }) e c d (by decide) ⟨.str ⟨#[z.cps[i]]⟩,H,I1,⟨_,rfl⟩,⟨rfl,_,hx,rfl⟩,st',λ b hb=>(hf b hb).1⟩⟩
 done:=by
  intro X hP hw hK hc i pins s Y H E I hf st hg
  subst hP hw hK
  have hg':z.cps.size<=i:=hg
  obtain ⟨f0,f1,f2,f3,f4,f5⟩:=hf it (by simp)
  have hx:z.cps[i]?=none:=by simp [hg']
  exact wpAny_pyNext_ascii_end (I.ok.hd hc) st hx λ h' eb=>⟨rfl,I.turned (t':=s.toks) (λ b o hb e=>eb b o hb e) f0 f1 f3 f4 f5⟩
 self:=λ A i s Q E st h=>wpAny_pyIter_striter_ascii st h
noncomputable def rInU (K:Fg):R2:=λ x y H Q=>rIn K false x y H Q \/ ∃ c z,x=.str ⟨#[c]⟩/\y=.str z/\Q (.bl (decide (c∈z.cps.toList))) H
noncomputable def zjt (K:Fg):R2:=λ x y H Q=>rIn K true x y H Q \/ ∃ c z,x=.str ⟨#[c]⟩/\y=.str z/\Q (.bl (!decide (c∈z.cps.toList))) H
theorem zaa1 {K:Fg} (hK:X.K=K):OpR X (compareOp .In) (rInU K):=by
 subst hK
 refine zbs.or ?_
 intro pins s Y H x y v u Q I rx ry h
 obtain ⟨c,z,rfl,rfl,q⟩:=h
 exact zjr pins s Y H _ _ v u Q I rx ry ⟨_,_,rfl,rfl,by rw [StrLaws.found_one];exact q⟩
theorem zzs {K:Fg} (hK:X.K=K):OpR X (compareOp .NotIn) (zjt K):=by
 subst hK
 refine zfk.or ?_
 intro pins s Y H x y v u Q I rx ry h
 obtain ⟨c,z,rfl,rfl,q⟩:=h
 exact zwk pins s Y H _ _ v u Q I rx ry ⟨_,_,rfl,rfl,by rw [StrLaws.found_one];exact q⟩
end
section
variable {P:Program} {w:World} {K:Fg} {mg:Str->Option Value} {base:Heap} {N:List Str} {qual:Str} {scope:Scope} {f:Addr} {cd:Value} {A:Around} {outer:List Env} {s:Shared} {H:Hp} {E:XK}
end
section
variable {X:Cx} {pins:List (Addr×Obj)} {Y:St} {H H':Hp} {s s':Shared} {ea C:Addr} {B:Heap} {a0:Value}
end
section
variable {X:Cx} {pins:List (Addr×Obj)} {Y:St} {H H':Hp} {s s':Shared} {ea C:Addr} {B:Heap} {a0:Value}
end
section
variable {X:Cx} {pins:List (Addr×Obj)} {Y:St} {H:Hp} {s:Shared}
end
section
variable {X:Cx} {k:Nat} {f C:Addr} {fd:FuncData} {ps:List Str} {sp:Sp} {x m:Str} {p pos apos:Pos} {e o:Expr} {es:List Expr} {ta:TE} {t:TA} {EY:St->XK}
end
section
variable {P:Program} {w:World} {K:Fg} {mg:Str->Option Value} {base:Heap}
end
section
variable {X:Cx}
noncomputable def repS (x:Str) (n:Nat):Str:=⟨(u7 n x.cps).foldl (·++·) #[]⟩
theorem zbx (c:List (Array Nat)):∀ a:Array Nat,c.foldl (·++·) a=a++(c.map zS).flatten.toArray:=by
 induction c with
|nil=>intro a;simp
|cons y r ih=>intro a;rw [List.foldl_cons,ih,zQ];congr 1;apply Array.toList_inj.mp;simp
theorem zky (x:Str) (n:Nat):(repS x n).cps.toList=(u7 n x.cps.toList).flatten:=by
 unfold repS
 rw [zbx]
 simp
noncomputable def zkb1:R2:=λ x y H Q=>∃ z n,x=.str z/\y=.int n/\0<=n/\z.length * n.toNat<=sizeLine/\n<=sizeLine/\Q (.str (repS z n.toNat)) H
theorem zv11:OpR X (binaryOp .Mult) zkb1:=by
 intro pins s Y H x y v u Q I rx ry h
 obtain ⟨z,n,rfl,rfl,h1,h2,h3,q⟩:=h
 obtain ⟨t,rfl⟩:=rx
 obtain ⟨t',rfl⟩:=ry
 have hl:sizeLine=16777216:=sizeLine_eq
 have hz:z.length=z.cps.size:=rfl
 by_cases n0:n=0
 ·subst n0
  refine P.mul_str (by rw [decide_eq_false (by lia),decide_eq_false (by lia)];rfl) (λ a b hc=>?_) (λ a b=>?_) ?_
  ·exact absurd a (by decide)
  ·exact decide_eq_false (by simp)
  ·rw [if_pos (by decide)]
   exact ⟨by decide,.str (repS z 0),H,I.tok _,⟨_,rfl⟩,q⟩
 have h1:0 < n:=by lia
 refine P.mul_str (by rw [decide_eq_false (by lia),decide_eq_false (by lia)];rfl) (λ _ _ hc=>?_) (λ _ _=>?_) ?_
 ·have h4:(2 ^ 63 - 1:Int) / n ≥ z.length:=by
   refine (Int.le_ediv_iff_mul_le h1).mpr ?_
   have h5:((z.length * n.toNat:Nat):Int)=(z.length:Int) * n:=by rw [Int.natCast_mul,Int.toNat_of_nonneg (by lia)]
   have h6:((z.length * n.toNat:Nat):Int)<=(sizeLine:Nat):=by exact_mod_cast h2
   lia
  lia
 ·exact decide_eq_false (by lia)
 ·rw [if_neg (by lia)]
  by_cases hc:(n == 1 || z.length == 0)=true
  ·rw [if_pos hc]
   refine ⟨.str (repS z n.toNat),H,I,⟨t,?_⟩,q⟩
   have:repS z n.toNat=z:=by
    have e:(repS z n.toNat).cps.toList=z.cps.toList:=by
     rw [zky]
     rcases (Bool.or_eq_true _ _).mp hc with hc|hc
     ·have:n=1:=by simpa using hc
      subst this;simp
     ·have:z.cps.toList=[]:=by
       have:z.cps.size=0:=by simpa [hz] using hc
       simpa using this
      rw [this];simp
    cases z with|mk c =>
     show repS ⟨c⟩ n.toNat=⟨c⟩
     have e2:(repS ⟨c⟩ n.toNat).cps=c:=Array.toList_inj.mp e
     cases hq:repS ⟨c⟩ n.toNat with|mk d=>rw [hq] at e2;cases e2;rfl
   rw [this]
  ·rw [if_neg hc]
   exact ⟨fits_reps (decide_eq_false (by lia)),.str (repS z n.toNat),H,I.tok _,⟨_,rfl⟩,q⟩
end
section
variable {X:Cx}
noncomputable def rSlS:V->Option Int->Option Int->Hp->VK->Prop:=λ x lo hi H Q=>∃ z,x=.str z/\z.length<=sizeLine/\Q (.str (Txt.slice z lo hi)) H
theorem zx31:SlR X rSlS:=by
 intro pins s Y H x v vl vu lo hi sl Q I rx hs pl pu h
 obtain ⟨z,rfl,hz,q⟩:=h
 obtain ⟨t,rfl⟩:=rx
 obtain ⟨o,ho,hc,hd⟩:=hs
 have go:∀ (l u:Option (Int×Tok)),partValue l=vl->partValue u=vu->l.map (·.1)=lo->u.map (·.1)=hi->wpAny (model X.prog X.w) X.A (getItem (.str z t) (.ref sl)) (EP X pins Y Q) X.xe s:=λ l u e1 e2 e3 e4=>by
  subst e3 e4
  refine wpAny_getItem_str_slice (l:=l) (u:=u) (st:=none) ⟨o,ho,hc,by rw [e1,e2];exact hd⟩ rfl (post_val_or_str ⟨wB (Txt.slice_le z _ _) hz,λ t' k=>?_⟩)
  exact ⟨.str (Txt.slice z (l.map (·.1)) (u.map (·.1))),H,I.tok _,⟨_,rfl⟩,q⟩
 refine ⟨"str",_,F.slot_str_getitem.lookup,typeIs_str _ _ _,?_⟩
 cases pl with
|none=>cases pu with
 |none=>exact go none none rfl rfl rfl rfl
 |int j u=>exact go none (some (j,u)) rfl rfl rfl rfl
|int i t=>cases pu with
 |none=>exact go (some (i,t)) none rfl rfl rfl rfl
 |int j u=>exact go (some (i,t)) (some (j,u)) rfl rfl rfl rfl
end
section
variable {prog:Program} {w:World} {A:Around} {E:Value->Shared->Prop} {s:Shared}
end
theorem zc41 {X:Cx} {pins:List (Addr×Obj)} {Y:St} {H:Hp} {s:Shared} {b:Addr} {h':Heap} {tk:Nat} (I:Inv X pins Y H s) (f:FpOk X pins H b) (k:Heap.SameBut b s.heap h'):Inv X pins Y H { s with heap:=h',toks:=tk } :=
 let ⟨f0,f1,_,f3,f4,f5⟩:=f
 I.turned (λ c o hc e=>(k.2 c hc).trans e) f0 f1 f3 f4 f5
theorem za81 {X:Cx} {pins:List (Addr×Obj)} {Y:St} {H:Hp} {s:Shared} {b:Addr} {h':Heap} {tk:Nat} (I:Inv X pins Y H s) (f:FpOk X pins H b) (k:Heap.ExtBut b s.heap h'):Inv X pins Y H { s with heap:=h',toks:=tk } :=
 let ⟨f0,f1,_,f3,f4,f5⟩:=f
 I.turned (λ c o hc e=>k c o hc e) f0 f1 f3 f4 f5
section
variable {X:Cx} {pins:List (Addr×Obj)} {Y:St} {H:Hp} {s:Shared} {J1 J2:It} {z TI TO i1 i2:Addr} {st1 st2:Nat->Heap->Prop} {i:Nat}
end
section
variable {X:Cx} {elts:List Expr}
end
noncomputable def entM (w:World) (e:Str×Tok×Value):DictEntry:=⟨PyData.keyHash w.params e.1,.str e.1 e.2.1,e.2.2⟩
structure KD (w:World) (K:Fg) (d:Addr) (kvs:List (Str×V)):Prop where
 ne:(d == sysModules)=false
 ex:∃ (l:List (Str×Tok×Value)) (n:Nat),K.lookup d=some { cls:=.type "dict",data:=.dict (l.map (entM w)).toArray n }/\Paired (λ (p:Str×V) (q:Str×Tok×Value)=>p.1=q.1/\RelV p.2 q.2.2) kvs l
theorem zz01 {w:World} {k:Str}:∀ {kvs:List (Str×V)} {l:List (Str×Tok×Value)},Paired (λ (p:Str×V) (q:Str×Tok×Value)=>p.1=q.1/\RelV p.2 q.2.2) kvs l ->
  RelO (kvs.lookup k) (((l.map (entM w)).find? λ e=>xG k e.key).map (·.val))
|_,_,.nil=>trivial
|_,_,.cons (a:=p) (b:=q) h r=>by
  obtain ⟨x,v⟩:=p
  obtain ⟨y,t,u⟩:=q
  obtain ⟨e,rv⟩:=h
  cases e
  have ih:=zz01 (w:=w) (k:=k) r
  show RelO (wQ k ((x,v) :: _)) (((entM w (x,t,u) :: _).find? λ e=>xG k e.key).map (·.val))
  rw [v9,xH]
  by_cases hk:k=x
  ·subst hk
   have h1:(k == k)=true:=beq_self_eq_true k
   have h2:xG k (entM w (k,t,u)).key=true:=by simp [entM,xG]
   rw [h1,h2]
   exact rv
  ·have h1:(k == x)=false:=beq_eq_false_iff_ne.mpr hk
   have h2:xG k (entM w (x,t,u)).key=false:=by
    show (x == k)=false
    exact beq_eq_false_iff_ne.mpr λ e=>hk e.symm
   rw [h1,h2]
   exact ih
section
variable {X:Cx} {pins:List (Addr×Obj)} {Y:St} {H:Hp} {s:Shared} {d:Addr} {kvs:List (Str×V)}
theorem KD.map (D:KD X.w X.K d kvs) (I:Inv X pins Y H s):∃ f:Str->Option Value,s.heap.MapOf (PySem.strKind X.prog X.w) d f/\∀ k,RelO (kvs.lookup k) (f k):=by
 obtain ⟨l,n,e,r⟩:=D.ex
 refine ⟨λ k=>((l.map (entM X.w)).find? λ e=>xG k e.key).map (·.val),⟨_,(l.map (entM X.w)).toArray,n,I.kIn d _ e,⟨rfl,rfl,rfl⟩,rfl,λ e he=>?_,λ k=>?_⟩,λ k=>zz01 r⟩
 ·obtain ⟨q,_,rfl⟩:=vR.mp (by simpa using he:e∈l.map (entM X.w))
  exact ⟨q.1,by simp [entM,PySem.strKind,xG],rfl⟩
 ·show findBy (PySem.strKind X.prog X.w).is _ k=_
  unfold findBy
  rw [List.find?_toArray]
  rfl
noncomputable def rInM (w:World) (K:Fg):R2:=λ x y H Q=>∃ d kvs z,x=.str z/\y=.ref d/\KD w K d kvs/\Q (.bl (kvs.lookup z).isSome) H
noncomputable def zcu (w:World) (K:Fg):R2:=λ x y H Q=>∃ d kvs z,x=.str z/\y=.ref d/\KD w K d kvs/\Q (.bl (!(kvs.lookup z).isSome)) H
noncomputable def rIxM (w:World) (K:Fg):R2:=λ x y H Q=>∃ d kvs z v,x=.ref d/\y=.str z/\KD w K d kvs/\kvs.lookup z=some v/\Q v H
theorem zne {a:Option V} {b:Option Value} (r:RelO a b):b.isSome=a.isSome:=by
 cases a <;> cases b <;> first|rfl|exact False.elim r
theorem zo51 {w:World} {K:Fg} (hw:X.w=w) (hK:X.K=K):OpR X (compareOp .In) (rInM w K):=by
 subst hw hK
 intro pins s Y H x y v u Q I rx ry h
 obtain ⟨d,kvs,z,rfl,rfl,D,q⟩:=h
 obtain ⟨t,rfl⟩:=rx
 cases ry
 obtain ⟨f,m,r⟩:=D.map I
 refine wpAny_in_of (k:=z) (PySem.strKind_is X.prog X.w z t) D.ne m ?_
 rw [zne (r z)]
 exact ⟨.bl _,H,I.tok _,rfl,q⟩
theorem zms {w:World} {K:Fg} (hw:X.w=w) (hK:X.K=K):OpR X (compareOp .NotIn) (zcu w K):=by
 subst hw hK
 intro pins s Y H x y v u Q I rx ry h
 obtain ⟨d,kvs,z,rfl,rfl,D,q⟩:=h
 obtain ⟨t,rfl⟩:=rx
 cases ry
 obtain ⟨f,m,r⟩:=D.map I
 refine wpAny_notIn_of (k:=z) (PySem.strKind_is X.prog X.w z t) D.ne m ?_
 rw [zne (r z)]
 exact ⟨.bl _,H,I.tok _,rfl,q⟩
theorem ix_M {w:World} {K:Fg} (hw:X.w=w) (hK:X.K=K):IxR X (rIxM w K):=by
 subst hw hK
 intro value slice pins s Y H x y v u Q I rx ry h hs
 obtain ⟨d,kvs,z,r0,rfl,rfl,D,e,q⟩:=h
 cases rx
 obtain ⟨t,rfl⟩:=ry
 obtain ⟨f,m,r⟩:=D.map I
 have rz:=r z
 rw [e] at rz
 obtain ⟨u,eu,ru⟩:=rz.some_of
 exact tail_any m.typeIs PySem.F.slot_dict_getitem.lookup (wpAny_getItem_of (k:=z) (PySem.strKind_is X.prog X.w z t) m eu ⟨r0,H,I.tok _,ru,q⟩) hs
end
noncomputable def Walks (J:It) (H:Hp) (n:Nat) (Yv:Nat->V->Hp->Prop):Prop:=∀ H',Same H H'->(∀ i,i < n->J.go i H')/\J.stop n H'/\∀ i x H2,i < n->J.yld i H' x H2->Same H' H2/\Yv i x H2
section
variable {K:Fg} {H:Hp} {a:Addr} {xs:List V}
variable {Q:VK} {Y caps:St} {n:Nat} {ix:List Nat} {g:TG} {te:TE} {m:Nat} {J:It} {Yv:Nat->V->Hp->Prop}
end
noncomputable def zvb1:R2:=λ x y H Q=>zza1 x y H Q \/ zkb1 x y H Q
noncomputable def rInW (w:World) (K:Fg):R2:=λ x y H Q=>rInU K x y H Q \/ rInM w K x y H Q
noncomputable def zit (w:World) (K:Fg):R2:=λ x y H Q=>zjt K x y H Q \/ zcu w K x y H Q
noncomputable def rIxW (w:World) (K:Fg):R2:=λ x y H Q=>rIx K x y H Q \/ rIxM w K x y H Q
noncomputable def rSlW (K:Fg):V->Option Int->Option Int->Hp->VK->Prop:=λ x lo hi H Q=>rSlU K x lo hi H Q \/ rSlS x lo hi H Q
noncomputable def zl81 (K:Fg) (x:V) (H:Hp) (R:It->Hp->Prop):Prop:=zcd1 K x H R \/ ∃ z:Str,x=.str z/\z.cps.all (· < 128)=true/\R (Its z) H
noncomputable def iW (K:Fg) (tl:TE):TI:=λ Y H R=>tl Y H λ x H1=>zl81 K x H1 R
section
variable {X:Cx} {w:World} {K:Fg} {tg:Expr}
theorem ze21:OpR X (binaryOp .Mult) zvb1:=zo01.or zv11
theorem zy51 (hw:X.w=w) (hK:X.K=K):OpR X (compareOp .In) (rInW w K):=(zaa1 hK).or (zo51 hw hK)
theorem zqs (hw:X.w=w) (hK:X.K=K):OpR X (compareOp .NotIn) (zit w K):=(zzs hK).or (zms hw hK)
theorem ix_W (hw:X.w=w) (hK:X.K=K):IxR X (rIxW w K):=(ix_U hK).or (ix_M hw hK)
theorem sl_W (hK:X.K=K):SlR X (rSlW K):=(sl_U hK).or zx31
theorem pi_W (h:X.K=K) {l:Expr} {tl:TE} (hl:PE X l tl):PI X tg l (iW K tl):=by
 subst h
 intro pins s Y H R I h
 refine thn (hl pins s Y H _ I h) λ v s1 hz=>?_
 obtain ⟨x,H1,I1,r1,q1⟩:=hz
 rcases q1 with (⟨a,e,⟨xs,hq⟩,q⟩|⟨a,e,⟨xs,hq⟩,q⟩)|⟨z,rfl,ha,q⟩
 ·subst e
  cases r1
  obtain ⟨its,rv,p,hz⟩:=I1.list hq
  refine wpAny_pyIter_list p.isList ?_
  refine ⟨s1.heap.objs.size,[s1.heap.objs.size],_,_,H1,rfl,I1.kept (t':=s1.toks) λ b o e=>v7 _ e,zes a _,⟨_,wT _ rfl,rfl,rfl⟩,λ b hb=>?_,q⟩
  have e:b=s1.heap.objs.size:=by simpa using hb
  subst e
  exact I1.fpOk (u8 _) (I1.hok.fresh (u8 _))
 ·subst e
  cases r1
  obtain ⟨its,rv,p,hz⟩:=I1.tuple hq
  refine wpAny_pyIter_tuple (show s1.heap.IsTuple a its.toArray from p) ?_
  refine ⟨s1.heap.objs.size,[s1.heap.objs.size],_,_,H1,rfl,I1.kept (t':=s1.toks) λ b o e=>v7 _ e,zsq a _,⟨_,wT _ rfl,rfl,rfl⟩,λ b hb=>?_,q⟩
  have e:b=s1.heap.objs.size:=by simpa using hb
  subst e
  exact I1.fpOk (u8 _) (I1.hok.fresh (u8 _))
 ·obtain ⟨t,rfl⟩:=r1
  refine wpAny_pyIter_ascii ha ?_
  refine ⟨s1.heap.objs.size,[s1.heap.objs.size],_,_,H1,rfl,I1.kept (t':=s1.toks) λ b o e=>v7 _ e,zuw z t _,⟨_,wT _ rfl,rfl,rfl⟩,λ b hb=>?_,q⟩
  have e:b=s1.heap.objs.size:=by simpa using hb
  subst e
  exact I1.fpOk (u8 _) (I1.hok.fresh (u8 _))
noncomputable def zae1:TS:=λ _ _ _=>False
theorem zze {st:Stmt}:PS X st zae1:=λ _ _ _ _ _ _ h=>False.elim h
noncomputable def zxa1 (K:Fg):List V->Hp->VK->Prop:=λ xs H Q=>∃ p ys,xs=[.ref p]/\(SqL K H p ys \/ SqT K H p ys)/\∀ l,H l=none->Q (.ref l) (upd H l (.lst ys))
theorem ze3 (h:X.K=K):CallR X (.type "list") (zxa1 K):=h ▸ zkl
end
section
variable {K:Fg} {w:World} {H:Hp} {Q:VK} {a b:Addr} {xs ys:List V} {i:Int} {v:V} {z:Str} {kvs:List (Str×V)} {d:Addr}
theorem zod1 (h:SqT K H a xs) (e:atI xs i=some v) (q:Q v H):rIxW w K (.ref a) (.int i) H Q:=.inl (zsd1 h e q)
end
section
variable {K:Fg} {w:World} {H:Hp} {Q:VK} {a:Addr} {xs:List V} {i:Int} {v:V} {z:Str} {Y:St} {r r':R2} {ta tb tc:TE} {tA:TA} {D:Ends}
end
theorem zuu {n d a:Nat} (h:a<=n):HT.sIx n d (some (a:Int))=a:=by
 unfold HT.sIx
 simp
 rw [if_neg (by lia)]
 lia
section
variable {K:Fg} {H:Hp} {a:Addr} {xs:List V} {Y:St} {ta:TA} {Q:VK}
end
theorem zf6 {X:Cx} {pos:Pos} {K:Fg} {n:Nat} (hK:X.K=K) {es:List Expr} {k:Nat} {t:TGs} (hc:X.calm=true) (h:PGs X es t)
  (hn:(assignEach es X.env).length=n:=by rfl) (hst:(assignEach es X.env).findIdx? (·.1)=none:=by rfl):PG X (.Tuple es k pos) (gTup K n t):=by
 subst hK
 exact zi61 hc h hn hst
noncomputable def kBM (K:Fg) (T:String) (r:V->List V->Hp->VK->Prop) (t:TA) (Y:St) (x:V) (H:Hp) (Q:VK):Prop:=tyV K T x H/\t Y H λ xs H2=>r x xs H2 Q
noncomputable def tBMU (K:Fg) (T:String) (r:V->List V->Hp->VK->Prop) (to:TE) (t:TA):TE:=λ Y H Q=>to Y H λ x H1=>kBM K T r t Y x H1 Q
theorem zj4 {X:Cx} {K:Fg} (hK:X.K=K) {o e:Expr} {es:List Expr} {to:TE} {t:TA} {name:Str} {apos cpos:Pos} {T id:String} {r:V->List V->Hp->VK->Prop} (pa:PlainAttrs T) (slot:Slot T name id) (hty:typeOf (.builtin id)=pure (.type "method_descriptor")) (hm:MtR X id r) (ho:PE X o to) (ha:PA X (e :: es) t)
  (hbase:attributeBase o name X.env (eval o X.env)=eval o X.env:=by rfl)
  (hfew:((backTo cpos (starEach (e :: es) X.env)).all (λ x=>!x.1) && (backToKw cpos (keywordEach [] X.env)).all (λ x=>x.1.isSome)
   && decide ((e :: es).length+([]:List Keyword).length+(if ([]:List Keyword).isEmpty then 0 else 1) < 30))=true:=by rfl)
  (hline:(apos.endLine == cpos.line)=true:=by rfl) (hs:starEach (e :: es) X.env=(false,eval e X.env) :: starEach es X.env:=by rfl) (hplain:(backTo cpos (starEach es X.env)).any (·.1)=false:=by rfl) :
  PE X (.Call (.Attribute o name apos) (e :: es) [] cpos) (tBMU K T r to t):=by
 subst hK
 exact zyc1 pa slot hty hm ho ha hbase hfew hline hs hplain
section
variable {K:Fg} {T:String} {r:V->List V->Hp->VK->Prop} {to:TE} {t:TA} {Y:St} {H:Hp} {Q:VK} {a:Addr} {xs:List V} {z:Str}
end
section
variable {t:TJ} {te:TE} {Y:L2.St} {H:Hp} {acc y z:Str} {i:Int}
end
noncomputable def zv41 (_ j:Int):Prop:=0 < j/\j < 2 ^ 200
theorem zex {j:Int} (h0:0 < j) (h1:j < 2 ^ 200):j.natAbs.log2 < 9000:=by
 have h:j.natAbs.log2 < 200:=(Nat.log2_lt (by lia)).mpr (by lia)
 lia
theorem zr2 {X:Cx}:OpR X (binaryOp .FloorDiv) (rI zv41 λ i j=>.int (i / j)):=opI λ i j _ _ _ _ _ hc q=>by
 have h1:(0:Int) < j:=hc.1
 exact floordiv_int (by lia) (by rw [Int.fdiv_eq_ediv_of_nonneg i (by lia)];exact q) (.inl (PyProof.noPylong_of_log2 (zex hc.1 hc.2)))
noncomputable def zzj {α:Type} (xs:List α) (lo hi st:Option Int):List α:=(sliceRange (sliceBounds lo hi st xs.length).1 (sliceBounds lo hi st xs.length).2.1 (sliceBounds lo hi st xs.length).2.2).filterMap (xs[·]?)
theorem zye {xs:List V} {vs:List Value} (h:Vals xs vs):∀ js:List Nat,Vals (js.filterMap (xs[·]?)) (js.filterMap (vs[·]?))
|[]=>.nil
|j :: js=>by
  have ih:=zye h js
  cases hn:xs[j]? with
 |some n =>
   obtain ⟨u,hu,r⟩:=h.get hn
   simp only [wX,hn,hu]
   exact .cons r ih
 |none =>
   have hv:=h.none_of hn
   simp only [wX,hn,hv]
   exact ih
theorem zjs {xs:List V} {vs:List Value} (h:Vals xs vs) (lo hi st:Option Int):Vals (zzj xs lo hi st) (slicePick vs.toArray lo hi st).toList:=by
 have e:(slicePick vs.toArray lo hi st).toList=(sliceRange (sliceBounds lo hi st xs.length).1 (sliceBounds lo hi st xs.length).2.1 (sliceBounds lo hi st xs.length).2.2).filterMap (vs[·]?):=by
  simp [slicePick,h.length]
 rw [e]
 exact zye h _
noncomputable def rSl3 (K:Fg):V->Option Int->Option Int->Option Int->Hp->VK->Prop:=λ x lo hi st H Q=>∃ a xs,x=.ref a/\SqL K H a xs/\st≠some 0/\∀ p,H p=none->Q (.ref p) (upd H p (.lst (zzj xs lo hi st)))
noncomputable def tSl3 (K:Fg) (te:TE) (tl th tk:TO):TE:=λ Y H Q=>te Y H λ x H1=>tl Y H1 λ l H2=>th Y H2 λ u H3=>tk Y H3 λ st H4=>rSl3 K x l u st H4 Q
theorem zef {X:Cx} {K:Fg} (hK:X.K=K) {e:Expr} {te:TE} {lo hi:Option Expr} {st:Expr} {tl th tk:TO} {pos p2:Pos} (he:PE X e te) (hl:PO X lo tl) (hu:PO X hi th) (hs:PO X (some st) tk):PE X (.Subscript e (.Slice lo hi (some st) p2) pos) (tSl3 K te tl th tk):=by
 subst hK
 intro pins s Y H Q I h
 refine Subscript_ (thn (he pins s Y H _ I h) λ v s1 hz=>?_)
 obtain ⟨x,H1,I1,r1,q1⟩:=hz
 refine wpAny_Slice (thn (hl pins s1 Y H1 _ I1 q1) λ vl s2 ⟨l,H2,I2,pl,q2⟩=>thn (hu pins s2 Y H2 _ I2 q2) λ vu s3 ⟨u,H3,I3,pu,q3⟩=>thn (hs pins s3 Y H3 _ I3 q3) λ vk s4 hz=>?_)
 obtain ⟨k,H4,I4,pk,q4⟩:=hz
 obtain ⟨a,xs,rfl,hx,h0,q⟩:=q4
 cases r1
 have I5:Inv X pins Y H4 { s4 with heap:=s4.heap.push { cls:=.type "slice",data:=.fields #[vl,vu,vk] } }:=I4.kept (t':=s4.toks) λ b ob q=>v7 _ q
 obtain ⟨its,r,ht,hz⟩:=I5.list hx
 have hlen:=r.length
 refine tail_any (T := "list") (ops:=[.ref a,.ref s4.heap.objs.size]) ht.isList.typeIs slot_list_getitem.lookup (wpAny_getItem_list_slice ht.isList (Heap.IsSliceOf.new ..) pl pu pk h0 ?_ (by rw [vQ] <;> lia)) (by with_unfolding_all rfl)
 have rv:=zjs r l u k
 refine ⟨.ref _,_,I5.laid (t':=s4.toks) (o:=.lst (zzj xs l u k)) (λ b ob q=>v7 _ q) (u8 _) ?_,rfl,q _ (I5.hok.fresh (u8 _))⟩
 refine ⟨?_,_,0,rv,?_⟩
 ·have:=slicePick_size_le its.toArray l u k
  have e:=rv.length
  simp only [xY,vQ] at this e
  lia
 ·rw [Array.toArray_toList]
  exact wT _ rfl
noncomputable def rSum (K:Fg):List V->Hp->VK->Prop:=λ vs H Q=>∃ (a:Addr) (ns:List Int),vs=[.ref a]/\SqL K H a (ns.map V.int)/\Q (.int ns.sum) H
theorem zhr {X:Cx} {K:Fg} (h:X.K=K) (hc:X.calm=true):CallR X (.builtin "sum") (rSum K):=by
 subst h
 intro pins s Y H xs us Q I r h
 obtain ⟨a,ns,rfl,hx,q⟩:=h
 obtain ⟨u,rfl,r1⟩:=zyy r
 cases r1
 obtain ⟨its,rv,p,hz⟩:=I.list hx
 have hi:IntsAre its ns:=zsa rv
 obtain ⟨ys,hy⟩:=hi.allInts.items
 have hl:s.heap.IsList a (intItems ys):=hy ▸ p.isList
 refine sum_intListG (I.ok.hd hc) hl λ h' tk t' hk=>?_
 have e1:ns=ys.toList.map (·.1):=by
  rw [<- nums_intItems,<- hy]
  exact (show numsOf its.toArray.toList=ns from hi.numsOf).symm
 have e2:preSum (numAt ys) ys.size=ns.sum:=by
  rw [preSum_eq,yP (by simp),e1]
 rw [e2]
 exact ⟨.int ns.sum,H,I.kept hk,⟨_,rfl⟩,q⟩
section
variable {K:Fg} {H:Hp} {Q:VK} {a:Addr} {xs:List V} {i j:Int} {Y:St}
end
theorem zn91:bootBuiltins "sum"=some (.builtin "sum"):=by decide +kernel
theorem zpr:bootBuiltins "sorted"=some (.builtin "sorted"):=by decide +kernel
section
variable {K:Fg} {H H':Hp} {D a:Addr} {xs:List V}
end
noncomputable def Fit (n:Nat) (d:PyData):Prop:=d.canLay0=true/\d.depth<=n
theorem zi7:∀ {ds:List PyData},(∀ d∈ds,d.canLay0=true)->zE ds=true
|[],_=>rfl
|d :: ds,h=>by
  show (d.canLay0 && zE ds)=true
  rw [h d (by simp),zi7 λ e he=>h e (vU _ he)];rfl
theorem zo8 {n:Nat}:∀ {ds:List PyData},(∀ d∈ds,d.depth<=n)->zF ds<=n
|[],_=>wY _
|d :: ds,h=>by
  show max d.depth (zF ds)<=n
  have:=h d (by simp)
  have:=zo8 λ e he=>h e (vU d he)
  lia
theorem Fit.tup {n:Nat} {ds:List PyData} (h:∀ d∈ds,Fit n d):Fit (n+1) (.tuple ds):=⟨by show zE ds=true;exact zi7 λ d hd=>(h d hd).1,by show zF ds+1<=n+1;have:=zo8 λ d hd=>(h d hd).2;lia⟩
theorem Fit.lst {n:Nat} {ds:List PyData} (h:∀ d∈ds,Fit n d):Fit (n+1) (.list ds):=⟨by show zE ds=true;exact zi7 λ d hd=>(h d hd).1,by show zF ds+1<=n+1;have:=zo8 λ d hd=>(h d hd).2;lia⟩
theorem Fit.int {n:Nat} (i:Int):Fit n (.int i):=⟨rfl,wY _⟩
theorem Fit.shaped {n:Nat} {d:PyData} (h:Fit n d) (hn:n<=64):SeqAt.shaped d=true:=by
 unfold SeqAt.shaped
 rw [h.1,decide_eq_true (wB h.2 hn)];rfl
theorem Fit.eqv {n:Nat} {d:PyData} (h:Fit n d):PyData.eqv d d=true:=SeqAt.eqv_refl d h.1
noncomputable def zw41 (K:Fg):Sp:=λ vs H Q _=>∃ (a:Addr) (ns:List Int),vs=[.ref a]/\SqL K H a (ns.map V.int)/\ns.length<=63/\∀ H',Q (.bl true) H'
theorem law_walk {k:Nat} {l:PySem.W.OpenLaw} {q:Program} {loose:List Str} {XP:(Str->Option Value)->Heap->Prop} {YP:World->Heap->Prop} {d:DefRec} {K:Params->Fg} (hk:Room k callerA) (hn:l.most=some 63) (hdf:d.params.defaults=[])
  (hY:∀ (w:World) (h:Heap),YP w h->(K w.params).In h)
  (F:∀ (w:World) (mg:Str->Option Value) (fa:Addr) (h:Heap),(K w.params).In h->h.Ns mainGlobals mg->mg d.name=some (.ref fa) ->
   ∃ fd:FuncData,(∀ (s:Shared) (u:Value),BindsTo s fd ⟨[u],[]⟩ [("script",u)])/\∀ base:Heap,(K w.params).In base->base.Ns mainGlobals mg->FnOk l.prog w (K w.params) mg base CX0 k fa fd ["script"] (zw41 (K w.params))) :
  PySem.W.WalkO q loose XP YP l.row.toRowW d [] (λ f vs=>PySem.call f vs) :=
 L2.walk_of (n:=63) (k:=k) (x := "script") (CX:=λ _=>CX0) (sp:=λ w=>zw41 (K w.params)) hn (by decide) hdf hk hY F (λ _ _ a ns hl _ hS=>⟨a,ns,rfl,hS,hl,λ _=>rfl⟩) λ _ _ _ _ _ z=>z
section
variable {K:Fg} {H:Hp} {Q:VK} {Y:St} {i j:Int}
end
end L3
namespace L2
open PySem PySem.Spec PyProof.Rows
section
variable {κ:Type} [DecidableEq κ]
noncomputable def valV (kvs:List (κ×V)) (k:κ):Option V:=(kvs.find? λ kv=>decide (kv.1=k)).map (·.2)
noncomputable def putK (kvs:List (κ×V)) (k:κ) (v:V):List (κ×V) :=
 if (kvs.any λ kv=>decide (kv.1=k))=true then kvs.map (λ kv=>if kv.1=k then (kv.1,v) else kv) else kvs++[(k,v)]
noncomputable def zci (kvs:List (κ×V)) (k:κ):List (κ×V):=kvs.filter λ kv=>decide (kv.1≠k)
theorem zrk {p:κ×V} {r:List (κ×V)} {k:κ} (e:p.1=k):valV (p :: r) k=some p.2:=by simp [valV,xH,e]
theorem zbl {p:κ×V} {r:List (κ×V)} {k:κ} (e:¬ p.1=k):valV (p :: r) k=valV r k:=by simp [valV,xH,e]
theorem zpp (k:κ):∀ kvs:List (κ×V),(kvs.any λ kv=>decide (kv.1=k))=(valV kvs k).isSome
|[]=>rfl
|p :: r=>by
  rw [xR]
  by_cases e:p.1=k
  ·simp only [zrk e,decide_eq_true e,Bool.true_or,j9]
  ·rw [zbl e,decide_eq_false e,Bool.false_or];exact zpp k r
theorem zl8 (kvs:List (κ×V)) (k:κ) (v:V):(putK kvs k v).length<=kvs.length+1:=by
 unfold putK
 split
 ·rw [u4];lia
 ·rw [vJ,xE,List.length_nil];lia
theorem RelO.isSome_eq {o:Option V} {u:Option Value} (r:RelO o u):o.isSome=u.isSome:=by
 cases o with
|none=>cases u with
 |none=>rfl
 |some _=>exact (show False from r).elim
|some _=>cases u with
 |none=>exact (show False from r).elim
 |some _=>rfl
theorem RelO.getD {o:Option V} {u:Option Value} {d:V} {d':Value} (r:RelO o u) (rd:RelV d d'):RelV (o.getD d) (u.getD d'):=by
 cases o with
|none=>cases u with
 |none=>exact rd
 |some _=>exact (show False from r).elim
|some _=>cases u with
 |none=>exact (show False from r).elim
 |some _=>exact r
theorem KV.val {kvs:List (κ×V)} {vs:List (κ×Value)} (r:KV kvs vs) (k:κ):RelO (valV kvs k) (valueAt vs k):=by
 unfold KV at r
 induction r with
|nil=>exact True.intro
|@cons p q ps qs h t ih =>
  obtain ⟨h1,h2⟩:=h
  by_cases e:p.1=k
  ·have e':q.1=k:=h1.symm.trans e
   have b:valueAt (q :: qs) k=some q.2:=by simp [valueAt,xH,e']
   rw [zrk e,b];exact h2
  ·have e':¬ q.1=k:=λ z=>e (h1.trans z)
   have b:valueAt (q :: qs) k=valueAt qs k:=by simp [valueAt,xH,e']
   rw [zbl e,b];exact ih
theorem KV.any {kvs:List (κ×V)} {vs:List (κ×Value)} (r:KV kvs vs) (k:κ):(kvs.any λ kv=>decide (kv.1=k))=vs.any λ kv=>decide (kv.1=k):=by
 unfold KV at r
 induction r with
|nil=>rfl
|cons h t ih=>rw [xR,xR,ih,h.1]
theorem KV.repl {kvs:List (κ×V)} {vs:List (κ×Value)} (r:KV kvs vs) (k:κ) {y:V} {u:Value} (ry:RelV y u) :
  KV (kvs.map λ kv=>if kv.1=k then (kv.1,y) else kv) (vs.map λ kv=>if kv.1=k then (kv.1,u) else kv):=by
 unfold KV at r ⊢
 induction r with
|nil=>exact .nil
|@cons p q ps qs h t ih =>
  rw [vV,vV]
  refine .cons ?_ ih
  obtain ⟨h1,h2⟩:=h
  by_cases e:p.1=k
  ·rw [if_pos e,if_pos (h1.symm.trans e)];exact ⟨h1,ry⟩
  ·rw [if_neg e,if_neg (λ z=>e (h1.trans z))];exact ⟨h1,h2⟩
theorem KV.put {kvs:List (κ×V)} {vs:List (κ×Value)} (r:KV kvs vs) (k:κ) {y:V} {u:Value} (ry:RelV y u):KV (putK kvs k y) (stored vs k u):=by
 unfold putK stored
 rw [r.any k]
 by_cases e:(vs.any λ kv=>decide (kv.1=k))=true
 ·rw [if_pos e,if_pos e];exact r.repl k ry
 ·rw [if_neg e,if_neg e];exact Paired.snoc r ⟨rfl,ry⟩
theorem KV.length {kvs:List (κ×V)} {vs:List (κ×Value)} (r:KV kvs vs):kvs.length=vs.length:=Paired.length r
theorem zzw (kvs:List (κ×V)) (k:κ):(zci kvs k).length<=kvs.length:=zZ _ _
end
theorem zdx {P:Program} {w:World} {k:Key} {u:Value} (r:RelV (kV k) u):(zy1 P w).is k u=true:=by
 cases k with
|inl i=>obtain ⟨t,e⟩:=(show ∃ t,u=xW i t from r);subst e;exact zwn P w i t
|inr x=>obtain ⟨t,e⟩:=(show ∃ t,u=yJ x t from r);subst e;exact zhn P w x t
theorem zjm {P:Program} {w:World}:∀ {ks:List Key} {us:List Value},Vals (ks.map kV) us->ItemsAre (zy1 P w) ks us
|[],_,r=>by rw [xQ] at r;cases r;exact .nil
|k :: ks,_,r=>by
  rw [vV] at r
  cases r with
 |cons h t=>exact .cons (zdx h) (zjm t)
noncomputable abbrev KT (H:Hp):List (List Key×V)->List (List Key×Addr×Value)->Prop:=Paired λ p q=>p.1=q.1/\H q.2.1=some (.tup (p.1.map kV))/\RelV p.2 q.2.2
theorem KT.val {H:Hp} {kvs:List (List Key×V)} {xs:List (List Key×Addr×Value)} (r:KT H kvs xs) (k:List Key):RelO (valV kvs k) ((atKey xs k).map (·.2)):=by
 induction r with
|nil=>exact True.intro
|@cons p q ps qs h t ih =>
  obtain ⟨h1,_,h2⟩:=h
  by_cases e:p.1=k
  ·have e':q.1=k:=h1.symm.trans e
   have b:atKey (q :: qs) k=some q.2:=by simp [atKey,xH,e']
   rw [zrk e,b];exact h2
  ·have e':¬ q.1=k:=λ z=>e (h1.trans z)
   have b:atKey (q :: qs) k=atKey qs k:=by simp [atKey,xH,e']
   rw [zbl e,b];exact ih
theorem KT.repl {H:Hp} {kvs:List (List Key×V)} {xs:List (List Key×Addr×Value)} (r:KT H kvs xs) (k:List Key) {y:V} {u:Value} (ry:RelV y u) :
  KT H (kvs.map λ kv=>if kv.1=k then (kv.1,y) else kv) (xs.map (putAt k u)):=by
 induction r with
|nil=>exact .nil
|@cons p q ps qs h t ih =>
  rw [vV,vV]
  refine .cons ?_ ih
  obtain ⟨h1,h2,h3⟩:=h
  unfold putAt
  by_cases e:p.1=k
  ·rw [if_pos e,if_pos (h1.symm.trans e)];exact ⟨h1,h2,ry⟩
  ·rw [if_neg e,if_neg (λ z=>e (h1.trans z))];exact ⟨h1,h2,h3⟩
theorem KT.put {H:Hp} {kvs:List (List Key×V)} {xs:List (List Key×Addr×Value)} (r:KT H kvs xs) (k:List Key) {b:Addr} {y:V} {u:Value} (hb:H b=some (.tup (k.map kV))) (ry:RelV y u) :
  KT H (putK kvs k y) (storedH xs k b u):=by
 have e:(kvs.any λ kv=>decide (kv.1=k))=(atKey xs k).isSome:=by
  rw [zpp,(r.val k).isSome_eq,yQ]
 unfold putK storedH
 rw [e]
 by_cases q:(atKey xs k).isSome=true
 ·rw [if_pos q,if_pos q];exact r.repl k ry
 ·rw [if_neg q,if_neg q];exact Paired.snoc r ⟨rfl,hb,ry⟩
theorem KT.keeps {H H':Hp} {kvs:List (List Key×V)} {xs:List (List Key×Addr×Value)} (r:KT H kvs xs) (ht:∀ b ys,H b=some (.tup ys)->H' b=some (.tup ys)):KT H' kvs xs :=
 Paired.mapP r λ _ _ z=>⟨z.1,ht _ _ z.2.1,z.2.2⟩
section
variable {P:Program} {w:World} {H:Hp} {h:Heap} {a:Addr}
theorem zha1 {u:HO} (ok:HOk P w H h) (e:Rd H a u):ObjOk P w H h a u:=e.ok ok
theorem zty {kvs:List (Key×V)} (ok:HOk P w H h) (e:Rd H a (.dK kvs)):kvs.length<=sizeLine/\(a == sysModules)=false/\∃ vs,KV kvs vs/\h.DictOf (zy1 P w) a vs :=
 show ObjOk P w H h a (.dK kvs) from zha1 ok e
theorem zt71 {kvs:List (Key×V)} (ok:HOk P w H h) (e:H a=some (.dK kvs)):kvs.length<=sizeLine/\(a == sysModules)=false/\∃ vs,KV kvs vs/\h.DictOf (zy1 P w) a vs:=zty ok (.inl e)
theorem zek {ks:List Key} (ok:HOk P w H h) (e:H a=some (.tup (ks.map kV))):(tupleKind (zy1 P w)).is h ks a:=by
 obtain ⟨_,its,r,o,h1,h2,n,h3⟩:=(show ObjOk P w H h a (.tup (ks.map kV)) from ok a _ e)
 exact ⟨o,its.toArray,n,h1,h2,h3,by simpa using zjm r⟩
theorem zwy {kvs:List (List Key×V)} (ok:HOk P w H h) (e:Rd H a (.dT kvs)):kvs.length<=sizeLine/\(a == sysModules)=false /\
  ∃ xs,KT H kvs xs/\h.DictOfH (tupleKind (zy1 P w)) a xs:=by
 obtain ⟨z,y,xs,r,o,es,ep,h1,h2,h3,h4,h5⟩:=(show ObjOk P w H h a (.dT kvs) from zha1 ok e)
 refine ⟨z,y,xs,r,o,es,ep,h1,h2,h3,h4,λ x hx=>?_,h5⟩
 have all:∀ {l:List (List Key×V)} {m:List (List Key×Addr×Value)},KT H l m->∀ x∈m,(tupleKind (zy1 P w)).is h x.1 x.2.1:=by
  intro l m q
  induction q with
 |nil=>intro x hx;exact nomatch hx
 |@cons p q ps qs hq t ih =>
   intro x hx
   rcases vN.mp hx with e|hx
   ·subst e
    exact zek ok (by rw [<- hq.1];exact hq.2.1)
   ·exact ih x hx
 exact all r x hx
theorem zmb1 {kvs:List (List Key×V)} (ok:HOk P w H h) (e:H a=some (.dT kvs)):kvs.length<=sizeLine/\(a == sysModules)=false /\
  ∃ xs,KT H kvs xs/\h.DictOfH (tupleKind (zy1 P w)) a xs:=zwy ok (.inl e)
end
noncomputable def DGet (H:Hp) (a:Addr) (y:V) (r:Option V):Prop :=
 (∃ kvs k,Rd H a (.dK kvs)/\y=kV k/\r=valV kvs k) \/ ∃ kvs k b,Rd H a (.dT kvs)/\y=.ref b/\H b=some (.tup (k.map kV))/\r=valV kvs k
noncomputable def DPut (H:Hp) (a:Addr) (y v:V) (H':Hp):Prop :=
 (∃ kvs k,H a=some (.dK kvs)/\y=kV k/\kvs.length < sizeLine/\H'=upd H a (.dK (putK kvs k v))) \/
 ∃ kvs k b,H a=some (.dT kvs)/\y=.ref b/\H b=some (.tup (k.map kV))/\kvs.length < sizeLine/\H'=upd H a (.dT (putK kvs k v))
theorem DGet.k {H:Hp} {a:Addr} {kvs:List (Key×V)} {k:Key} (e:H a=some (.dK kvs)):DGet H a (kV k) (valV kvs k):=.inl ⟨kvs,k,.inl e,rfl,rfl⟩
theorem DGet.t {H:Hp} {a b:Addr} {kvs:List (List Key×V)} {k:List Key} (e:H a=some (.dT kvs)) (eb:H b=some (.tup (k.map kV))):DGet H a (.ref b) (valV kvs k):=.inr ⟨kvs,k,b,.inl e,rfl,eb,rfl⟩
theorem DPut.k {H:Hp} {a:Addr} {kvs:List (Key×V)} {k:Key} {v:V} (e:H a=some (.dK kvs)) (hl:kvs.length < sizeLine):DPut H a (kV k) v (upd H a (.dK (putK kvs k v))):=.inl ⟨kvs,k,e,rfl,hl,rfl⟩
theorem DPut.t {H:Hp} {a b:Addr} {kvs:List (List Key×V)} {k:List Key} {v:V} (e:H a=some (.dT kvs)) (eb:H b=some (.tup (k.map kV))) (hl:kvs.length < sizeLine) :
  DPut H a (.ref b) v (upd H a (.dT (putK kvs k v))):=.inr ⟨kvs,k,b,e,rfl,eb,hl,rfl⟩
section
variable {X:Cx} {pins:List (Addr×Obj)} {Y:St} {H:Hp} {s:Shared} {a:Addr} {y v:V} {u r:Value} {o:Option V} {A:Around} {E:Value->Shared->Prop}
theorem Inv.big (I:Inv X pins Y H s):sysModules < s.heap.objs.size:=by
 have h:mainGlobals < s.heap.objs.size:=(I.mod.glob.keeps I.bk).lt
 exact Nat.lt_trans (by decide) h
theorem zcm {Q:Value->Shared->Prop} (hu:A.units+1 < cLine) (I:Inv X pins Y H s) (g:DGet H a y (some v)) (ry:RelV y u) (h:∀ w' s',Inv X pins Y H s'->RelV v w'->Q w' s') :
  wpAny (model X.prog X.w) A (getItem (.ref a) u) Q E s:=by
 rcases g with ⟨kvs,k,e,ey,l⟩|⟨kvs,k,b,e,ey,eb,l⟩
 ·subst ey
  obtain ⟨z,hd,vs,rel,dd⟩:=zty I.hok e
  obtain ⟨w',hw,rw'⟩:=RelO.some_of (v:=v) (o:=valueAt vs k) (by rw [l];exact rel.val k)
  exact wpAny_getItem_of (zdx ry) dd.mapOf hw (h w' _ (I.tok _) rw')
 ·subst ey
  cases (show u=vO b from ry)
  obtain ⟨z,hd,xs,rel,dd⟩:=zwy I.hok e
  obtain ⟨w',hw,rw'⟩:=RelO.some_of (v:=v) (o:=(atKey xs k).map (·.2)) (by rw [l];exact rel.val k)
  obtain ⟨p,hp,hp2⟩:=wJ.mp hw
  refine wpAny_getItem_heap (tupleKind_room_in1 hu) (zek I.hok eb) dd hp ?_
  rw [hp2]
  exact h w' _ (I.tok _) rw'
theorem d_in {Q:Value->Shared->Prop} (hu:A.units+1 < cLine) (I:Inv X pins Y H s) (g:DGet H a y o) (ry:RelV y u) (h:∀ s',Inv X pins Y H s'->Q (.bool o.isSome) s') :
  wpAny (model X.prog X.w) A (compareOp .In u (.ref a)) Q E s:=by
 rcases g with ⟨kvs,k,e,ey,l⟩|⟨kvs,k,b,e,ey,eb,l⟩
 ·subst ey
  obtain ⟨z,hd,vs,rel,dd⟩:=zty I.hok e
  refine wpAny_in_of (zdx ry) hd dd.mapOf ?_
  rw [<- (rel.val k).isSome_eq,<- l]
  exact h _ (I.tok _)
 ·subst ey
  cases (show u=vO b from ry)
  obtain ⟨z,hd,xs,rel,dd⟩:=zwy I.hok e
  refine wpAny_in_heap (tupleKind_room_in1 hu) (zek I.hok eb) hd dd ?_
  have q:=(rel.val k).isSome_eq
  rw [yQ] at q
  rw [<- q,<- l]
  exact h _ (I.tok _)
theorem za41 {Q:Value->Shared->Prop} (hu:A.units+1 < cLine) (I:Inv X pins Y H s) (g:DGet H a y o) (ry:RelV y u) (h:∀ s',Inv X pins Y H s'->Q (.bool (!o.isSome)) s') :
  wpAny (model X.prog X.w) A (compareOp .NotIn u (.ref a)) Q E s:=by
 rcases g with ⟨kvs,k,e,ey,l⟩|⟨kvs,k,b,e,ey,eb,l⟩
 ·subst ey
  obtain ⟨z,hd,vs,rel,dd⟩:=zty I.hok e
  refine wpAny_notIn_of (zdx ry) hd dd.mapOf ?_
  rw [<- (rel.val k).isSome_eq,<- l]
  exact h _ (I.tok _)
 ·subst ey
  cases (show u=vO b from ry)
  obtain ⟨z,hd,xs,rel,dd⟩:=zwy I.hok e
  refine wpAny_notIn_heap (tupleKind_room_in1 hu) (zek I.hok eb) hd dd ?_
  have q:=(rel.val k).isSome_eq
  rw [yQ] at q
  rw [<- q,<- l]
  exact h _ (I.tok _)
theorem zxl {h':Heap} {t':Nat} {ob:HO} (I:Inv X pins Y H s) (mu:Mut (H a)) (hs:Heap.SameBut a s.heap h') (he:∃ q,h'.get? a=some q) (new:ObjOk X.prog X.w (upd H a ob) h' a ob) :
  Inv X pins Y (upd H a ob) { s with heap:=h',toks:=t' } :=
 I.write (x:=a) (e:=a) mu (.inl rfl) (λ b q hb z=>(hs.2 b hb).trans z) he new
theorem zq21 {P:Program} {w:World} {H':Hp} {h':Heap} {kvs:List (Key×V)} {vs:List (Key×Value)} (z:kvs.length<=sizeLine) (hd:(a == sysModules)=false) (rel:KV kvs vs) (dd:h'.DictOf (zy1 P w) a vs) :
  ObjOk P w H' h' a (.dK kvs):=⟨z,hd,vs,rel,dd⟩
theorem zfs {H':Hp} {Q:Unit->Shared->Prop} (hu:A.units+1 < cLine) (I:Inv X pins Y H s) (g:DPut H a y v H') (ry:RelV y u) (rv:RelV v r) (h:∀ s',Inv X pins Y H' s'->Q () s') :
  wpAny (model X.prog X.w) A (setItem (.ref a) u r) Q E s:=by
 rcases g with ⟨kvs,k,e,ey,l,eH⟩|⟨kvs,k,b,e,ey,eb,l,eH⟩
 ·subst ey eH
  obtain ⟨z,hd,vs,rel,dd⟩:=zt71 I.hok e
  have hz:vs.length<=sizeLine:=by rw [<- rel.length];exact z
  have hl:(putK kvs k v).length<=sizeLine:=by have:=zl8 kvs k v;lia
  refine wpAny_setItem_pairs (hsz:=hz) (zdx ry) dd λ h' dd' hs=>h _ ?_
  have he:∃ q,h'.get? a=some q:=let ⟨q,_,_,hq,_⟩:=dd';⟨q,hq⟩
  exact zxl I (by rw [e];exact True.intro) hs he (zq21 hl hd (rel.put k rv) dd')
 ·subst ey eH
  cases (show u=vO b from ry)
  obtain ⟨z,hd,xs,rel,dd⟩:=zmb1 I.hok e
  have hz:xs.length<=sizeLine:=by rw [<- Paired.length rel];exact z
  have hl:(putK kvs k v).length<=sizeLine:=by have:=zl8 kvs k v;lia
  refine wpAny_setItem_heap (hsz:=hz) (tupleKind_room_in1 hu) (zek I.hok eb) dd λ h' dd' hs=>h _ ?_
  obtain ⟨q,es,ep,hq,h2,h3,h4,_,h5⟩:=dd'
  refine zxl I (by rw [e];exact True.intro) hs ⟨q,hq⟩ ⟨hl,hd,_,(rel.put k eb rv).keeps λ c ys ec=>?_,q,es,ep,hq,h2,h3,h4,h5⟩
  rw [zw0 (zz51 ec e (λ z=>nomatch z))]
  exact ec
end
section
variable {X:Cx} {pins:List (Addr×Obj)} {Y:St} {H:Hp} {s:Shared} {a:Addr} {kvs:List (Key×V)} {k:Key} {u:Value} {A:Around} {E:Value->Shared->Prop}
end
theorem zvn {X:Cx} {pins:List (Addr×Obj)} {Y:St} {H:Hp} {s:Shared} {a:Addr} {y:V} {o:Option V} (I:Inv X pins Y H s) (g:DGet H a y o):s.TypeIs (.ref a) "dict":=by
 rcases g with ⟨kvs,k,e,_,_⟩|⟨kvs,k,b,e,_,_,_⟩
 ·obtain ⟨_,_,vs,_,dd⟩:=zty I.hok e
  exact dd.typeIs
 ·obtain ⟨_,_,xs,_,dd⟩:=zwy I.hok e
  exact dd.typeIs
section
variable {X:Cx} {o i e value:Expr} {pos pos' tpos:Pos} {td ty tv:TE}
end
theorem znx {P:Program} {w:World} {H:Hp} (h:Heap) (hb:sysModules < h.objs.size):ObjOk P w H (h.push { cls:=.type "dict",data:=.dict #[] }) h.objs.size (.dK []) :=
 ⟨wY _,beq_eq_false_iff_ne.mpr (Ne.symm (wE hb)),[],.nil,Heap.DictOf.new h⟩
theorem zgv {P:Program} {w:World} {H:Hp} (h:Heap) (hb:sysModules < h.objs.size):ObjOk P w H (h.push { cls:=.type "dict",data:=.dict #[] }) h.objs.size (.dT []) :=
 ⟨wY _,beq_eq_false_iff_ne.mpr (Ne.symm (wE hb)),[],.nil,_,#[],0,wT _ rfl,⟨rfl,rfl,rfl⟩,rfl,rfl,List.nodup_nil⟩
noncomputable def zn31:TE:=λ _ H Q=>∀ p,H p=none->Q (.ref p) (upd H p (.dT []))
section
variable {X:Cx} {pos:Pos}
theorem zhv:PE X (.Dict [] [] pos) zn31:=λ pins s Y H Q I h =>
 wpAny_Dict_empty ⟨.ref s.heap.objs.size,_,I.laid (a:=s.heap.objs.size) (o:=.dT []) (t':=s.toks) (λ _ _ q=>v7 _ q) (u8 _) (zgv s.heap I.big),rfl,h _ (I.hok.fresh (u8 _))⟩
end
noncomputable def zqw:List (TE×TE)->St->Hp->(List (V×V)->Hp->Prop)->Prop
|[],_,H,Q=>Q [] H
|(tk,tv) :: r,Y,H,Q=>tk Y H λ x H1=>tv Y H1 λ y H2=>zqw r Y H2 λ ps H3=>Q ((x,y) :: ps) H3
noncomputable abbrev VV:List (V×V)->List (Value×Value)->Prop:=Paired λ p q=>RelV p.1 q.1/\RelV p.2 q.2
noncomputable def PPs (X:Cx) (pos:Pos) (keys:List (Option Expr)) (values:List Expr) (trs:List (TE×TE)):Prop :=
 ∀ (pins:List (Addr×Obj)) (s:Shared) (Y:St) (H:Hp) (Q:List (V×V)->Hp->Prop),Inv X pins Y H s->zqw trs Y H Q ->
  wpAny (model X.prog X.w) X.A (evalPairs (pairTrees keys values X.env pos)) (λ vs s'=>∃ ps H',Inv X pins Y H' s'/\VV ps vs/\Q ps H') X.xe s
theorem zd41 {X:Cx} {pos:Pos}:PPs X pos [] [] []:=λ pins s Y H Q I h=>pairTrees_nil_walk ⟨[],H,I,.nil,h⟩
theorem zrv {X:Cx} {pos:Pos} {k v:Expr} {ks:List (Option Expr)} {vs:List Expr} {tk tv:TE} {trs:List (TE×TE)} (hk:PE X k tk) (hv:PE X v tv) (hr:PPs X pos ks vs trs) :
  PPs X pos (some k :: ks) (v :: vs) ((tk,tv) :: trs):=λ pins s Y H Q I h =>
 pairTrees_cons_walk (thn (hk pins s Y H _ I h) λ u s1 ⟨x,H1,I1,rx,q1⟩=>thn (hv pins s1 Y H1 _ I1 q1) λ w2 s2 ⟨y,H2,I2,ry,q2⟩ =>
  thn (hr pins s2 Y H2 _ I2 q2) λ ws s3 ⟨ps,H3,I3,rel,q3⟩=>⟨(x,y) :: ps,H3,I3,.cons ⟨rx,ry⟩ rel,q3⟩)
noncomputable def zwl (kvs more:List (Key×V)):List (Key×V):=more.foldl (λ acc kv=>putK acc kv.1 kv.2) kvs
theorem KV.merge:∀ {more:List (Key×V)} {rs:List (Key×Value)} {kvs:List (Key×V)} {vs:List (Key×Value)},KV more rs->KV kvs vs->KV (zwl kvs more) (merged vs rs):=by
 intro more rs kvs vs r
 unfold KV at r
 induction r generalizing kvs vs with
|nil=>intro q;exact q
|@cons p q ps qs h t ih =>
  intro r0
  have e:KV (putK kvs p.1 p.2) (stored vs q.1 q.2):=by
   have:=r0.put p.1 h.2
   rw [<- h.1];exact this
  exact ih e
theorem zk9:∀ (more kvs:List (Key×V)),(zwl kvs more).length<=kvs.length+more.length
|[],kvs=>by show kvs.length<=kvs.length+0;lia
|p :: r,kvs=>by
  have h1:=zk9 r (putK kvs p.1 p.2)
  have h2:=zl8 kvs p.1 p.2
  show (zwl (putK kvs p.1 p.2) r).length<=_
  rw [xE];lia
theorem zgh {P:Program} {w:World}:∀ {kvs:List (Key×V)} {ws:List (Value×Value)},VV (kvs.map λ kv=>(kV kv.1,kv.2)) ws->∃ rs,Carries (zy1 P w) ws rs/\KV kvs rs
|[],_,r=>by rw [xQ] at r;cases r;exact ⟨[],True.intro,.nil⟩
|p :: kvs,_,r=>by
  rw [vV] at r
  cases r with
 |@cons a b as bs h t =>
   obtain ⟨rs,c,q⟩:=zgh (P:=P) (w:=w) t
   obtain ⟨b1,b2⟩:=b
   exact ⟨(p.1,b2) :: rs,⟨zdx h.1,rfl,c⟩,.cons ⟨rfl,h.2⟩ q⟩
noncomputable def zpa1 (trs:List (TE×TE)):TE:=λ Y H Q=>∀ p,H p=none->zqw trs Y (upd H p (.dK [])) λ ps H2=>H2 p=some (.dK [])/\∃ kvs:List (Key×V),ps=kvs.map (λ kv=>(kV kv.1,kv.2))/\kvs.length<=15/\Q (.ref p) (upd H2 p (.dK (zwl [] kvs)))
theorem zi11 {X:Cx} {pos:Pos} {keys:List (Option Expr)} {values:List Expr} {trs:List (TE×TE)} (h:PPs X pos keys values trs) (hall:keys.all (·.isSome)=true) (hl:keys.length=values.length) (h0:keys≠[])
  (h15:keys.length<=15):PE X (.Dict keys values pos) (zpa1 trs):=by
 intro pins s Y H Q I q
 have hn:=I.hok.fresh (u8 s.heap.objs.size)
 have I1:=I.laid (a:=s.heap.objs.size) (o:=.dK []) (h':=s.heap.push { cls:=.type "dict",data:=.dict #[] }) (t':=s.toks) (λ _ _ q=>v7 _ q) (u8 _) (znx s.heap I.big)
 refine wpAny_Dict_walk (knd:=zy1 X.prog X.w) hall hl h0 h15 (thn (h pins _ Y _ _ I1 (q _ hn)) λ ws s2 hz=>?_)
 obtain ⟨ps,H2,I2,rel,e,kvs,ep,lk,q2⟩:=hz
 subst ep
 obtain ⟨rs,c,rk⟩:=zgh (P:=X.prog) (w:=X.w) rel
 obtain ⟨z,hd,vs0,r0,dd⟩:=zt71 I2.hok e
 cases r0
 refine ⟨rs,c,dd,λ h' dd' hs=>⟨.ref s.heap.objs.size,_,?_,rfl,q2⟩⟩
 have hz:(zwl [] kvs).length<=sizeLine:=by
  have h1:=zk9 kvs []
  rw [List.length_nil] at h1
  rw [sizeLine_eq];lia
 have he:∃ q,h'.get? s.heap.objs.size=some q:=let ⟨q,_,_,hq,_⟩:=dd';⟨q,hq⟩
 exact zxl I2 (by rw [e];exact True.intro) hs he (zq21 hz hd (rk.merge .nil) dd')
section
variable {X:Cx} {pins:List (Addr×Obj)} {Y:St} {H:Hp} {s:Shared} {a:Addr} {y d:V} {u r:Value} {o:Option V} {A:Around} {E:Value->Shared->Prop}
theorem zl51 {Q:Value->Shared->Prop} (hu:A.units+1 < cLine) (I:Inv X pins Y H s) (g:DGet H a y o) (ry:RelV y u) (rd:RelV d r) (h:∀ w' s',Inv X pins Y H s'->RelV (o.getD d) w'->Q w' s') :
  wpAny (model X.prog X.w) A (call (.builtin "dict.get") [.ref a,u,r]) Q E s:=by
 rcases g with ⟨kvs,k,e,ey,l⟩|⟨kvs,k,b,e,ey,eb,l⟩
 ·subst ey
  obtain ⟨z,hd,vs,rel,dd⟩:=zty I.hok e
  refine call_meetsIn PySem.F.slot_dict_get dd.typeIs PySem.F.entry_dict_get (PySem.F.args_dict_get_3 _ _ _) (meets_dict_get_default (zy1 X.prog X.w) a (zdx ry) hd r) ⟨_,dd.mapOf,h _ _ (I.tok _) ?_⟩
  rw [l]
  exact (rel.val k).getD rd
 ·subst ey
  cases (show u=vO b from ry)
  obtain ⟨z,hd,xs,rel,dd⟩:=zwy I.hok e
  refine call_meetsIn PySem.F.slot_dict_get dd.typeIs PySem.F.entry_dict_get (PySem.F.args_dict_get_3 _ _ _) (meetsH_dict_get_default (tupleKind (zy1 X.prog X.w)) a b hd r) ⟨tupleKind_room_in1 hu,k,xs,zek I.hok eb,dd,h _ _ (I.tok _) ?_⟩
  rw [l]
  exact (rel.val k).getD rd
end
section
variable {X:Cx} {o e f:Expr} {apos cpos:Pos} {td ty tx:TE}
end
section
variable {X:Cx} {pins:List (Addr×Obj)} {Y:St} {H:Hp} {s:Shared} {a:Addr} {kvs:List (Key×V)} {A:Around} {E:Value->Shared->Prop}
end
section
variable {X:Cx} {pins:List (Addr×Obj)} {Y:St} {H:Hp} {s:Shared} {a:Addr} {y:V} {u:Value} {A:Around} {E:Value->Shared->Prop}
end
end L2
namespace L3
open PySem PySem.Spec PyProof.Rows L2
noncomputable def rInD:R2:=λ x y H Q=>∃ a o,y=.ref a/\DGet H a x o/\Q (.bl o.isSome) H
noncomputable def zpt:R2:=λ x y H Q=>∃ a o,y=.ref a/\DGet H a x o/\Q (.bl (!o.isSome)) H
noncomputable def rIxD:R2:=λ x y H Q=>∃ a v,x=.ref a/\DGet H a y (some v)/\Q v H
noncomputable def zpb1:V->V->V->Hp->(Hp->Prop)->Prop:=λ o i v H Q=>∃ a H',o=.ref a/\DPut H a i v H'/\Q H'
section
variable {X:Cx}
theorem zo81 (hu:X.A.units+64 < cLine):OpR X (compareOp .In) rInD:=by
 intro pins s Y H x y v u Q I rx ry h
 obtain ⟨a,o,rfl,g,q⟩:=h
 obtain rfl:u=vO a:=ry
 exact d_in (by lia) I g rx λ s3 I3=>⟨.bl o.isSome,H,I3,rfl,q⟩
theorem zdr (hu:X.A.units+64 < cLine):OpR X (compareOp .NotIn) zpt:=by
 intro pins s Y H x y v u Q I rx ry h
 obtain ⟨a,o,rfl,g,q⟩:=h
 obtain rfl:u=vO a:=ry
 exact za41 (by lia) I g rx λ s3 I3=>⟨.bl (!o.isSome),H,I3,rfl,q⟩
theorem ix_D (hu:X.A.units+64 < cLine):IxR X rIxD:=by
 intro value slice pins s Y H x y v u Q I rx ry h hs
 obtain ⟨a,v',rfl,g,q⟩:=h
 obtain rfl:v=vO a:=rx
 exact tail_any (zvn I g) PySem.F.slot_dict_getitem.lookup (zcm (by lia) I g ry λ w' s3 I3 rw'=>⟨v',H,I3,rw',q⟩) hs
theorem zsc1 (hu:X.A.units+64 < cLine):PSet X zpb1:=by
 intro pins s Y H o i v ov iv u Q I ro ri rv h
 obtain ⟨a,H',rfl,g,q⟩:=h
 obtain rfl:ov=vO a:=ro
 exact zfs (by lia) I g ri rv λ s4 I4=>⟨H',I4,q⟩
theorem zfe1 (hu:X.A.units+64 < cLine):PGet X rIxD:=by
 intro pins s Y H o i ov iv Q I ro ri h
 obtain ⟨a,v',rfl,g,q⟩:=h
 obtain rfl:ov=vO a:=ro
 exact zcm (by lia) I g ri λ w' s3 I3 rw'=>⟨v',H,I3,rw',q⟩
noncomputable def zeb1 (K:Fg):R2:=λ x y H Q=>∃ a xs j v,x=.ref a/\y=.int j/\0<=j/\SqL K H a xs/\xs[j.toNat]?=some v/\Q v H
theorem zud1 {K:Fg} (hK:X.K=K):PGet X (zeb1 K):=by
 subst hK
 intro pins s Y H o i ov iv Q I ro ri h
 obtain ⟨a,xs,j,v,rfl,rfl,h0,hq,he,q⟩:=h
 obtain rfl:ov=vO a:=ro
 obtain ⟨t,rfl⟩:=ri
 obtain ⟨its,r,pl,hz⟩:=I.list hq
 obtain ⟨u,eu,ru⟩:=r.get he
 have hl:=r.length
 have hn:=zkk
 have hj:=(vW.mp he).1
 refine wpAny_getItem_list pl.isList h0 (by lia) (by simpa using eu) ⟨v,H,I,ru,q⟩
theorem PGet.or {r r':R2} (h:PGet X r) (h':PGet X r'):PGet X (λ x y H Q=>r x y H Q \/ r' x y H Q):=by
 intro pins s Y H o i ov iv Q I ro ri q
 rcases q with q|q
 ·exact h pins s Y H o i ov iv Q I ro ri q
 ·exact h' pins s Y H o i ov iv Q I ro ri q
theorem PSet.or {r r':TSet} (h:PSet X r) (h':PSet X r'):PSet X (λ o i v H Q=>r o i v H Q \/ r' o i v H Q):=by
 intro pins s Y H o i v ov iv u Q I ro ri rv q
 rcases q with q|q
 ·exact h pins s Y H o i v ov iv u Q I ro ri rv q
 ·exact h' pins s Y H o i v ov iv u Q I ro ri rv q
end
noncomputable def rInV (w:World) (K:Fg):R2:=λ x y H Q=>rInW w K x y H Q \/ rInD x y H Q
noncomputable def zju (w:World) (K:Fg):R2:=λ x y H Q=>zit w K x y H Q \/ zpt x y H Q
noncomputable def rIxV (w:World) (K:Fg):R2:=λ x y H Q=>rIxW w K x y H Q \/ rIxD x y H Q
noncomputable def zp41 (K:Fg):R2:=λ x y H Q=>zeb1 K x y H Q \/ rIxD x y H Q
noncomputable def ztq:V->V->V->Hp->(Hp->Prop)->Prop:=λ o i v H Q=>zdc1 o i v H Q \/ zpb1 o i v H Q
section
variable {X:Cx} {w:World} {K:Fg}
theorem zn61 (hu:X.A.units+64 < cLine) (hw:X.w=w) (hK:X.K=K):OpR X (compareOp .In) (rInV w K):=(zy51 hw hK).or (zo81 hu)
theorem zar (hu:X.A.units+64 < cLine) (hw:X.w=w) (hK:X.K=K):OpR X (compareOp .NotIn) (zju w K):=(zqs hw hK).or (zdr hu)
theorem ix_V (hu:X.A.units+64 < cLine) (hw:X.w=w) (hK:X.K=K):IxR X (rIxV w K):=(ix_W hw hK).or (ix_D hu)
theorem zdz (hu:X.A.units+64 < cLine) (hK:X.K=K):PGet X (zp41 K):=PGet.or (zud1 hK) (zfe1 hu)
theorem zwp (hu:X.A.units+64 < cLine):PSet X ztq:=PSet.or zww (zsc1 hu)
end
section
variable {w:World} {K:Fg} {H:Hp} {Q:VK} {a b:Addr} {x y v:V} {o:Option V} {xs:List V} {i:Int} {Y:St} {D:Ends}
end
section
variable {K:Fg} {H:Hp} {Q:VK} {Y caps:St} {n:Nat} {ix:List Nat} {g:TG} {tt:TT} {te:TE} {m:Nat} {J:It} {Yv:Nat->V->Hp->Prop}
end
noncomputable def kBM0 (K:Fg) (T:String) (r:V->List V->Hp->VK->Prop) (x:V) (H:Hp) (Q:VK):Prop:=tyV K T x H/\r x [] H Q
noncomputable def zib1 (K:Fg) (T:String) (r:V->List V->Hp->VK->Prop) (to:TE):TE:=λ Y H Q=>to Y H λ x H1=>kBM0 K T r x H1 Q
theorem zkq {X:Cx} {K:Fg} (hK:X.K=K) {o:Expr} {to:TE} {name:Str} {apos cpos:Pos} {T id:String} {r:V->List V->Hp->VK->Prop} (pa:PlainAttrs T) (slot:Slot T name id) (hty:typeOf (.builtin id)=pure (.type "method_descriptor")) (hm:MtR X id r) (ho:PE X o to)
  (hbase:attributeBase o name X.env (eval o X.env)=eval o X.env:=by rfl) (hline:(apos.endLine == cpos.line)=true:=by rfl):PE X (.Call (.Attribute o name apos) [] [] cpos) (zib1 K T r to):=by
 subst hK
 exact ze81 pa slot hty hm ho hbase hline
section
variable {K:Fg} {T:String} {r:V->List V->Hp->VK->Prop} {to:TE} {Y:L2.St} {H:Hp} {Q:VK} {a:Addr} {xs:List V} {w:World} {x y v:V}
end
theorem ztz {X:Cx} {pins:List (Addr×Obj)} {Y:L2.St} {H:Hp} {s:Shared} {h':Heap} {t':Nat} {a c:Addr} (I:L2.Inv X pins Y H s) (k:∀ b o,b≠a->b≠c->s.heap.get? b=some o->h'.get? b=some o)
  (fa:FpOk X pins H a) (fc:FpOk X pins H c):L2.Inv X pins Y H { s with heap:=h',toks:=t' }:=by
 obtain ⟨a0,a1,_,a3,a4,a5⟩:=fa
 obtain ⟨c0,c1,_,c3,c4,c5⟩:=fc
 have na:∀ b u,H b=some u->b≠a:=λ b u e z=>by rw [z,a0] at e;cases e
 have nc:∀ b u,H b=some u->b≠c:=λ b u e z=>by rw [z,c0] at e;cases e
 refine I.step (g':=s.gens) (d':=s.drawn) (ch:=[a,c]) (λ b hb=>?_) (λ b o _ _ hc e _=>k b o (λ z=>hc (by simp [z])) (λ z=>hc (by simp [z])) e) (λ b o _ _ hc e _=>⟨o.slots,k b o (λ z=>hc (by simp [z])) (λ z=>hc (by simp [z])) e⟩) (λ _ _ _ _ n=>n)
  (λ b o hc e=>⟨o,k b o (λ z=>hc (by simp [z])) (λ z=>hc (by simp [z])) e⟩) (λ _ _ e=>e) (λ _ _ _ e=>e) (λ b ps e=>⟨#[],by rw [e];simp⟩) (λ m hm=>?_) (λ b u e=>?_) I.bare
 ·simp at hb
  rcases hb with e|e
  ·subst e;exact ⟨a3,a1,a4,a5⟩
  ·subst e;exact ⟨c3,c1,c4,c5⟩
 ·obtain ⟨o,es,ep,ho,r⟩:=hm
  exact ⟨o,es,ep,k _ o (Ne.symm a1) (Ne.symm c1) ho,r⟩
 ·refine (I.hok b u e).stay (λ d v hc q=>k d v ?_ ?_ q) (λ _ q=>q) λ _ _ q=>q
  ·rcases hc with z|z
   ·rw [z];exact na b u e
   ·exact na d _ z
  ·rcases hc with z|z
   ·rw [z];exact nc b u e
   ·exact nc d _ z
theorem zoz {h:Heap} {ob o:Obj} {b:Addr} (e:(h.push ob).get? b=some o) (n:b≠h.objs.size):h.get? b=some o:=by
 obtain ⟨e1,e2⟩:=uaB.mp e
 refine uaB.mpr ⟨?_,e2⟩
 cases h
 simpa [Heap.push,Array.getElem?_push,n] using e1
noncomputable def Ite (K:Fg) (a:Addr):It:=⟨λ i H=>∃ xs x,SqL K H a xs/\xs[i]?=some x,λ i H x H'=>∃ y p,(∀ ys,SqL K H a ys->ys[i]?=some y)/\H p=none/\x=.ref p/\H'=upd H p (.tup [.int (i:Int),y]),λ i H=>∃ xs,SqL K H a xs/\xs.length<=i⟩
theorem zbt {P:Program} {w:World} {K:Fg} {elts:List Expr} {c:_} {pos:Pos} {a e it:Addr} (hne:e≠it) :
  Turn P w K (.Tuple elts c pos) (Ite K a) [e,it] e (λ i h=>(∃ old,IsEnum h e it (i:Int) old)/\h.IsListIter it a i) where
 mem:=by simp
 obj:=λ i h S b hb=>by
  obtain ⟨⟨old,he⟩,hi⟩:=S
  simp at hb
  rcases hb with rfl|rfl
  ·exact ⟨_,he,λ v q=>by cases q⟩
  ·obtain ⟨o,e1,c1,d1⟩:=hi
   exact ⟨o,e1,λ v z=>by rw [d1] at z;cases z⟩
 keep:=λ i h h' S k=>by
  obtain ⟨⟨old,he⟩,hi⟩:=S
  exact ⟨⟨old,k _ (by simp) _ he⟩,hi.at λ o e1=>k it (by simp) o e1⟩
 item:=by
  intro X hP hw hK hc i pins s Y H E I hf S hg
  subst hP hw hK
  obtain ⟨⟨old,he⟩,hi⟩:=S
  obtain ⟨xs,x,hq,hx⟩:=hg
  obtain ⟨its,rv,p,hz⟩:=I.list hq
  obtain ⟨u,hu,ru⟩:=rv.get hx
  refine wpAny_pyNext_enum_item he hi p.isList (x:=u) (by simpa using hu) hne λ h' ho hi' ht hsz hk=>?_
  have eL:e < s.heap.objs.size:=vT he
  have iL:it < s.heap.objs.size:=by obtain ⟨o,e1,_⟩:=hi;exact vT e1
  have hfr:=I.hok.fresh (u8 s.heap.objs.size)
  have I1:L2.Inv X pins Y (upd H s.heap.objs.size (.tup [.int (i:Int),x])) { s with heap:=s.heap.push { cls:=.type "tuple",data:=.seq #[.int i s.toks,u] },toks:=s.toks+1 } :=
   I.laid (t':=s.toks+1) (o:=.tup [.int (i:Int),x]) (λ b ob q=>v7 _ q) (u8 _) ⟨by show 2<=sizeLine;rw [sizeLine_eq];decide,[.int i s.toks,u],.cons ⟨_,rfl⟩ (.cons ru .nil),IsTup.new _ _⟩
  have fe:=hf e (by simp)
  have fi:=hf it (by simp)
  have fe1:FpOk X pins (upd H s.heap.objs.size (.tup [.int (i:Int),x])) e:=⟨by rw [zw0 (wE eL)];exact fe.1,fe.2⟩
  have fi1:FpOk X pins (upd H s.heap.objs.size (.tup [.int (i:Int),x])) it:=⟨by rw [zw0 (wE iL)];exact fi.1,fi.2⟩
  have I2:L2.Inv X pins Y (upd H s.heap.objs.size (.tup [.int (i:Int),x])) { s with heap:=h',toks:=s.toks+1 } :=
   ztz (s:={ s with heap:=s.heap.push { cls:=.type "tuple",data:=.seq #[.int i s.toks,u] },toks:=s.toks+1 }) I1 (λ b o nb1 nb2 q=>by
    by_cases z:b=s.heap.objs.size
    ·subst z
     have q':(s.heap.push { cls:=.type "tuple",data:=.seq #[.int i s.toks,u] }).get? s.heap.objs.size=some o:=q
     rw [wT _ rfl] at q'
     cases q'
     exact ht
    ·exact hk b o nb1 nb2 (zoz q z)) fe1 fi1
  refine ⟨.ref s.heap.objs.size,rfl,wpAny_letOwnedTupleGo_enum ho λ h2 he2 hs2=>?_⟩
  refine ⟨.ref s.heap.objs.size,_,zc41 (tk:=s.toks+1) I2 fe1 hs2,rfl,⟨x,s.heap.objs.size,λ ys hy=>by rw [I.list_inj hy hq];exact hx,hfr,rfl,rfl⟩,⟨⟨u,by simpa using he2⟩,hi'.at λ o e1=>hs2.extBut _ _ (Ne.symm hne) e1⟩,λ b hb=>?_⟩
  simp at hb
  rcases hb with rfl|rfl
  ·exact fe1.1
  ·exact fi1.1
 done:=by
  intro X hP hw hK hc i pins s Y H E I hf S hg
  subst hP hw hK
  obtain ⟨⟨old,he⟩,hi⟩:=S
  obtain ⟨xs,hq,hx⟩:=hg
  obtain ⟨its,rv,p,hz⟩:=I.list hq
  have hl:=rv.length
  exact wpAny_pyNext_enum_end (I.ok.hd hc) he hi p.isList (by simp;lia) λ h' eb=>⟨rfl,za81 (tk:=s.toks) I (hf it (by simp)) eb⟩
 self:=λ _ _ _ _ _ S h=>wpAny_pyIter_enum S.1.choose_spec h
theorem ztl:bootBuiltins "enumerate"=some (.type "enumerate"):=by decide +kernel
section
variable {X:Cx} {elts:List Expr}
noncomputable def zmc1 (K:Fg) (vs:List V) (H:Hp) (R:It->Hp->Prop):Prop:=∃ a xs,vs=[.ref a]/\SqL K H a xs/\R (Ite K a) H
noncomputable def zp61 (K:Fg) (ta:TA):TI:=λ Y H R=>ta Y H λ vs H1=>zmc1 K vs H1 R
theorem zzm {K:Fg} (hK:X.K=K) {c:_} {tpos:Pos} {a:Expr} {ta:TA} {p pos:Pos} (hg:Gl X "enumerate") (hm:X.mg "enumerate"=none) (ha:PA X [a] ta) (hs:starEach [a] X.env=[(false,eval a X.env)]:=by rfl) :
  PI X (.Tuple elts c tpos) (.Call (.Name "enumerate" p) [a] [] pos) (zp61 K ta):=by
 subst hK
 intro pins s Y H R I h
 refine Call_ (zyn I hg hm ztl (PyProof.Rows.callWith_type1 (thn (ha pos pins s Y H _ I h) λ us s1 hz=>?_) (by rw [hs];rfl) (by rfl)))
 obtain ⟨vs,H1,I1,r1,q1⟩:=hz
 obtain ⟨l,xs,e,hq,q⟩:=q1
 subst e
 obtain ⟨u1,rfl,ru⟩:=zyy r1
 obtain rfl:u1=vO l:=ru
 obtain ⟨its,rv,pl,hz⟩:=I1.list hq
 refine call_enumerate_list pl.isList ?_
 intro h' he hi hsz kk
 refine wpAny_pyIter_enum he ?_
 have I2:L2.Inv X pins Y H1 { s1 with heap:=h' }:=I1.kept (t':=s1.toks) kk
 refine ⟨s1.heap.objs.size+1,[s1.heap.objs.size+1,s1.heap.objs.size],_,_,H1,rfl,I2,zbt (Nat.succ_ne_self _),⟨⟨.none,he⟩,hi⟩,λ b hb=>?_,q⟩
 have hb':s1.heap.objs.size<=b:=by
  simp at hb
  rcases hb with z|z
  ·exact z ▸ y6 _
  ·exact z ▸ u8 _
 exact I1.fpOk hb' (I1.hok.fresh hb')
end
section
variable {K:Fg} {H:Hp} {a:Addr} {xs:List V} {Y:L2.St} {ta:TA}
end
noncomputable def zd71:R2:=λ x y H Q=>zvb1 x y H Q \/ rRep x y H Q
theorem zv1 {X:Cx}:OpR X (binaryOp .Mult) zd71:=ze21.or zb01
noncomputable def zfw:V->List V->Hp->VK->Prop:=λ x vs H Q=>∃ a k d o,x=.ref a/\vs=[k,d]/\DGet H a k o/\Q (o.getD d) H
theorem zx01 {X:Cx} (hu:X.A.units+64 < cLine):MtR X "dict.get" zfw:=by
 intro pins s Y H x xs v us Q I rx rv h
 obtain ⟨a,k,d,o,rfl,rfl,g,q⟩:=h
 obtain ⟨u,r,rfl,ru,rr⟩:=zrb1 rv
 obtain rfl:v=vO a:=rx
 exact zl51 (by lia) I g ru rr λ w' s3 I3 rw'=>⟨o.getD d,H,I3,rw',q⟩
section
variable {K:Fg} {r:V->List V->Hp->VK->Prop} {t:TA} {Y:L2.St} {H:Hp} {Q:VK} {a:Addr} {d k:V} {o:Option V}
end
section
variable {X:Cx}
noncomputable def zea1 (K:Fg):R2:=λ x y H Q=>∃ l b xs zs,x=.ref l/\y=.ref b/\SqL K H l xs/\SqL K H b zs/\xs.length+zs.length<=sizeLine/\∀ p,H p=none->Q (.ref p) (upd H p (.lst (xs++zs)))
theorem zi01 {K:Fg} (hK:X.K=K):OpR X (binaryOp .Add) (zea1 K):=by
 subst hK
 intro pins s Y H x y v u Q I rx ry h
 obtain ⟨l,b,xs,zs,rfl,rfl,hH,hB,hz,q⟩:=h
 cases rx
 cases ry
 obtain ⟨its,r,⟨⟨cls,dd,data,sl⟩,n,ho,hc,_,hd⟩,z1⟩:=I.list hH
 obtain ⟨its2,r2,⟨⟨cls2,dd2,data2,sl2⟩,n2,ho2,hc2,_,hd2⟩,z2⟩:=I.list hB
 simp only at hc hd hc2 hd2
 subst hc hd hc2 hd2
 have e1:=r.length
 have e2:=r2.length
 refine concat_meets ⟨_,ho,rfl⟩ ⟨_,ho2,rfl⟩ noFill_list_add seq_list_add PySem.F.slot_list_add PySem.F.entry_list_add (PySem.F.args_list_add_2 _ _) (list_addW l b its.toArray its2.toArray n n2 dd dd2 sl sl2 (by simp;lia)) ⟨ho,ho2,?_⟩
 have ea:its.toArray++its2.toArray=(its++its2).toArray:=by simp
 rw [ea]
 exact ⟨.ref _,_,I.lnew (t':=s.toks) (r.append r2) (by rw [vJ];lia),rfl,q _ I.fresh⟩
noncomputable def zqy (K:Fg):R2:=λ x y H Q=>zta1 K x y H Q \/ zea1 K x y H Q
theorem zp0 {K:Fg} (hK:X.K=K):OpR X (binaryOp .Add) (zqy K):=(zt11 hK).or (zi01 hK)
noncomputable def rIsS (K:Fg):List V->Hp->VK->Prop:=λ vs H Q=>∃ a cV c b,vs=[.ref a,cV]/\clsV cV=some c/\(((∃ xs,SqL K H a xs)/\PySem.W.kitOne K (.type "list") c=some b) \/ ((∃ xs,SqT K H a xs)/\PySem.W.kitOne K (.type "tuple") c=some b))/\Q (.bl b) H
theorem zdw {K:Fg} (h:X.K=K):CallR X (.builtin "isinstance") (rIsS K):=by
 subst h
 intro pins s Y H xs us Q I r h
 obtain ⟨a,cV,c,b,rfl,rc,hh,q⟩:=h
 obtain ⟨u,v,rfl,ru,rv⟩:=r.two
 obtain rfl:=zlp rc rv
 cases (show u=vO a from ru)
 rcases hh with ⟨⟨xs,hx⟩,e⟩|⟨⟨xs,hx⟩,e⟩
 ·obtain ⟨its,_,⟨o,n,ho,hc,_,hd⟩,_⟩:=I.list hx
  exact PySem.W.kia_one PySem.W.kitx_list I.kIn ⟨o,ho,hc⟩ e (λ z=>nomatch z) λ tk=>⟨.bl b,H,I.tok tk,rfl,q⟩
 ·obtain ⟨its,_,⟨o,h1,h2,_⟩,_⟩:=I.tuple hx
  exact PySem.W.kia_one PySem.W.kitx_tuple I.kIn ⟨o,h1,h2⟩ e (λ z=>nomatch z) λ tk=>⟨.bl b,H,I.tok tk,rfl,q⟩
noncomputable def rIsW (K:Fg):List V->Hp->VK->Prop:=λ vs H Q=>rIsI K vs H Q \/ rIsS K vs H Q
theorem zfv {K:Fg} (h:X.K=K):CallR X (.builtin "isinstance") (rIsW K):=(zsn h).or (zdw h)
theorem zfl (l:Addr) (items:Array Value) (n:Nat) (b:Addr) (items2:Array Value) (n2:Nat) (dd2:Option Addr) (sl2:Array (Option Value)) (hc0:¬(!items.isEmpty && Builtin.List.listTooLong (items.size+items2.size))=true) (hc1:items.size<=sizeLine) (hs2:items.size+items2.size<=sizeLine+1) :
  Meets (Builtin.«list.extend» ⟨[.ref l,.ref b],[]⟩) (λ _ R s=>s.heap.get? l=some { cls:=.type "list",dict:=none,data:=.seq items n,slots:=#[] }/\s.heap.get? b=some { cls:=.type "list",dict:=dd2,data:=.seq items2 n2,slots:=sl2 }/\R (.ok (.ret yK)) { s with heap:=s.heap.update l (Obj.mapSeq λ x=>x++items2),toks:=s.toks }) :=
 .of_wp λ prog w A R s h=>by
  obtain ⟨hp,g,d,tk,os⟩:=s;obtain ⟨hl,hb,h⟩:=h;have f1:=AutoSeq1.idx_int;have f2:=AutoSeq1.sub_tuple_tuple;have f3:=AutoSeq1.sub_list_list;have f4:=AutoSeq1.sub_tuple_list;have f5:=AutoSeq1.sub_list_tuple
  have hz':(items++items2).size<=sizeLine+1:=by rw [Array.size_append];exact hs2
  wp_walk using (wpAny_updateSeq hl rfl (hz:=hc1) (_hz':=hz')),wpAny_loadPart' hl,wpAny_loadPart' hb;exact ⟨_,rfl,h⟩
noncomputable def zgq (K:Fg):V->List V->Hp->VK->Prop:=λ x vs H Q=>∃ l b xs zs,x=.ref l/\vs=[.ref b]/\H l=some (.lst xs)/\SqL K H b zs/\xs.length+zs.length<=sizeLine/\Q .non (upd H l (.lst (xs++zs)))
theorem zsh {K:Fg} (hK:X.K=K):MtM X "list.extend" (zgq K):=by
 subst hK
 intro pins s Y H x vs v us Q I rx rv h
 obtain ⟨l,b,xs,zs,rfl,rfl,hH,hB,hz,q⟩:=h
 cases rx
 obtain ⟨u,rfl,ru⟩:=rv.one
 cases ru
 obtain ⟨z,its,n,r,hl,e⟩:=I.lstM hH
 obtain ⟨its2,r2,⟨⟨cls2,dd2,data2,sl2⟩,n2,ho2,hc2,_,hd2⟩,z2⟩:=I.list hB
 simp only at hc2 hd2
 subst hc2 hd2
 have hl2:=r2.length
 have hsz:its.toArray.size+its2.toArray.size<=sizeLine:=by rw [vQ,vQ];lia
 have hlong:¬ (!its.toArray.isEmpty && Builtin.List.listTooLong (its.toArray.size+its2.toArray.size))=true:=by
  rw [zhl hsz,Bool.and_false]
  exact vS
 refine call_meets F.slot_list_extend ⟨_,e,rfl⟩ F.entry_list_extend (F.args_list_extend_2 _ _)
  (zfl l its.toArray n b its2.toArray n2 dd2 sl2 hlong (by rw [vQ];lia) (by lia)) ⟨e,ho2,?_⟩
 refine ⟨.non,_,I.lset (its':=its++its2) hH e (by simp) (r.append r2) ?_,rfl,q⟩
 rw [vJ]
 lia
end
theorem IsAll.dlen {K:Fg} {F:Hp}:∀ {xs:List V} {ds:List PyData},IsAll K F xs ds->xs.length=ds.length
|_,_,.nil=>rfl
|_,_,.cons _ r=>congrArg (·+1) (IsAll.dlen r)
theorem IsAll.dget {K:Fg} {F:Hp}:∀ {xs:List V} {ds:List PyData} {i:Nat} {d:PyData},IsAll K F xs ds->ds[i]?=some d->∃ x,xs[i]?=some x/\Is K F x d
|_,_,_,_,.nil,e=>by simp at e
|_,_,0,_,.cons h _,e=>by simp at e;subst e;exact ⟨_,rfl,h⟩
|_,_,i+1,d,.cons _ r,e=>by
  obtain ⟨x,h1,h2⟩:=IsAll.dget (i:=i) (d:=d) r (by simpa using e)
  exact ⟨x,by simpa using h1,h2⟩
theorem IsAll.dapp {K:Fg} {F:Hp}:∀ {xs ys:List V} {ds es:List PyData},IsAll K F xs ds->IsAll K F ys es->IsAll K F (xs++ys) (ds++es)
|_,_,_,_,.nil,s=>s
|_,_,_,_,.cons h r,s=>.cons h (IsAll.dapp r s)
theorem IsAll.dtake {K:Fg} {F:Hp}:∀ (n:Nat) {xs:List V} {ds:List PyData},IsAll K F xs ds->IsAll K F (xs.take n) (ds.take n)
|0,_,_,_=>.nil
|_+1,_,_,.nil=>.nil
|n+1,_,_,.cons h r=>.cons h (IsAll.dtake n r)
theorem IsAll.ddrop {K:Fg} {F:Hp}:∀ (n:Nat) {xs:List V} {ds:List PyData},IsAll K F xs ds->IsAll K F (xs.drop n) (ds.drop n)
|0,_,_,h=>h
|_+1,_,_,.nil=>.nil
|n+1,_,_,.cons _ r=>IsAll.ddrop n r
theorem IsAll.dset {K:Fg} {F:Hp} {x:V} {d:PyData} (hx:Is K F x d):∀ (n:Nat) {xs:List V} {ds:List PyData},IsAll K F xs ds->IsAll K F (xs.set n x) (ds.set n d)
|_,_,_,.nil=>.nil
|0,_,_,.cons _ r=>.cons hx r
|n+1,_,_,.cons h r=>.cons h (IsAll.dset hx n r)
theorem Is.list_inv {K:Fg} {F:Hp} {v:V} {ds:List PyData} (h:Is K F v (.list ds)):∃ a xs,v=.ref a/\SqL K F a xs/\IsAll K F xs ds:=by
 cases h with
|lst h1 h2=>exact ⟨_,_,rfl,h1,h2⟩
theorem Is.tuple_inv {K:Fg} {F:Hp} {v:V} {ds:List PyData} (h:Is K F v (.tuple ds)):∃ a xs,v=.ref a/\SqT K F a xs/\IsAll K F xs ds:=by
 cases h with
|tup h1 h2=>exact ⟨_,_,rfl,SqT.of h1,h2⟩
|tuc h1 h2 _=>exact ⟨_,_,rfl,h1,h2⟩
theorem Is.int_inv {K:Fg} {F:Hp} {v:V} {i:Int} (h:Is K F v (.int i)):v=.int i:=by cases h;rfl
theorem Is.bl_inv {K:Fg} {F:Hp} {v:V} {b:Bool} (h:Is K F v (.bool b)):v=.bl b:=by cases h;rfl
theorem Is.str_inv {K:Fg} {F:Hp} {v:V} {b:Str} (h:Is K F v (.str b)):v=.str b:=by cases h;rfl
theorem Is.non_inv {K:Fg} {F:Hp} {v:V} (h:Is K F v .none):v=.non:=by cases h;rfl
end L3
namespace L4
open PySem PySem.Spec PyProof.Rows L2 L3
noncomputable abbrev D:=PyData
structure Ext (F H F' H':Hp):Prop where
 h:Same H H'
 f:Same F F'
 fh:Same F' H'
 nw:∀ a,H a≠none->F a=none->F' a=none
theorem Ext.refl {F H:Hp} (s:Same F H):Ext F H F H:=⟨λ _ _ z=>z,λ _ _ z=>z,s,λ _ _ z=>z⟩
theorem Ext.trans {F H F1 H1 F2 H2:Hp} (a:Ext F H F1 H1) (b:Ext F1 H1 F2 H2):Ext F H F2 H2 :=
 ⟨a.h.trans b.h,a.f.trans b.f,b.fh,λ c hc fc=>b.nw c (λ z=>by
  cases e:H c with
 |none=>exact hc e
 |some o=>rw [a.h c o e] at z;cases z) (a.nw c hc fc)⟩
inductive T where
|fz (d:D)|li (ds:List D)|ls (ts:List T)|ob (C:Addr) (fs:List (Str×T))|dk (kvs:List (Key×D))|dt (kvs:List (List Key×D))|tp (ts:List T)
inductive KvIs (K:Fg) (F:Hp) {κ:Type}:List (κ×V)->List (κ×D)->Prop
|nil:KvIs K F [] []
|cons {k:κ} {v:V} {d:D} {r:List (κ×V)} {s:List (κ×D)}:Is K F v d->KvIs K F r s->KvIs K F ((k,v) :: r) ((k,d) :: s)
theorem KvIs.mono {K:Fg} {F F':Hp} {κ:Type} (s:Same F F'):∀ {r:List (κ×V)} {t:List (κ×D)},KvIs K F r t->KvIs K F' r t
|_,_,.nil=>.nil
|_,_,.cons h r=>.cons (h.mono s) (r.mono s)
mutual
inductive Rt (K:Fg) (F H:Hp):V->T->List Addr->Prop
|fz {v:V} {d:D}:Is K F v d->Rt K F H v (.fz d) []
|li {a:Addr} {xs:List V} {ds:List D}:H a=some (.lst xs)->F a=none->IsAll K F xs ds->Rt K F H (.ref a) (.li ds) [a]
|ls {a:Addr} {xs:List V} {ts:List T} {fp:List Addr}:H a=some (.lst xs)->F a=none->RtAll K F H xs ts fp->Rt K F H (.ref a) (.ls ts) (a :: fp)
|ob {a C dx:Addr} {fs:List (Str×V)} {ts:List (Str×T)} {fp:List Addr}:H a=some (.ins C dx fs)->H dx=some (.own a)->F a=none->F dx=none->RtFs K F H fs ts fp->Rt K F H (.ref a) (.ob C ts) (a :: dx :: fp)
|dk {a:Addr} {kvs:List (Key×V)} {ds:List (Key×D)}:H a=some (.dK kvs)->F a=none->KvIs K F kvs ds->Rt K F H (.ref a) (.dk ds) [a]
|dt {a:Addr} {kvs:List (List Key×V)} {ds:List (List Key×D)}:H a=some (.dT kvs)->F a=none->KvIs K F kvs ds->Rt K F H (.ref a) (.dt ds) [a]
|tp {a:Addr} {xs:List V} {ts:List T} {fp:List Addr}:H a=some (.tup xs)->F a=none->RtAll K F H xs ts fp->Rt K F H (.ref a) (.tp ts) (a :: fp)
inductive RtAll (K:Fg) (F H:Hp):List V->List T->List Addr->Prop
|nil:RtAll K F H [] [] []
|cons {x:V} {t:T} {xs:List V} {ts:List T} {fp fq:List Addr}:Rt K F H x t fp->RtAll K F H xs ts fq->RtAll K F H (x :: xs) (t :: ts) (fp++fq)
inductive RtFs (K:Fg) (F H:Hp):List (Str×V)->List (Str×T)->List Addr->Prop
|nil:RtFs K F H [] [] []
|cons {f:Str} {x:V} {t:T} {xs:List (Str×V)} {ts:List (Str×T)} {fp fq:List Addr}:Rt K F H x t fp->RtFs K F H xs ts fq->RtFs K F H ((f,x) :: xs) ((f,t) :: ts) (fp++fq)
end
section
variable {K:Fg} {F H F' H':Hp}
theorem Rt.ind {P : V → T → List Addr → Prop} {Q : List V → List T → List Addr → Prop} {R : List (Str × V) → List (Str × T) → List Addr → Prop}
    (c1 : ∀ {v : V} {d : D}, Is K F v d → P v (.fz d) [])
    (c2 : ∀ {a : Addr} {xs : List V} {ds : List D}, H a = some (.lst xs) → F a = none → IsAll K F xs ds → P (.ref a) (.li ds) [a])
    (c3 : ∀ {a : Addr} {xs : List V} {ts : List T} {fp : List Addr}, H a = some (.lst xs) → F a = none → Q xs ts fp → P (.ref a) (.ls ts) (a :: fp))
    (c4 : ∀ {a C dx : Addr} {fs : List (Str × V)} {ts : List (Str × T)} {fp : List Addr}, H a = some (.ins C dx fs) → H dx = some (.own a) → F a = none → F dx = none → R fs ts fp → P (.ref a) (.ob C ts) (a :: dx :: fp))
    (c5 : ∀ {a : Addr} {kvs : List (Key × V)} {ds : List (Key × D)}, H a = some (.dK kvs) → F a = none → KvIs K F kvs ds → P (.ref a) (.dk ds) [a])
    (c6 : ∀ {a : Addr} {kvs : List (List Key × V)} {ds : List (List Key × D)}, H a = some (.dT kvs) → F a = none → KvIs K F kvs ds → P (.ref a) (.dt ds) [a])
    (ct : ∀ {a : Addr} {xs : List V} {ts : List T} {fp : List Addr}, H a = some (.tup xs) → F a = none → Q xs ts fp → P (.ref a) (.tp ts) (a :: fp))
    (c7 : Q [] [] []) (c8 : ∀ {x : V} {t : T} {xs : List V} {ts : List T} {fp fq : List Addr}, P x t fp → Q xs ts fq → Q (x :: xs) (t :: ts) (fp ++ fq))
    (c9 : R [] [] []) (c0 : ∀ {f : Str} {x : V} {t : T} {xs : List (Str × V)} {ts : List (Str × T)} {fp fq : List Addr}, P x t fp → R xs ts fq → R ((f, x) :: xs) ((f, t) :: ts) (fp ++ fq)) :
    (∀ {v : V} {t : T} {fp : List Addr}, Rt K F H v t fp → P v t fp) ∧ (∀ {v : List V} {t : List T} {fp : List Addr}, RtAll K F H v t fp → Q v t fp) ∧ (∀ {v : List (Str × V)} {t : List (Str × T)} {fp : List Addr}, RtFs K F H v t fp → R v t fp) :=
  ⟨fun h => Rt.rec (motive_1 := fun v t fp _ => P v t fp) (motive_2 := fun v t fp _ => Q v t fp) (motive_3 := fun v t fp _ => R v t fp) c1 c2 (fun a b _ => c3 a b) (fun a b c d _ => c4 a b c d) c5 c6 (fun a b _ => ct a b) c7 (fun _ _ => c8) c9 (fun _ _ => c0) h,
   fun h => RtAll.rec (motive_1 := fun v t fp _ => P v t fp) (motive_2 := fun v t fp _ => Q v t fp) (motive_3 := fun v t fp _ => R v t fp) c1 c2 (fun a b _ => c3 a b) (fun a b c d _ => c4 a b c d) c5 c6 (fun a b _ => ct a b) c7 (fun _ _ => c8) c9 (fun _ _ => c0) h,
   fun h => RtFs.rec (motive_1 := fun v t fp _ => P v t fp) (motive_2 := fun v t fp _ => Q v t fp) (motive_3 := fun v t fp _ => R v t fp) c1 c2 (fun a b _ => c3 a b) (fun a b c d _ => c4 a b c d) c5 c6 (fun a b _ => ct a b) c7 (fun _ _ => c8) c9 (fun _ _ => c0) h⟩
noncomputable def Keep (F' H H':Hp) (fp:List Addr):Prop:=∀ a∈fp,H' a=H a/\F' a=none
theorem Keep.hd {a:Addr} {fp:List Addr} {o:HO} (k:Keep F' H H' (a :: fp)) (h:H a=some o):H' a=some o:=(k a v6).1.trans h
theorem Keep.no {a:Addr} {fp:List Addr} (k:Keep F' H H' (a :: fp)):F' a=none:=(k a v6).2
theorem Keep.tl {a:Addr} {fp:List Addr} (k:Keep F' H H' (a :: fp)):Keep F' H H' fp:=λ b hb=>k b (vU _ hb)
theorem Keep.l {fp fq:List Addr} (k:Keep F' H H' (fp++fq)):Keep F' H H' fp:=λ b hb=>k b (xP _ hb)
theorem Keep.r {fp fq:List Addr} (k:Keep F' H H' (fp++fq)):Keep F' H H' fq:=λ b hb=>k b (wU _ hb)
theorem zsl (s:Same F F'):(∀ {v:V} {t:T} {fp:List Addr},Rt K F H v t fp->Keep F' H H' fp->Rt K F' H' v t fp)/\(∀ {v:List V} {t:List T} {fp:List Addr},RtAll K F H v t fp->Keep F' H H' fp->RtAll K F' H' v t fp)/\(∀ {v:List (Str×V)} {t:List (Str×T)} {fp:List Addr},RtFs K F H v t fp->Keep F' H H' fp->RtFs K F' H' v t fp) :=
 Rt.ind (P:=λ v t fp=>Keep F' H H' fp->Rt K F' H' v t fp) (Q:=λ v t fp=>Keep F' H H' fp->RtAll K F' H' v t fp) (R:=λ v t fp=>Keep F' H H' fp->RtFs K F' H' v t fp)
  (λ h _=>.fz (h.mono s)) (λ h _ i k=>.li (k.hd h) k.no (i.mono s)) (λ h _ i k=>.ls (k.hd h) k.no (i k.tl)) (λ h h2 _ _ i k=>.ob (k.hd h) (k.tl.hd h2) k.no k.tl.no (i k.tl.tl))
  (λ h _ i k=>.dk (k.hd h) k.no (i.mono s)) (λ h _ i k=>.dt (k.hd h) k.no (i.mono s)) (λ h _ i k=>.tp (k.hd h) k.no (i k.tl)) (λ _=>.nil) (λ a b k=>.cons (a k.l) (b k.r)) (λ _=>.nil) (λ a b k=>.cons (a k.l) (b k.r))
theorem Rt.frame (s:Same F F') {v:V} {t:T} {fp:List Addr} (h:Rt K F H v t fp) (k:∀ a∈fp,H' a=H a/\F' a=none):Rt K F' H' v t fp:=(zsl s).1 h k
theorem RtAll.frame (s:Same F F') {v:List V} {t:List T} {fp:List Addr} (h:RtAll K F H v t fp) (k:∀ a∈fp,H' a=H a/\F' a=none):RtAll K F' H' v t fp:=(zsl s).2.1 h k
theorem RtFs.frame (s:Same F F') {v:List (Str×V)} {t:List (Str×T)} {fp:List Addr} (h:RtFs K F H v t fp) (k:∀ a∈fp,H' a=H a/\F' a=none):RtFs K F' H' v t fp:=(zsl s).2.2 h k
noncomputable def Dom (F H:Hp) (fp:List Addr):Prop:=∀ a∈fp,H a≠none/\F a=none
theorem Dom.nil:Dom F H []:=λ _ h=>nomatch h
theorem Dom.cons {a:Addr} {o:HO} {fp:List Addr} (h:H a=some o) (f:F a=none) (r:Dom F H fp):Dom F H (a :: fp):=λ b hb=>by
 rcases vN.mp hb with e|e
 ·rw [e];exact ⟨λ z=>(by rw [h] at z;cases z),f⟩
 ·exact r b e
theorem Dom.app {fp fq:List Addr} (a:Dom F H fp) (b:Dom F H fq):Dom F H (fp++fq):=λ c hc=>(vK.mp hc).elim (a c) (b c)
theorem zmv:(∀ {v:V} {t:T} {fp:List Addr},Rt K F H v t fp->Dom F H fp)/\(∀ {v:List V} {t:List T} {fp:List Addr},RtAll K F H v t fp->Dom F H fp)/\(∀ {v:List (Str×V)} {t:List (Str×T)} {fp:List Addr},RtFs K F H v t fp->Dom F H fp) :=
 Rt.ind (P:=λ _ _ fp=>Dom F H fp) (Q:=λ _ _ fp=>Dom F H fp) (R:=λ _ _ fp=>Dom F H fp) (λ _=>.nil) (λ h f _=>.cons h f .nil) (λ h f r=>.cons h f r) (λ h h2 f f2 r=>.cons h f (.cons h2 f2 r))
  (λ h f _=>.cons h f .nil) (λ h f _=>.cons h f .nil) (λ h f r=>.cons h f r) .nil .app .nil .app
theorem Rt.dom {v:V} {t:T} {fp:List Addr} (h:Rt K F H v t fp):∀ a∈fp,H a≠none/\F a=none:=zmv.1 h
theorem RtAll.dom {v:List V} {t:List T} {fp:List Addr} (h:RtAll K F H v t fp):∀ a∈fp,H a≠none/\F a=none:=zmv.2.1 h
theorem RtFs.dom {v:List (Str×V)} {t:List (Str×T)} {fp:List Addr} (h:RtFs K F H v t fp):∀ a∈fp,H a≠none/\F a=none:=zmv.2.2 h
end
theorem Rt.ext {K:Fg} {F H F' H':Hp} {v:V} {t:T} {fp:List Addr} (e:Ext F H F' H') (h:Rt K F H v t fp):Rt K F' H' v t fp :=
 h.frame e.f λ a ha=>by
  obtain ⟨h1,h2⟩:=h.dom a ha
  cases q:H a with
 |none=>exact absurd q h1
 |some o=>exact ⟨e.h a o q,e.nw a h1 h2⟩
inductive Sl where
|un|sh (d:D)|ow (t:T)|bo (t:T)|io (a:Addr) (t:T)
noncomputable abbrev DSt:=List Sl
noncomputable abbrev DE:=DSt->(D->Prop)->Prop
noncomputable abbrev DF:=DSt->(List D->Prop)->Prop
noncomputable abbrev DT:=DSt->(Bool->Prop)->Prop
noncomputable def RSl (K:Fg) (F H:Hp) (v:Option V):Sl->Prop
|.un=>True
|.sh d=>∃ x,v=some x/\Is K F x d
|.ow t=>∃ x fp,v=some x/\Rt K F H x t fp/\fp.Nodup
|.bo t=>∃ x fp,v=some x/\Rt K F H x t fp/\fp.Nodup
|.io a t=>∃ fp,v=some (.ref a)/\Rt K F H (.ref a) t fp/\fp.Nodup
theorem RSl.ext {K:Fg} {F H F' H':Hp} {v:Option V} (e:Ext F H F' H'):∀ {s:Sl},RSl K F H v s->RSl K F' H' v s
|.un,_=>trivial
|.sh _,⟨x,a,b⟩=>⟨x,a,b.mono e.f⟩
|.ow _,⟨a,xs,h1,h2,h3⟩=>⟨a,xs,h1,h2.ext e,h3⟩
|.bo _,⟨a,xs,h1,h2,h3⟩=>⟨a,xs,h1,h2.ext e,h3⟩
|.io _ _,⟨xs,h1,h2,h3⟩=>⟨xs,h1,h2.ext e,h3⟩
structure RV (K:Fg) (F H:Hp) (Y:L2.St) (U:DSt):Prop where
 len:Y.length=U.length
 sl:∀ i s,U[i]?=some s->RSl K F H (Y.getD i none) s
theorem RV.ext {K:Fg} {F H F' H':Hp} {Y:L2.St} {U:DSt} (e:Ext F H F' H') (r:RV K F H Y U):RV K F' H' Y U:=⟨r.len,λ i s h=>(r.sl i s h).ext e⟩
noncomputable def Vw (K:Fg) (F H:Hp) (v:V) (d:D):Prop:=Is K F v d \/ ∃ a xs ds,v=.ref a/\d=.list ds/\H a=some (.lst xs)/\IsAll K F xs ds
theorem Vw.ext {K:Fg} {F H F' H':Hp} {v:V} {d:D} (e:Ext F H F' H') (h:Vw K F H v d):Vw K F' H' v d:=by
 rcases h with h|⟨a,xs,ds,h1,h2,h3,h4⟩
 ·exact .inl (h.mono e.f)
 ·exact .inr ⟨a,xs,ds,h1,h2,e.h _ _ h3,h4.mono e.f⟩
theorem Vw.is {K:Fg} {F H:Hp} {v:V} {d:D} (s:Same F H) (h:Vw K F H v d):Is K H v d:=by
 rcases h with h|⟨a,xs,ds,rfl,rfl,h3,h4⟩
 ·exact h.mono s
 ·exact .lst (SqL.of h3) (h4.mono s)
theorem Vw.list {K:Fg} {F H:Hp} {v:V} {ds:List D} (s:Same F H) (h:Vw K F H v (.list ds)):∃ a xs,v=.ref a/\SqL K H a xs/\IsAll K F xs ds:=by
 rcases h with h|⟨a,xs,ds',rfl,e,h3,h4⟩
 ·cases h with
 |lst h1 h2=>exact ⟨_,_,rfl,s.seq h1,h2⟩
 ·cases e;exact ⟨a,xs,rfl,SqL.of h3,h4⟩
theorem Vw.tuple {K:Fg} {F H:Hp} {v:V} {ds:List D} (s:Same F H) (h:Vw K F H v (.tuple ds)):∃ a xs,v=.ref a/\SqT K H a xs/\SqT K F a xs/\IsAll K F xs ds:=by
 rcases h with h|⟨a,xs,ds',rfl,e,h3,h4⟩
 ·cases h with
 |tup h1 h2=>exact ⟨_,_,rfl,zhu s (SqT.of h1),SqT.of h1,h2⟩
 |tuc h1 h2 _=>exact ⟨_,_,rfl,zhu s h1,h1,h2⟩
 ·cases e
theorem Vw.int {K:Fg} {F H:Hp} {v:V} {i:Int} (h:Vw K F H v (.int i)):v=.int i:=by
 rcases h with h|⟨a,xs,ds',rfl,e,h3,h4⟩
 ·exact h.int_inv
 ·cases e
theorem Vw.str {K:Fg} {F H:Hp} {v:V} {i:Str} (h:Vw K F H v (.str i)):v=.str i:=by
 rcases h with h|⟨a,xs,ds',rfl,e,h3,h4⟩
 ·exact h.str_inv
 ·cases e
theorem Vw.bl {K:Fg} {F H:Hp} {v:V} {i:Bool} (h:Vw K F H v (.bool i)):v=.bl i:=by
 rcases h with h|⟨a,xs,ds',rfl,e,h3,h4⟩
 ·exact h.bl_inv
 ·cases e
section
variable (K:Fg)
noncomputable def RfE (te:TE) (de:DE):Prop:=∀ {F H:Hp} {Y:L2.St} {U:DSt} {Qd:D->Prop} {Q:VK},Same F H->RV K F H Y U->de U Qd->(∀ d,Qd d->∀ v F' H',Ext F H F' H'->Is K F' v d->Q v H')->te Y H Q
noncomputable def RfV (te:TE) (de:DE):Prop:=∀ {F H:Hp} {Y:L2.St} {U:DSt} {Qd:D->Prop} {Q:VK},Same F H->RV K F H Y U->de U Qd->(∀ d,Qd d->∀ v F' H',Ext F H F' H'->Vw K F' H' v d->Q v H')->te Y H Q
noncomputable def RfF (te:TE) (df:DF):Prop:=∀ {F H:Hp} {Y:L2.St} {U:DSt} {Qd:List D->Prop} {Q:VK},Same F H->RV K F H Y U->df U Qd->(∀ ds,Qd ds->∀ a xs F' H',Ext F H F' H'->H a=none->H' a=some (.lst xs)->F' a=none->IsAll K F' xs ds->Q (.ref a) H')->te Y H Q
noncomputable def RfT (tt:TT) (dt:DT):Prop:=∀ {F H:Hp} {Y:L2.St} {U:DSt} {Qd:Bool->Prop} {Q:Bool->Hp->Prop},Same F H->RV K F H Y U->dt U Qd->(∀ b,Qd b->∀ F' H',Ext F H F' H'->Q b H')->tt Y H Q
noncomputable def RfA (ta:TA) (da:DF):Prop:=∀ {F H:Hp} {Y:L2.St} {U:DSt} {Qd:List D->Prop} {Q:List V->Hp->Prop},Same F H->RV K F H Y U->da U Qd->(∀ ds,Qd ds->∀ vs F' H',Ext F H F' H'->IsAll K F' vs ds->Q vs H')->ta Y H Q
inductive VwAll (F H:Hp):List V->List D->Prop
|nil:VwAll F H [] []
|cons {v:V} {d:D} {vs:List V} {ds:List D}:Vw K F H v d->VwAll F H vs ds->VwAll F H (v :: vs) (d :: ds)
noncomputable def RfAV (ta:TA) (da:DF):Prop:=∀ {F H:Hp} {Y:L2.St} {U:DSt} {Qd:List D->Prop} {Q:List V->Hp->Prop},Same F H->RV K F H Y U->da U Qd->(∀ ds,Qd ds->∀ vs F' H',Ext F H F' H'->VwAll K F' H' vs ds->Q vs H')->ta Y H Q
noncomputable def RfO (to:TO) (dO:DSt->(Option Int->Prop)->Prop):Prop:=∀ {F H:Hp} {Y:L2.St} {U:DSt} {Qd:Option Int->Prop} {Q:Option Int->Hp->Prop},Same F H->RV K F H Y U->dO U Qd->(∀ o,Qd o->∀ F' H',Ext F H F' H'->Q o H')->to Y H Q
end
section
variable {K:Fg} {te ta tb tc:TE} {de da db dc:DE} {tt tu:TT} {dt du:DT} {tA:TA} {dA:DF}
theorem zdo {F H F' H':Hp} {a:Addr} {xs:List V} {ds:List D} (e:Ext F H F' H') (hn:H a=none) (h1:H' a=some (.lst xs)) (h2:F' a=none) (h3:IsAll K F' xs ds) :
  Ext F H (upd F' a (.lst xs)) H'/\Is K (upd F' a (.lst xs)) (.ref a) (.list ds):=by
 have s:Same F' (upd F' a (.lst xs)):=λ b o z=>by
  by_cases hb:b=a
  ·subst hb;rw [h2] at z;cases z
  ·rw [zw0 hb];exact z
 refine ⟨⟨e.h,e.f.trans s,λ b o z=>?_,λ b hb fb=>?_⟩,.lst (SqL.of zo0) (h3.mono s)⟩
 ·by_cases hb:b=a
  ·subst hb;rw [zo0] at z;cases z;exact h1
  ·rw [zw0 hb] at z;exact e.fh b o z
 ·have:b≠a:=λ z=>hb (by rw [z];exact hn)
  rw [zw0 this];exact e.nw b hb fb
theorem zwm {F H:Hp} {p:Addr} {xs:List V} {ds:List D} (s:Same F H) (hn:H p=none) (h3:IsAll K F xs ds) :
  Ext F H (upd F p (.tup xs)) (upd H p (.tup xs))/\Is K (upd F p (.tup xs)) (.ref p) (.tuple ds):=by
 have fn:F p=none:=by
  cases e:F p with
 |none=>rfl
 |some o=>rw [s p o e] at hn;cases hn
 have sF:Same F (upd F p (.tup xs)):=zq2 fn _
 refine ⟨⟨zq2 hn _,sF,λ b o z=>?_,λ b hb fb=>?_⟩,.tup zo0 (h3.mono sF)⟩
 ·by_cases hb:b=p
  ·subst hb;rw [zo0] at z ⊢;exact z
  ·rw [zw0 hb] at z ⊢;exact s b o z
 ·have:b≠p:=λ z=>hb (by rw [z];exact hn)
  rw [zw0 this];exact fb
theorem zl6 {F H:Hp} {p:Addr} {xs:List V} (s:Same F H) (hn:H p=none):Ext F H F (upd H p (.lst xs))/\F p=none:=by
 have fn:F p=none:=by
  cases e:F p with
 |none=>rfl
 |some o=>rw [s p o e] at hn;cases hn
 refine ⟨⟨zq2 hn _,λ _ _ z=>z,λ b o z=>?_,λ _ _ z=>z⟩,fn⟩
 exact zq2 hn _ b o (s b o z)
theorem RfE.v (h:RfE K te de):RfV K te de:=λ s r d k=>h s r d λ x q v F' H' e i=>k x q v F' H' e (.inl i)
noncomputable def dF (df:DF):DE:=λ U Q=>df U λ ds=>Q (.list ds)
theorem RfF.e {df:DF} (h:RfF K te df):RfE K te (dF df):=λ s r d k=>h s r d λ ds q a xs F' H' e hn h1 h2 h3=>by
 obtain ⟨e2,i2⟩:=zdo e hn h1 h2 h3
 exact k _ q _ _ _ e2 i2
noncomputable def Sl.tree:Sl->Option T
|.ow t=>some t
|.bo t=>some t
|.io _ t=>some t
|.sh d=>some (.fz d)
|.un=>none
noncomputable def fzT:T->(D->Prop)->Prop
|.fz d,Q=>Q d
|_,_=>False
noncomputable def vwT:T->(D->Prop)->Prop
|.fz d,Q=>Q d
|.li ds,Q=>Q (.list ds)
|_,_=>False
noncomputable def dVar (i:Nat):DE:=λ U Q=>∃ s t,U[i]?=some s/\s.tree=some t/\fzT t Q
noncomputable def za51 (i:Nat):DE:=λ U Q=>∃ s t,U[i]?=some s/\s.tree=some t/\vwT t Q
theorem zp7 {F H:Hp} {Y:L2.St} {U:DSt} {i:Nat} {x:V} (e:Y.getD i none=some x):Y[i]?=some (some x):=by
 rw [vL] at e
 cases q:Y[i]? with
|none=>rw [q] at e;cases e
|some v=>rw [q] at e;exact congrArg some e
theorem RSl.rt {F H:Hp} {v:Option V}:∀ {s:Sl} {t:T},RSl K F H v s->s.tree=some t->∃ x fp,v=some x/\Rt K F H x t fp/\fp.Nodup
|.un,_,_,e=>by cases e
|.sh d,_,⟨x,h1,h2⟩,e=>by cases e;exact ⟨x,[],h1,.fz h2,.nil⟩
|.ow _,_,⟨x,fp,h1,h2⟩,e=>by cases e;exact ⟨x,fp,h1,h2⟩
|.bo _,_,⟨x,fp,h1,h2⟩,e=>by cases e;exact ⟨x,fp,h1,h2⟩
|.io a _,_,⟨fp,h1,h2⟩,e=>by cases e;exact ⟨_,fp,h1,h2⟩
theorem zjb1 {F H:Hp} {x:V} {t:T} {fp:List Addr} {Q:D->Prop} (h:Rt K F H x t fp) (q:vwT t Q):∃ d,Q d/\Vw K F H x d:=by
 cases h with
|fz i=>exact ⟨_,q,.inl i⟩
|li h1 h2 h3=>exact ⟨_,q,.inr ⟨_,_,_,rfl,rfl,h1,h3⟩⟩
|ls _ _ _=>exact q.elim
|ob _ _ _ _ _=>exact q.elim
|dk _ _ _=>exact q.elim
|dt _ _ _=>exact q.elim
|tp _ _ _=>exact q.elim
theorem zvy {F H:Hp} {x:V} {t:T} {fp:List Addr} {Q:D->Prop} (h:Rt K F H x t fp) (q:fzT t Q):∃ d,Q d/\Is K F x d:=by
 cases h with
|fz i=>exact ⟨_,q,i⟩
|li _ _ _=>exact q.elim
|ls _ _ _=>exact q.elim
|ob _ _ _ _ _=>exact q.elim
|dk _ _ _=>exact q.elim
|dt _ _ _=>exact q.elim
|tp _ _ _=>exact q.elim
theorem zi0 (i:Nat):RfE K (tVar i) (dVar i):=by
 intro F H Y U Qd Q s r h k
 obtain ⟨sl,t,q,et,f⟩:=h
 obtain ⟨x,fp,e,hr,_⟩:=(r.sl i _ q).rt et
 obtain ⟨d,qd,hi⟩:=zvy hr f
 exact ⟨x,zp7 (F:=F) (H:=H) (U:=U) e,k d qd x F H (Ext.refl s) hi⟩
theorem za0 (i:Nat):RfV K (tVar i) (za51 i):=by
 intro F H Y U Qd Q s r h k
 obtain ⟨sl,t,q,et,f⟩:=h
 obtain ⟨x,fp,e,hr,_⟩:=(r.sl i _ q).rt et
 obtain ⟨d,qd,hi⟩:=zjb1 hr f
 exact ⟨x,zp7 (F:=F) (H:=H) (U:=U) e,k d qd x F H (Ext.refl s) hi⟩
noncomputable def dC (d:D):DE:=λ _ Q=>Q d
theorem zq1 {i:Int}:RfE K (tC (.int i)) (dC (.int i)):=λ s r h k=>k _ h _ _ _ (Ext.refl s) (.int i)
theorem zx41 {b:Bool}:RfE K (tC (.bl b)) (dC (.bool b)):=λ s r h k=>k _ h _ _ _ (Ext.refl s) (.bl b)
theorem zkj {x:Str}:RfE K (tC (.str x)) (dC (.str x)):=λ s r h k=>k _ h _ _ _ (Ext.refl s) (.str x)
theorem zdv:RfE K (tC .non) (dC .none):=λ s r h k=>k _ h _ _ _ (Ext.refl s) .non
noncomputable def dOp (f:D->D->(D->Prop)->Prop) (da db:DE):DE:=λ U Q=>da U λ x=>db U λ y=>f x y Q
noncomputable def R2E (K:Fg) (r:R2) (f:D->D->(D->Prop)->Prop):Prop:=∀ {F H:Hp} {x y:V} {d e:D} {Qd:D->Prop} {Q:VK},Same F H->Vw K F H x d->Vw K F H y e->f d e Qd->(∀ z,Qd z->∀ v F' H',Ext F H F' H'->Is K F' v z->Q v H')->r x y H Q
noncomputable def R2F (K:Fg) (r:R2) (f:D->D->(List D->Prop)->Prop):Prop:=∀ {F H:Hp} {x y:V} {d e:D} {Qd:List D->Prop} {Q:VK},Same F H->Vw K F H x d->Vw K F H y e->f d e Qd->(∀ ds,Qd ds->∀ a xs F' H',Ext F H F' H'->H a=none->H' a=some (.lst xs)->F' a=none->IsAll K F' xs ds->Q (.ref a) H')->r x y H Q
theorem zl0 {r:R2} {f:D->D->(D->Prop)->Prop} (hr:R2E K r f) (ha:RfV K ta da) (hb:RfV K tb db):RfE K (tOp r ta tb) (dOp f da db):=by
 intro F H Y U Qd Q s rv h k
 refine ha s rv h λ x hx v F1 H1 e1 i1=>hb e1.fh (rv.ext e1) hx λ y hy u F2 H2 e2 i2=>?_
 exact hr e2.fh (i1.ext e2) i2 hy λ z hz w F3 H3 e3 i3=>k z hz w F3 H3 ((e1.trans e2).trans e3) i3
noncomputable def dOpF (f:D->D->(List D->Prop)->Prop) (da db:DE):DF:=λ U Q=>da U λ x=>db U λ y=>f x y Q
theorem zyz {r:R2} {f:D->D->(List D->Prop)->Prop} (hr:R2F K r f) (ha:RfV K ta da) (hb:RfV K tb db):RfF K (tOp r ta tb) (dOpF f da db):=by
 intro F H Y U Qd Q s rv h k
 refine ha s rv h λ x hx v F1 H1 e1 i1=>hb e1.fh (rv.ext e1) hx λ y hy u F2 H2 e2 i2=>?_
 refine hr e2.fh (i1.ext e2) i2 hy λ ds hz a xs F3 H3 e3 hn h1 h2 h3=>k ds hz a xs F3 H3 ((e1.trans e2).trans e3) ?_ h1 h2 h3
 cases q:H a with
|none=>rfl
|some o=>rw [(e1.trans e2).h a o q] at hn;cases hn
end
end L4
namespace L4
open PySem PySem.Spec PyProof.Rows L2 L3
section
variable {K:Fg} {te ta tb tc:TE} {de da db dc:DE} {tt tu:TT} {dt du:DT} {tA:TA} {dA:DF} {w:World}
noncomputable def fAdd:D->D->(D->Prop)->Prop
|.int i,.int j,Q=>Q (.int (i+j))
|.str a,.str b,Q=>a.length+b.length<=sizeLine/\Q (.str (a++b))
|.list a,.list b,Q=>a.length+b.length<=sizeLine/\Q (.list (a++b))
|.tuple a,.tuple b,Q=>a≠[]/\b≠[]/\a.length+b.length<=sizeLine/\Q (.tuple (a++b))
|_,_,_=>False
noncomputable def fCat:D->D->(List D->Prop)->Prop
|.list a,.list b,Q=>a.length+b.length<=sizeLine/\Q (a++b)
|_,_,_=>False
theorem zt61:R2F K (zqy K) fCat:=by
 intro F H x y d e Qd Q s hx hy h k
 unfold fCat at h
 split at h
 ·rename_i a b
  obtain ⟨p,xs,rfl,h1,i1⟩:=hx.list s
  obtain ⟨q,ys,rfl,h2,i2⟩:=hy.list s
  have e1:=i1.dlen
  have e2:=i2.dlen
  refine .inr ⟨p,q,xs,ys,rfl,rfl,h1,h2,by lia,λ l hl=>?_⟩
  obtain ⟨ex,fn⟩:=zl6 (xs:=xs++ys) s hl
  exact k _ h.2 l _ F _ ex hl zo0 fn (i1.dapp i2)
 ·exact h.elim
theorem zv2:R2E K (zqy K) fAdd:=by
 intro F H x y d e Qd Q s hx hy h k
 unfold fAdd at h
 split at h
 ·cases hx.int;cases hy.int
  exact .inl (.inl ⟨_,_,rfl,rfl,k _ h _ F H (Ext.refl s) (.int _)⟩)
 ·cases hx.str;cases hy.str
  exact .inl (.inr (.inl ⟨_,_,rfl,rfl,h.1,k _ h.2 _ F H (Ext.refl s) (.str _)⟩))
 ·rename_i a b
  refine zt61 (Qd:=λ ds=>Qd (.list ds)) s hx hy h λ ds q l xs F' H' ex hn h1 h2 h3=>?_
  obtain ⟨e2,i2⟩:=zdo ex hn h1 h2 h3
  exact k _ q _ _ _ e2 i2
 ·rename_i a b
  obtain ⟨p,xs,rfl,h1,_,i1⟩:=hx.tuple s
  obtain ⟨q,ys,rfl,h2,_,i2⟩:=hy.tuple s
  have e1:=i1.dlen
  have e2:=i2.dlen
  have n1:xs≠[]:=λ z=>h.1 (z5.mp (by rw [<- e1,z];rfl))
  have n2:ys≠[]:=λ z=>h.2.1 (z5.mp (by rw [<- e2,z];rfl))
  refine .inl (.inr (.inr (.inr ⟨p,q,xs,ys,rfl,rfl,h1,h2,n1,by lia,λ z=>absurd z n2,λ _ l hl=>?_⟩)))
  obtain ⟨ex,ii⟩:=zwm (K:=K) (ds:=a++b) s hl (i1.dapp i2)
  exact k _ h.2.2.2 _ _ _ ex ii
 ·exact h.elim
noncomputable def fI (C:Int->Int->Prop) (g:Int->Int->D):D->D->(D->Prop)->Prop
|.int i,.int j,Q=>C i j/\Q (g i j)
|_,_,_=>False
noncomputable def fI0 (g:Int->Int->D):D->D->(D->Prop)->Prop
|.int i,.int j,Q=>Q (g i j)
|_,_,_=>False
theorem r_I {C:Int->Int->Prop} {g:Int->Int->V} {g':Int->Int->D} (hg:∀ i j (F:Hp),Is K F (g i j) (g' i j)):R2E K (rI C g) (fI C g'):=by
 intro F H x y d e Qd Q s hx hy h k
 unfold fI at h
 split at h
 ·cases hx.int;cases hy.int
  exact ⟨_,_,rfl,rfl,h.1,k _ h.2 _ F H (Ext.refl s) (hg _ _ _)⟩
 ·exact h.elim
theorem r_I0 {g:Int->Int->V} {g':Int->Int->D} (hg:∀ i j (F:Hp),Is K F (g i j) (g' i j)):R2E K (rI0 g) (fI0 g'):=by
 intro F H x y d e Qd Q s hx hy h k
 unfold fI0 at h
 split at h
 ·cases hx.int;cases hy.int
  exact ⟨_,_,rfl,rfl,k _ h _ F H (Ext.refl s) (hg _ _ _)⟩
 ·exact h.elim
noncomputable abbrev fSub:=fI0 λ i j=>.int (i - j)
noncomputable abbrev fDiv:=fI zv41 λ i j=>.int (i / j)
noncomputable abbrev fMod:=fI (λ _ j=>0 < j) λ i j=>.int (i % j)
noncomputable abbrev fPow:=fI CPow λ i j=>.int (i ^ j.toNat)
noncomputable abbrev fLt:=fI0 λ i j=>.bool (decide (i < j))
noncomputable abbrev fLe:=fI0 λ i j=>.bool (decide (i<=j))
noncomputable abbrev fGt:=fI0 λ i j=>.bool (decide (j < i))
noncomputable abbrev fGe:=fI0 λ i j=>.bool (decide (j<=i))
theorem zst:R2E K (rI0 λ i j=>V.int (i - j)) fSub:=r_I0 λ _ _ _=>.int _
theorem zao:R2E K (rI zv41 λ i j=>V.int (i / j)) fDiv:=r_I λ _ _ _=>.int _
theorem zi8:R2E K (rI (λ _ j=>0 < j) λ i j=>V.int (i % j)) fMod:=r_I λ _ _ _=>.int _
theorem ztb1:R2E K (rI CPow λ i j=>V.int (i ^ j.toNat)) fPow:=r_I λ _ _ _=>.int _
theorem r_lt:R2E K (rI0 λ i j=>V.bl (decide (i < j))) fLt:=r_I0 λ _ _ _=>.bl _
theorem r_le:R2E K (rI0 λ i j=>V.bl (decide (i<=j))) fLe:=r_I0 λ _ _ _=>.bl _
theorem r_gt:R2E K (rI0 λ i j=>V.bl (decide (j < i))) fGt:=r_I0 λ _ _ _=>.bl _
theorem r_ge:R2E K (rI0 λ i j=>V.bl (decide (j<=i))) fGe:=r_I0 λ _ _ _=>.bl _
noncomputable def fMul:D->D->(D->Prop)->Prop
|.int i,.int j,Q=>CMul i j/\Q (.int (i * j))
|.str z,.int n,Q=>0<=n/\z.length * n.toNat<=sizeLine/\n<=sizeLine/\Q (.str (repS z n.toNat))
|_,_,_=>False
theorem zrl:R2E K zd71 fMul:=by
 intro F H x y d e Qd Q s hx hy h k
 unfold fMul at h
 split at h
 ·cases hx.int;cases hy.int
  exact .inl (.inl (.inl ⟨_,_,rfl,rfl,h.1,k _ h.2 _ F H (Ext.refl s) (.int _)⟩))
 ·cases hx.str;cases hy.int
  exact .inl (.inr ⟨_,_,rfl,rfl,h.1,h.2.1,h.2.2.1,k _ h.2.2.2 _ F H (Ext.refl s) (.str _)⟩)
 ·exact h.elim
noncomputable def fRep:List D->D->(List D->Prop)->Prop
|ds,.int n,Q=>n < 2 ^ 62/\-(2 ^ 62)<=n/\ds.length * n.toNat<=sizeLine/\Q (u7 n.toNat ds).flatten
|_,_,_=>False
noncomputable def dRep (df:DF) (db:DE):DF:=λ U Q=>df U λ ds=>db U λ y=>fRep ds y Q
theorem zku {F:Hp} {xs:List V} {ds:List D} (h:IsAll K F xs ds):∀ n:Nat,IsAll K F (u7 n xs).flatten (u7 n ds).flatten
|0=>.nil
|n+1=>by rw [x6,x6,yC,yC];exact h.dapp (zku h n)
theorem zmn {df:DF} (ha:RfF K ta df) (hb:RfE K tb db):RfF K (tOp zd71 ta tb) (dRep df db):=by
 intro F H Y U Qd Q s rv h k
 refine ha s rv h λ ds hx a xs F1 H1 e1 hn h1 h2 h3=>hb e1.fh (rv.ext e1) hx λ y hy u F2 H2 e2 i2=>?_
 unfold fRep at hy
 split at hy
 ·rename_i n
  cases i2.int_inv
  have el:=h3.dlen
  refine .inr ⟨a,n,xs,rfl,rfl,e2.h _ _ h1,by lia,by lia,by rw [el];exact hy.2.2.1,λ p hp=>?_⟩
  obtain ⟨ex,fn⟩:=zl6 (xs:=(u7 n.toNat xs).flatten) e2.fh hp
  refine k _ hy.2.2.2 p _ F2 _ ((e1.trans e2).trans ex) ?_ zo0 fn (zku (h3.mono e2.f) _)
  cases q:H p with
 |none=>rfl
 |some o=>rw [(e1.trans e2).h p o q] at hp;cases hp
 ·exact hy.elim
noncomputable def fEq:D->D->(D->Prop)->Prop
|.int i,.int j,Q=>Q (.bool (decide (i=j)))
|.str i,.str j,Q=>Q (.bool (decide (i=j)))
|.bool i,.bool j,Q=>Q (.bool (decide (i=j)))
|d,e,Q=>SeqAt.shaped d=true/\SeqAt.shaped e=true/\Q (.bool (PyData.eqv d e))
noncomputable def fNe:D->D->(D->Prop)->Prop
|.int i,.int j,Q=>Q (.bool (!decide (i=j)))
|.str i,.str j,Q=>Q (.bool (!decide (i=j)))
|.bool i,.bool j,Q=>Q (.bool (!decide (i=j)))
|d,e,Q=>SeqAt.shaped d=true/\SeqAt.shaped e=true/\Q (.bool (!PyData.eqv d e))
theorem zei (i j:Int):decide (V.int i=V.int j)=decide (i=j):=by simp
theorem zui (i j:Str):decide (V.str i=V.str j)=decide (i=j):=by simp
theorem zno (i j:Bool):decide (V.bl i=V.bl j)=decide (i=j):=by simp
noncomputable def zqz:D->Bool
|.none=>true
|_=>false
noncomputable def fIsN:D->D->(D->Prop)->Prop
|d,.none,Q=>Q (.bool (zqz d))
|_,_,_=>False
noncomputable def zx81:D->D->(D->Prop)->Prop
|d,.none,Q=>Q (.bool (!zqz d))
|_,_,_=>False
theorem zb41 {F H:Hp} {x:V} {d:D} (s:Same F H) (hx:Vw K F H x d):decide (x=.non)=zqz d:=by
 cases hx.is s <;> simp [zqz]
theorem zg11 {F H:Hp} {x:V} (s:Same F H) (hx:Vw K F H x .none):x=.non:=by
 cases hx.is s;rfl
theorem zld1:R2E K (λ x y H Q=>y=V.non/\Q (V.bl (decide (x=V.non))) H) fIsN:=by
 intro F H x y d e Qd Q s hx hy h k
 unfold fIsN at h
 split at h
 ·refine ⟨zg11 s hy,k _ h _ F H (Ext.refl s) ?_⟩
  rw [zb41 s hx];exact .bl _
 ·exact h.elim
theorem zl71:R2E K (λ x y H Q=>y=V.non/\Q (V.bl (!decide (x=V.non))) H) zx81:=by
 intro F H x y d e Qd Q s hx hy h k
 unfold zx81 at h
 split at h
 ·refine ⟨zg11 s hy,k _ h _ F H (Ext.refl s) ?_⟩
  rw [zb41 s hx];exact .bl _
 ·exact h.elim
noncomputable def fIx:D->D->(D->Prop)->Prop
|.list ds,.int i,Q=>∃ d,atI ds i=some d/\Q d
|.tuple ds,.int i,Q=>∃ d,atI ds i=some d/\Q d
|.str z,.int i,Q=>z.length<=sizeLine/\∃ c,atI z.cps.toList i=some c/\Q (.str ⟨#[c]⟩)
|_,_,_=>False
theorem zp31 {F:Hp} {xs:List V} {ds:List D} {i:Int} {d:D} (h:IsAll K F xs ds) (e:atI ds i=some d):∃ x,atI xs i=some x/\Is K F x d:=by
 unfold atI at e ⊢
 rw [h.dlen]
 cases q:ixN ds.length i with
|none=>rw [q] at e;cases e
|some j =>
  rw [q] at e
  obtain ⟨x,h1,h2⟩:=h.dget (show ds[j]?=some d from e)
  exact ⟨x,h1,h2⟩
theorem r_ix:R2E K (rIxV w K) fIx:=by
 intro F H x y d e Qd Q s hx hy h k
 unfold fIx at h
 split at h
 ·obtain ⟨z,ez,q⟩:=h
  obtain ⟨p,xs,rfl,h1,i1⟩:=hx.list s
  cases hy.int
  obtain ⟨v,ev,iv⟩:=zp31 i1 ez
  exact .inl (.inl (.inl ⟨p,xs,_,v,rfl,rfl,h1,ev,k _ q _ F H (Ext.refl s) iv⟩))
 ·obtain ⟨z,ez,q⟩:=h
  obtain ⟨p,xs,rfl,h1,_,i1⟩:=hx.tuple s
  cases hy.int
  obtain ⟨v,ev,iv⟩:=zp31 i1 ez
  exact .inl (.inl (.inr (.inl ⟨p,xs,_,v,rfl,rfl,h1,ev,k _ q _ F H (Ext.refl s) iv⟩)))
 ·obtain ⟨hz,c,ec,q⟩:=h
  cases hx.str;cases hy.int
  exact .inl (.inl (.inr (.inr ⟨_,_,c,rfl,rfl,hz,ec,k _ q _ F H (Ext.refl s) (.str _)⟩)))
 ·exact h.elim
noncomputable def dUn (f:D->(D->Prop)->Prop) (da:DE):DE:=λ U Q=>da U λ x=>f x Q
noncomputable def fNeg:D->(D->Prop)->Prop
|.int i,Q=>Q (.int (-i))
|_,_=>False
theorem zcx (ha:RfE K ta da):RfE K (tUn (rU λ i=>V.int (-i)) ta) (dUn fNeg da):=by
 intro F H Y U Qd Q s rv h k
 refine ha s rv h λ x hx v F1 H1 e1 i1=>?_
 unfold fNeg at hx
 split at hx
 ·cases i1.int_inv
  exact ⟨_,rfl,k _ hx _ F1 H1 e1 (.int _)⟩
 ·exact hx.elim
noncomputable def fB (d:D) (Q:Bool->Prop):Prop:=match d with
|.bool b=>Q b
|_=>False
theorem zzb1 {F:Hp} {v:V} {d:D} {Q:Bool->Prop} (i:Is K F v d) (h:fB d Q):∃ b,v=.bl b/\Q b:=by
 unfold fB at h
 split at h
 ·exact ⟨_,i.bl_inv,h⟩
 ·exact h.elim
noncomputable def zd81 (de:DE):DT:=λ U Q=>de U λ d=>fB d Q
theorem zs0 (h:RfE K te de):RfT K (zpx te) (zd81 de):=by
 intro F H Y U Qd Q s rv hd k
 refine h s rv hd λ x hx v F1 H1 e1 i1=>?_
 obtain ⟨b,rfl,q⟩:=zzb1 i1 hx
 exact ⟨b,rfl,k b q F1 H1 e1⟩
noncomputable def fTru:D->(Bool->Prop)->Prop
|.none,Q=>Q false
|.bool b,Q=>Q b
|.int i,Q=>Q (i != 0)
|.str z,Q=>z.length<=sizeLine/\Q ((z.length:Int) != 0)
|.list ds,Q=>Q (!ds.isEmpty)
|.tuple ds,Q=>Q (!ds.isEmpty)
|.dict _,_=>False
noncomputable def dTru (de:DE):DT:=λ U Q=>de U λ d=>fTru d Q
theorem zan {F:Hp} {xs:List V} {ds:List D} (h:IsAll K F xs ds):xs.isEmpty=ds.isEmpty:=by cases h <;> rfl
theorem zpn (h:RfV K te de):RfT K (zl91 K te) (dTru de):=by
 intro F H Y U Qd Q s rv hd k
 refine h s rv hd λ x hx v F1 H1 e1 i1=>?_
 unfold fTru at hx
 split at hx
 ·cases i1.is e1.fh;exact ⟨false,rfl,k _ hx F1 H1 e1⟩
 ·cases i1.bl;exact ⟨_,rfl,k _ hx F1 H1 e1⟩
 ·cases i1.int;exact ⟨_,rfl,k _ hx F1 H1 e1⟩
 ·cases i1.str;exact ⟨_,⟨hx.1,rfl⟩,k _ hx.2 F1 H1 e1⟩
 ·obtain ⟨p,xs,rfl,h1,i2⟩:=i1.list e1.fh
  refine ⟨_,.inl ⟨xs,h1,rfl⟩,?_⟩
  rw [zan i2];exact k _ hx F1 H1 e1
 ·obtain ⟨p,xs,rfl,h1,_,i2⟩:=i1.tuple e1.fh
  refine ⟨_,.inr (.inl ⟨xs,h1,rfl⟩),?_⟩
  rw [zan i2];exact k _ hx F1 H1 e1
 ·exact hx.elim
noncomputable def dAnd (dt du:DT):DT:=λ U Q=>dt U λ b=>if b=true then du U Q else Q false
noncomputable def dOr (dt du:DT):DT:=λ U Q=>dt U λ b=>if b=true then Q true else du U Q
noncomputable def dNot (dt:DT):DT:=λ U Q=>dt U λ b=>Q (!b)
theorem zto (ht:RfT K tt dt) (hu:RfT K tu du):RfT K (tAnd tt tu) (dAnd dt du):=by
 intro F H Y U Qd Q s rv h k
 refine ht s rv h λ b hb F1 H1 e1=>?_
 cases b with
|true =>
  rw [if_pos rfl] at hb ⊢
  exact hu e1.fh (rv.ext e1) hb λ c hc F2 H2 e2=>k c hc F2 H2 (e1.trans e2)
|false =>
  rw [if_neg vS] at hb ⊢
  exact k _ hb F1 H1 e1
theorem zr61 (ht:RfT K tt dt) (hu:RfT K tu du):RfT K (tOr tt tu) (dOr dt du):=by
 intro F H Y U Qd Q s rv h k
 refine ht s rv h λ b hb F1 H1 e1=>?_
 cases b with
|false =>
  rw [if_neg vS] at hb ⊢
  exact hu e1.fh (rv.ext e1) hb λ c hc F2 H2 e2=>k c hc F2 H2 (e1.trans e2)
|true =>
  rw [if_pos rfl] at hb ⊢
  exact k _ hb F1 H1 e1
theorem zux (ht:RfT K tt dt):RfT K (tNot tt) (dNot dt):=λ s rv h k=>ht s rv h λ b hb F1 H1 e1=>k _ hb F1 H1 e1
noncomputable def dIfE (dt:DT) (da db:DE):DE:=λ U Q=>dt U λ b=>if b=true then da U Q else db U Q
theorem zsv (ht:RfT K tt dt) (ha:RfE K ta da) (hb:RfE K tb db):RfE K (tIf tt ta tb) (dIfE dt da db):=by
 intro F H Y U Qd Q s rv h k
 refine ht s rv h λ b hb' F1 H1 e1=>?_
 cases b with
|true =>
  rw [if_pos rfl] at hb' ⊢
  exact ha e1.fh (rv.ext e1) hb' λ y hy u F2 H2 e2 i2=>k y hy u F2 H2 (e1.trans e2) i2
|false =>
  rw [if_neg vS] at hb' ⊢
  exact hb e1.fh (rv.ext e1) hb' λ y hy u F2 H2 e2 i2=>k y hy u F2 H2 (e1.trans e2) i2
noncomputable def zev (f g:D->D->(D->Prop)->Prop) (da db dc:DE):DE:=λ U Q=>da U λ x=>db U λ y=>f x y λ u=>fB u λ b=>if b=true then dc U λ z=>g y z Q else Q (.bool false)
theorem zco {r r':R2} {f g:D->D->(D->Prop)->Prop} (hr:R2E K r f) (hr':R2E K r' g) (ha:RfE K ta da) (hb:RfE K tb db) (hc:RfE K tc dc):RfE K (znv r r' ta tb tc) (zev f g da db dc):=by
 intro F H Y U Qd Q s rv h k
 refine ha s rv h λ x hx v F1 H1 e1 i1=>hb e1.fh (rv.ext e1) hx λ y hy u F2 H2 e2 i2=>?_
 refine hr e2.fh (.inl (i1.mono e2.f)) (.inl i2) hy λ z hz v3 F3 H3 e3 i3=>?_
 obtain ⟨b,rfl,q⟩:=zzb1 i3 hz
 refine ⟨b,rfl,?_⟩
 cases b with
|true =>
  rw [if_pos rfl] at q ⊢
  refine hc e3.fh (rv.ext ((e1.trans e2).trans e3)) q λ z' hz' v4 F4 H4 e4 i4=>?_
  exact hr' e4.fh (.inl (i2.mono (e3.f.trans e4.f))) (.inl i4) hz' λ o ho v5 F5 H5 e5 i5=>k o ho v5 F5 H5 ((((e1.trans e2).trans e3).trans e4).trans e5) i5
|false =>
  rw [if_neg vS] at q ⊢
  exact k _ q _ F3 H3 ((e1.trans e2).trans e3) (.bl _)
noncomputable def dNil:DF:=λ _ Q=>Q []
noncomputable def zwq (da:DE) (dr:DF):DF:=λ U Q=>da U λ x=>dr U λ xs=>Q (x :: xs)
theorem zn0:RfA K tNil dNil:=λ s rv h k=>k _ h _ _ _ (Ext.refl s) .nil
theorem zd0 (ha:RfE K ta da) (hr:RfA K tA dA):RfA K (zrn ta tA) (zwq da dA):=by
 intro F H Y U Qd Q s rv h k
 refine ha s rv h λ x hx v F1 H1 e1 i1=>hr e1.fh (rv.ext e1) hx λ xs hxs vs F2 H2 e2 i2=>?_
 exact k _ hxs _ F2 H2 (e1.trans e2) (.cons (i1.mono e2.f) i2)
theorem zj2:RfAV K tNil dNil:=λ s rv h k=>k _ h _ _ _ (Ext.refl s) .nil
theorem ze1 (ha:RfV K ta da) (hr:RfAV K tA dA):RfAV K (zrn ta tA) (zwq da dA):=by
 intro F H Y U Qd Q s rv h k
 refine ha s rv h λ x hx v F1 H1 e1 i1=>hr e1.fh (rv.ext e1) hx λ xs hxs vs F2 H2 e2 i2=>?_
 exact k _ hxs _ F2 H2 (e1.trans e2) (.cons (i1.ext e2) i2)
noncomputable def dTup (dA:DF):DE:=λ U Q=>dA U λ xs=>xs.length<=sizeLine/\Q (.tuple xs)
theorem zx4 (h:RfA K tA dA):RfE K (zfa1 tA) (dTup dA):=by
 intro F H Y U Qd Q s rv hd k
 refine h s rv hd λ xs hx vs F1 H1 e1 i1=>⟨by rw [i1.dlen];exact hx.1,λ p hp=>?_⟩
 obtain ⟨ex,ii⟩:=zwm (K:=K) e1.fh hp i1
 exact k _ hx.2 _ _ _ (e1.trans ex) ii
noncomputable def dLst (dA:DF):DF:=λ U Q=>dA U λ xs=>xs.length<=sizeLine/\Q xs
theorem zg3 (h:RfA K tA dA):RfF K (zs51 tA) (dLst dA):=by
 intro F H Y U Qd Q s rv hd k
 refine h s rv hd λ xs hx vs F1 H1 e1 i1=>⟨by rw [i1.dlen];exact hx.1,λ p hp=>?_⟩
 obtain ⟨ex,fn⟩:=zl6 (xs:=vs) e1.fh hp
 refine k _ hx.2 p vs F1 _ (e1.trans ex) ?_ zo0 fn i1
 cases q:H p with
|none=>rfl
|some o=>rw [e1.h p o q] at hp;cases hp
noncomputable abbrev DSp:=List D->(D->Prop)->Prop
noncomputable def spD (K:Fg) (p:DSp):Sp:=λ vs H Q _=>∃ F ds Qd,Same F H/\IsAll K F vs ds/\p ds Qd/\∀ d,Qd d->∀ v F' H',Ext F H F' H'->Is K F' v d->Q v H'
noncomputable def zfc1 (p:DSp) (dA:DF):DE:=λ U Q=>dA U λ ds=>p ds Q
theorem zr1 {p:DSp} {E:XK} (h:RfA K tA dA):RfE K (zlv (spD K p) [] E tA) (zfc1 p dA):=by
 intro F H Y U Qd Q s rv hd k
 refine h s rv hd λ ds hp vs F1 H1 e1 i1=>?_
 rw [wI]
 exact ⟨F1,ds,Qd,e1.fh,i1,hp,λ d q v F' H' e2 i2=>k d q v F' H' (e1.trans e2) i2⟩
noncomputable def CB (K:Fg) (r:List V->Hp->VK->Prop) (f:List D->(D->Prop)->Prop):Prop:=∀ {F H:Hp} {vs:List V} {ds:List D} {Qd:D->Prop} {Q:VK},Same F H->VwAll K F H vs ds->f ds Qd->(∀ z,Qd z->∀ v F' H',Ext F H F' H'->Is K F' v z->Q v H')->r vs H Q
noncomputable def CF (K:Fg) (r:List V->Hp->VK->Prop) (f:List D->(List D->Prop)->Prop):Prop:=∀ {F H:Hp} {vs:List V} {ds:List D} {Qd:List D->Prop} {Q:VK},Same F H->VwAll K F H vs ds->f ds Qd->(∀ z,Qd z->∀ a xs F' H',Ext F H F' H'->H a=none->H' a=some (.lst xs)->F' a=none->IsAll K F' xs z->Q (.ref a) H')->r vs H Q
noncomputable def dCB (f:List D->(D->Prop)->Prop) (dA:DF):DE:=λ U Q=>dA U λ ds=>f ds Q
noncomputable def dCF (f:List D->(List D->Prop)->Prop) (dA:DF):DF:=λ U Q=>dA U λ ds=>f ds Q
theorem zij {r:List V->Hp->VK->Prop} {f:List D->(D->Prop)->Prop} (hr:CB K r f) (h:RfAV K tA dA):RfE K (tCB r tA) (dCB f dA):=by
 intro F H Y U Qd Q s rv hd k
 refine h s rv hd λ ds hp vs F1 H1 e1 i1=>hr e1.fh i1 hp λ z q v F' H' e2 i2=>k z q v F' H' (e1.trans e2) i2
theorem zmy {r:List V->Hp->VK->Prop} {f:List D->(List D->Prop)->Prop} (hr:CF K r f) (h:RfAV K tA dA):RfF K (tCB r tA) (dCF f dA):=by
 intro F H Y U Qd Q s rv hd k
 refine h s rv hd λ ds hp vs F1 H1 e1 i1=>hr e1.fh i1 hp λ z q a xs F' H' e2 hn h1 h2 h3=>k z q a xs F' H' (e1.trans e2) ?_ h1 h2 h3
 cases z:H a with
|none=>rfl
|some o=>rw [e1.h a o z] at hn;cases hn
theorem vw1 {F H:Hp} {vs:List V} {d:D} (h:VwAll K F H vs [d]):∃ v,vs=[v]/\Vw K F H v d:=by
 cases h with
|cons h r=>cases r;exact ⟨_,rfl,h⟩
noncomputable def fLen:List D->(D->Prop)->Prop
|[.list ds],Q=>Q (.int (ds.length:Nat))
|[.tuple ds],Q=>Q (.int (ds.length:Nat))
|[.str z],Q=>z.length<=sizeLine/\Q (.int (z.length:Nat))
|_,_=>False
theorem ztk:CB K (rLen K) fLen:=by
 intro F H vs ds Qd Q s hv h k
 unfold fLen at h
 split at h
 ·obtain ⟨v,rfl,hw⟩:=vw1 hv
  obtain ⟨p,xs,rfl,h1,i1⟩:=hw.list s
  refine ⟨_,_,rfl,.inl ⟨xs,h1,rfl⟩,?_⟩
  rw [i1.dlen];exact k _ h _ F H (Ext.refl s) (.int _)
 ·obtain ⟨v,rfl,hw⟩:=vw1 hv
  obtain ⟨p,xs,rfl,h1,_,i1⟩:=hw.tuple s
  refine ⟨_,_,rfl,.inr ⟨xs,h1,rfl⟩,?_⟩
  rw [i1.dlen];exact k _ h _ F H (Ext.refl s) (.int _)
 ·obtain ⟨v,rfl,hw⟩:=vw1 hv
  cases hw.str
  exact ⟨_,_,rfl,⟨h.1,rfl⟩,k _ h.2 _ F H (Ext.refl s) (.int _)⟩
 ·exact h.elim
noncomputable def zgy:List D->Option (List Int)
|[]=>some []
|.int i :: r=>(zgy r).map (i :: ·)
|_ :: _=>none
theorem zal {F:Hp}:∀ {xs:List V} {ds:List D} {ns:List Int},IsAll K F xs ds->zgy ds=some ns->xs=ns.map V.int
|_,_,_,.nil,e=>by cases e;rfl
|_,_,_,.cons h r,e=>by
  cases h with
 |int i =>
   unfold zgy at e
   obtain ⟨ms,e1,rfl⟩:=wJ.mp e
   rw [zal r e1];rfl
 |_=>cases e
theorem ints_map (ns:List Int):zgy (ns.map u9)=some ns:=by
 induction ns with
|nil=>rfl
|cons n r ih=>simp [zgy,ih]
noncomputable def fSum:List D->(D->Prop)->Prop
|[.list ds],Q=>∃ ns,zgy ds=some ns/\Q (.int ns.sum)
|_,_=>False
theorem zyd1:CB K (rSum K) fSum:=by
 intro F H vs ds Qd Q s hv h k
 unfold fSum at h
 split at h
 ·obtain ⟨v,rfl,hw⟩:=vw1 hv
  obtain ⟨p,xs,rfl,h1,i1⟩:=hw.list s
  obtain ⟨ns,e,q⟩:=h
  have:=zal i1 e
  subst this
  exact ⟨p,ns,rfl,h1,k _ q _ F H (Ext.refl s) (.int _)⟩
 ·exact h.elim
noncomputable def zy91:List D->(List D->Prop)->Prop
|[.list ds],Q=>Q ds
|[.tuple ds],Q=>Q ds
|_,_=>False
theorem zol:CF K (zxa1 K) zy91:=by
 intro F H vs ds Qd Q s hv h k
 unfold zy91 at h
 split at h
 ·obtain ⟨v,rfl,hw⟩:=vw1 hv
  obtain ⟨p,xs,rfl,h1,i1⟩:=hw.list s
  refine ⟨p,xs,rfl,.inl h1,λ l hl=>?_⟩
  obtain ⟨ex,fn⟩:=zl6 (xs:=xs) s hl
  exact k _ h l xs F _ ex hl zo0 fn i1
 ·obtain ⟨v,rfl,hw⟩:=vw1 hv
  obtain ⟨p,xs,rfl,h1,_,i1⟩:=hw.tuple s
  refine ⟨p,xs,rfl,.inr h1,λ l hl=>?_⟩
  obtain ⟨ex,fn⟩:=zl6 (xs:=xs) s hl
  exact k _ h l xs F _ ex hl zo0 fn i1
 ·exact h.elim
noncomputable def tyD:D->String
|.none => "NoneType"|.bool _ => "bool"|.int _ => "int"|.str _ => "str"|.list _ => "list"|.tuple _ => "tuple"|.dict _ => "dict"
noncomputable def isT (T:String) (d:D):Bool:=tyD d == T || (T == "int" && tyD d == "bool")
structure Kit (K:Fg):Prop where
 ok:∀ t∈["NoneType", "bool", "int", "str", "list", "tuple"],∀ T∈["int", "bool", "list", "tuple", "str"],PySem.W.kitOne K (.type t) (.type T)=some (t == T || (T == "int" && t == "bool"))
noncomputable def dIs (T:String) (da:DE):DE:=λ U Q=>da U λ d=>(∀ kvs,d≠.dict kvs)/\Q (.bool (isT T d))
theorem zee1 {T:String} (kt:Kit K) (hT:T∈["int", "bool", "list", "tuple", "str"]) (ha:RfV K ta da):RfE K (tCB (rIsW K) (zrn ta (zrn (tC (.ty T)) tNil))) (dIs T da):=by
 intro F H Y U Qd Q s rv hd k
 refine ha s rv hd λ d hd v F1 H1 e1 i1=>?_
 have q:=k _ hd.2 (.bl (isT T d)) F1 H1 e1 (.bl _)
 have i2:=i1.is e1.fh
 show rIsW K [v,.ty T] H1 Q
 cases i2 with
|non=>exact .inl ⟨_,_,_,_,_,rfl,rfl,.non,kt.ok _ (by simp) T hT,q⟩
|bl b=>exact .inl ⟨_,_,_,_,_,rfl,rfl,.bl b,kt.ok _ (by simp) T hT,q⟩
|int b=>exact .inl ⟨_,_,_,_,_,rfl,rfl,.int b,kt.ok _ (by simp) T hT,q⟩
|str b=>exact .inl ⟨_,_,_,_,_,rfl,rfl,.str b,kt.ok _ (by simp) T hT,q⟩
|lst h1 h2=>exact .inr ⟨_,_,_,_,rfl,rfl,.inl ⟨⟨_,h1⟩,kt.ok _ (by simp) T hT⟩,q⟩
|tup h1 h2=>exact .inr ⟨_,_,_,_,rfl,rfl,.inr ⟨⟨_,SqT.of h1⟩,kt.ok _ (by simp) T hT⟩,q⟩
|tuc h1 h2 _=>exact .inr ⟨_,_,_,_,rfl,rfl,.inr ⟨⟨_,h1⟩,kt.ok _ (by simp) T hT⟩,q⟩
end
section
variable {K:Fg} {te ta tb tc:TE} {de da db dc:DE} {tt tu:TT} {dt du:DT} {tA:TA} {dA:DF} {w:World}
noncomputable abbrev DO:=DSt->(Option Int->Prop)->Prop
noncomputable def zbv:DO:=λ _ Q=>Q none
noncomputable def zra1 (de:DE):DO:=λ U Q=>de U λ d=>match d with
|.int i=>Q (some i)
|_=>False
theorem zcp:RfO K zyu zbv:=λ s rv h k=>k _ h _ _ (Ext.refl s)
theorem za9 (h:RfE K te de):RfO K (zi31 te) (zra1 de):=by
 intro F H Y U Qd Q s rv hd k
 refine h s rv hd λ d hx v F1 H1 e1 i1=>?_
 split at hx
 ·cases i1.int_inv;exact ⟨_,rfl,k _ hx F1 H1 e1⟩
 ·exact hx.elim
noncomputable def cutD (xs:List D) (lo hi:Option Int):List D:=(xs.drop (HT.sIx xs.length 0 lo)).take (HT.sIx xs.length xs.length hi - HT.sIx xs.length 0 lo)
theorem zwt {F:Hp} {xs:List V} {ds:List D} (h:IsAll K F xs ds) (lo hi:Option Int):IsAll K F (cutV xs lo hi) (cutD ds lo hi):=by
 unfold cutV cutD
 rw [h.dlen]
 exact (h.ddrop _).dtake _
noncomputable def fSl (d:D) (lo hi:Option Int) (Q:D->Prop):Prop:=match d with
|.list ds=>Q (.list (cutD ds lo hi))
|.str z=>z.length<=sizeLine/\Q (.str (Txt.slice z lo hi))
|.tuple ds=>¬(HT.sIx ds.length 0 lo=0/\HT.sIx ds.length ds.length hi=ds.length)/\Q (.tuple (cutD ds lo hi))
|_=>False
noncomputable def fSlF (d:D) (lo hi:Option Int) (Q:List D->Prop):Prop:=match d with
|.list ds=>Q (cutD ds lo hi)
|_=>False
variable {tl th tk:TO} {dl dh dk:DO}
noncomputable def dSl (de:DE) (dl dh:DO):DE:=λ U Q=>de U λ d=>dl U λ lo=>dh U λ hi=>fSl d lo hi Q
theorem zi2 {F H F' H':Hp} {p:Addr} (e:Ext F H F' H') (h:H' p=none):H p=none:=by
 cases q:H p with
|none=>rfl
|some o=>rw [e.h p o q] at h;cases h
theorem zlc1 (he:RfV K te de) (hl:RfO K tl dl) (hh:RfO K th dh):RfE K (tSl (rSlW K) te tl th) (dSl de dl dh):=by
 intro F H Y U Qd Q s rv h k
 refine he s rv h λ d hd v F1 H1 e1 i1=>hl e1.fh (rv.ext e1) hd λ lo hlo F2 H2 e2=>hh e2.fh (rv.ext (e1.trans e2)) hlo λ hi hhi F3 H3 e3=>?_
 have e13:=(e1.trans e2).trans e3
 have i3:=i1.ext (e2.trans e3)
 unfold fSl at hhi
 split at hhi
 ·obtain ⟨p,xs,rfl,h1,i2⟩:=i3.list e3.fh
  refine .inl (.inl ⟨p,xs,rfl,h1,λ l hl=>?_⟩)
  obtain ⟨ex,fn⟩:=zl6 (xs:=cutV xs lo hi) e3.fh hl
  obtain ⟨ex2,ii⟩:=zdo (K:=K) ex hl zo0 fn (zwt i2 lo hi)
  exact k _ hhi _ _ _ (e13.trans ex2) ii
 ·cases i3.str
  exact .inr ⟨_,rfl,hhi.1,k _ hhi.2 _ F3 H3 e13 (.str _)⟩
 ·obtain ⟨p,xs,rfl,h1,_,i2⟩:=i3.tuple e3.fh
  refine .inl (.inr ⟨p,xs,rfl,h1,by rw [i2.dlen];exact hhi.1,λ l hl=>?_⟩)
  obtain ⟨ex,ii⟩:=zwm (K:=K) e3.fh hl (zwt i2 lo hi)
  exact k _ hhi.2 _ _ _ (e13.trans ex) ii
 ·exact hhi.elim
theorem zqj {F:Hp} {xs:List V} {ds:List D} (h:IsAll K F xs ds):∀ js:List Nat,IsAll K F (js.filterMap (xs[·]?)) (js.filterMap (ds[·]?))
|[]=>.nil
|j :: js=>by
  have ih:=zqj h js
  cases hn:ds[j]? with
 |some n =>
   obtain ⟨u,hu,r⟩:=h.dget hn
   simp only [wX,hn,hu]
   exact .cons r ih
 |none =>
   have hv:xs[j]?=none:=by
    rw [zP] at hn ⊢
    rw [h.dlen];exact hn
   simp only [wX,hn,hv]
   exact ih
theorem zxv {F:Hp} {xs:List V} {ds:List D} (h:IsAll K F xs ds) (lo hi st:Option Int):IsAll K F (zzj xs lo hi st) (zzj ds lo hi st):=by
 unfold zzj
 rw [h.dlen]
 exact zqj h _
noncomputable def dSl3 (de:DE) (dl dh dk:DO):DF:=λ U Q=>de U λ d=>dl U λ lo=>dh U λ hi=>dk U λ st=>match d with
|.list ds=>st≠some 0/\Q (zzj ds lo hi st)
|_=>False
theorem zwx (he:RfV K te de) (hl:RfO K tl dl) (hh:RfO K th dh) (hk:RfO K tk dk):RfF K (tSl3 K te tl th tk) (dSl3 de dl dh dk):=by
 intro F H Y U Qd Q s rv h k
 refine he s rv h λ d hd v F1 H1 e1 i1=>hl e1.fh (rv.ext e1) hd λ lo hlo F2 H2 e2=>hh e2.fh (rv.ext (e1.trans e2)) hlo λ hi hhi F3 H3 e3=>hk e3.fh (rv.ext ((e1.trans e2).trans e3)) hhi λ st hst F4 H4 e4=>?_
 split at hst
 ·have e14:=((e1.trans e2).trans e3).trans e4
  obtain ⟨p,xs,rfl,h1,i2⟩:=(i1.ext ((e2.trans e3).trans e4)).list e4.fh
  refine ⟨p,xs,rfl,h1,hst.1,λ l hl=>?_⟩
  obtain ⟨ex,fn⟩:=zl6 (xs:=zzj xs lo hi st) e4.fh hl
  exact k _ hst.2 l _ F4 _ (e14.trans ex) (zi2 e14 hl) zo0 fn (zxv i2 lo hi st)
 ·exact hst.elim
noncomputable def W0 (K:Fg) (J:It) (F H:Hp) (items:List D):Prop:=(∀ i,i < items.length->J.go i H)/\J.stop items.length H/\∀ i x H3 d,items[i]?=some d->J.yld i H x H3->H3=H/\Is K F x d
noncomputable def W1 (K:Fg) (J:It) (F H:Hp) (items:List D):Prop:=(∀ i,i < items.length->J.go i H)/\J.stop items.length H/\∀ i x H3 d,items[i]?=some d->J.yld i H x H3->∃ F3,Ext F H F3 H3/\Is K F3 x d
noncomputable def WD (K:Fg) (J:It) (F:Hp) (items:List D):Prop:=∀ F2 H2,Same F F2->Same F2 H2->W1 K J F2 H2 items
noncomputable def WV (K:Fg) (J:It) (F H:Hp) (items:List D):Prop:=∀ F2 H2,Ext F H F2 H2->W1 K J F2 H2 items
theorem W0.w1 {J:It} {F H:Hp} {items:List D} (s:Same F H) (h:W0 K J F H items):W1 K J F H items:=⟨h.1,h.2.1,λ i x H3 d e y=>by
 obtain ⟨rfl,r⟩:=h.2.2 i x H3 d e y
 exact ⟨F,Ext.refl s,r⟩⟩
noncomputable def RfI (K:Fg) (ti:TI) (di:DF):Prop:=∀ {F H:Hp} {Y:L2.St} {U:DSt} {Qd:List D->Prop} {R:It->Hp->Prop},Same F H->RV K F H Y U->di U Qd->(∀ ds,Qd ds->∀ J F' H',Ext F H F' H'->WD K J F' ds->R J H')->ti Y H R
noncomputable def RfJ (K:Fg) (ti:TI) (di:DF):Prop:=∀ {F H:Hp} {Y:L2.St} {U:DSt} {Qd:List D->Prop} {R:It->Hp->Prop},Same F H->RV K F H Y U->di U Qd->(∀ ds,Qd ds->∀ J F' H',Ext F H F' H'->WV K J F' H' ds->R J H')->ti Y H R
theorem zfu {F H:Hp} {a:Addr} {xs:List V} {ds:List D} (h:SqL K H a xs) (i:IsAll K F xs ds):W0 K (Itl K a) F H ds:=by
 have el:=i.dlen
 refine ⟨λ j hj=>⟨xs,xs[j]'(by lia),h,u5 _⟩,⟨xs,h,by lia⟩,λ j x H3 d e y=>?_⟩
 obtain ⟨e3,y⟩:=y
 obtain ⟨x',h1,h2⟩:=i.dget e
 have:=y xs h
 rw [h1] at this;cases this
 exact ⟨e3,h2⟩
theorem zy21 {F H:Hp} {a:Addr} {xs:List V} {ds:List D} (h:SqT K H a xs) (i:IsAll K F xs ds):W0 K (Itt K a) F H ds:=by
 have el:=i.dlen
 refine ⟨λ j hj=>⟨xs,xs[j]'(by lia),h,u5 _⟩,⟨xs,h,by lia⟩,λ j x H3 d e y=>?_⟩
 obtain ⟨e3,y⟩:=y
 obtain ⟨x',h1,h2⟩:=i.dget e
 have:=y xs h
 rw [h1] at this;cases this
 exact ⟨e3,h2⟩
noncomputable def zpz:D->(List D->Prop)->Prop
|.list ds,Q=>Q ds
|.tuple ds,Q=>Q ds
|.str z,Q=>z.cps.all (· < 128)=true/\Q (z.cps.toList.map λ c=>.str ⟨#[c]⟩)
|_,_=>False
noncomputable def dIt (de:DE):DF:=λ U Q=>de U λ d=>zpz d Q
theorem zy11 {F H:Hp} (z:Str) (s:Same F H):W1 K (Its z) F H (z.cps.toList.map λ c=>.str ⟨#[c]⟩):=by
 have el:(z.cps.toList.map λ c=>(PyData.str ⟨#[c]⟩)).length=z.cps.size:=by simp
 refine ⟨λ j hj=>by rw [el] at hj;exact hj,by rw [el];exact u8 _,λ j x H3 d e y=>?_⟩
 obtain ⟨e3,c,e1,e2⟩:=y
 subst e3
 rw [u6,zX,e1] at e
 simp at e
 subst e
 exact ⟨F,Ext.refl s,by rw [e2];exact .str _⟩
theorem zau (h:RfV K te de):RfJ K (iW K te) (dIt de):=by
 intro F H Y U Qd R s rv hd k
 refine h s rv hd λ d hx v F1 H1 e1 i1=>?_
 unfold zpz at hx
 split at hx
 ·obtain ⟨p,xs,rfl,h1,i2⟩:=i1.list e1.fh
  exact .inl (.inl ⟨p,rfl,⟨xs,h1⟩,k _ hx _ F1 H1 e1 λ F2 H2 e2=>(zfu (e2.h.seq h1) (i2.mono e2.f)).w1 e2.fh⟩)
 ·obtain ⟨p,xs,rfl,h1,_,i2⟩:=i1.tuple e1.fh
  exact .inl (.inr ⟨p,rfl,⟨xs,h1⟩,k _ hx _ F1 H1 e1 λ F2 H2 e2=>(zy21 (zhu e2.h h1) (i2.mono e2.f)).w1 e2.fh⟩)
 ·cases i1.str
  exact .inr ⟨_,rfl,hx.1,k _ hx.2 _ F1 H1 e1 λ F2 H2 e2=>zy11 _ e2.fh⟩
 ·exact hx.elim
theorem zuq (h:RfE K te de):RfI K (iW K te) (dIt de):=by
 intro F H Y U Qd R s rv hd k
 refine h s rv hd λ d hx v F1 H1 e1 i1=>?_
 unfold zpz at hx
 split at hx
 ·obtain ⟨p,xs,rfl,h1,i2⟩:=i1.list_inv
  exact .inl (.inl ⟨p,rfl,⟨xs,e1.fh.seq h1⟩,k _ hx _ F1 H1 e1 λ F2 H2 s2 t2=>(zfu (t2.seq (s2.seq h1)) (i2.mono s2)).w1 t2⟩)
 ·obtain ⟨p,xs,rfl,h1,i2⟩:=i1.tuple_inv
  exact .inl (.inr ⟨p,rfl,⟨xs,zhu e1.fh h1⟩,k _ hx _ F1 H1 e1 λ F2 H2 s2 t2=>(zy21 (zhu t2 (zhu s2 h1)) (i2.mono s2)).w1 t2⟩)
 ·cases i1.str_inv
  exact .inr ⟨_,rfl,hx.1,k _ hx.2 _ F1 H1 e1 λ F2 H2 s2 t2=>zy11 _ t2⟩
 ·exact hx.elim
theorem RfI.j {ti:TI} {di:DF} (h:RfI K ti di):RfJ K ti di:=λ s rv hd k=>h s rv hd λ ds q J F' H' e w=>k ds q J F' H' e λ F2 H2 e2=>w F2 H2 e2.f e2.fh
noncomputable def rngD (lo:Int) (n:Nat):List D:=(u3 n).map λ i=>.int (lo+(i:Nat))
theorem zhp (lo:Int) (n:Nat):(rngD lo n).length=n:=by simp [rngD]
theorem zmx {lo:Int} {n i:Nat} {d:D} (e:(rngD lo n)[i]?=some d):i < n/\d=.int (lo+(i:Nat)):=by
 unfold rngD at e
 rw [u6] at e
 obtain ⟨j,hj,rfl⟩:=wJ.mp e
 obtain ⟨h1,h2⟩:=vW.mp hj
 simp at h1 h2
 subst h2
 exact ⟨h1,rfl⟩
theorem zh21 {F H:Hp} (lo:Int) (n:Nat) (s:Same F H):W1 K (Itr lo n) F H (rngD lo n):=by
 refine ⟨λ j hj=>by rw [zhp] at hj;exact hj,by rw [zhp];exact u8 _,λ j x H3 d e y=>?_⟩
 obtain ⟨e3,y⟩:=y
 subst e3
 obtain ⟨_,rfl⟩:=zmx e
 exact ⟨F,Ext.refl s,by rw [y];exact .int _⟩
noncomputable def za61 (dA:DF):DF:=λ U Q=>dA U λ ds=>match ds with
|[.int j]=>-(2 ^ 62)<=j/\j < 2 ^ 62/\Q (rngD 0 j.toNat)
|_=>False
theorem zt2 (h:RfA K tA dA):RfI K (zac1 tA) (za61 dA):=by
 intro F H Y U Qd R s rv hd k
 refine h s rv hd λ ds hx vs F1 H1 e1 i1=>?_
 split at hx
 ·cases i1 with
 |cons h1 r1 =>
   cases r1
   cases h1.int_inv
   exact ⟨_,rfl,hx.1,hx.2.1,k _ hx.2.2 _ F1 H1 e1 λ F2 H2 s2 t2=>zh21 _ _ t2⟩
 ·exact hx.elim
noncomputable def zcc1 (dA:DF):DF:=λ U Q=>dA U λ ds=>match ds with
|[.int i,.int j]=>(-(2 ^ 62)<=i/\i < 2 ^ 62/\-(2 ^ 62)<=j/\j < 2 ^ 62)/\Q (rngD i (j - i).toNat)
|_=>False
theorem zg41 (h:RfA K tA dA):RfI K (zec1 tA) (zcc1 dA):=by
 intro F H Y U Qd R s rv hd k
 refine h s rv hd λ ds hx vs F1 H1 e1 i1=>?_
 split at hx
 ·cases i1 with
 |cons h1 r1 =>
   cases r1 with
  |cons h2 r2 =>
    cases r2
    cases h1.int_inv
    cases h2.int_inv
    exact ⟨_,_,rfl,hx.1,k _ hx.2 _ F1 H1 e1 λ F2 H2 s2 t2=>zh21 _ _ t2⟩
 ·exact hx.elim
theorem all1 {F:Hp} {vs:List V} {d:D} (h:IsAll K F vs [d]):∃ v,vs=[v]/\Is K F v d:=by
 cases h with
|cons h r=>cases r;exact ⟨_,rfl,h⟩
noncomputable def zgs (ds:List D):List D:=ds.mapIdx λ i d=>.tuple [.int (i:Nat),d]
theorem zrg (ds:List D):(zgs ds).length=ds.length:=by simp [zgs]
theorem zxm {ds:List D} {i:Nat} {d:D} (e:(zgs ds)[i]?=some d):∃ x,ds[i]?=some x/\d=.tuple [.int (i:Nat),x]:=by
 unfold zgs at e
 rw [yR] at e
 obtain ⟨x,h1,h2⟩:=wJ.mp e
 exact ⟨x,h1,h2.symm⟩
theorem zlu {F H:Hp} {a:Addr} {xs:List V} {ds:List D} (s:Same F H) (h:SqL K H a xs) (i:IsAll K F xs ds):W1 K (Ite K a) F H (zgs ds):=by
 have el:=i.dlen
 have el2:=zrg ds
 refine ⟨λ j hj=>⟨xs,xs[j]'(by lia),h,u5 _⟩,⟨xs,h,by lia⟩,λ j x H3 d e y=>?_⟩
 obtain ⟨v,p,y1,hp,e1,e2⟩:=y
 subst e2
 obtain ⟨x',hx',rfl⟩:=zxm e
 obtain ⟨u,hu,iu⟩:=i.dget hx'
 have:=y1 xs h
 rw [hu] at this;cases this
 obtain ⟨ex,ii⟩:=zwm (K:=K) (ds:=[.int (j:Nat),x']) s hp (.cons (.int _) (.cons iu .nil))
 exact ⟨_,ex,by rw [e1];exact ii⟩
noncomputable def zb51 (dA:DF):DF:=λ U Q=>dA U λ ds=>match ds with
|[.list a]=>Q (zgs a)
|_=>False
theorem zav (h:RfAV K tA dA):RfJ K (zp61 K tA) (zb51 dA):=by
 intro F H Y U Qd R s rv hd k
 refine h s rv hd λ ds hx vs F1 H1 e1 i1=>?_
 split at hx
 ·obtain ⟨v,rfl,w1⟩:=vw1 i1
  obtain ⟨p,xs,rfl,h1,j1⟩:=w1.list e1.fh
  exact ⟨p,xs,rfl,h1,k _ hx _ F1 H1 e1 λ F2 H2 e2=>zlu e2.fh (e2.h.seq h1) (j1.mono e2.f)⟩
 ·exact hx.elim
theorem ztt (h:RfA K tA dA):RfI K (zp61 K tA) (zb51 dA):=by
 intro F H Y U Qd R s rv hd k
 refine h s rv hd λ ds hx vs F1 H1 e1 i1=>?_
 split at hx
 ·obtain ⟨v,rfl,w1⟩:=all1 i1
  obtain ⟨p,xs,rfl,h1,j1⟩:=w1.list_inv
  exact ⟨p,xs,rfl,e1.fh.seq h1,k _ hx _ F1 H1 e1 λ F2 H2 s2 t2=>zlu t2 (t2.seq (s2.seq h1)) (j1.mono s2)⟩
 ·exact hx.elim
end
inductive Upd (K:Fg) (F:Hp) (n:Nat):L2.St->DSt->L2.St->DSt->Prop
|refl {Y:L2.St} {U:DSt}:Upd K F n Y U Y U
|set {Y Y':L2.St} {U U':DSt} {i:Nat} {v:V} {d:D}:i < n->Is K F v d->Upd K F n (Y.set i (some v)) (U.set i (.sh d)) Y' U'->Upd K F n Y U Y' U'
theorem zc2 {Y:L2.St} {i j:Nat} {v:Option V}:(Y.set i v).getD j none=if i=j/\j < Y.length then v else Y.getD j none:=by
 rw [vL,vL,wV]
 by_cases h:i=j
 ·subst h
  by_cases h2:i < Y.length
  ·simp [h2]
  ·simp [h2]
 ·simp [h]
theorem RV.set {K:Fg} {F H:Hp} {Y:L2.St} {U:DSt} {i:Nat} {v:V} {sl:Sl} (r:RV K F H Y U) (h:RSl K F H (some v) sl):RV K F H (Y.set i (some v)) (U.set i sl):=by
 refine ⟨by rw [vZ,vZ];exact r.len,λ j s e=>?_⟩
 rw [wV] at e
 rw [zc2,r.len]
 by_cases hij:i=j
 ·subst hij
  by_cases hl:i < U.length
  ·simp [hl] at e ⊢;subst e;exact h
  ·simp [hl] at e
 ·simp [hij] at e ⊢;exact r.sl j s e
theorem Upd.rv {K:Fg} {F H:Hp} {n:Nat} {Y Y':L2.St} {U U':DSt} (u:Upd K F n Y U Y' U') (r:RV K F H Y U):RV K F H Y' U':=by
 induction u with
|refl=>exact r
|set hi hv _ ih=>exact ih (r.set ⟨_,rfl,hv⟩)
theorem Upd.keep {K:Fg} {F:Hp} {n:Nat} {Y Y':L2.St} {U U':DSt} (u:Upd K F n Y U Y' U'):Y'.length=Y.length/\∀ i,n<=i->Y'.getD i none=Y.getD i none:=by
 induction u with
|refl=>exact ⟨rfl,λ _ _=>rfl⟩
|set hi hv _ ih =>
  refine ⟨by rw [ih.1,vZ],λ j hj=>?_⟩
  rw [ih.2 j hj,zc2,if_neg (by lia)]
noncomputable abbrev DG:=D->DSt->(DSt->Prop)->Prop
noncomputable abbrev DGs:=List D->DSt->(DSt->Prop)->Prop
noncomputable def RfG (K:Fg) (n:Nat) (g:TG) (dg:DG):Prop:=∀ {F H:Hp} {Y:L2.St} {U:DSt} {v:V} {d:D} {Gd:DSt->Prop} {G:L2.St->Hp->Prop},Same F H->Is K F v d->dg d U Gd->(∀ Y' U',Gd U'->Upd K F n Y U Y' U'->G Y' H)->g v Y H G
noncomputable def RfGs (K:Fg) (n:Nat) (g:TGs) (dg:DGs):Prop:=∀ {F H:Hp} {Y:L2.St} {U:DSt} {vs:List V} {ds:List D} {Gd:DSt->Prop} {G:L2.St->Hp->Prop},Same F H->IsAll K F vs ds->dg ds U Gd->(∀ Y' U',Gd U'->Upd K F n Y U Y' U'->G Y' H)->g vs Y H G
noncomputable def gN (i:Nat):DG:=λ d U G=>G (U.set i (.sh d))
noncomputable def zm41:DGs:=λ ds U G=>match ds with
|[]=>G U
|_=>False
noncomputable def zlq (g:DG) (gs:DGs):DGs:=λ ds U G=>match ds with
|d :: r=>g d U λ U'=>gs r U' G
|[]=>False
noncomputable def gT (n:Nat) (gs:DGs):DG:=λ d U G=>match d with
|.tuple ds=>ds.length=n/\gs ds U G
|_=>False
section
variable {K:Fg} {n m:Nat}
theorem zw1 {i:Nat} (hi:i < n):RfG K n (zvq i) (gN i):=λ s h hd k=>k _ _ hd (.set hi h .refl)
theorem zo6:RfGs K n gNil zm41:=by
 intro F H Y U vs ds Gd G s h hd k
 unfold zm41 at hd
 split at hd
 ·cases h;exact ⟨rfl,k _ _ hd .refl⟩
 ·exact hd.elim
theorem Upd.trans {F:Hp} {Y Y1 Y2:L2.St} {U U1 U2:DSt} (a:Upd K F n Y U Y1 U1) (b:Upd K F n Y1 U1 Y2 U2):Upd K F n Y U Y2 U2:=by
 induction a with
|refl=>exact b
|set hi hv _ ih=>exact .set hi hv (ih b)
theorem zu0 {g:TG} {dg:DG} {gs:TGs} {dgs:DGs} (h1:RfG K n g dg) (h2:RfGs K n gs dgs):RfGs K n (zob1 g gs) (zlq dg dgs):=by
 intro F H Y U vs ds Gd G s h hd k
 unfold zlq at hd
 split at hd
 ·cases h with
 |cons hx hr =>
   refine ⟨_,_,rfl,h1 s hx hd λ Y1 U1 hd1 u1=>h2 s hr hd1 λ Y2 U2 hd2 u2=>k _ _ hd2 (u1.trans u2)⟩
 ·exact hd.elim
theorem zde {gs:TGs} {dgs:DGs} (h:RfGs K n gs dgs):RfG K n (gTup K m gs) (gT m dgs):=by
 intro F H Y U v d Gd G s hv hd k
 unfold gT at hd
 split at hd
 ·obtain ⟨a,xs,rfl,h1,h2⟩:=hv.tuple_inv
  exact ⟨a,xs,rfl,zhu s h1,by rw [h2.dlen];exact hd.1,h s h2 hd.2 k⟩
 ·exact hd.elim
end
noncomputable def cST (n:Nat) (ix:List Nat) (U:DSt):DSt:=u7 n .un++ix.map λ i=>U.getD i .un
theorem zb21 {K:Fg} {F H:Hp} {Y:L2.St} {U:DSt} (n:Nat) (ix:List Nat) (r:RV K F H Y U):RV K F H (compY n ix Y) (cST n ix U):=by
 refine ⟨by simp [compY,cST],λ i s e=>?_⟩
 unfold cST at e
 unfold compY
 by_cases h:i < n
 ·rw [wR (by simpa using h)] at e
  simp [xB,h] at e
  subst e;trivial
 ·rw [wM (by simpa using h)] at e
  rw [vL,wM (by simpa using h)]
  simp only [xF,u6] at e ⊢
  obtain ⟨j,hj,rfl⟩:=wJ.mp e
  rw [hj]
  show RSl K F H (Y.getD j none) _
  cases q:U[j]? with
 |none=>rw [show U.getD j .un=.un by rw [vL,q];rfl];trivial
 |some t=>rw [show U.getD j .un=t by rw [vL,q];rfl];exact r.sl j t q
theorem RV.caps {K:Fg} {F H:Hp} {Y Y':L2.St} {n:Nat} {ix:List Nat} {U:DSt} (r:RV K F H Y (cST n ix U)) (hl:Y'.length=Y.length) (hk:∀ i,n<=i->Y'.getD i none=Y.getD i none):RV K F H Y' (cST n ix U):=by
 refine ⟨by rw [hl];exact r.len,λ i s e=>?_⟩
 by_cases h:i < n
 ·unfold cST at e
  rw [wR (by simpa using h)] at e
  simp [xB,h] at e
  subst e;trivial
 ·rw [hk i (by lia)];exact r.sl i s e
noncomputable def zja1 (di:DF) (n:Nat) (ix:List Nat) (dg:DG) (dt:DT) (de:DE):DF:=λ U Q=>di U λ items=>items.length<=sizeLine/\∃ R:Nat->Option D->Prop,
 (∀ i d,items[i]?=some d->dg d (cST n ix U) λ U'=>dt U' λ b=>if b=true then de U' λ r=>R i (some r) else R i none) /\
 ∀ os:List (Option D),os.length=items.length->(∀ (j:Nat) o,os[j]?=some o->R j o)->Q (os.filterMap id)
noncomputable def zq41:DT:=λ _ Q=>Q true
section
variable {K:Fg} {wi:TI} {di:DF} {n:Nat} {ix:List Nat} {g:TG} {dg:DG} {tt:TT} {dt:DT} {te:TE} {de:DE}
theorem zh6:RfT K zi81 zq41:=λ s rv h k=>k _ h _ _ (Ext.refl s)
theorem ze4 (hi:RfJ K wi di) (hg:RfG K n g dg) (ht:RfT K tt dt) (he:RfE K te de):RfF K (zt41 wi n ix g tt te) (zja1 di n ix dg dt de):=by
 intro F H Y U Qd Q s rv hd k
 refine hi s rv hd λ items hx J F1 H1 e1 wj D hD=>?_
 obtain ⟨hz,R,hR,hQ⟩:=hx
 have rv1:=zb21 n ix (rv.ext e1)
 have F1D:F1 D=none:=by
  cases q:F1 D with
 |none=>rfl
 |some o=>rw [e1.fh D o q] at hD;cases hD
 refine ⟨λ i m acc Y' H'=>m=items.length - i/\i<=items.length/\Y'.length=(compY n ix Y).length/\(∀ j,n<=j->Y'.getD j none=(compY n ix Y).getD j none)/\∃ (F':Hp) (os:List (Option PyData)),Ext F1 H1 F' H'/\F' D=none/\H' D=some (.lst acc)/\os.length=i/\(∀ (j:Nat) o,os[j]?=some o->R j o)/\IsAll K F' acc (os.filterMap id),⟨items.length,rfl,wY _,rfl,λ _ _=>rfl,F1,[],?_,F1D,zo0,rfl,λ j o e=>by simp at e,.nil⟩,?_⟩
 ·exact (zl6 (xs:=[]) e1.fh hD).1
 rintro i m acc Y' H' ⟨rfl,hi',hl,hk,F',os,ex,fD,hDD,hos,hRs,hall⟩
 obtain ⟨go,stop,yld⟩:=wj F' H' ex
 by_cases hlt:i < items.length
 ·refine .inr ⟨go i hlt,λ acc' Y2 H2=>i+1<=items.length/\Y2.length=(compY n ix Y).length/\(∀ j,n<=j->Y2.getD j none=(compY n ix Y).getD j none)/\∃ (F':Hp) (os:List (Option PyData)),Ext F1 H1 F' H2/\F' D=none/\H2 D=some (.lst acc')/\os.length=i+1/\(∀ (j:Nat) o,os[j]?=some o->R j o)/\IsAll K F' acc' (os.filterMap id),λ acc' Y2 H2 p=>⟨items.length - (i+1),by lia,rfl,p⟩,λ x H2 y=>?_⟩
  have hit:items[i]?=some items[i]:=u5 hlt
  obtain ⟨F2,ex2,ix2⟩:=yld i x H2 _ hit y
  have rv2:RV K F2 H2 Y' (cST n ix U):=RV.caps (rv1.ext (ex.trans ex2)) hl hk
  have hRn:∀ o,R i o->∀ (j:Nat) o',(os++[o])[j]?=some o'->R j o':=λ o ho j o' e=>by
   rcases z6 j os.length with h|h|h
   ·rw [wR h] at e;exact hRs j o' e
   ·subst h;rw [wM (u8 _)] at e;simp at e;subst e;rw [hos];exact ho
   ·rw [wM (xX h)] at e
    cases q:j - os.length with
   |zero=>lia
   |succ z=>rw [q] at e;simp at e
  refine hg ex2.fh ix2 (hR i _ hit) λ Y2 U2 hd2 u2=>?_
  have rv3:=u2.rv rv2
  have kp:=u2.keep
  have hl2:Y2.length=(compY n ix Y).length:=by rw [kp.1,hl]
  have hk2:∀ j,n<=j->Y2.getD j none=(compY n ix Y).getD j none:=λ j hj=>by rw [kp.2 j hj,hk j hj]
  refine ht ex2.fh rv3 hd2 λ b hb F4 H4 e4=>?_
  have e24:=ex2.trans e4
  have hD4:H4 D=some (.lst acc):=e24.h _ _ hDD
  have fD4:F4 D=none:=e24.nw D (by rw [hDD];simp) fD
  cases b with
 |true =>
   rw [if_pos rfl] at hb ⊢
   refine he e4.fh (rv3.ext e4) hb λ r hr v F5 H5 e5 i5=>?_
   have e25:=e24.trans e5
   have hD5:H5 D=some (.lst acc):=e25.h _ _ hDD
   have fD5:F5 D=none:=e25.nw D (by rw [hDD];simp) fD
   have hlen:acc.length<=i:=by
    rw [hall.dlen,<- hos];exact yS _ _
   have e15:=ex.trans e25
   refine ⟨hD5,by lia,hlt,hl2,hk2,F5,os++[some r],⟨λ b o hb=>?_,e15.f,λ b o hb=>?_,e15.nw⟩,fD5,zo0,by simp [hos],hRn _ hr,?_⟩
   ·have:b≠D:=λ z=>by subst z;rw [hD] at hb;cases hb
    rw [zw0 this];exact e15.h b o hb
   ·have:b≠D:=λ z=>by subst z;rw [fD5] at hb;cases hb
    rw [zw0 this];exact e15.fh b o hb
   ·rw [xI]
    exact (hall.mono e25.f).dapp (.cons i5 .nil)
 |false =>
   rw [if_neg vS] at hb ⊢
   refine ⟨hlt,hl2,hk2,F4,os++[none],ex.trans e24,fD4,hD4,by simp [hos],hRn _ hb,?_⟩
   rw [xI]
   have:z7 id [(none:Option PyData)]=[]:=rfl
   rw [this,wI]
   exact hall.mono e24.f
 ·have e:i=items.length:=by lia
  refine .inl ⟨by rw [e];exact stop,k _ (hQ os (by lia) hRs) D acc F' H' (e1.trans ex) ?_ hDD fD hall⟩
  exact zi2 e1 hD
end
theorem at_nat' {α:Type} {xs:List α} {i:Int} {x:α} (h0:0<=i) (h:xs[i.toNat]?=some x):atI xs i=some x:=by
 have e:((i.toNat:Nat):Int)=i:=by lia
 have:=zdt (xs:=xs) (j:=i.toNat) (v:=x) h
 rwa [e] at this
inductive Stp where
|ix (j:Nat)|fl (f:Str)
noncomputable abbrev Pth:=List Stp
noncomputable def putA (f:Str) (t:T):List (Str×T)->List (Str×T)
|[]=>[(f,t)]
|(g,x) :: r=>if g=f then (g,t) :: r else (g,x) :: putA f t r
noncomputable def setP:T->Pth->T->T
|_,[],u=>u
|.ls ts,.ix j :: p,u=>match ts[j]? with
 |some t=>.ls (ts.set j (setP t p u))
 |none=>.ls ts
|.tp ts,.ix j :: p,u=>match ts[j]? with
 |some t=>.tp (ts.set j (setP t p u))
 |none=>.tp ts
|.ob C fs,.fl f :: p,u=>match fs.lookup f with
 |some t=>.ob C (putA f (setP t p u) fs)
 |none=>.ob C fs
|t,_,_=>t
inductive At (H:Hp):V->T->Pth->V->T->Prop
|nil {v:V} {t:T}:At H v t [] v t
|ix {a:Addr} {xs:List V} {ts:List T} {j:Nat} {x v:V} {t u:T} {p:Pth}:H a=some (.lst xs)->xs[j]?=some x->ts[j]?=some t->At H x t p v u->At H (.ref a) (.ls ts) (.ix j :: p) v u
|tx {a:Addr} {xs:List V} {ts:List T} {j:Nat} {x v:V} {t u:T} {p:Pth}:H a=some (.tup xs)->xs[j]?=some x->ts[j]?=some t->At H x t p v u->At H (.ref a) (.tp ts) (.ix j :: p) v u
|fl {a C dx:Addr} {fs:List (Str×V)} {ts:List (Str×T)} {f:Str} {x v:V} {t u:T} {p:Pth}:H a=some (.ins C dx fs)->fs.lookup f=some x->ts.lookup f=some t->At H x t p v u->At H (.ref a) (.ob C ts) (.fl f :: p) v u
theorem At.mono {H H':Hp} (s:Same H H') {v v':V} {t t':T} {p:Pth} (h:At H v t p v' t'):At H' v t p v' t':=by
 induction h with
|nil=>exact .nil
|ix h1 h2 h3 _ ih=>exact .ix (s _ _ h1) h2 h3 ih
|tx h1 h2 h3 _ ih=>exact .tx (s _ _ h1) h2 h3 ih
|fl h1 h2 h3 _ ih=>exact .fl (s _ _ h1) h2 h3 ih
theorem At.snoc_ix {H:Hp} {v x y:V} {t u:T} {ts:List T} {a:Addr} {xs:List V} {j:Nat} {p:Pth} (h:At H v t p (.ref a) (.ls ts)) (h1:H a=some (.lst xs)) (h2:xs[j]?=some x) (h3:ts[j]?=some u):At H v t (p++[.ix j]) x u:=by
 generalize e:V.ref a=w at h
 generalize e2:T.ls ts=z at h
 induction h with
|nil=>subst e e2;exact .ix h1 h2 h3 .nil
|ix g1 g2 g3 _ ih=>exact .ix g1 g2 g3 (ih e e2)
|tx g1 g2 g3 _ ih=>exact .tx g1 g2 g3 (ih e e2)
|fl g1 g2 g3 _ ih=>exact .fl g1 g2 g3 (ih e e2)
theorem At.snoc_tx {H:Hp} {v x y:V} {t u:T} {ts:List T} {a:Addr} {xs:List V} {j:Nat} {p:Pth} (h:At H v t p (.ref a) (.tp ts)) (h1:H a=some (.tup xs)) (h2:xs[j]?=some x) (h3:ts[j]?=some u):At H v t (p++[.ix j]) x u:=by
 generalize e:V.ref a=w at h
 generalize e2:T.tp ts=z at h
 induction h with
|nil=>subst e e2;exact .tx h1 h2 h3 .nil
|ix g1 g2 g3 _ ih=>exact .ix g1 g2 g3 (ih e e2)
|tx g1 g2 g3 _ ih=>exact .tx g1 g2 g3 (ih e e2)
|fl g1 g2 g3 _ ih=>exact .fl g1 g2 g3 (ih e e2)
theorem At.snoc_fl {H:Hp} {v x:V} {t u:T} {ts:List (Str×T)} {a C dx:Addr} {fs:List (Str×V)} {f:Str} {p:Pth} (h:At H v t p (.ref a) (.ob C ts)) (h1:H a=some (.ins C dx fs)) (h2:fs.lookup f=some x) (h3:ts.lookup f=some u):At H v t (p++[.fl f]) x u:=by
 generalize e:V.ref a=w at h
 generalize e2:T.ob C ts=z at h
 induction h with
|nil=>subst e e2;exact .fl h1 h2 h3 .nil
|ix g1 g2 g3 _ ih=>exact .ix g1 g2 g3 (ih e e2)
|tx g1 g2 g3 _ ih=>exact .tx g1 g2 g3 (ih e e2)
|fl g1 g2 g3 _ ih=>exact .fl g1 g2 g3 (ih e e2)
section
variable {K:Fg}
theorem RtAll.len {F H:Hp}:∀ {xs:List V} {ts:List T} {fp:List Addr},RtAll K F H xs ts fp->xs.length=ts.length
|_,_,_,.nil=>rfl
|_,_,_,.cons _ r=>congrArg (·+1) (RtAll.len r)
theorem RtAll.split {F H:Hp}:∀ {xs:List V} {ts:List T} {fp:List Addr} {j:Nat} {x:V} {t:T},RtAll K F H xs ts fp->xs[j]?=some x->ts[j]?=some t ->
  ∃ fA fj fB,fp=fA++(fj++fB)/\Rt K F H x t fj/\∀ {F2 H2:Hp} {u:T} {fq:List Addr},Same F F2->(∀ b∈fA++fB,H2 b=H b/\F2 b=none)->Rt K F2 H2 x u fq->RtAll K F2 H2 xs (ts.set j u) (fA++(fq++fB))
|_,_,_,_,_,_,.nil,e,_=>by simp at e
|_,_,_,0,x,t,.cons (fp:=fp) (fq:=fq) h r,e1,e2=>by
  simp at e1 e2;subst e1 e2
  exact ⟨[],fp,fq,rfl,h,λ s k g=>(by have z:=RtAll.cons g (r.frame s λ b hb=>k b (by simp [hb]));exact z)⟩
|_,_,_,j+1,x,t,.cons (fp:=fp) (fq:=fq) h r,e1,e2=>by
  obtain ⟨fA,fj,fB,e,hr,g⟩:=RtAll.split (j:=j) r (by simpa using e1) (by simpa using e2)
  refine ⟨fp++fA,fj,fB,by rw [e,wC],hr,λ s k hu=>?_⟩
  rw [wC]
  exact .cons (h.frame s λ b hb=>k b (by simp [hb])) (g s (λ b hb=>k b (by rcases vK.mp hb with z|z <;> simp [z])) hu)
theorem RtFs.split {F H:Hp}:∀ {xs:List (Str×V)} {ts:List (Str×T)} {fp:List Addr} {f:Str} {x:V} {t:T},RtFs K F H xs ts fp->xs.lookup f=some x->ts.lookup f=some t ->
  ∃ fA fj fB,fp=fA++(fj++fB)/\Rt K F H x t fj/\(∀ {F2 H2:Hp} {u:T} {fq:List Addr},Same F F2->(∀ b∈fA++fB,H2 b=H b/\F2 b=none)->Rt K F2 H2 x u fq->RtFs K F2 H2 xs (putA f u ts) (fA++(fq++fB))) /\
   (∀ {F2 H2:Hp} {y:V} {u:T} {fq:List Addr},Same F F2->(∀ b∈fA++fB,H2 b=H b/\F2 b=none)->Rt K F2 H2 y u fq->RtFs K F2 H2 (putF f y xs) (putA f u ts) (fA++(fq++fB)))
|_,_,_,_,_,_,.nil,e,_=>by cases e
|_,_,_,f,x,t,.cons (f:=g) (x:=x') (t:=t') (fp:=fp) (fq:=fq) h r,e1,e2=>by
  by_cases hg:f=g
  ·subst hg
   simp [wQ] at e1 e2
   subst e1 e2
   refine ⟨[],fp,fq,rfl,h,λ s k u=>?_,λ s k u=>?_⟩
   ·show RtFs K _ _ _ (putA f _ ((f,_) :: _)) _
    rw [show putA f _ ((f,t') :: _)=(f,_) :: _ from if_pos rfl]
    have z:=RtFs.cons (f:=f) u (r.frame s λ b hb=>k b (by simp [hb]));exact z
   ·rw [show putA f _ ((f,t') :: _)=(f,_) :: _ from if_pos rfl,show putF f _ ((f,x') :: _)=(f,_) :: _ from if_pos rfl]
    have z:=RtFs.cons (f:=f) u (r.frame s λ b hb=>k b (by simp [hb]));exact z
  ·have hb:(f == g)=false:=beq_eq_false_iff_ne.mpr hg
   simp only [wQ,hb] at e1 e2
   obtain ⟨fA,fj,fB,e,hr,q1,q2⟩:=RtFs.split r e1 e2
   have hgf:¬g=f:=λ z=>hg z.symm
   refine ⟨fp++fA,fj,fB,by rw [e,wC],hr,λ s k u=>?_,λ s k u=>?_⟩
   ·rw [show putA f _ ((g,t') :: _)=(g,t') :: putA f _ _ from if_neg hgf,wC]
    exact .cons (h.frame s λ b hb=>k b (by simp [hb])) (q1 s (λ b hb=>k b (by rcases vK.mp hb with z|z <;> simp [z])) u)
   ·rw [show putA f _ ((g,t') :: _)=(g,t') :: putA f _ _ from if_neg hgf,show putF f _ ((g,x') :: _)=(g,x') :: putF f _ _ from if_neg hgf,wC]
    exact .cons (h.frame s λ b hb=>k b (by simp [hb])) (q2 s (λ b hb=>k b (by rcases vK.mp hb with z|z <;> simp [z])) u)
theorem RtFs.add {F H F2 H2:Hp} {y:V} {u:T} {fq:List Addr} (s:Same F F2) (hu:Rt K F2 H2 y u fq):∀ {xs:List (Str×V)} {ts:List (Str×T)} {fp:List Addr} {f:Str},RtFs K F H xs ts fp->ts.lookup f=none->(∀ b∈fp,H2 b=H b/\F2 b=none)->RtFs K F2 H2 (putF f y xs) (putA f u ts) (fp++fq)
|_,_,_,f,.nil,_,_=>by
  show RtFs K F2 H2 [(f,y)] [(f,u)] fq
  have:=RtFs.cons (f:=f) hu (.nil (K:=K) (F:=F2) (H:=H2))
  rwa [wI] at this
|_,_,_,f,.cons (f:=g) (x:=x') (t:=t') (fp:=fp) (fq:=fq') h r,e,k=>by
  have hg:¬f=g:=λ z=>by subst z;simp [wQ] at e
  have hb:(f == g)=false:=beq_eq_false_iff_ne.mpr hg
  simp only [wQ,hb] at e
  have hgf:¬g=f:=λ z=>hg z.symm
  rw [show putA f u ((g,t') :: _)=(g,t') :: putA f u _ from if_neg hgf,show putF f y ((g,x') :: _)=(g,x') :: putF f y _ from if_neg hgf,wC]
  exact .cons (h.frame s λ b hb=>k b (by simp [hb])) (RtFs.add s hu r e λ b hb=>k b (by simp [hb]))
theorem RtFs.keys {F H:Hp} {xs:List (Str×V)} {ts:List (Str×T)} {fp:List Addr} (f:Str) (h:RtFs K F H xs ts fp):(ts.lookup f=none->xs.lookup f=none)/\(∀ t,ts.lookup f=some t->∃ x,xs.lookup f=some x)/\xs.length=ts.length :=
 (Rt.ind (P:=λ _ _ _=>True) (Q:=λ _ _ _=>True) (R:=λ xs ts _=>(ts.lookup f=none->xs.lookup f=none)/\(∀ t,ts.lookup f=some t->∃ x,xs.lookup f=some x)/\xs.length=ts.length)
  (λ _=>trivial) (λ _ _ _=>trivial) (λ _ _ _=>trivial) (λ _ _ _ _ _=>trivial) (λ _ _ _=>trivial) (λ _ _ _=>trivial) (λ _ _ _=>trivial) trivial (λ _ _=>trivial) ⟨λ _=>rfl,(λ t e=>by cases e),rfl⟩
  λ {g x _ _ _ _ _} _ ⟨k1,k2,k3⟩=>by
   rw [xE,xE,k3,v9,v9]
   cases f == g with
  |true=>exact ⟨(λ e=>by cases e),λ _ _=>⟨x,rfl⟩,rfl⟩
  |false=>exact ⟨k1,k2,rfl⟩).2.2 h
theorem zg71 {F H:Hp} {x v:V} {t u:T} {p:Pth} (h:At H x t p v u):∀ {fp:List Addr},Rt K F H x t fp->fp.Nodup->∃ fn,Rt K F H v u fn/\(∀ a∈fn,a∈fp)/\fn.Nodup /\
  ∀ {F2 H2:Hp} {u2:T} {fq:List Addr},Same F F2->(∀ b∈fp,b ∉ fn->H2 b=H b/\F2 b=none)->Rt K F2 H2 v u2 fq->fq.Nodup->(∀ b∈fq,b∈fn \/ b ∉ fp)->∃ fp2,Rt K F2 H2 x (setP t p u2) fp2/\fp2.Nodup/\∀ b∈fp2,(b∈fp/\b ∉ fn) \/ b∈fq:=by
 induction h with
|nil =>
  intro fp hr nd
  refine ⟨fp,hr,λ a z=>z,nd,λ {F2 H2 u2 fq} _ _ h2 n2 _=>⟨fq,?_,n2,λ b hb=>.inr hb⟩⟩
  cases u2 <;> exact h2
|@ix a0 xs0 ts0 j0 x0 v0 t0 u0 p0 h1 h2 h3 _ ih =>
  intro fp hr nd
  cases hr with
 |ls g1 g2 g3 =>
   rw [h1] at g1;cases g1
   obtain ⟨fA,fj,fB,e,hj,rep⟩:=g3.split h2 h3
   subst e
   have ndR:=(vY.mp nd).2
   have nA:=(vY.mp nd).1
   obtain ⟨ndA,ndJB,djA⟩:=wG.mp ndR
   obtain ⟨ndj,ndB,djB⟩:=wG.mp ndJB
   obtain ⟨fn,hn,sub,ndn,back⟩:=ih hj ndj
   refine ⟨fn,hn,λ a ha=>by simp [sub a ha],ndn,λ {F2 H2 u2 fq} s k hu nq hq=>?_⟩
   obtain ⟨f2,r2,n2,m2⟩:=back s (λ b hb hnb=>k b (by simp [hb]) hnb) hu nq λ b hb=>by
    rcases hq b hb with z|z
    ·exact .inl z
    ·exact .inr λ y=>z (by simp [y])
   have notin:∀ b,b∈fA \/ b∈fB->b ∉ fn:=λ b hb hn'=>by
    have:=sub b hn'
    rcases hb with z|z
    ·exact djA b z b (by simp [this]) rfl
    ·exact djB b this b z rfl
   have rA:=rep s (λ b hb=>by
    have hb':=vK.mp hb
    refine k b (by rcases hb' with z|z <;> simp [z]) (notin b hb')) r2
   have hnotq:∀ b,(b∈fA \/ b∈fB \/ b=a0)->b ∉ fq:=λ b hb hbq=>by
    rcases hq b hbq with z|z
    ·rcases hb with y|y|y
     ·exact notin b (.inl y) z
     ·exact notin b (.inr y) z
     ·subst y;exact nA (by simp [sub _ z])
    ·apply z
     rcases hb with y|y|y
     ·simp [y]
     ·simp [y]
     ·simp [y]
   have ha2:=k _ (v6) (λ z=>nA (by simp [sub _ z]))
   refine ⟨a0 :: (fA++(f2++fB)),?_,?_,?_⟩
   ·unfold setP
    rw [h3]
    exact .ls (by rw [ha2.1];exact h1) ha2.2 rA
   ·refine vY.mpr ⟨λ z=>?_,?_⟩
    ·rcases vK.mp z with y|y
     ·exact nA (by simp [y])
     ·rcases vK.mp y with y|y
      ·rcases m2 _ y with ⟨y1,_⟩|y1
       ·exact nA (by simp [y1])
       ·exact hnotq _ (.inr (.inr rfl)) y1
      ·exact nA (by simp [y])
    ·refine wG.mpr ⟨ndA,wG.mpr ⟨n2,ndB,λ a ha b hb=>?_⟩,λ a ha b hb=>?_⟩
     ·rcases m2 a ha with ⟨y,_⟩|y
      ·exact djB a y b hb
      ·intro z;subst z;exact hnotq a (.inr (.inl hb)) y
     ·rcases vK.mp hb with y|y
      ·rcases m2 b y with ⟨y,_⟩|y
       ·exact djA a ha b (by simp [y])
       ·intro z;subst z;exact hnotq a (.inl ha) y
      ·exact djA a ha b (by simp [y])
   ·intro b hb
    rcases vN.mp hb with y|y
    ·subst y;exact .inl ⟨by simp,λ z=>nA (by simp [sub _ z])⟩
    ·rcases vK.mp y with y|y
     ·exact .inl ⟨by simp [y],notin b (.inl y)⟩
     ·rcases vK.mp y with y|y
      ·rcases m2 b y with ⟨y1,y2⟩|y1
       ·exact .inl ⟨by simp [y1],y2⟩
       ·exact .inr y1
      ·exact .inl ⟨by simp [y],notin b (.inr y)⟩
|@tx a0 xs0 ts0 j0 x0 v0 t0 u0 p0 h1 h2 h3 _ ih =>
  intro fp hr nd
  cases hr with
 |tp g1 g2 g3 =>
   rw [h1] at g1;cases g1
   obtain ⟨fA,fj,fB,e,hj,rep⟩:=g3.split h2 h3
   subst e
   have ndR:=(vY.mp nd).2
   have nA:=(vY.mp nd).1
   obtain ⟨ndA,ndJB,djA⟩:=wG.mp ndR
   obtain ⟨ndj,ndB,djB⟩:=wG.mp ndJB
   obtain ⟨fn,hn,sub,ndn,back⟩:=ih hj ndj
   refine ⟨fn,hn,λ a ha=>by simp [sub a ha],ndn,λ {F2 H2 u2 fq} s k hu nq hq=>?_⟩
   obtain ⟨f2,r2,n2,m2⟩:=back s (λ b hb hnb=>k b (by simp [hb]) hnb) hu nq λ b hb=>by
    rcases hq b hb with z|z
    ·exact .inl z
    ·exact .inr λ y=>z (by simp [y])
   have notin:∀ b,b∈fA \/ b∈fB->b ∉ fn:=λ b hb hn'=>by
    have:=sub b hn'
    rcases hb with z|z
    ·exact djA b z b (by simp [this]) rfl
    ·exact djB b this b z rfl
   have rA:=rep s (λ b hb=>by
    have hb':=vK.mp hb
    refine k b (by rcases hb' with z|z <;> simp [z]) (notin b hb')) r2
   have hnotq:∀ b,(b∈fA \/ b∈fB \/ b=a0)->b ∉ fq:=λ b hb hbq=>by
    rcases hq b hbq with z|z
    ·rcases hb with y|y|y
     ·exact notin b (.inl y) z
     ·exact notin b (.inr y) z
     ·subst y;exact nA (by simp [sub _ z])
    ·apply z
     rcases hb with y|y|y
     ·simp [y]
     ·simp [y]
     ·simp [y]
   have ha2:=k _ (v6) (λ z=>nA (by simp [sub _ z]))
   refine ⟨a0 :: (fA++(f2++fB)),?_,?_,?_⟩
   ·unfold setP
    rw [h3]
    exact .tp (by rw [ha2.1];exact h1) ha2.2 rA
   ·refine vY.mpr ⟨λ z=>?_,?_⟩
    ·rcases vK.mp z with y|y
     ·exact nA (by simp [y])
     ·rcases vK.mp y with y|y
      ·rcases m2 _ y with ⟨y1,_⟩|y1
       ·exact nA (by simp [y1])
       ·exact hnotq _ (.inr (.inr rfl)) y1
      ·exact nA (by simp [y])
    ·refine wG.mpr ⟨ndA,wG.mpr ⟨n2,ndB,λ a ha b hb=>?_⟩,λ a ha b hb=>?_⟩
     ·rcases m2 a ha with ⟨y,_⟩|y
      ·exact djB a y b hb
      ·intro z;subst z;exact hnotq a (.inr (.inl hb)) y
     ·rcases vK.mp hb with y|y
      ·rcases m2 b y with ⟨y,_⟩|y
       ·exact djA a ha b (by simp [y])
       ·intro z;subst z;exact hnotq a (.inl ha) y
      ·exact djA a ha b (by simp [y])
   ·intro b hb
    rcases vN.mp hb with y|y
    ·subst y;exact .inl ⟨by simp,λ z=>nA (by simp [sub _ z])⟩
    ·rcases vK.mp y with y|y
     ·exact .inl ⟨by simp [y],notin b (.inl y)⟩
     ·rcases vK.mp y with y|y
      ·rcases m2 b y with ⟨y1,y2⟩|y1
       ·exact .inl ⟨by simp [y1],y2⟩
       ·exact .inr y1
      ·exact .inl ⟨by simp [y],notin b (.inr y)⟩
|@fl a0 C0 dx0 fs0 ts0 f0 x0 v0 t0 u0 p0 h1 h2 h3 _ ih =>
  intro fp hr nd
  cases hr with
 |ob g1 g2 g3 g4 g5 =>
   rw [h1] at g1;cases g1
   obtain ⟨fA,fj,fB,e,hj,rep,_⟩:=g5.split h2 h3
   subst e
   have nd1:=vY.mp nd
   have nd2:=vY.mp nd1.2
   have ndR:=nd2.2
   have nA:_ ∉ fA++(fj++fB):=λ z=>nd1.1 (vU _ z)
   have nX:=nd2.1
   obtain ⟨ndA,ndJB,djA⟩:=wG.mp ndR
   obtain ⟨ndj,ndB,djB⟩:=wG.mp ndJB
   obtain ⟨fn,hn,sub,ndn,back⟩:=ih hj ndj
   refine ⟨fn,hn,λ a ha=>by simp [sub a ha],ndn,λ {F2 H2 u2 fq} s k hu nq hq=>?_⟩
   obtain ⟨f2,r2,n2,m2⟩:=back s (λ b hb hnb=>k b (by simp [hb]) hnb) hu nq λ b hb=>by
    rcases hq b hb with z|z
    ·exact .inl z
    ·exact .inr λ y=>z (by simp [y])
   have notin:∀ b,b∈fA \/ b∈fB->b ∉ fn:=λ b hb hn'=>by
    have:=sub b hn'
    rcases hb with z|z
    ·exact djA b z b (by simp [this]) rfl
    ·exact djB b this b z rfl
   have rA:=rep s (λ b hb=>by
    have hb':=vK.mp hb
    refine k b (by rcases hb' with z|z <;> simp [z]) (notin b hb')) r2
   have hnotq:∀ b,(b∈fA \/ b∈fB)->b ∉ fq:=λ b hb hbq=>by
    rcases hq b hbq with z|z
    ·exact notin b hb z
    ·apply z
     rcases hb with y|y <;> simp [y]
   have hnq2:∀ b,b∈fn->b∈fA++(fj++fB):=λ b hb=>by simp [sub _ hb]
   have ha2:=k _ (v6) (λ z=>nA (hnq2 _ z))
   have hx2:=k _ (vU _ v6) (λ z=>nX (hnq2 _ z))
   have hf2:∀ b∈f2,b∈fj \/ b∈fq:=λ b hb=>by
    rcases m2 b hb with ⟨y,_⟩|y
    ·exact .inl y
    ·exact .inr y
   refine ⟨a0 :: dx0 :: (fA++(f2++fB)),?_,?_,?_⟩
   ·unfold setP
    rw [h3]
    exact .ob (by rw [ha2.1];exact h1) (by rw [hx2.1];exact g2) ha2.2 hx2.2 rA
   ·have inR:∀ b,b∈fA++(f2++fB)->b∈fA++(fj++fB) \/ b∈fq:=λ b hb=>by
     rcases vK.mp hb with y|y
     ·exact .inl (by simp [y])
     ·rcases vK.mp y with y|y
      ·rcases hf2 b y with y|y
       ·exact .inl (by simp [y])
       ·exact .inr y
      ·exact .inl (by simp [y])
    refine vY.mpr ⟨λ z=>?_,vY.mpr ⟨λ z=>?_,?_⟩⟩
    ·rcases vN.mp z with y|y
     ·exact nd1.1 (by rw [y];simp)
     ·rcases inR _ y with y|y
      ·exact nA y
      ·rcases hq _ y with w|w
       ·exact nA (hnq2 _ w)
       ·exact w (by simp)
    ·rcases inR _ z with y|y
     ·exact nX y
     ·rcases hq _ y with w|w
      ·exact nX (hnq2 _ w)
      ·exact w (by simp)
    ·refine wG.mpr ⟨ndA,wG.mpr ⟨n2,ndB,λ a ha b hb=>?_⟩,λ a ha b hb=>?_⟩
     ·rcases m2 a ha with ⟨y,_⟩|y
      ·exact djB a y b hb
      ·intro z;subst z;exact hnotq a (.inr hb) y
     ·rcases vK.mp hb with y|y
      ·rcases m2 b y with ⟨y,_⟩|y
       ·exact djA a ha b (by simp [y])
       ·intro z;subst z;exact hnotq a (.inl ha) y
      ·exact djA a ha b (by simp [y])
   ·intro b hb
    rcases vN.mp hb with y|y
    ·subst y;exact .inl ⟨by simp,λ z=>nA (hnq2 _ z)⟩
    ·rcases vN.mp y with y|y
     ·subst y;exact .inl ⟨by simp,λ z=>nX (hnq2 _ z)⟩
     ·rcases vK.mp y with y|y
      ·exact .inl ⟨by simp [y],notin b (.inl y)⟩
      ·rcases vK.mp y with y|y
       ·rcases m2 b y with ⟨y1,y2⟩|y1
        ·exact .inl ⟨by simp [y1],y2⟩
        ·exact .inr y1
       ·exact .inl ⟨by simp [y],notin b (.inr y)⟩
end
noncomputable def AtS (H:Hp) (Y:L2.St) (U:DSt) (i:Nat) (p:Pth) (v:V) (u:T):Prop:=∃ s t x,U[i]?=some s/\s.tree=some t/\Y.getD i none=some x/\At H x t p v u
noncomputable abbrev DP:=DSt->(Nat->Pth->T->Prop)->Prop
noncomputable def RfP (K:Fg) (te:TE) (dp:DP):Prop:=∀ {F H:Hp} {Y:L2.St} {U:DSt} {Qd:Nat->Pth->T->Prop} {Q:VK},Same F H->RV K F H Y U->dp U Qd->(∀ i p u,Qd i p u->∀ v F' H',Ext F H F' H'->AtS H' Y U i p v u->Q v H')->te Y H Q
section
variable {K:Fg} {te ti:TE} {dp:DP} {di:DE}
theorem zwc1 {F H:Hp} {x v:V} {t u:T} {p:Pth} (h:At H x t p v u):∀ {fp:List Addr},Rt K F H x t fp->∃ fn,Rt K F H v u fn:=by
 induction h with
|nil=>intro fp hr;exact ⟨fp,hr⟩
|ix h1 h2 h3 _ ih =>
  intro fp hr
  cases hr with
 |ls g1 g2 g3 =>
   rw [h1] at g1;cases g1
   obtain ⟨fA,fj,fB,e,hj,_⟩:=g3.split h2 h3
   exact ih hj
|tx h1 h2 h3 _ ih =>
  intro fp hr
  cases hr with
 |tp g1 g2 g3 =>
   rw [h1] at g1;cases g1
   obtain ⟨fA,fj,fB,e,hj,_⟩:=g3.split h2 h3
   exact ih hj
|fl h1 h2 h3 _ ih =>
  intro fp hr
  cases hr with
 |ob g1 g2 g3 g4 g5 =>
   rw [h1] at g1;cases g1
   obtain ⟨fA,fj,fB,e,hj,_⟩:=g5.split h2 h3
   exact ih hj
theorem AtS.rt {F H:Hp} {Y:L2.St} {U:DSt} {i:Nat} {p:Pth} {v:V} {u:T} (h:AtS H Y U i p v u) (r:RV K F H Y U):∃ fn,Rt K F H v u fn:=by
 obtain ⟨s,t,x,h1,h2,h3,h4⟩:=h
 obtain ⟨y,fp,e,hr,_⟩:=(r.sl i s h1).rt h2
 rw [h3] at e;cases e
 exact zwc1 h4 hr
theorem AtS.mono {H H':Hp} {Y:L2.St} {U:DSt} {i:Nat} {p:Pth} {v:V} {u:T} (s:Same H H') (h:AtS H Y U i p v u):AtS H' Y U i p v u:=by
 obtain ⟨s',t,x,h1,h2,h3,h4⟩:=h
 exact ⟨s',t,x,h1,h2,h3,h4.mono s⟩
noncomputable def pVar (i:Nat):DP:=λ U Q=>∃ s t,U[i]?=some s/\s.tree=some t/\Q i [] t
theorem zm0 (i:Nat):RfP K (tVar i) (pVar i):=by
 intro F H Y U Qd Q s r h k
 obtain ⟨sl,t,q,et,f⟩:=h
 obtain ⟨x,fp,e,hr,_⟩:=(r.sl i _ q).rt et
 exact ⟨x,zp7 (F:=F) (H:=H) (U:=U) e,k i [] t f x F H (Ext.refl s) ⟨sl,t,x,q,et,e,.nil⟩⟩
noncomputable def nFld (f:Str) (u:T) (Q:T->Prop):Prop:=match u with
|.ob _ fs=>∃ t,fs.lookup f=some t/\Q t
|_=>False
noncomputable def nCls (C:Addr) (u:T):Prop:=match u with
|.ob C' _=>C'=C
|_=>False
noncomputable def pFld (C:Addr) (f:Str) (dp:DP):DP:=λ U Q=>dp U λ i p u=>nCls C u/\nFld f u λ t=>Q i (p++[.fl f]) t
theorem zy0 {C:Addr} {f:Str} (c:Cls K C) (na:NoAttr K C f) (h:RfP K te dp):RfP K (zqa1 K te f) (pFld C f dp):=by
 intro F H Y U Qd Q s r hd k
 refine h s r hd λ i p u hu v F1 H1 e1 at1=>?_
 obtain ⟨hc,hf⟩:=hu
 obtain ⟨fn,hr⟩:=at1.rt (r.ext e1)
 cases hr with
|ob g1 g2 g3 g4 g5 =>
  cases (show _=C from hc)
  obtain ⟨t,et,q⟩:=hf
  obtain ⟨y,ey⟩:=(g5.keys f).2.1 t et
  refine ⟨_,_,_,_,y,rfl,g1,c,na,ey,k i _ t q y F1 H1 e1 ?_⟩
  obtain ⟨sl,t0,x,a1,a2,a3,a4⟩:=at1
  exact ⟨sl,t0,x,a1,a2,a3,a4.snoc_fl g1 ey et⟩
|fz _=>exact hc.elim
|li _ _ _=>exact hc.elim
|ls _ _ _=>exact hc.elim
|dk _ _ _=>exact hc.elim
|dt _ _ _=>exact hc.elim
|tp _ _ _=>exact hc.elim
noncomputable def nIx (u:T) (k:D) (Q:Nat->T->Prop):Prop:=match u,k with
|.ls ts,.int z=>∃ j t,ixN ts.length z=some j/\ts[j]?=some t/\Q j t
|.tp ts,.int z=>∃ j t,ixN ts.length z=some j/\ts[j]?=some t/\Q j t
|_,_=>False
noncomputable def pIx (dp:DP) (di:DE):DP:=λ U Q=>dp U λ i p u=>di U λ k=>nIx u k λ j t=>Q i (p++[.ix j]) t
theorem zkx {w:World} (h:RfP K te dp) (hi:RfE K ti di):RfP K (tOp (rIxV w K) te ti) (pIx dp di):=by
 intro F H Y U Qd Q s r hd k
 refine h s r hd λ i p u hu v F1 H1 e1 at1=>hi e1.fh (r.ext e1) hu λ kd hk kv F2 H2 e2 i2=>?_
 have e12:=e1.trans e2
 have at2:=at1.mono e2.h
 obtain ⟨fn,hr⟩:=at2.rt (r.ext e12)
 unfold nIx at hk
 split at hk
 ·rename_i ts z
  obtain ⟨j,t,ej,et,q⟩:=hk
  cases i2.int_inv
  cases hr with
 |ls g1 g2 g3 =>
   have el:=g3.len
   have hj:j < ts.length:=by
    rcases wS j ts.length with y|y
    ·exact y
    ·rw [wH y] at et;cases et
   rename_i a xs fp
   obtain ⟨y,hx⟩:∃ y,xs[j]?=some y:=⟨xs[j]'(by lia),u5 _⟩
   refine .inl (.inl (.inl ⟨a,xs,z,y,rfl,rfl,SqL.of g1,?_,k i _ t q _ F2 H2 e12 ?_⟩))
   ·unfold atI
    rw [el,ej]
    exact hx
   ·obtain ⟨sl,t0,x,a1,a2,a3,a4⟩:=at2
    exact ⟨sl,t0,x,a1,a2,a3,a4.snoc_ix (y:=x) g1 hx et⟩
 ·rename_i ts z
  obtain ⟨j,t,ej,et,q⟩:=hk
  cases i2.int_inv
  cases hr with
 |tp g1 g2 g3 =>
   have el:=g3.len
   have hj:j < ts.length:=by
    rcases wS j ts.length with y|y
    ·exact y
    ·rw [wH y] at et;cases et
   rename_i a xs fp
   obtain ⟨y,hx⟩:∃ y,xs[j]?=some y:=⟨xs[j]'(by lia),u5 _⟩
   refine .inl (zod1 (SqT.of g1) (v:=y) ?_ (k i _ t q _ F2 H2 e12 ?_))
   ·unfold atI
    rw [el,ej]
    exact hx
   ·obtain ⟨sl,t0,x,a1,a2,a3,a4⟩:=at2
    exact ⟨sl,t0,x,a1,a2,a3,a4.snoc_tx (y:=x) g1 hx et⟩
 ·exact hk.elim
noncomputable def dPV (dp:DP):DE:=λ U Q=>dp U λ _ _ u=>vwT u Q
noncomputable def dPE (dp:DP):DE:=λ U Q=>dp U λ _ _ u=>fzT u Q
theorem RfP.v (h:RfP K te dp):RfV K te (dPV dp):=λ s r d k=>h s r d λ i p u hu v F1 H1 e1 at1=>by
 obtain ⟨fn,hr⟩:=at1.rt (r.ext e1)
 obtain ⟨d,qd,vw⟩:=zjb1 hr hu
 exact k d qd v F1 H1 e1 vw
theorem RfP.e (h:RfP K te dp):RfE K te (dPE dp):=λ s r d k=>h s r d λ i p u hu v F1 H1 e1 at1=>by
 obtain ⟨fn,hr⟩:=at1.rt (r.ext e1)
 obtain ⟨d,qd,vw⟩:=zvy hr hu
 exact k d qd v F1 H1 e1 vw
end
structure Bs where
 F0:Hp
 H0:Hp
 G:List Addr
noncomputable def Sl.own:Sl->Bool
|.ow _=>true
|.io _ _=>true
|_=>false
noncomputable def Sl.has:Sl->Bool
|.ow _=>true
|.io _ _=>true
|.bo _=>true
|_=>false
noncomputable def Sl.wth:Sl->T->Sl
|.ow _,u=>.ow u
|.io a _,u=>.io a u
|s,_=>s
structure RS (K:Fg) (B:Bs) (F H:Hp) (Y:L2.St) (U:DSt) (fps:Nat->List Addr):Prop where
 hh:∀ b o,b ∉ B.G->B.H0 b=some o->H b=some o
 ff:Same B.F0 F
 fh:Same F H
 nw:∀ b,B.H0 b≠none->B.F0 b=none->F b=none
 al:∀ b,B.H0 b≠none->H b≠none
 len:Y.length=U.length
 sh:∀ (i:Nat) d,U[i]?=some (.sh d)->∃ x,Y.getD i none=some x/\Is K F x d
 rt:∀ (i:Nat) s,U[i]?=some s->s.has=true->∃ x t,Y.getD i none=some x/\s.tree=some t/\Rt K F H x t (fps i)/\(∀ a u,s=.io a u->x=.ref a)/\(fps i).Nodup
 fr:∀ (i:Nat) s,U[i]?=some s->s.own=true->∀ a∈fps i,B.H0 a=none \/ (a∈B.G/\∀ t,s≠.ow t)
 dj:∀ (i j:Nat) s s',i≠j->U[i]?=some s->U[j]?=some s'->s.own=true->s'.has=true->∀ a∈fps i,a ∉ fps j
section
variable {K:Fg} {B:Bs} {F H F' H':Hp} {Y:L2.St} {U:DSt} {fps:Nat->List Addr}
theorem zu7:∀ {s:Sl},s.own=true->s.has=true
|.ow _,_=>rfl
|.io _ _,_=>rfl
|.un,e=>by cases e
|.sh _,e=>by cases e
|.bo _,e=>by cases e
theorem RS.rv (r:RS K B F H Y U fps):RV K F H Y U:=⟨r.len,λ i s e=>by
 cases s with
|un=>trivial
|sh d=>exact r.sh i d e
|ow t =>
  obtain ⟨x,t',h1,h2,h3,h4,h5⟩:=r.rt i _ e rfl
  cases h2;exact ⟨x,_,h1,h3,h5⟩
|bo t =>
  obtain ⟨x,t',h1,h2,h3,h4,h5⟩:=r.rt i _ e rfl
  cases h2;exact ⟨x,_,h1,h3,h5⟩
|io a t =>
  obtain ⟨x,t',h1,h2,h3,h4,h5⟩:=r.rt i _ e rfl
  cases h2
  cases h4 a t rfl
  exact ⟨_,h1,h3,h5⟩⟩
theorem RS.grow (r:RS K B F H Y U fps) (e:Ext F H F' H'):RS K B F' H' Y U fps where
 hh:=λ b o hb ho=>e.h b o (r.hh b o hb ho)
 ff:=r.ff.trans e.f
 fh:=e.fh
 nw:=λ b hb fb=>e.nw b (r.al b hb) (r.nw b hb fb)
 al:=λ b hb z=>by
  cases q:H b with
 |none=>exact r.al b hb q
 |some o=>rw [e.h b o q] at z;cases z
 len:=r.len
 sh:=λ i d h=>by obtain ⟨x,h1,h2⟩:=r.sh i d h;exact ⟨x,h1,h2.mono e.f⟩
 rt:=λ i s h1 h2=>by obtain ⟨x,t,a1,a2,a3,a4,a5⟩:=r.rt i s h1 h2;exact ⟨x,t,a1,a2,a3.ext e,a4,a5⟩
 fr:=r.fr
 dj:=r.dj
theorem RS.setS (r:RS K B F H Y U fps) {i:Nat} {v:V} {d:D} (h:Is K F v d):RS K B F H (Y.set i (some v)) (U.set i (.sh d)) fps:=by
 have key:∀ (j:Nat) s,(U.set i (.sh d))[j]?=some s->(j=i/\s=.sh d/\(Y.set i (some v)).getD j none=some v) \/ (j≠i/\U[j]?=some s/\(Y.set i (some v)).getD j none=Y.getD j none):=λ j s e=>by
  rw [wV] at e
  by_cases hij:i=j
  ·subst hij
   by_cases hl:i < U.length
   ·simp [hl] at e;exact .inl ⟨rfl,e.symm,by rw [zc2,r.len,if_pos ⟨rfl,hl⟩]⟩
   ·simp [hl] at e
  ·simp [hij] at e
   exact .inr ⟨λ z=>hij z.symm,e,by rw [zc2,if_neg (by lia)]⟩
 refine ⟨r.hh,r.ff,r.fh,r.nw,r.al,by rw [vZ,vZ];exact r.len,λ j d' e=>?_,λ j s e hs=>?_,λ j s e hs=>?_,λ j k s s' hjk e1 e2 o1 o2=>?_⟩
 ·rcases key j _ e with ⟨_,e2,e3⟩|⟨_,e2,e3⟩
  ·cases e2;exact ⟨v,e3,h⟩
  ·obtain ⟨x,h1,h2⟩:=r.sh j d' e2;exact ⟨x,by rw [e3];exact h1,h2⟩
 ·rcases key j _ e with ⟨_,e2,e3⟩|⟨_,e2,e3⟩
  ·rw [e2] at hs;cases hs
  ·rw [e3];exact r.rt j s e2 hs
 ·rcases key j _ e with ⟨_,e2,e3⟩|⟨_,e2,e3⟩
  ·rw [e2] at hs;cases hs
  ·exact r.fr j s e2 hs
 ·rcases key j _ e1 with ⟨_,z,_⟩|⟨_,z1,_⟩
  ·rw [z] at o1;cases o1
  ·rcases key k _ e2 with ⟨_,z,_⟩|⟨_,z2,_⟩
   ·rw [z] at o2;cases o2
   ·exact r.dj j k s s' hjk z1 z2 o1 o2
theorem RS.byUpd {n:Nat} {Y':L2.St} {U':DSt} (u:Upd K F n Y U Y' U') (r:RS K B F H Y U fps):RS K B F H Y' U' fps:=by
 induction u with
|refl=>exact r
|set hi hv _ ih=>exact ih (r.setS hv)
theorem RS.forget (r:RS K B F H Y U fps) (i:Nat):RS K B F H Y (U.set i .un) fps:=by
 have key:∀ (j:Nat) s,(U.set i .un)[j]?=some s->s=.un \/ (j≠i/\U[j]?=some s):=λ j s e=>by
  rw [wV] at e
  by_cases hij:i=j
  ·subst hij
   by_cases hl:i < U.length
   ·simp [hl] at e;exact .inl e.symm
   ·simp [hl] at e
  ·simp [hij] at e;exact .inr ⟨λ z=>hij z.symm,e⟩
 refine ⟨r.hh,r.ff,r.fh,r.nw,r.al,by rw [vZ];exact r.len,λ j d' e=>?_,λ j s e hs=>?_,λ j s e hs=>?_,λ j k s s' hjk e1 e2 o1 o2=>?_⟩
 ·rcases key j _ e with z|⟨_,z⟩
  ·cases z
  ·exact r.sh j d' z
 ·rcases key j _ e with z|⟨_,z⟩
  ·rw [z] at hs;cases hs
  ·exact r.rt j s z hs
 ·rcases key j _ e with z|⟨_,z⟩
  ·rw [z] at hs;cases hs
  ·exact r.fr j s z hs
 ·rcases key j _ e1 with z|⟨_,z1⟩
  ·rw [z] at o1;cases o1
  ·rcases key k _ e2 with z|⟨_,z2⟩
   ·rw [z] at o2;cases o2
   ·exact r.dj j k s s' hjk z1 z2 o1 o2
noncomputable def zg51 (B:Bs) (U:DSt) (fps:Nat->List Addr) (b:Addr):Prop:=B.H0 b=none/\∀ (j:Nat) s,U[j]?=some s->s.has=true->b ∉ fps j
theorem RS.newOk (r:RS K B F H Y U fps) {b:Addr} (h:H b=none):zg51 B U fps b:=by
 refine ⟨?_,λ j s ej hs hb=>?_⟩
 ·by_cases z:B.H0 b=none
  ·exact z
  ·exact absurd h (r.al b z)
 ·obtain ⟨x,t,a1,a2,a3,a4,a5⟩:=r.rt j s ej hs
  exact (a3.dom b hb).1 h
theorem RS.upd2 (r:RS K B F H Y U fps) {i:Nat} {s:Sl} {x:V} {t2:T} {fp2:List Addr} {F2 H2:Hp} (hi:U[i]?=some s) (ho:s.own=true) (hx:Y.getD i none=some x)
  (c1:∀ b o,b ∉ fps i->H b=some o->H2 b=some o) (c2:Same F F2) (c3:Same F2 H2) (c4:∀ b,H b≠none->F b=none->b ∉ fps i->F2 b=none) (c5:∀ b,H b≠none->H2 b≠none)
  (h2:Rt K F2 H2 x t2 fp2) (n2:fp2.Nodup) (m2:∀ b∈fp2,b∈fps i \/ zg51 B U fps b) (c6:∀ b∈fps i,F2 b≠none->B.H0 b=none) :
  RS K B F2 H2 Y (U.set i (s.wth t2)) (λ j=>if j=i then fp2 else fps j):=by
 have hlt:i < U.length:=by
  rcases wS i U.length with z|z
  ·exact z
  ·rw [wH z] at hi;cases hi
 have hs:=zu7 ho
 have wo:(s.wth t2).own=true/\(s.wth t2).has=true/\(s.wth t2).tree=some t2:=by
  cases s with
 |ow _=>exact ⟨rfl,rfl,rfl⟩
 |io _ _=>exact ⟨rfl,rfl,rfl⟩
 |un=>cases ho
 |sh _=>cases ho
 |bo _=>cases ho
 have key:∀ (j:Nat) s',(U.set i (s.wth t2))[j]?=some s'->(j=i/\s'=s.wth t2) \/ (j≠i/\U[j]?=some s'):=λ j s' e=>by
  rw [wV] at e
  by_cases hij:i=j
  ·subst hij;simp [hlt] at e;exact .inl ⟨rfl,e.symm⟩
  ·simp [hij] at e;exact .inr ⟨λ z=>hij z.symm,e⟩
 have old:∀ b∈fps i,H b≠none/\F b=none:=by
  obtain ⟨x',t',a1,a2,a3,a4,a5⟩:=r.rt i s hi hs
  exact a3.dom
 have own0:=r.fr i s hi ho
 refine ⟨λ b o hb h0=>?_,r.ff.trans c2,c3,λ b hb fb=>?_,λ b hb=>c5 b (r.al b hb),by rw [vZ];exact r.len,λ j d e=>?_,λ j s' e hs'=>?_,λ j s' e ho' a ha=>?_,λ j k s1 s2 hjk e1 e2 o1 o2 a ha=>?_⟩
 ·refine c1 b o (λ z=>?_) (r.hh b o hb h0)
  rcases own0 b z with y|y
  ·rw [y] at h0;cases h0
  ·exact hb y.1
 ·by_cases hbi:b∈fps i
  ·cases z:F2 b with
  |none=>rfl
  |some o=>exact absurd (c6 b hbi (by rw [z];simp)) hb
  ·exact c4 b (r.al b hb) (r.nw b hb fb) hbi
 ·rcases key j _ e with ⟨_,z⟩|⟨_,z⟩
  ·rw [<- z] at wo;cases wo.1
  ·obtain ⟨y,h1,h2⟩:=r.sh j d z;exact ⟨y,h1,h2.mono c2⟩
 ·rcases key j _ e with ⟨zj,z⟩|⟨zj,z⟩
  ·subst zj
   rw [if_pos rfl]
   refine ⟨x,t2,hx,by rw [z];exact wo.2.2,h2,λ a u e'=>?_,n2⟩
   obtain ⟨x',t',a1,a2,a3,a4,a5⟩:=r.rt j s hi hs
   rw [hx] at a1;cases a1
   cases s with
  |ow _=>rw [z] at e';cases e'
  |io a' u'=>rw [z] at e';cases e';exact a4 _ _ rfl
  |un=>cases ho
  |sh _=>cases ho
  |bo _=>cases ho
  ·rw [if_neg zj]
   obtain ⟨y,t',a1,a2,a3,a4,a5⟩:=r.rt j s' z hs'
   refine ⟨y,t',a1,a2,a3.frame c2 λ a ha=>?_,a4,a5⟩
   obtain ⟨d1,d2⟩:=a3.dom a ha
   have na:a ∉ fps i:=λ w=>r.dj i j s s' (λ q=>zj q.symm) hi z ho hs' a w ha
   cases q:H a with
  |none=>exact absurd q d1
  |some o=>exact ⟨c1 a o na q,c4 a d1 d2 na⟩
 ·rcases key j _ e with ⟨zj,z⟩|⟨zj,z⟩
  ·rw [if_pos zj] at ha
   rcases m2 a ha with y|y
   ·rcases own0 a y with w|⟨w1,w2⟩
    ·exact .inl w
    ·refine .inr ⟨w1,λ t et=>?_⟩
     rw [z] at et
     cases s with
    |ow t'=>exact w2 t' rfl
    |io _ _=>cases et
    |un=>cases ho
    |sh _=>cases ho
    |bo _=>cases ho
   ·exact .inl y.1
  ·rw [if_neg zj] at ha;exact r.fr j s' z ho' a ha
 ·rcases key j _ e1 with ⟨zj,z1⟩|⟨zj,z1⟩ <;> rcases key k _ e2 with ⟨zk,z2⟩|⟨zk,z2⟩
  ·exact absurd (zj.trans zk.symm) hjk
  ·rw [if_pos zj] at ha;rw [if_neg zk]
   subst zj
   rcases m2 a ha with y|y
   ·exact r.dj j k s s2 hjk hi z2 ho o2 a y
   ·exact y.2 k s2 z2 o2
  ·rw [if_neg zj] at ha;rw [if_pos zk]
   subst zk
   intro w
   rcases m2 a w with y|y
   ·exact r.dj j k s1 s hjk z1 hi o1 hs a ha y
   ·exact y.2 j s1 z1 (zu7 o1) ha
  ·rw [if_neg zj] at ha;rw [if_neg zk]
   exact r.dj j k s1 s2 hjk z1 z2 o1 o2 a ha
theorem RS.setT (r:RS K B F H Y U fps) {i:Nat} {v:V} {t:T} {fp:List Addr} (h:Rt K F H v t fp) (nd:fp.Nodup) (hf:∀ a∈fp,B.H0 a=none) (hd:∀ (j:Nat) s,U[j]?=some s->s.has=true->∀ a∈fps j,a ∉ fp) :
  RS K B F H (Y.set i (some v)) (U.set i (.ow t)) (λ j=>if j=i then fp else fps j):=by
 have key:∀ (j:Nat) s,(U.set i (.ow t))[j]?=some s->(j=i/\s=.ow t/\(Y.set i (some v)).getD j none=some v) \/ (j≠i/\U[j]?=some s/\(Y.set i (some v)).getD j none=Y.getD j none):=λ j s e=>by
  rw [wV] at e
  by_cases hij:i=j
  ·subst hij
   by_cases hl:i < U.length
   ·simp [hl] at e;exact .inl ⟨rfl,e.symm,by rw [zc2,r.len,if_pos ⟨rfl,hl⟩]⟩
   ·simp [hl] at e
  ·simp [hij] at e
   exact .inr ⟨λ z=>hij z.symm,e,by rw [zc2,if_neg (by lia)]⟩
 refine ⟨r.hh,r.ff,r.fh,r.nw,r.al,by rw [vZ,vZ];exact r.len,λ j d' e=>?_,λ j s e hs=>?_,λ j s e hs a ha=>?_,λ j k s s' hjk e1 e2 o1 o2 a ha=>?_⟩
 ·rcases key j _ e with ⟨_,e2,e3⟩|⟨_,e2,e3⟩
  ·cases e2
  ·obtain ⟨x,h1,h2⟩:=r.sh j d' e2;exact ⟨x,by rw [e3];exact h1,h2⟩
 ·rcases key j _ e with ⟨zj,e2,e3⟩|⟨zj,e2,e3⟩
  ·rw [if_pos zj,e3,e2];exact ⟨v,t,rfl,rfl,h,λ a u z=>(by cases z),nd⟩
  ·rw [if_neg zj,e3];exact r.rt j s e2 hs
 ·rcases key j _ e with ⟨zj,e2,e3⟩|⟨zj,e2,e3⟩
  ·rw [if_pos zj] at ha;exact .inl (hf a ha)
  ·rw [if_neg zj] at ha;exact r.fr j s e2 hs a ha
 ·rcases key j _ e1 with ⟨zj,z1,_⟩|⟨zj,z1,_⟩ <;> rcases key k _ e2 with ⟨zk,z2,_⟩|⟨zk,z2,_⟩
  ·exact absurd (zj.trans zk.symm) hjk
  ·rw [if_pos zj] at ha;rw [if_neg zk]
   exact λ w=>hd k s' z2 o2 a w ha
  ·rw [if_neg zj] at ha;rw [if_pos zk]
   exact hd j s z1 (zu7 o1) a ha
  ·rw [if_neg zj] at ha;rw [if_neg zk]
   exact r.dj j k s s' hjk z1 z2 o1 o2 a ha
theorem RS.put (r:RS K B F H Y U fps) {i:Nat} {s:Sl} {p:Pth} {v:V} {u:T} (hi:U[i]?=some s) (ho:s.own=true) (ha:AtS H Y U i p v u) :
  ∃ fn t,s.tree=some t/\Rt K F H v u fn/\fn.Nodup/\(∀ a∈fn,a∈fps i)/\∀ {F2 H2:Hp} {u2:T} {fq:List Addr},
   (∀ b o,b ∉ fn->H b=some o->H2 b=some o)->Same F F2->Same F2 H2->(∀ b,H b≠none->F b=none->b ∉ fn->F2 b=none)->(∀ b,H b≠none->H2 b≠none)->(∀ b∈fn,F2 b≠none->B.H0 b=none) ->
   Rt K F2 H2 v u2 fq->fq.Nodup->(∀ b∈fq,b∈fn \/ zg51 B U fps b)->∃ fps2,RS K B F2 H2 Y (U.set i (s.wth (setP t p u2))) fps2/\(∀ j,j≠i->fps2 j=fps j)/\∀ b∈fps2 i,b∈fps i \/ b∈fq:=by
 obtain ⟨s',t,x,h1,h2,h3,h4⟩:=ha
 rw [hi] at h1;cases h1
 obtain ⟨x',t',a1,a2,a3,a4,a5⟩:=r.rt i s hi (zu7 ho)
 rw [h3] at a1;cases a1
 rw [h2] at a2;cases a2
 obtain ⟨fn,hn,sub,ndn,back⟩:=zg71 h4 a3 a5
 refine ⟨fn,t,h2,hn,ndn,sub,λ {F2 H2 u2 fq} c1 c2 c3 c4 c5 c6 hu nq mq=>?_⟩
 obtain ⟨fp2,r2,n2,m2⟩:=back c2 (λ b hb hnb=>by
  obtain ⟨d1,d2⟩:=a3.dom b hb
  cases q:H b with
 |none=>exact absurd q d1
 |some o=>exact ⟨c1 b o hnb q,c4 b d1 d2 hnb⟩) hu nq λ b hb=>by
   rcases mq b hb with z|z
   ·exact .inl z
   ·exact .inr (z.2 i s hi (zu7 ho))
 refine ⟨_,r.upd2 hi ho h3 (λ b o hb=>c1 b o λ z=>hb (sub b z)) c2 c3 (λ b hb fb hbi=>c4 b hb fb λ z=>hbi (sub b z)) c5 r2 n2 (λ b hb=>?_) (λ b hb f2=>?_),λ j hj=>if_neg hj,λ b hb=>?_⟩
 ·rcases m2 b hb with ⟨y,_⟩|y
  ·exact .inl y
  ·rcases mq b y with z|z
   ·exact .inl (sub b z)
   ·exact .inr z
 ·by_cases z:b∈fn
  ·exact c6 b z f2
  ·obtain ⟨d1,d2⟩:=a3.dom b hb
   exact absurd (c4 b d1 d2 z) f2
 ·rw [if_pos rfl] at hb
  rcases m2 b hb with ⟨y,_⟩|y
  ·exact .inl y
  ·exact .inr y
end
structure Res (K:Fg) (B:Bs) (F H:Hp) (Y:L2.St) (U:DSt) (fps:Nat->List Addr) (v:V) (r:T) (fpr:List Addr):Prop where
 rs:RS K B F H Y U fps
 rt:Rt K F H v r fpr
 nd:fpr.Nodup
 fr:∀ a∈fpr,B.H0 a=none
 dj:∀ (j:Nat) s,U[j]?=some s->s.has=true->∀ a∈fps j,a ∉ fpr
noncomputable abbrev DC:=DSt->(T->DSt->Prop)->Prop
noncomputable def RfC (K:Fg) (te:TE) (dc:DC):Prop:=∀ {B:Bs} {F H:Hp} {Y:L2.St} {U:DSt} {fps:Nat->List Addr} {Qd:T->DSt->Prop} {Q:VK},RS K B F H Y U fps->dc U Qd->(∀ r U',Qd r U'->∀ v F' H' fps' fpr,Res K B F' H' Y U' fps' v r fpr->Q v H')->te Y H Q
structure DEnds where
 nx:DSt->Prop
 rt:T->DSt->Prop
 bk:DSt->Prop:=λ _=>False
 ct:DSt->Prop:=λ _=>False
noncomputable abbrev DS:=DEnds->DSt->Prop
structure En (K:Fg) (B:Bs) (E:DEnds) (Z:Ends):Prop where
 nx:∀ {F H:Hp} {Y:L2.St} {U:DSt} {fps:Nat->List Addr},RS K B F H Y U fps->E.nx U->Z.nx Y H
 bk:∀ {F H:Hp} {Y:L2.St} {U:DSt} {fps:Nat->List Addr},RS K B F H Y U fps->E.bk U->Z.bk Y H
 ct:∀ {F H:Hp} {Y:L2.St} {U:DSt} {fps:Nat->List Addr},RS K B F H Y U fps->E.ct U->Z.ct Y H
 rt:∀ {F H:Hp} {Y:L2.St} {U:DSt} {fps:Nat->List Addr} {v:V} {r:T} {fpr:List Addr},Res K B F H Y U fps v r fpr->E.rt r U->Z.rt v H
noncomputable def RfS (K:Fg) (ts:TS) (ds:DS):Prop:=∀ {B:Bs} {F H:Hp} {Y:L2.St} {U:DSt} {fps:Nat->List Addr} {E:DEnds} {Z:Ends},RS K B F H Y U fps->ds E U->En K B E Z->ts Z Y H
section
variable {K:Fg} {te ta ti:TE} {de da di:DE} {dc:DC} {tt:TT} {dt:DT} {t u tb:TS} {d e db:DS} {tA:TA} {dA:DF} {g:TG} {dg:DG} {n:Nat} {dp:DP}
noncomputable def cE (de:DE):DC:=λ U Q=>de U λ d=>Q (.fz d) U
theorem RfE.c (h:RfE K te de):RfC K te (cE de):=by
 intro B F H Y U fps Qd Q r hd k
 exact h r.fh r.rv hd λ d q v F1 H1 e1 i1=>k _ _ q v F1 H1 fps [] ⟨r.grow e1,.fz i1,.nil,λ a ha=>by simp at ha,λ _ _ _ _ a _ ha=>by simp at ha⟩
noncomputable def cF (df:DF):DC:=λ U Q=>df U λ ds=>Q (.li ds) U
theorem RfF.c {df:DF} (h:RfF K te df):RfC K te (cF df):=by
 intro B F H Y U fps Qd Q r hd k
 refine h r.fh r.rv hd λ ds q a xs F1 H1 e1 hn h1 h2 h3=>k _ _ q (.ref a) F1 H1 fps [a] ⟨r.grow e1,.li h1 h2 h3,by simp,λ b hb=>?_,λ j s ej hs b hb hb2=>?_⟩
 ·simp at hb;subst hb
  by_cases z:B.H0 b=none
  ·exact z
  ·exact absurd hn (r.al b z)
 ·simp at hb2;subst hb2
  obtain ⟨x,t,a1,a2,a3,a4,a5⟩:=r.rt j s ej hs
  exact (a3.dom b hb).1 hn
noncomputable def slot:T->Sl
|.fz d=>.sh d
|t=>.ow t
theorem Res.set {B:Bs} {F H:Hp} {Y:L2.St} {U:DSt} {fps:Nat->List Addr} {v:V} {r:T} {fpr:List Addr} (h:Res K B F H Y U fps v r fpr) (i:Nat):∃ fps',RS K B F H (Y.set i (some v)) (U.set i (slot r)) fps':=by
 cases r with
|fz d=>cases h.rt with
 |fz hi=>exact ⟨_,h.rs.setS hi⟩
|li ds=>exact ⟨_,h.rs.setT h.rt h.nd h.fr h.dj⟩
|ls ds=>exact ⟨_,h.rs.setT h.rt h.nd h.fr h.dj⟩
|ob C ds=>exact ⟨_,h.rs.setT h.rt h.nd h.fr h.dj⟩
|dk ds=>exact ⟨_,h.rs.setT h.rt h.nd h.fr h.dj⟩
|dt ds=>exact ⟨_,h.rs.setT h.rt h.nd h.fr h.dj⟩
|tp ds=>exact ⟨_,h.rs.setT h.rt h.nd h.fr h.dj⟩
noncomputable def zp51:DS:=λ E U=>E.nx U
theorem zj1:RfS K zsa1 zp51:=λ r h k=>k.nx r h
noncomputable def dSeq (a b:DS):DS:=λ E U=>∃ J:DSt->Prop,a { E with nx:=J } U/\∀ U',J U'->b E U'
theorem zk0 (h1:RfS K t d) (h2:RfS K u e):RfS K (tSeq t u) (dSeq d e):=by
 intro B F H Y U fps E Z r h k
 obtain ⟨J,ha,hb⟩:=h
 exact h1 r ha ⟨λ r' q=>h2 r' (hb _ q) k,k.bk,k.ct,k.rt⟩
noncomputable def dAsg (de:DE) (dg:DG):DS:=λ E U=>de U λ d=>dg d U E.nx
theorem zz0 (he:RfE K te de) (hg:RfG K n g dg):RfS K (tAsg te g) (dAsg de dg):=by
 intro B F H Y U fps E Z r h k
 exact he r.fh r.rv h λ d hd v F1 H1 e1 i1=>hg e1.fh i1 hd λ Y' U' q u=>k.nx ((r.grow e1).byUpd u) q
noncomputable def dSet (i:Nat) (dc:DC):DS:=λ E U=>dc U λ r U'=>E.nx (U'.set i (slot r))
theorem zf2 {i:Nat} (hc:RfC K te dc):RfS K (tAsg te (zvq i)) (dSet i dc):=by
 intro B F H Y U fps E Z r h k
 refine hc r h λ r2 U' q v F1 H1 fps1 fpr res=>?_
 obtain ⟨fps2,r3⟩:=res.set i
 exact k.nx r3 q
noncomputable def zd51 (dc:DC):DS:=λ E U=>dc U λ _ U'=>E.nx U'
theorem zl1 (hc:RfC K te dc):RfS K (zma1 te) (zd51 dc):=by
 intro B F H Y U fps E Z r h k
 exact hc r h λ r2 U' q v F1 H1 fps1 fpr res=>k.nx res.rs q
noncomputable def dRet (dc:DC):DS:=λ E U=>dc U E.rt
theorem zb2 (hc:RfC K te dc):RfS K (tRet te) (dRet dc):=by
 intro B F H Y U fps E Z r h k
 exact hc r h λ r2 U' q v F1 H1 fps1 fpr res=>k.rt res q
noncomputable def zl41 (i:Nat):DS:=λ E U=>match U[i]? with
|some (.ow t)=>E.rt t (U.set i .un)
|some (.sh d)=>E.rt (.fz d) U
|_=>False
theorem zf8 {i:Nat}:RfS K (tRet (tVar i)) (zl41 i):=by
 intro B F H Y U fps E Z r h k
 unfold zl41 at h
 split at h
 ·rename_i t q
  obtain ⟨x,t',a1,a2,a3,a4,a5⟩:=r.rt i _ q rfl
  cases a2
  refine ⟨x,zp7 (F:=F) (H:=H) (U:=U) a1,k.rt ⟨r.forget i,a3,a5,λ a ha=>(r.fr i _ q rfl a ha).elim id λ z=>absurd rfl (z.2 t),λ j s ej hs a ha hb=>?_⟩ h⟩
  rw [wV] at ej
  by_cases hij:i=j
  ·subst hij
   split at ej
   ·split at ej
    ·cases ej;cases hs
    ·cases ej
   ·rename_i z;exact absurd rfl z
  ·simp [hij] at ej
   exact r.dj i j _ s hij q ej rfl hs a hb ha
 ·rename_i d q
  obtain ⟨x,h1,h2⟩:=r.sh i d q
  exact ⟨x,zp7 (F:=F) (H:=H) (U:=U) h1,k.rt ⟨r,.fz h2,.nil,λ a ha=>by simp at ha,λ _ _ _ _ a _ ha=>by simp at ha⟩ h⟩
 ·exact h.elim
noncomputable def zr51:DS:=λ _ _=>False
theorem zte:RfS K t zr51:=λ _ h _=>h.elim
noncomputable def dIf (dt:DT) (d e:DS):DS:=λ E U=>dt U λ b=>if b=true then d E U else e E U
theorem ze9 (ht:RfT K tt dt) (h1:RfS K t d) (h2:RfS K u e):RfS K (tIfS tt t u) (dIf dt d e):=by
 intro B F H Y U fps E Z r h k
 refine ht r.fh r.rv h λ b hb F1 H1 e1=>?_
 cases b with
|true=>rw [if_pos rfl] at hb ⊢;exact h1 (r.grow e1) hb k
|false=>rw [if_neg vS] at hb ⊢;exact h2 (r.grow e1) hb k
noncomputable def dFor (di:DF) (dg:DG) (db:DS):DS:=λ E U=>di U λ items=>∃ W:Nat->DSt->Prop,W 0 U /\
 (∀ i d U',items[i]?=some d->W i U'->dg d U' λ U2=>db { E with nx:=W (i+1),ct:=W (i+1),bk:=E.nx } U2)/\∀ U',W items.length U'->E.nx U'
noncomputable def Bs.rem (B:Bs) (F1:Hp):Bs:=⟨F1,B.H0,B.G⟩
theorem RS.rem {B:Bs} {F H F1:Hp} {Y:L2.St} {U:DSt} {fps:Nat->List Addr} (r:RS K B F H Y U fps) (s0:Same B.F0 F1) (s:Same F1 F):RS K (B.rem F1) F H Y U fps :=
 ⟨r.hh,s,r.fh,λ b hb fb=>r.nw b hb (by
  cases q:B.F0 b with
 |none=>rfl
 |some o=>rw [show (B.rem F1).F0 b=F1 b from rfl,s0 b o q] at fb;cases fb),r.al,r.len,r.sh,r.rt,r.fr,r.dj⟩
theorem RS.unrem {B:Bs} {F H F1:Hp} {Y:L2.St} {U:DSt} {fps:Nat->List Addr} (r:RS K (B.rem F1) F H Y U fps) (s0:Same B.F0 F1) (n0:∀ b,B.H0 b≠none->B.F0 b=none->F1 b=none):RS K B F H Y U fps :=
 ⟨r.hh,s0.trans r.ff,r.fh,λ b hb fb=>r.nw b hb (n0 b hb fb),r.al,r.len,r.sh,r.rt,r.fr,r.dj⟩
theorem zs3 {wi:TI} {di:DF} (hi:RfI K wi di) (hg:RfG K n g dg) (hb:RfS K tb db):RfS K (tFor wi g tb) (dFor di dg db):=by
 intro B F H Y U fps E Z r h k
 refine hi r.fh r.rv h λ items hx J F1 H1 e1 wj=>?_
 obtain ⟨W,w0,ws,we⟩:=hx
 have r1:=r.grow e1
 have s0:=r1.ff
 have n0:=r1.nw
 refine ⟨λ i m Y' H'=>m=items.length - i/\i<=items.length/\∃ F' U' fps',RS K (B.rem F1) F' H' Y' U' fps'/\W i U',⟨items.length,rfl,wY _,F1,U,fps,r1.rem s0 (λ _ _ z=>z),w0⟩,?_⟩
 rintro i m Y' H' ⟨rfl,hi',F',U',fps',r',w'⟩
 obtain ⟨go,stop,yld⟩:=wj F' H' r'.ff r'.fh
 by_cases hlt:i < items.length
 ·refine .inr ⟨go i hlt,λ Y2 H2=>i+1<=items.length/\∃ F2 U2 fps2,RS K (B.rem F1) F2 H2 Y2 U2 fps2/\W (i+1) U2,λ Y2 H2 p=>⟨_,by lia,rfl,p⟩,λ x H2 y=>?_⟩
  have hit:items[i]?=some items[i]:=u5 hlt
  obtain ⟨F2,ex2,ix2⟩:=yld i x H2 _ hit y
  refine hg ex2.fh ix2 (ws i _ U' hit w') λ Y2 U2 hd2 u2=>?_
  refine hb ((r'.grow ex2).byUpd u2) hd2 ⟨λ r3 q=>⟨hlt,_,_,_,r3,q⟩,λ r3 q=>k.nx (r3.unrem s0 n0) q,λ r3 q=>⟨hlt,_,_,_,r3,q⟩,λ res q=>k.rt ⟨res.rs.unrem s0 n0,res.rt,res.nd,res.fr,res.dj⟩ q⟩
 ·have e:i=items.length:=by lia
  subst e
  exact .inl ⟨stop,k.nx (r'.unrem s0 n0) (we _ w')⟩
noncomputable def zj51 (dt:DT) (db:DS):DS:=λ E U=>∃ W:Nat->DSt->Prop,(∃ m,W m U)/\∀ m U',W m U'->dt U' λ b=>if b=true then db { E with nx:=λ U2=>∃ m',m' < m/\W m' U2,ct:=λ U2=>∃ m',m' < m/\W m' U2,bk:=E.nx } U' else E.nx U'
theorem zub (ht:RfT K tt dt) (hb:RfS K tb db):RfS K (zz31 tt tb) (zj51 dt db):=by
 intro B F H Y U fps E Z r h k
 obtain ⟨W,⟨m0,w0⟩,ws⟩:=h
 refine ⟨λ m Y' H'=>∃ F' U' fps',RS K B F' H' Y' U' fps'/\W m U',⟨m0,F,U,fps,r,w0⟩,?_⟩
 rintro m Y' H' ⟨F',U',fps',r',w'⟩
 refine ht r'.fh r'.rv (ws m U' w') λ b hb' F1 H1 e1=>?_
 cases b with
|true =>
  rw [if_pos rfl] at hb' ⊢
  refine ⟨λ Y2 H2=>∃ m',m' < m/\∃ F2 U2 fps2,RS K B F2 H2 Y2 U2 fps2/\W m' U2,λ Y2 H2 p=>p,hb (r'.grow e1) hb' ⟨λ r3 q=>?_,λ r3 q=>k.nx r3 q,λ r3 q=>?_,k.rt⟩⟩
  ·obtain ⟨m',h1,h2⟩:=q;exact ⟨m',h1,_,_,_,r3,h2⟩
  ·obtain ⟨m',h1,h2⟩:=q;exact ⟨m',h1,_,_,_,r3,h2⟩
|false =>
  rw [if_neg vS] at hb' ⊢
  exact k.nx (r'.grow e1) hb'
noncomputable def mutS (U:DSt) (i:Nat) (p:Pth) (u:T) (N:DSt->Prop):Prop:=match U[i]? with
|some (.ow t)=>N (U.set i (.ow (setP t p u)))
|some (.io a t)=>N (U.set i (.io a (setP t p u)))
|_=>False
theorem RS.mut {B:Bs} {F H:Hp} {Y:L2.St} {U:DSt} {fps:Nat->List Addr} {i:Nat} {p:Pth} {v:V} {u u2:T} {N:DSt->Prop} (r:RS K B F H Y U fps) (ha:AtS H Y U i p v u) (hm:mutS U i p u2 N) :
  ∃ fn,Rt K F H v u fn/\fn.Nodup/\(∀ a∈fn,a∈fps i)/\∀ {F2 H2:Hp} {fq:List Addr},
   (∀ b o,b ∉ fn->H b=some o->H2 b=some o)->Same F F2->Same F2 H2->(∀ b,H b≠none->F b=none->b ∉ fn->F2 b=none)->(∀ b,H b≠none->H2 b≠none)->(∀ b∈fn,F2 b≠none->B.H0 b=none) ->
   Rt K F2 H2 v u2 fq->fq.Nodup->(∀ b∈fq,b∈fn \/ zg51 B U fps b)->∃ U2 fps2,RS K B F2 H2 Y U2 fps2/\N U2/\(∀ j,j≠i->fps2 j=fps j/\U2[j]?=U[j]?)/\(∀ b∈fps2 i,b∈fps i \/ b∈fq)/\(∃ s,U[i]?=some s/\s.own=true):=by
 obtain ⟨s,hi,ho,hN⟩:∃ s,U[i]?=some s/\s.own=true/\∀ t,s.tree=some t->N (U.set i (s.wth (setP t p u2))):=by
  unfold mutS at hm
  split at hm
  ·rename_i t q
   exact ⟨_,q,rfl,λ t' e=>by cases e;exact hm⟩
  ·rename_i a t q
   exact ⟨_,q,rfl,λ t' e=>by cases e;exact hm⟩
  ·exact hm.elim
 obtain ⟨fn,t,h1,h2,h3,h4,h5⟩:=r.put hi ho ha
 refine ⟨fn,h2,h3,h4,λ {F2 H2 fq} c1 c2 c3 c4 c5 c6 hu nq mq=>?_⟩
 obtain ⟨fps2,r2,e2⟩:=h5 c1 c2 c3 c4 c5 c6 hu nq mq
 refine ⟨_,fps2,r2,hN t h1,λ j hj=>⟨e2.1 j hj,?_⟩,e2.2,s,hi,ho⟩
 rw [xD (λ z=>hj z.symm)]
theorem RS.one {B:Bs} {F H:Hp} {Y:L2.St} {U:DSt} {fps:Nat->List Addr} {i:Nat} {p:Pth} {a:Addr} {u u2:T} {o o2:HO} {N:DSt->Prop} (r:RS K B F H Y U fps) (ha:AtS H Y U i p (.ref a) u) (hm:mutS U i p u2 N) (ho:H a=some o)
  (hu:∀ fn,Rt K F H (.ref a) u fn->fn=[a]) (h2:F a=none->Rt K F (upd H a o2) (.ref a) u2 [a]):∃ U2 fps2,RS K B F (upd H a o2) Y U2 fps2/\N U2/\(∀ j,j≠i->fps2 j=fps j/\U2[j]?=U[j]?):=by
 obtain ⟨fn,hr,nd,sub,back⟩:=r.mut ha hm
 have e:=hu fn hr
 subst e
 have fa:F a=none:=(hr.dom a (by simp)).2
 obtain ⟨U2,fps2,g1,g2,g3,_⟩:=back (F2:=F) (H2:=upd H a o2) (fq:=[a]) (λ b o' hb ho'=>by rw [zw0 (λ z=>hb (by simp [z]))];exact ho') (λ _ _ z=>z) (λ b o' z=>by
   have:b≠a:=λ w=>by subst w;rw [fa] at z;cases z
   rw [zw0 this];exact r.fh b o' z) (λ b _ fb _=>fb) (λ b hb=>by
   by_cases z:b=a
   ·rw [z,zo0];simp
   ·rw [zw0 z];exact hb) (λ b hb f=>by simp at hb;subst hb;exact absurd fa f) (h2 fa) (by simp) (λ b hb=>.inl hb)
 exact ⟨U2,fps2,g1,g2,g3⟩
noncomputable abbrev FM:=T->List D->(T->D->Prop)->Prop
noncomputable def MO (K:Fg) (r:V->List V->Hp->VK->Prop) (f:FM):Prop:=∀ {F H:Hp} {v:V} {u:T} {fn:List Addr} {vs:List V} {ds:List D} {Kd:T->D->Prop} {Q:VK},Same F H->Rt K F H v u fn->IsAll K F vs ds->f u ds Kd ->
 ∃ u2 d y o o2 a,Kd u2 d/\v=.ref a/\fn=[a]/\H a=some o/\Is K F y d/\Rt K F (upd H a o2) (.ref a) u2 [a]/\(Q y (upd H a o2)->r v vs H Q)
noncomputable def tyN (T:String):L4.T->Prop
|.li _=>T = "list"
|.ls _=>T = "list"
|.dk _=>T = "dict"
|.dt _=>T = "dict"
|_=>False
theorem zc51 {F H:Hp} {T:String} {v:V} {u:L4.T} {fn:List Addr} (h:Rt K F H v u fn) (k:tyN T u):tyV K T v H:=by
 cases h with
|fz _=>exact k.elim
|li h1 _ _=>exact .inl ⟨k,_,SqL.of h1⟩
|ls h1 _ _=>exact .inl ⟨k,_,SqL.of h1⟩
|ob _ _ _ _ _=>exact k.elim
|tp _ _ _=>exact k.elim
|dk h1 _ _=>exact .inr (.inr (.inl ⟨k,.inl ⟨_,h1⟩⟩))
|dt h1 _ _=>exact .inr (.inr (.inl ⟨k,.inr ⟨_,h1⟩⟩))
theorem zga1 {F H:Hp} {v:V} {u:T} {fn:List Addr} {r:V->List V->Hp->VK->Prop} {f:FM} (hm:MO K r f) {vs:List V} {ds:List D} {Kd:T->D->Prop} {B:Bs} {Y:L2.St} {U:DSt} {fps:Nat->List Addr} {i:Nat} {p:Pth} {Qd:T->DSt->Prop} {Q:VK}
  (rs:RS K B F H Y U fps) (ha:AtS H Y U i p v u) (hv:IsAll K F vs ds) (hf:f u ds λ u2 d=>mutS U i p u2 λ U'=>Qd (.fz d) U')
  (k:∀ r U',Qd r U'->∀ v F' H' fps' fpr,Res K B F' H' Y U' fps' v r fpr->Q v H'):r v vs H Q:=by
 obtain ⟨fn,hr⟩:=ha.rt rs.rv
 obtain ⟨u2,d,y,o,o2,a,kd,rfl,e2,h3,h4,h5,h6⟩:=hm (Q:=Q) rs.fh hr hv hf
 refine h6 ?_
 obtain ⟨U2,fps2,r2,q2,_⟩:=rs.one ha kd h3 (λ fn' hr'=>by
  obtain ⟨_,_,_,_,_,a',_,e1,e2',_⟩:=hm (Q:=Q) rs.fh hr' hv hf
  cases e1;exact e2') (λ _=>h5)
 exact k _ _ q2 _ _ _ fps2 [] ⟨r2,.fz h4,.nil,λ a ha=>by simp at ha,λ _ _ _ _ a _ ha=>by simp at ha⟩
noncomputable def cBM (ty:String) (f:FM) (dp:DP) (dA:DF):DC:=λ U Q=>dp U λ i p u=>tyN ty u/\dA U λ ds=>f u ds λ u2 d=>mutS U i p u2 λ U'=>Q (.fz d) U'
theorem zjj {T:String} {r:V->List V->Hp->VK->Prop} {f:FM} (hm:MO K r f) (hp:RfP K te dp) (hA:RfA K tA dA):RfC K (tBMU K T r te tA) (cBM T f dp dA):=by
 intro B F H Y U fps Qd Q rs hd k
 refine hp rs.fh rs.rv hd λ i p u hu v F1 H1 e1 at1=>?_
 have r1:=rs.grow e1
 obtain ⟨fn,hr⟩:=at1.rt r1.rv
 refine ⟨zc51 hr hu.1,hA e1.fh r1.rv hu.2 λ ds hds vs F2 H2 e2 i2=>?_⟩
 exact zga1 hm (fn:=fn) (Kd:=λ _ _=>True) (r1.grow e2) (at1.mono e2.h) i2 hds k
noncomputable def cBM0 (ty:String) (f:FM) (dp:DP):DC:=λ U Q=>dp U λ i p u=>tyN ty u/\f u [] λ u2 d=>mutS U i p u2 λ U'=>Q (.fz d) U'
theorem zyv {T:String} {r:V->List V->Hp->VK->Prop} {f:FM} (hm:MO K r f) (hp:RfP K te dp):RfC K (zib1 K T r te) (cBM0 T f dp):=by
 intro B F H Y U fps Qd Q rs hd k
 refine hp rs.fh rs.rv hd λ i p u hu v F1 H1 e1 at1=>?_
 have r1:=rs.grow e1
 obtain ⟨fn,hr⟩:=at1.rt r1.rv
 exact ⟨zc51 hr hu.1,zga1 hm (fn:=fn) (Kd:=λ _ _=>True) r1 at1 .nil hu.2 k⟩
noncomputable def mApp:FM:=λ u ds N=>match u,ds with
|.li xs,[d]=>xs.length < sizeLine/\N (.li (xs++[d])) .none
|_,_=>False
theorem zh7:MO K zqu mApp:=by
 intro F H v u fn vs ds Kd Q s hr hv hf
 unfold mApp at hf
 split at hf
 ·obtain ⟨y,rfl,iy⟩:=all1 hv
  cases hr with
 |li h1 h2 h3 =>
   have el:=h3.dlen
   exact ⟨_,_,.non,_,.lst (_++[y]),_,hf.2,rfl,rfl,h1,.non,.li zo0 h2 (h3.dapp (.cons iy .nil)),λ q=>⟨_,_,y,rfl,rfl,h1,by lia,q⟩⟩
 ·exact hf.elim
noncomputable def mExt:FM:=λ u ds N=>match u,ds with
|.li xs,[.list es]=>xs.length+es.length<=sizeLine/\N (.li (xs++es)) .none
|_,_=>False
theorem zu11:MO K (zgq K) mExt:=by
 intro F H v u fn vs ds Kd Q s hr hv hf
 unfold mExt at hf
 split at hf
 ·obtain ⟨y,rfl,iy⟩:=all1 hv
  obtain ⟨b,ys,rfl,g1,g2⟩:=iy.list_inv
  cases hr with
 |li h1 h2 h3 =>
   have el:=h3.dlen
   have el2:=g2.dlen
   exact ⟨_,_,.non,_,.lst (_++ys),_,hf.2,rfl,rfl,h1,.non,.li zo0 h2 (h3.dapp g2),λ q=>⟨_,b,_,ys,rfl,rfl,h1,s.seq g1,by lia,q⟩⟩
 ·exact hf.elim
noncomputable def zr91:FM:=λ u ds N=>match u,ds with
|.li xs,[]=>N (.li []) .none
|_,_=>False
noncomputable def mPop:FM:=λ u ds N=>match u,ds with
|.li xs,[]=>∃ d,xs[xs.length - 1]?=some d/\N (.li xs.dropLast) d
|_,_=>False
theorem zil {F:Hp} {xs:List V} {ds:List D} (h:IsAll K F xs ds):IsAll K F xs.dropLast ds.dropLast:=by
 rw [z8,z8,h.dlen]
 exact h.dtake _
theorem zmw:MO K rPop mPop:=by
 intro F H v u fn vs ds Kd Q s hr hv hf
 unfold mPop at hf
 split at hf
 ·cases hv
  cases hr with
 |li h1 h2 h3 =>
   obtain ⟨d,ed,q⟩:=hf
   obtain ⟨y,hy,iy⟩:=h3.dget ed
   have el:=h3.dlen
   rw [<- el] at hy
   exact ⟨_,_,y,_,.lst _,_,q,rfl,rfl,h1,iy,.li zo0 h2 (zil h3),λ q=>⟨_,_,y,rfl,rfl,h1,hy,q⟩⟩
 ·exact hf.elim
end
section
variable {K:Fg} {te ta ti tv:TE} {de da di dk:DE} {dc:DC} {tt:TT} {dt:DT} {t u tb:TS} {d e db:DS} {tA:TA} {dA:DF} {g:TG} {dg:DG} {n:Nat} {dp:DP} {w:World}
noncomputable def keyD:D->Option Key
|.int i=>some (.inl i)
|.str x=>some (.inr x)
|_=>none
theorem zon {F:Hp} {v:V} {d:D} {k:Key} (h:Is K F v d) (e:keyD d=some k):v=kV k:=by
 cases h <;> simp [keyD] at e <;> subst e <;> rfl
noncomputable def zap:List D->Option (List Key)
|[]=>some []
|d :: ds=>match keyD d,zap ds with
 |some k,some ks=>some (k :: ks)
 |_,_=>none
noncomputable def keyT:D->Option (List Key)
|.tuple ds=>zap ds
|_=>none
theorem zsb {F:Hp}:∀ {xs:List V} {ds:List D} {k:List Key},IsAll K F xs ds->zap ds=some k->xs=k.map kV/\ds.all zt31=true
|_,_,_,.nil,e=>by simp [zap] at e;subst e;exact ⟨rfl,rfl⟩
|_,_,_,.cons (d:=d) h r,e=>by
  unfold zap at e
  split at e
  ·rename_i k ks h1 h2
   cases e
   obtain ⟨e1,e2⟩:=zsb r h2
   have:=zon h h1
   rw [vV,this,e1,zW,e2]
   refine ⟨rfl,?_⟩
   cases d <;> simp [keyD] at h1 <;> rfl
  ·cases e
theorem zsj {F:Hp} {v:V} {d:D} {k:List Key} (h:Is K F v d) (e:keyT d=some k):∃ b,v=.ref b/\F b=some (.tup (k.map kV)):=by
 cases h with
|tup h1 h2 =>
  obtain ⟨e1,_⟩:=zsb h2 e
  subst e1
  exact ⟨_,rfl,h1⟩
|tuc h1 h2 h3 =>
  obtain ⟨_,e2⟩:=zsb h2 e
  rw [e2] at h3;cases h3
|_=>simp [keyT] at e
noncomputable def getA {κ:Type} [DecidableEq κ] (kvs:List (κ×D)) (k:κ):Option D:=(kvs.find? λ kv=>decide (kv.1=k)).map (·.2)
noncomputable def putD {κ:Type} [DecidableEq κ] (kvs:List (κ×D)) (k:κ) (d:D):List (κ×D) :=
 if (kvs.any λ kv=>decide (kv.1=k))=true then kvs.map (λ kv=>if kv.1=k then (kv.1,d) else kv) else kvs++[(k,d)]
theorem KvIs.len {F:Hp} {κ:Type}:∀ {r:List (κ×V)} {s:List (κ×D)},KvIs K F r s->r.length=s.length
|_,_,.nil=>rfl
|_,_,.cons _ r=>congrArg (·+1) (KvIs.len r)
theorem KvIs.get {F:Hp} {κ:Type} [DecidableEq κ] {k:κ}:∀ {r:List (κ×V)} {s:List (κ×D)},KvIs K F r s->(getA s k=none/\valV r k=none) \/ ∃ d v,getA s k=some d/\valV r k=some v/\Is K F v d
|_,_,.nil=>.inl ⟨rfl,rfl⟩
|_,_,.cons (k:=k') (v:=v) (d:=d) h r=>by
  by_cases e:k'=k
  ·exact .inr ⟨d,v,by simp [getA,e],by simp [valV,e],h⟩
  ·rcases KvIs.get (k:=k) r with ⟨h1,h2⟩|⟨d',v',h1,h2,h3⟩
   ·exact .inl ⟨by simp [getA,e];simpa [getA] using h1,by simp [valV,e];simpa [valV] using h2⟩
   ·refine .inr ⟨d',v',?_,?_,h3⟩
    ·simp [getA,e];simpa [getA] using h1
    ·simp [valV,e];simpa [valV] using h2
theorem KvIs.any {F:Hp} {κ:Type} [DecidableEq κ] {k:κ}:∀ {r:List (κ×V)} {s:List (κ×D)},KvIs K F r s->(r.any λ kv=>decide (kv.1=k))=(s.any λ kv=>decide (kv.1=k))
|_,_,.nil=>rfl
|_,_,.cons _ r=>by rw [xR,xR,KvIs.any r]
theorem KvIs.app {F:Hp} {κ:Type}:∀ {r r':List (κ×V)} {s s':List (κ×D)},KvIs K F r s->KvIs K F r' s'->KvIs K F (r++r') (s++s')
|_,_,_,_,.nil,h=>h
|_,_,_,_,.cons h r,h'=>.cons h (r.app h')
theorem KvIs.map {F:Hp} {κ:Type} [DecidableEq κ] {k:κ} {v:V} {d:D} (hv:Is K F v d):∀ {r:List (κ×V)} {s:List (κ×D)},KvIs K F r s->KvIs K F (r.map λ kv=>if kv.1=k then (kv.1,v) else kv) (s.map λ kv=>if kv.1=k then (kv.1,d) else kv)
|_,_,.nil=>.nil
|_,_,.cons (k:=k') h r=>by
  by_cases e:k'=k
  ·simp only [vV,e,if_true];exact .cons hv (r.map hv)
  ·simp only [vV,e,if_false];exact .cons h (r.map hv)
theorem KvIs.put {F:Hp} {κ:Type} [DecidableEq κ] {k:κ} {v:V} {d:D} (hv:Is K F v d) {r:List (κ×V)} {s:List (κ×D)} (h:KvIs K F r s):KvIs K F (putK r k v) (putD s k d):=by
 unfold putK putD
 rw [h.any]
 split
 ·exact h.map hv
 ·exact h.app (.cons hv .nil)
noncomputable def fPut (u:T) (k d:D) (N:T->Prop):Prop:=match u with
|.li ds=>match k with
 |.int z=>∃ j,ixN ds.length z=some j/\N (.li (ds.set j d))
 |_=>False
|.dk kvs=>∃ key,keyD k=some key/\kvs.length < sizeLine/\N (.dk (putD kvs key d))
|.dt kvs=>∃ key,keyT k=some key/\kvs.length < sizeLine/\N (.dt (putD kvs key d))
|_=>False
theorem znr {B:Bs} {F H:Hp} {Y:L2.St} {U:DSt} {fps:Nat->List Addr} {i:Nat} {p:Pth} {v kv y:V} {u:T} {k d:D} {N:DSt->Prop} {Q:Hp->Prop} (rs:RS K B F H Y U fps) (ha:AtS H Y U i p v u) (hk:Is K F kv k) (hy:Is K F y d)
  (hf:fPut u k d λ u2=>mutS U i p u2 N) (q:∀ U2 fps2 H2,RS K B F H2 Y U2 fps2->N U2->Q H2):ztq v kv y H Q:=by
 obtain ⟨fn,hr⟩:=ha.rt rs.rv
 cases hr with
|li h1 h2 h3 =>
  simp only [fPut] at hf
  split at hf
  ·rename_i z
   obtain ⟨j,ej,hm⟩:=hf
   cases hk.int_inv
   have el:=h3.dlen
   obtain ⟨U2,fps2,r2,n2,_⟩:=rs.one (o2:=.lst (_)) ha hm h1 (λ fn' hr'=>by cases hr';rfl) (λ fa=>.li zo0 fa (h3.dset hy j))
   exact .inl ⟨_,_,z,j,rfl,rfl,h1,by rw [el];exact ej,q _ _ _ r2 n2⟩
  ·exact hf.elim
|dk h1 h2 h3 =>
  simp only [fPut] at hf
  obtain ⟨key,ek,hl,hm⟩:=hf
  have:=zon hk ek
  subst this
  have el:=h3.len
  obtain ⟨U2,fps2,r2,n2,_⟩:=rs.one (o2:=.dK _) ha hm h1 (λ fn' hr'=>by cases hr';rfl) (λ fa=>.dk zo0 fa (h3.put (k:=key) hy))
  exact .inr ⟨_,_,rfl,DPut.k h1 (by lia),q _ _ _ r2 n2⟩
|fz _=>exact hf.elim
|ls _ _ _=>exact hf.elim
|ob _ _ _ _ _=>exact hf.elim
|tp _ _ _=>exact hf.elim
|dt h1 h2 h3 =>
  simp only [fPut] at hf
  obtain ⟨key,ek,hl,hm⟩:=hf
  obtain ⟨kb,rfl,hb⟩:=zsj hk ek
  have el:=h3.len
  obtain ⟨U2,fps2,r2,n2,_⟩:=rs.one (o2:=.dT _) ha hm h1 (λ fn' hr'=>by cases hr';rfl) (λ fa=>.dt zo0 fa (h3.put (k:=key) hy))
  exact .inr ⟨_,_,rfl,DPut.t h1 (rs.fh _ _ hb) (by lia),q _ _ _ r2 n2⟩
noncomputable def dPut (dp:DP) (dk de:DE):DS:=λ E U=>de U λ d=>dp U λ i p u=>dk U λ k=>fPut u k d λ u2=>mutS U i p u2 E.nx
theorem zmp (he:RfE K te de) (hp:RfP K ta dp) (hk:RfE K ti dk):RfS K (tAsg te (gSub ta ti ztq)) (dPut dp dk de):=by
 intro B F H Y U fps E Z r h k
 refine he r.fh r.rv h λ d hd y F1 H1 e1 i1=>?_
 have r1:=r.grow e1
 refine hp r1.fh r1.rv hd λ i p u hu v F2 H2 e2 at2=>?_
 have r2:=r1.grow e2
 refine hk r2.fh r2.rv hu λ kd hkd kv F3 H3 e3 i3=>?_
 exact znr (r2.grow e3) (at2.mono e3.h) i3 (i1.mono (e2.f.trans e3.f)) hkd λ U2 fps2 H4 r4 n4=>k.nx r4 n4
noncomputable def fGet (u:T) (k:D) (Q:D->Prop):Prop:=match u with
|.li ds=>match k with
 |.int z=>0<=z/\∃ d,ds[z.toNat]?=some d/\Q d
 |_=>False
|.dk kvs=>∃ key d,keyD k=some key/\getA kvs key=some d/\Q d
|.dt kvs=>∃ key d,keyT k=some key/\getA kvs key=some d/\Q d
|_=>False
theorem zxr {F H:Hp} {v kv:V} {u:T} {fn:List Addr} {k:D} {Qd:D->Prop} {Q:VK} (s:Same F H) (hr:Rt K F H v u fn) (hk:Is K F kv k) (hf:fGet u k Qd) (q:∀ d y,Qd d->Is K F y d->Q y H):zp41 K v kv H Q:=by
 cases hr with
|li h1 h2 h3 =>
  simp only [fGet] at hf
  split at hf
  ·rename_i z
   obtain ⟨z0,d,ed,qd⟩:=hf
   cases hk.int_inv
   obtain ⟨y,hy,iy⟩:=h3.dget ed
   exact .inl ⟨_,_,z,y,rfl,rfl,z0,SqL.of h1,hy,q d y qd iy⟩
  ·exact hf.elim
|dk h1 h2 h3 =>
  simp only [fGet] at hf
  obtain ⟨key,d,ek,ed,qd⟩:=hf
  have:=zon hk ek
  subst this
  rcases h3.get (k:=key) with ⟨g1,_⟩|⟨d',y,g1,g2,g3⟩
  ·rw [g1] at ed;cases ed
  ·rw [g1] at ed;cases ed
   exact .inr ⟨_,y,rfl,by rw [<- g2];exact DGet.k h1,q d y qd g3⟩
|fz _=>exact hf.elim
|ls _ _ _=>exact hf.elim
|ob _ _ _ _ _=>exact hf.elim
|tp _ _ _=>exact hf.elim
|dt h1 h2 h3 =>
  simp only [fGet] at hf
  obtain ⟨key,d,ek,ed,qd⟩:=hf
  obtain ⟨kb,rfl,hb⟩:=zsj hk ek
  rcases h3.get (k:=key) with ⟨g1,_⟩|⟨d',y,g1,g2,g3⟩
  ·rw [g1] at ed;cases ed
  ·rw [g1] at ed;cases ed
   exact .inr ⟨_,y,rfl,by rw [<- g2];exact DGet.t h1 (s _ _ hb),q d y qd g3⟩
noncomputable def fII (f:Int->Int->Int) (x y:D) (Q:D->Prop):Prop:=match x,y with
|.int i,.int j=>Q (.int (f i j))
|_,_=>False
noncomputable def zwa1 (f:Int->Int->Int) (dp:DP) (dk de:DE):DS:=λ E U=>dp U λ i p u=>dk U λ k=>fGet u k λ x=>de U λ y=>fII f x y λ z=>fPut u k z λ u2=>mutS U i p u2 E.nx
theorem zcn {f:Int->Int->Int} (hp:RfP K ta dp) (hk:RfE K ti dk) (he:RfE K te de):RfS K (zn71 ta ti te (zp41 K) (ipI f) ztq) (zwa1 f dp dk de):=by
 intro B F H Y U fps E Z r h k
 refine hp r.fh r.rv h λ i p u hu v F1 H1 e1 at1=>?_
 have r1:=r.grow e1
 refine hk r1.fh r1.rv hu λ kd hkd kv F2 H2 e2 i2=>?_
 have r2:=r1.grow e2
 have at2:=at1.mono e2.h
 obtain ⟨fn,hr⟩:=at2.rt r2.rv
 refine zxr r2.fh hr i2 hkd λ x xv hx ix=>he r2.fh r2.rv hx λ y hy yv F3 H3 e3 i3=>?_
 unfold fII at hy
 split at hy
 ·cases ix.int_inv
  cases i3.int_inv
  refine ⟨_,_,rfl,rfl,?_⟩
  exact znr (r2.grow e3) (at2.mono e3.h) (i2.mono e3.f) (.int _) hy λ U2 fps2 H4 r4 n4=>k.nx r4 n4
 ·exact hy.elim
noncomputable def dAug (i:Nat) (f:Int->Int->Int) (de:DE):DS:=λ E U=>match U[i]? with
|some (.sh x)=>de U λ y=>fII f x y λ z=>E.nx (U.set i (.sh z))
|_=>False
theorem zs01 {i:Nat} {f:Int->Int->Int} (he:RfE K te de):RfS K (tAug i te (ipI f)) (dAug i f de):=by
 intro B F H Y U fps E Z r h k
 unfold dAug at h
 split at h
 ·rename_i x q
  obtain ⟨v,e0,i0⟩:=r.sh i _ q
  refine ⟨_,zp7 (F:=F) (H:=H) (U:=U) e0,he r.fh r.rv h λ d hd v2 F1 H1 e1 i1=>?_⟩
  unfold fII at hd
  split at hd
  ·cases i0.int_inv
   cases i1.int_inv
   exact ⟨_,_,rfl,rfl,k.nx ((r.grow e1).setS (.int _)) hd⟩
  ·exact hd.elim
 ·exact h.elim
noncomputable def nGet (dp:DP) (dk:DE):DE:=λ U Q=>dp U λ _ _ u=>dk U λ k=>fGet u k Q
theorem zrp (hp:RfP K ta dp) (hk:RfE K ti dk):RfE K (tOp (rIxV w K) ta ti) (nGet dp dk):=by
 intro F H Y U Qd Q s rv h k
 refine hp s rv h λ i p u hu v F1 H1 e1 at1=>hk e1.fh (rv.ext e1) hu λ kd hkd kv F2 H2 e2 i2=>?_
 have e12:=e1.trans e2
 obtain ⟨fn,hr⟩:=(at1.mono e2.h).rt (rv.ext e12)
 rcases zxr (Q:=Q) e12.fh hr i2 hkd λ d y qd iy=>k d qd y F2 H2 e12 iy with ⟨a,xs,j,y,rfl,rfl,j0,h1,h2,q⟩|q
 ·exact .inl (.inl (.inl ⟨a,xs,j,y,rfl,rfl,h1,at_nat' j0 h2,q⟩))
 ·exact .inr q
end
section
variable {K:Fg} {te ta ti tv:TE} {de da di dk:DE} {dc:DC} {tt:TT} {dt:DT} {t u tb:TS} {d e db:DS} {tA:TA} {dA:DF} {g:TG} {dg:DG} {n:Nat} {dp:DP} {w:World}
theorem zqq {F H:Hp} {p:Addr} {o:HO} (s:Same F H) (hn:H p=none):Ext F H F (upd H p o) :=
 ⟨zq2 hn _,λ _ _ z=>z,λ b o z=>zq2 hn _ b o (s b o z),λ _ _ z=>z⟩
noncomputable def fHas (neg:Bool) (u:T) (k:D) (Q:D->Prop):Prop:=match u with
|.dk kvs=>∃ key,keyD k=some key/\Q (.bool (if neg then !(getA kvs key).isSome else (getA kvs key).isSome))
|.dt kvs=>∃ key,keyT k=some key/\Q (.bool (if neg then !(getA kvs key).isSome else (getA kvs key).isSome))
|_=>False
noncomputable def nIn (neg:Bool) (dk:DE) (dp:DP):DE:=λ U Q=>dk U λ k=>dp U λ _ _ u=>fHas neg u k Q
theorem zy31 {F H:Hp} {v kv:V} {u:T} {fn:List Addr} {k:D} {Qd:D->Prop} {neg:Bool} (s:Same F H) (hr:Rt K F H v u fn) (hk:Is K F kv k) (hf:fHas neg u k Qd):∃ a o,v=.ref a/\DGet H a kv o/\Qd (.bool (if neg then !o.isSome else o.isSome)):=by
 cases hr with
|dk h1 h2 h3 =>
  obtain ⟨key,ek,q⟩:=hf
  have:=zon hk ek
  subst this
  rcases h3.get (k:=key) with ⟨g1,g2⟩|⟨d',y,g1,g2,g3⟩
  ·rw [g1] at q;exact ⟨_,none,rfl,by rw [<- g2];exact DGet.k h1,q⟩
  ·rw [g1] at q;exact ⟨_,some y,rfl,by rw [<- g2];exact DGet.k h1,q⟩
|fz _=>exact hf.elim
|li _ _ _=>exact hf.elim
|ls _ _ _=>exact hf.elim
|ob _ _ _ _ _=>exact hf.elim
|tp _ _ _=>exact hf.elim
|dt h1 h2 h3 =>
  obtain ⟨key,ek,q⟩:=hf
  obtain ⟨kb,rfl,hb⟩:=zsj hk ek
  rcases h3.get (k:=key) with ⟨g1,g2⟩|⟨d',y,g1,g2,g3⟩
  ·rw [g1] at q;exact ⟨_,none,rfl,by rw [<- g2];exact DGet.t h1 (s _ _ hb),q⟩
  ·rw [g1] at q;exact ⟨_,some y,rfl,by rw [<- g2];exact DGet.t h1 (s _ _ hb),q⟩
theorem zd91 (hk:RfE K ti dk) (hp:RfP K ta dp):RfE K (tOp (rInV w K) ti ta) (nIn false dk dp):=by
 intro F H Y U Qd Q s rv h k
 refine hk s rv h λ kd hkd kv F1 H1 e1 i1=>hp e1.fh (rv.ext e1) hkd λ i p u hu v F2 H2 e2 at2=>?_
 have e12:=e1.trans e2
 obtain ⟨fn,hr⟩:=at2.rt (rv.ext e12)
 obtain ⟨a,o,rfl,g,q⟩:=zy31 e12.fh hr (i1.mono e2.f) hu
 exact .inr ⟨a,o,rfl,g,k _ q _ F2 H2 e12 (.bl _)⟩
theorem zzz (hk:RfE K ti dk) (hp:RfP K ta dp):RfE K (tOp (zju w K) ti ta) (nIn true dk dp):=by
 intro F H Y U Qd Q s rv h k
 refine hk s rv h λ kd hkd kv F1 H1 e1 i1=>hp e1.fh (rv.ext e1) hkd λ i p u hu v F2 H2 e2 at2=>?_
 have e12:=e1.trans e2
 obtain ⟨fn,hr⟩:=at2.rt (rv.ext e12)
 obtain ⟨a,o,rfl,g,q⟩:=zy31 e12.fh hr (i1.mono e2.f) hu
 exact .inr ⟨a,o,rfl,g,k _ q _ F2 H2 e12 (.bl _)⟩
noncomputable def cDT:DC:=λ U Q=>Q (.dt []) U
theorem znd1:RfC K zn31 cDT:=by
 intro B F H Y U fps Qd Q r hd k
 intro p hp
 have fn:F p=none:=by
  cases e:F p with
 |none=>rfl
 |some o=>rw [r.fh p o e] at hp;cases hp
 refine k _ _ hd (.ref p) F _ fps [p] ⟨r.grow (zqq r.fh hp),.dt zo0 fn .nil,by simp,λ b hb=>?_,λ j s ej hs b hb hb2=>?_⟩
 ·simp at hb;subst hb
  by_cases z:B.H0 b=none
  ·exact z
  ·exact absurd hp (r.al b z)
 ·simp at hb2;subst hb2
  obtain ⟨x,t,a1,a2,a3,a4,a5⟩:=r.rt j s ej hs
  exact (a3.dom b hb).1 hp
noncomputable abbrev DN:=DSt->(T->Prop)->Prop
noncomputable def RfN (K:Fg) (te:TE) (dn:DN):Prop:=∀ {F H:Hp} {Y:L2.St} {U:DSt} {Qd:T->Prop} {Q:VK},Same F H->RV K F H Y U->dn U Qd->(∀ r,Qd r->∀ v F' H' fp,Ext F H F' H'->Rt K F' H' v r fp->fp.Nodup->(∀ a∈fp,H a=none)->Q v H')->te Y H Q
noncomputable def nE (de:DE):DN:=λ U Q=>de U λ d=>Q (.fz d)
noncomputable def nF (df:DF):DN:=λ U Q=>df U λ ds=>Q (.li ds)
theorem RfF.new {df:DF} (h:RfF K te df):RfN K te (nF df):=λ s r d k=>h s r d λ ds q a xs F' H' e hn h1 h2 h3=>k _ q (.ref a) F' H' [a] e (.li h1 h2 h3) (by simp) λ b hb=>by simp at hb;subst hb;exact hn
noncomputable def cN (dn:DN):DC:=λ U Q=>dn U λ r=>Q r U
theorem RfN.c {dn:DN} (h:RfN K te dn):RfC K te (cN dn):=by
 intro B F H Y U fps Qd Q r hd k
 refine h r.fh r.rv hd λ r2 q v F1 H1 fp e1 hr nd fr=>k _ _ q v F1 H1 fps fp ⟨r.grow e1,hr,nd,λ a ha=>?_,λ j s ej hs b hb hb2=>?_⟩
 ·by_cases z:B.H0 a=none
  ·exact z
  ·exact absurd (fr a ha) (r.al a z)
 ·obtain ⟨x,t,a1,a2,a3,a4,a5⟩:=r.rt j s ej hs
  exact (a3.dom b hb).1 (fr b hb2)
theorem RtAll.app {F H:Hp}:∀ {xs ys:List V} {ts us:List T} {fp fq:List Addr},RtAll K F H xs ts fp->RtAll K F H ys us fq->RtAll K F H (xs++ys) (ts++us) (fp++fq)
|_,_,_,_,_,_,.nil,h=>h
|_,_,_,_,_,_,.cons h r,h'=>by rw [wC];exact .cons h (r.app h')
noncomputable def zq81 (di:DF) (n:Nat) (ix:List Nat) (dg:DG) (dn:DN):DN:=λ U Q=>di U λ items=>items.length<=sizeLine/\∃ R:Nat->T->Prop,
 (∀ i d,items[i]?=some d->dg d (cST n ix U) λ U'=>dn U' λ r=>R i r)/\∀ rs:List T,rs.length=items.length->(∀ (j:Nat) r,rs[j]?=some r->R j r)->Q (.ls rs)
theorem zxi {wi:TI} {di:DF} {ix:List Nat} {dn:DN} (hi:RfJ K wi di) (hg:RfG K n g dg) (he:RfN K te dn):RfN K (zt41 wi n ix g zi81 te) (zq81 di n ix dg dn):=by
 intro F H Y U Qd Q s rv hd k
 refine hi s rv hd λ items hx J F1 H1 e1 wj D hD=>?_
 obtain ⟨hz,R,hR,hQ⟩:=hx
 have rv1:=zb21 n ix (rv.ext e1)
 have F1D:F1 D=none:=by
  cases q:F1 D with
 |none=>rfl
 |some o=>rw [e1.fh D o q] at hD;cases hD
 refine ⟨λ i m acc Y' H'=>m=items.length - i/\i<=items.length/\Y'.length=(compY n ix Y).length/\(∀ j,n<=j->Y'.getD j none=(compY n ix Y).getD j none)/\∃ (F':Hp) (rs:List T) (fpA:List Addr),Ext F1 H1 F' H'/\F' D=none/\H' D=some (.lst acc)/\rs.length=i/\(∀ (j:Nat) r,rs[j]?=some r->R j r)/\RtAll K F' H' acc rs fpA/\fpA.Nodup/\(∀ a∈fpA,H1 a=none/\a≠D),
  ⟨items.length,rfl,wY _,rfl,λ _ _=>rfl,F1,[],[],?_,F1D,zo0,rfl,λ j o e=>by simp at e,.nil,.nil,λ a ha=>by simp at ha⟩,?_⟩
 ·exact (zl6 (xs:=[]) e1.fh hD).1
 rintro i m acc Y' H' ⟨rfl,hi',hl,hk,F',rs,fpA,ex,fD,hDD,hrs,hRs,hall,ndA,frA⟩
 obtain ⟨go,stop,yld⟩:=wj F' H' ex
 by_cases hlt:i < items.length
 ·refine .inr ⟨go i hlt,λ acc' Y2 H2=>i+1<=items.length/\Y2.length=(compY n ix Y).length/\(∀ j,n<=j->Y2.getD j none=(compY n ix Y).getD j none)/\∃ (F':Hp) (rs:List T) (fpA:List Addr),Ext F1 H1 F' H2/\F' D=none/\H2 D=some (.lst acc')/\rs.length=i+1/\(∀ (j:Nat) r,rs[j]?=some r->R j r)/\RtAll K F' H2 acc' rs fpA/\fpA.Nodup/\(∀ a∈fpA,H1 a=none/\a≠D),λ acc' Y2 H2 p=>⟨items.length - (i+1),by lia,rfl,p⟩,λ x H2 y=>?_⟩
  have hit:items[i]?=some items[i]:=u5 hlt
  obtain ⟨F2,ex2,ix2⟩:=yld i x H2 _ hit y
  have rv2:RV K F2 H2 Y' (cST n ix U):=RV.caps (rv1.ext (ex.trans ex2)) hl hk
  refine hg ex2.fh ix2 (hR i _ hit) λ Y2 U2 hd2 u2=>?_
  have rv3:=u2.rv rv2
  have kp:=u2.keep
  have hl2:Y2.length=(compY n ix Y).length:=by rw [kp.1,hl]
  have hk2:∀ j,n<=j->Y2.getD j none=(compY n ix Y).getD j none:=λ j hj=>by rw [kp.2 j hj,hk j hj]
  show te Y2 H2 _
  refine he ex2.fh rv3 hd2 λ r hr v F5 H5 fp e5 i5 nd5 fr5=>?_
  have e25:=ex2.trans e5
  have hD2:H2 D=some (.lst acc):=ex2.h _ _ hDD
  have hD5:H5 D=some (.lst acc):=e25.h _ _ hDD
  have fD5:F5 D=none:=e25.nw D (by rw [hDD];simp) fD
  have hlen:acc.length<=i:=by rw [hall.len,hrs];exact u8 _
  have e15:=ex.trans e25
  have hall5:RtAll K F5 H5 acc rs fpA:=hall.frame e25.f λ a ha=>by
   obtain ⟨d1,d2⟩:=hall.dom a ha
   cases q:H' a with
  |none=>exact absurd q d1
  |some o=>exact ⟨e25.h a o q,e25.nw a d1 d2⟩
  have frN:∀ a∈fp,H1 a=none/\a≠D:=λ a ha=>⟨zi2 (ex.trans ex2) (fr5 a ha),λ z=>by subst z;rw [fr5 a ha] at hD2;cases hD2⟩
  refine ⟨hD5,by lia,hlt,hl2,hk2,F5,rs++[r],fpA++fp,⟨λ b o hb=>?_,e15.f,λ b o hb=>?_,e15.nw⟩,fD5,zo0,by simp [hrs],λ j r' e=>?_,?_,?_,λ a ha=>?_⟩
  ·have:b≠D:=λ z=>by subst z;rw [hD] at hb;cases hb
   rw [zw0 this];exact e15.h b o hb
  ·have:b≠D:=λ z=>by subst z;rw [fD5] at hb;cases hb
   rw [zw0 this];exact e15.fh b o hb
  ·rcases z6 j rs.length with h|h|h
   ·rw [wR h] at e;exact hRs j r' e
   ·subst h;rw [wM (u8 _)] at e;simp at e;subst e;rw [hrs];exact hr
   ·rw [wM (xX h)] at e
    cases q:j - rs.length with
   |zero=>lia
   |succ z=>rw [q] at e;simp at e
  ·have z1:RtAll K F5 (upd H5 D (.lst (acc++[v]))) acc rs fpA:=hall5.frame (λ _ _ z=>z) λ a ha=>⟨zw0 (frA a ha).2,(hall5.dom a ha).2⟩
   have z2:Rt K F5 (upd H5 D (.lst (acc++[v]))) v r fp:=i5.frame (λ _ _ z=>z) λ a ha=>⟨zw0 (frN a ha).2,(i5.dom a ha).2⟩
   have:=z1.app (RtAll.cons z2 .nil)
   rwa [wI] at this
  ·refine wG.mpr ⟨ndA,nd5,λ a ha b hb z=>?_⟩
   subst z
   have:=(hall.dom a ha).1
   exact this (zi2 ex2 (fr5 a hb))
  ·rcases vK.mp ha with z|z
   ·exact frA a z
   ·exact frN a z
 ·have e:i=items.length:=by lia
  refine .inl ⟨by rw [e];exact stop,k _ (hQ rs (by lia) hRs) (.ref D) F' H' (D :: fpA) (e1.trans ex) (.ls hDD fD hall) (vY.mpr ⟨λ z=>(frA D z).2 rfl,ndA⟩) λ a ha=>?_⟩
  rcases vN.mp ha with z|z
  ·rw [z];exact zi2 e1 hD
  ·exact zi2 e1 (frA a z).1
end
section
variable {K:Fg} {te ta ti tv:TE} {de da di dk:DE} {dc:DC} {tt:TT} {dt:DT} {t u tb:TS} {d e db:DS} {tA:TA} {dA:DF} {g:TG} {dg:DG} {n:Nat} {dp:DP} {w:World}
noncomputable def nSet (f:Str) (u r:T) (N:T->Prop):Prop:=match u with
|.ob C fs=>fs.length < 1000/\N (.ob C (putA f r fs))
|_=>False
theorem Res.grow {B:Bs} {F H F' H':Hp} {Y:L2.St} {U:DSt} {fps:Nat->List Addr} {v:V} {r:T} {fpr:List Addr} (h:Res K B F H Y U fps v r fpr) (e:Ext F H F' H'):Res K B F' H' Y U fps v r fpr :=
 ⟨h.rs.grow e,h.rt.ext e,h.nd,h.fr,h.dj⟩
theorem zl21 {B:Bs} {F H:Hp} {Y:L2.St} {U:DSt} {fps:Nat->List Addr} {y:V} {r:T} {fpr:List Addr} {i:Nat} {p:Pth} {a C dx:Addr} {fs:List (Str×V)} {ts:List (Str×T)} {f:Str} {N:DSt->Prop}
  (res:Res K B F H Y U fps y r fpr) (ha:AtS H Y U i p (.ref a) (.ob C ts)) (hH:H a=some (.ins C dx fs)) (hm:mutS U i p (.ob C (putA f r ts)) N):∃ U2 fps2,RS K B F (upd H a (.ins C dx (putF f y fs))) Y U2 fps2/\N U2:=by
 obtain ⟨fn,hr,nd,sub,back⟩:=res.rs.mut ha hm
 obtain ⟨s,hs,ho⟩:∃ s,U[i]?=some s/\s.own=true:=by
  unfold mutS at hm
  split at hm
  ·rename_i t q;exact ⟨_,q,rfl⟩
  ·rename_i a t q;exact ⟨_,q,rfl⟩
  ·exact hm.elim
 have dis:∀ b∈fn,b ∉ fpr:=λ b hb=>res.dj i s hs (zu7 ho) b (sub b hb)
 cases hr with
|ob g1 g2 g3 g4 g5 =>
  rename_i dx' fs' fp
  rw [hH] at g1;cases g1
  have nd1:=vY.mp nd
  have nd2:=vY.mp nd1.2
  have na:a ∉ fp:=λ z=>nd1.1 (vU _ z)
  have nx:dx≠a:=λ z=>nd1.1 (by rw [z];simp)
  have nxf:dx ∉ fp:=nd2.1
  have dp':∀ b∈fp,b ∉ fpr:=λ b hb=>dis b (by simp [hb])
  have ra:a ∉ fpr:=dis a (by simp)
  have rx:dx ∉ fpr:=dis dx (by simp)
  have hy:Rt K F (upd H a (.ins C dx (putF f y fs))) y r fpr:=res.rt.frame (λ _ _ z=>z) λ b hb=>⟨zw0 λ z=>by subst z;exact ra hb,(res.rt.dom b hb).2⟩
  have fr0:∀ b∈fp,upd H a (.ins C dx (putF f y fs)) b=H b/\F b=none:=λ b hb=>⟨zw0 λ z=>by subst z;exact na hb,(g5.dom b hb).2⟩
  obtain ⟨fq,hq,ndq,mq⟩:∃ fq,RtFs K F (upd H a (.ins C dx (putF f y fs))) (putF f y fs) (putA f r ts) fq/\fq.Nodup/\∀ b∈fq,b∈fp \/ b∈fpr:=by
   cases q:ts.lookup f with
  |none =>
    refine ⟨fp++fpr,RtFs.add (λ _ _ z=>z) hy g5 q fr0,wG.mpr ⟨nd2.2,res.nd,λ b hb c hc z=>?_⟩,λ b hb=>vK.mp hb⟩
    subst z;exact dp' b hb hc
  |some t0 =>
    obtain ⟨x0,ex⟩:=(g5.keys f).2.1 t0 q
    obtain ⟨fA,fj,fB,e,hj,_,rep⟩:=g5.split ex q
    subst e
    obtain ⟨ndA,ndJB,djA⟩:=wG.mp nd2.2
    obtain ⟨ndj,ndB,djB⟩:=wG.mp ndJB
    refine ⟨fA++(fpr++fB),rep (λ _ _ z=>z) (λ b hb=>fr0 b (by rcases vK.mp hb with z|z <;> simp [z])) hy,wG.mpr ⟨ndA,wG.mpr ⟨res.nd,ndB,λ b hb c hc z=>?_⟩,λ b hb c hc z=>?_⟩,λ b hb=>?_⟩
    ·subst z;exact dp' b (by simp [hc]) hb
    ·subst z
     rcases vK.mp hc with z|z
     ·exact dp' b (by simp [hb]) z
     ·exact djA b hb b (by simp [z]) rfl
    ·rcases vK.mp hb with z|z
     ·exact .inl (by simp [z])
     ·rcases vK.mp z with z|z
      ·exact .inr z
      ·exact .inl (by simp [z])
  obtain ⟨U2,fps2,r2,n2,_⟩:=back (F2:=F) (H2:=upd H a (.ins C dx (putF f y fs))) (fq:=a :: dx :: fq) (λ b o hb hbo=>by rw [zw0 (λ z=>hb (by simp [z]))];exact hbo) (λ _ _ z=>z) (λ b o z=>by
    have:b≠a:=λ q=>by subst q;rw [g3] at z;cases z
    rw [zw0 this];exact res.rs.fh b o z) (λ b _ fb _=>fb) (λ b hb=>by
    by_cases z:b=a
    ·rw [z,zo0];simp
    ·rw [zw0 z];exact hb) (λ b hb hf=>by
    have:F b=none:=by
     rcases vN.mp hb with z|z
     ·rw [z];exact g3
     ·rcases vN.mp z with z|z
      ·rw [z];exact g4
      ·exact (g5.dom b z).2
    exact absurd this hf) (.ob zo0 (by rw [zw0 nx];exact g2) g3 g4 hq) (vY.mpr ⟨λ z=>by
    rcases vN.mp z with y|y
    ·exact nx y.symm
    ·rcases mq a y with y|y
     ·exact na y
     ·exact ra y,vY.mpr ⟨λ z=>by
    rcases mq dx z with y|y
    ·exact nxf y
    ·exact rx y,ndq⟩⟩) (λ b hb=>by
    rcases vN.mp hb with z|z
    ·exact .inl (by simp [z])
    ·rcases vN.mp z with z|z
     ·exact .inl (by simp [z])
     ·rcases mq b z with z|z
      ·exact .inl (by simp [z])
      ·exact .inr ⟨res.fr b z,λ j s' ej hs' hbj=>res.dj j s' ej hs' b hbj z⟩)
  exact ⟨U2,fps2,r2,n2⟩
noncomputable def dFld (C:Addr) (f:Str) (dc:DC) (dp:DP):DS:=λ E U=>dc U λ r U1=>dp U1 λ i p u=>nCls C u/\nSet f u r λ u2=>mutS U1 i p u2 E.nx
theorem zj5 {C:Addr} {f:Str} (c:Cls K C) (na:NoAttr K C f) (hc:RfC K tv dc) (hp:RfP K ta dp):RfS K (sFld K ta tv f) (dFld C f dc dp):=by
 intro B F H Y U fps E Z r h k
 refine hc r h λ r2 U1 q y F1 H1 fps1 fpr res=>hp res.rs.fh res.rs.rv q λ i p u hu v F2 H2 e2 at2=>?_
 have res2:=res.grow e2
 obtain ⟨fn,hr⟩:=at2.rt res2.rs.rv
 cases hr with
|ob g1 g2 g3 g4 g5 =>
  obtain ⟨hcl,hl,hm⟩:=hu
  cases (show _=C from hcl)
  have len:=(g5.keys f).2.2
  obtain ⟨U2,fps2,r3,n3⟩:=zl21 res2 at2 g1 hm
  exact ⟨_,_,_,_,rfl,g1,c,na,by lia,k.nx r3 n3⟩
|fz _=>exact hu.1.elim
|li _ _ _=>exact hu.1.elim
|ls _ _ _=>exact hu.1.elim
|dk _ _ _=>exact hu.1.elim
|dt _ _ _=>exact hu.1.elim
|tp _ _ _=>exact hu.1.elim
noncomputable def nFII (f:Str) (fn:Int->Int->Int) (x:D) (u:T) (y:D) (N:T->Prop):Prop:=match u with
|.ob C fs=>fs.length < 1000/\fII fn x y λ z=>N (.ob C (putA f (.fz z) fs))
|_=>False
noncomputable def zkp (C:Addr) (f:Str) (fn:Int->Int->Int) (dp:DP) (de:DE):DS:=λ E U=>dp U λ i p u=>nCls C u/\nFld f u λ t=>fzT t λ x=>de U λ y=>nFII f fn x u y λ u2=>mutS U i p u2 E.nx
theorem zts {C:Addr} {f:Str} {fn:Int->Int->Int} (c:Cls K C) (na:NoAttr K C f) (hp:RfP K ta dp) (he:RfE K tv de):RfS K (zgu K ta tv (λ x y H Q=>∃ i j,x=.int i/\y=.int j/\Q (.int (fn i j)) H) f) (zkp C f fn dp de):=by
 intro B F H Y U fps E Z r h k
 refine hp r.fh r.rv h λ i p u hu v F1 H1 e1 at1=>?_
 have r1:=r.grow e1
 obtain ⟨fq,hr⟩:=at1.rt r1.rv
 cases hr with
|ob g1 g2 g3 g4 g5 =>
  obtain ⟨hcl,t0,et,hd⟩:=hu
  cases (show _=C from hcl)
  obtain ⟨x0,ex⟩:=(g5.keys f).2.1 t0 et
  obtain ⟨fA,fj,fB,_,hj,_⟩:=g5.split ex et
  obtain ⟨x,hx,ix⟩:=zvy hj hd
  refine ⟨_,_,_,_,x0,rfl,g1,c,na,ex,he r1.fh r1.rv hx λ y hy yv F2 H2 e2 i2=>?_⟩
  have g1':=e2.h _ _ g1
  obtain ⟨hl,hf⟩:=hy
  unfold fII at hf
  split at hf
  ·cases ix.int_inv
   cases i2.int_inv
   have r2:=r1.grow e2
   have len:=(g5.keys f).2.2
   obtain ⟨U2,fps2,r3,n3⟩:=zl21 (y:=.int _) (r:=.fz (.int _)) (fpr:=[]) ⟨r2,.fz (.int _),.nil,λ a ha=>by simp at ha,λ _ _ _ _ a _ ha=>by simp at ha⟩ (at1.mono e2.h) g1' hf
   exact ⟨_,_,rfl,rfl,_,_,g1',by lia,k.nx r3 n3⟩
  ·exact hf.elim
|fz _=>exact hu.1.elim
|li _ _ _=>exact hu.1.elim
|ls _ _ _=>exact hu.1.elim
|dk _ _ _=>exact hu.1.elim
|dt _ _ _=>exact hu.1.elim
|tp _ _ _=>exact hu.1.elim
noncomputable def zho:List T->Option (List (List D))
|[]=>some []
|.li ds :: r=>(zho r).map (ds :: ·)
|_ :: _=>none
noncomputable def toD:T->Option D
|.fz d=>some d
|.li ds=>some (.list ds)
|.ls ts=>(zho ts).map λ dss=>.list (dss.map xJ)
|_=>none
theorem zqt {F H:Hp} (s:Same F H):∀ {xs:List V} {ts:List T} {fp:List Addr} {dss:List (List D)},RtAll K F H xs ts fp->zho ts=some dss->fp.Nodup->∃ F2,Same F F2/\Same F2 H/\(∀ b,b ∉ fp->F2 b=F b)/\IsAll K F2 xs (dss.map xJ)
|_,_,_,_,.nil,e,_=>by cases e;exact ⟨F,λ _ _ z=>z,s,λ _ _=>rfl,.nil⟩
|_,_,_,_,.cons (fp:=fp) (fq:=fq) h r,e,nd=>by
  cases h with
 |li h1 h2 h3 =>
   rename_i a xs0 ds0
   unfold zho at e
   obtain ⟨dss',e1,rfl⟩:=wJ.mp e
   have nd':=vY.mp nd
   obtain ⟨F1,s1,s2,s3,s4⟩:=zqt s r e1 nd'.2
   have fa:F1 a=none:=by rw [s3 a nd'.1];exact h2
   have sn:Same F1 (upd F1 a (.lst xs0)):=zq2 fa _
   refine ⟨upd F1 a (.lst xs0),s1.trans sn,λ b o z=>?_,λ b hb=>?_,.cons (.lst (SqL.of zo0) (h3.mono (s1.trans sn))) (s4.mono sn)⟩
   ·by_cases q:b=a
    ·subst q;rw [zo0] at z;cases z;exact h1
    ·rw [zw0 q] at z;exact s2 b o z
   ·have hb1:b≠a:=λ z=>hb (by simp [z])
    rw [zw0 hb1];exact s3 b λ z=>hb (by simp [z])
 |_=>cases e
theorem zna1 {F H:Hp} (s:Same F H) {v:V} {t:T} {fp:List Addr} {d:D} (h:Rt K F H v t fp) (e:toD t=some d) (nd:fp.Nodup):∃ F2,Same F F2/\Same F2 H/\(∀ b,b ∉ fp->F2 b=F b)/\Is K F2 v d:=by
 cases h with
|fz i=>cases e;exact ⟨F,λ _ _ z=>z,s,λ _ _=>rfl,i⟩
|li h1 h2 h3 =>
  cases e
  rename_i a xs ds
  have sn:=zq2 (H:=F) h2 (.lst xs)
  refine ⟨_,sn,λ b o z=>?_,λ b hb=>zw0 λ q=>hb (by simp [q]),.lst (SqL.of zo0) (h3.mono sn)⟩
  by_cases q:b=a
  ·subst q;rw [zo0] at z;cases z;exact h1
  ·rw [zw0 q] at z;exact s b o z
|ls h1 h2 h3 =>
  rename_i a xs ts fp
  unfold toD at e
  obtain ⟨dss,e1,rfl⟩:=wJ.mp e
  have nd':=vY.mp nd
  obtain ⟨F1,s1,s2,s3,s4⟩:=zqt s h3 e1 nd'.2
  have fa:F1 a=none:=by rw [s3 a nd'.1];exact h2
  have sn:Same F1 (upd F1 a (.lst xs)):=zq2 fa _
  refine ⟨upd F1 a (.lst xs),s1.trans sn,λ b o z=>?_,λ b hb=>?_,.lst (SqL.of zo0) (s4.mono sn)⟩
  ·by_cases q:b=a
   ·subst q;rw [zo0] at z;cases z;exact h1
   ·rw [zw0 q] at z;exact s2 b o z
  ·have hb1:b≠a:=λ z=>hb (by simp [z])
   rw [zw0 hb1];exact s3 b λ z=>hb (by simp [z])
|ob _ _ _ _ _=>cases e
|dk _ _ _=>cases e
|dt _ _ _=>cases e
|tp _ _ _=>cases e
noncomputable def getP:T->Pth->Option T
|t,[]=>some t
|.ls ts,.ix j :: p=>(ts[j]?).bind λ t=>getP t p
|.tp ts,.ix j :: p=>(ts[j]?).bind λ t=>getP t p
|.ob _ fs,.fl f :: p=>(fs.lookup f).bind λ t=>getP t p
|_,_=>none
theorem zb61 {F H:Hp} {p:Pth}:∀ {x:V} {t u:T} {fp:List Addr},Rt K F H x t fp->getP t p=some u->∃ v,At H x t p v u:=by
 induction p with
|nil=>intro x t u fp _ e;unfold getP at e;cases e;exact ⟨x,.nil⟩
|cons q p ih =>
  intro x t u fp h e
  cases h with
 |ls h1 h2 h3 =>
   cases q with
  |ix j =>
    unfold getP at e
    obtain ⟨t1,e1,e2⟩:=z9.mp e
    rename_i xs ts fp'
    have el:=h3.len
    have hj:j < ts.length:=by
     rcases wS j ts.length with y|y
     ·exact y
     ·rw [wH y] at e1;cases e1
    obtain ⟨y,hy⟩:∃ y,xs[j]?=some y:=⟨xs[j]'(by lia),u5 _⟩
    obtain ⟨fA,fj,fB,_,hr,_⟩:=h3.split hy e1
    obtain ⟨v,hv⟩:=ih hr e2
    exact ⟨v,.ix h1 hy e1 hv⟩
  |fl f=>cases e
 |tp h1 h2 h3 =>
   cases q with
  |ix j =>
    unfold getP at e
    obtain ⟨t1,e1,e2⟩:=z9.mp e
    rename_i xs ts fp'
    have el:=h3.len
    have hj:j < ts.length:=by
     rcases wS j ts.length with y|y
     ·exact y
     ·rw [wH y] at e1;cases e1
    obtain ⟨y,hy⟩:∃ y,xs[j]?=some y:=⟨xs[j]'(by lia),u5 _⟩
    obtain ⟨fA,fj,fB,_,hr,_⟩:=h3.split hy e1
    obtain ⟨v,hv⟩:=ih hr e2
    exact ⟨v,.tx h1 hy e1 hv⟩
  |fl f=>cases e
 |ob h1 h2 h3 h4 h5 =>
   cases q with
  |fl f =>
    unfold getP at e
    obtain ⟨t1,e1,e2⟩:=z9.mp e
    obtain ⟨y,hy⟩:=(h5.keys f).2.1 t1 e1
    obtain ⟨fA,fj,fB,_,hr,_⟩:=h5.split hy e1
    obtain ⟨v,hv⟩:=ih hr e2
    exact ⟨v,.fl h1 hy e1 hv⟩
  |ix j=>cases e
 |fz _=>cases q <;> cases e
 |li _ _ _=>cases q <;> cases e
 |dk _ _ _=>cases q <;> cases e
 |dt _ _ _=>cases q <;> cases e
noncomputable def fzS (U:DSt) (i:Nat) (p:Pth) (N:DSt->Prop):Prop:=match U[i]? with
|some (.ow t)=>∃ u d,getP t p=some u/\toD u=some d/\N (U.set i (slot (setP t p (.fz d))))
|some (.sh _)=>N U
|_=>False
noncomputable def dFrz (i:Nat) (p:Pth) (d:DS):DS:=λ E U=>fzS U i p λ U'=>d E U'
theorem RS.frz {B:Bs} {F H:Hp} {Y:L2.St} {U:DSt} {fps:Nat->List Addr} {i:Nat} {p:Pth} {N:DSt->Prop} (r:RS K B F H Y U fps) (h:fzS U i p N):∃ F2 U2 fps2,RS K B F2 H Y U2 fps2/\N U2:=by
 unfold fzS at h
 split at h
 ·rename_i t q
  obtain ⟨u,d,eg,ed,hN⟩:=h
  obtain ⟨x,t',a1,a2,a3,a4,a5⟩:=r.rt i _ q rfl
  cases a2
  obtain ⟨v,hv⟩:=zb61 a3 eg
  obtain ⟨fn,t1,h1,h2,h3,h4,back⟩:=r.put q rfl ⟨_,_,x,q,rfl,a1,hv⟩
  cases h1
  obtain ⟨F2,s1,s2,s3,s4⟩:=zna1 r.fh h2 ed h3
  obtain ⟨fps2,r2,_⟩:=back (F2:=F2) (H2:=H) (fq:=[]) (λ _ _ _ z=>z) s1 s2 (λ b _ fb hb=>by rw [s3 b hb];exact fb) (λ _ z=>z) (λ b hb _=>(r.fr i _ q rfl b (h4 b hb)).elim id λ z=>absurd rfl (z.2 t)) (.fz s4) .nil (λ b hb=>by simp at hb)
  have hw:(Sl.ow t).wth (setP t p (.fz d))=.ow (setP t p (.fz d)):=rfl
  rw [hw] at r2
  -- a slot whose whole is frozen becomes a plain one
  cases hs:setP t p (.fz d) with
 |fz d' =>
   rw [hs] at r2 hN
   obtain ⟨x',t'',b1,b2,b3,b4,b5⟩:=r2.rt i _ (wP (by
    rcases wS i U.length with z|z
    ·exact z
    ·rw [wH z] at q;cases q)) rfl
   cases b2
   obtain ⟨d2,hd2,hi⟩:=zvy (Q:=λ z=>z=d') b3 rfl
   subst hd2
   ·have r3:=r2.setS (i:=i) hi
    rw [List.set_set] at r3
    have eY:Y.set i (some x')=Y:=by
     apply zG
     intro j
     rw [wV]
     by_cases hij:i=j
     ·subst hij
      have hlt:i < Y.length:=by
       rw [r.len]
       rcases wS i U.length with z|z
       ·exact z
       ·rw [wH z] at q;cases q
      simp [hlt]
      have:=zp7 (F:=F) (H:=H) (U:=U) b1
      rw [u5 hlt] at this
      exact (wO.inj this).symm
     ·simp [hij]
    rw [eY] at r3
    exact ⟨F2,_,fps2,r3,hN⟩
 |li _=>rw [hs] at r2 hN;exact ⟨F2,_,fps2,r2,hN⟩
 |ls _=>rw [hs] at r2 hN;exact ⟨F2,_,fps2,r2,hN⟩
 |ob _ _=>rw [hs] at r2 hN;exact ⟨F2,_,fps2,r2,hN⟩
 |dk _=>rw [hs] at r2 hN;exact ⟨F2,_,fps2,r2,hN⟩
 |dt _=>rw [hs] at r2 hN;exact ⟨F2,_,fps2,r2,hN⟩
 |tp _=>rw [hs] at r2 hN;exact ⟨F2,_,fps2,r2,hN⟩
 ·exact ⟨F,U,fps,r,h⟩
 ·exact h.elim
theorem znc (i:Nat) (p:Pth) (h:RfS K t d):RfS K t (dFrz i p d):=by
 intro B F H Y U fps E Z r hd k
 obtain ⟨F2,U2,fps2,r2,h2⟩:=r.frz hd
 exact h r2 h2 k
end
set_option genInjectivity true in
inductive Arg where
|d (d:D)|b (t:T)|o (t:T)
inductive ArgP where
|d (d:D)|b (i:Nat) (p:Pth) (t:T)|o (i:Nat) (p:Pth) (t:T)
noncomputable def ArgP.arg:ArgP->Arg
|.d x=>.d x
|.b _ _ x=>.b x
|.o _ _ x=>.o x
inductive ArgsR (K:Fg) (F H:Hp):List V->List Arg->List Addr->Option (Addr×List Addr)->Prop
|nil:ArgsR K F H [] [] [] none
|d {v:V} {d:D} {vs:List V} {as:List Arg} {bf:List Addr} {oo:Option (Addr×List Addr)}:Is K F v d->ArgsR K F H vs as bf oo->ArgsR K F H (v :: vs) (.d d :: as) bf oo
|b {v:V} {t:T} {fp:List Addr} {vs:List V} {as:List Arg} {bf:List Addr} {oo:Option (Addr×List Addr)}:Rt K F H v t fp->fp.Nodup->ArgsR K F H vs as bf oo->ArgsR K F H (v :: vs) (.b t :: as) (fp++bf) oo
|o {a:Addr} {t:T} {fp:List Addr} {vs:List V} {as:List Arg} {bf:List Addr}:Rt K F H (.ref a) t fp->fp.Nodup->ArgsR K F H vs as bf none->ArgsR K F H (.ref a :: vs) (.o t :: as) bf (some (a,fp))
noncomputable def ofp:Option (Addr×List Addr)->List Addr
|none=>[]
|some x=>x.2
structure Post (K:Fg) (F H:Hp) (oo:Option (Addr×List Addr)) (F' H':Hp) (v:V) (r:T) (fpr:List Addr) (t':T) (fpo:List Addr):Prop where
 hh:∀ b o,b ∉ ofp oo->H b=some o->H' b=some o
 ff:Same F F'
 fh:Same F' H'
 nw:∀ b,H b≠none->F b=none->F' b=none
 al:∀ b,H b≠none->H' b≠none
 rt:Rt K F' H' v r fpr
 nd:fpr.Nodup
 fr:∀ a∈fpr,H a=none
 io:∀ a fp,oo=some (a,fp)->Rt K F' H' (.ref a) t' fpo/\fpo.Nodup/\(∀ b∈fpo,b∈fp \/ H b=none)/\∀ b∈fpo,b ∉ fpr
noncomputable abbrev DSpT:=List Arg->(T->T->Prop)->Prop
noncomputable def spT (K:Fg) (p:DSpT):Sp:=λ vs H Q _=>∃ F as bf oo Qd,Same F H/\ArgsR K F H vs as bf oo/\(∀ b∈ofp oo,b ∉ bf)/\p as Qd/\∀ r t',Qd r t'->∀ v F' H' fpr fpo,Post K F H oo F' H' v r fpr t' fpo->Q v H'
section
variable {K:Fg} {te ta ti tv:TE} {de da di dk:DE} {dc:DC} {tt:TT} {dt:DT} {t u tb:TS} {d e db:DS} {tA:TA} {dA:DF} {g:TG} {dg:DG} {n:Nat} {dp:DP} {w:World}
inductive ArgsP (K:Fg) (F H:Hp) (Y:L2.St) (U:DSt):List V->List ArgP->Prop
|nil:ArgsP K F H Y U [] []
|d {v:V} {d:D} {vs:List V} {as:List ArgP}:Is K F v d->ArgsP K F H Y U vs as->ArgsP K F H Y U (v :: vs) (.d d :: as)
|b {v:V} {i:Nat} {p:Pth} {t:T} {vs:List V} {as:List ArgP}:AtS H Y U i p v t->ArgsP K F H Y U vs as->ArgsP K F H Y U (v :: vs) (.b i p t :: as)
|o {v:V} {i:Nat} {p:Pth} {t:T} {vs:List V} {as:List ArgP}:AtS H Y U i p v t->ArgsP K F H Y U vs as->ArgsP K F H Y U (v :: vs) (.o i p t :: as)
noncomputable abbrev DAT:=DSt->(List ArgP->Prop)->Prop
noncomputable def RfAT (K:Fg) (ta:TA) (da:DAT):Prop:=∀ {F H:Hp} {Y:L2.St} {U:DSt} {Qd:List ArgP->Prop} {Q:List V->Hp->Prop},Same F H->RV K F H Y U->da U Qd->(∀ as,Qd as->∀ vs F' H',Ext F H F' H'->ArgsP K F' H' Y U vs as->Q vs H')->ta Y H Q
variable {dA':DAT}
noncomputable def aNil:DAT:=λ _ Q=>Q []
noncomputable def aD (de:DE) (dr:DAT):DAT:=λ U Q=>de U λ x=>dr U λ as=>Q (.d x :: as)
noncomputable def aB (dp:DP) (dr:DAT):DAT:=λ U Q=>dp U λ i p t=>dr U λ as=>Q (.b i p t :: as)
noncomputable def aO (dp:DP) (dr:DAT):DAT:=λ U Q=>dp U λ i p t=>dr U λ as=>Q (.o i p t :: as)
theorem zw2:RfAT K tNil aNil:=λ s rv h k=>k _ h _ _ _ (Ext.refl s) .nil
theorem at_d (ha:RfE K ta da) (hr:RfAT K tA dA'):RfAT K (zrn ta tA) (aD da dA'):=by
 intro F H Y U Qd Q s rv h k
 refine ha s rv h λ x hx v F1 H1 e1 i1=>hr e1.fh (rv.ext e1) hx λ as has vs F2 H2 e2 i2=>?_
 exact k _ has _ F2 H2 (e1.trans e2) (.d (i1.mono e2.f) i2)
theorem at_b (ha:RfP K ta dp) (hr:RfAT K tA dA'):RfAT K (zrn ta tA) (aB dp dA'):=by
 intro F H Y U Qd Q s rv h k
 refine ha s rv h λ i p t hx v F1 H1 e1 i1=>hr e1.fh (rv.ext e1) hx λ as has vs F2 H2 e2 i2=>?_
 exact k _ has _ F2 H2 (e1.trans e2) (.b (i1.mono e2.h) i2)
theorem at_o (ha:RfP K ta dp) (hr:RfAT K tA dA'):RfAT K (zrn ta tA) (aO dp dA'):=by
 intro F H Y U Qd Q s rv h k
 refine ha s rv h λ i p t hx v F1 H1 e1 i1=>hr e1.fh (rv.ext e1) hx λ as has vs F2 H2 e2 i2=>?_
 exact k _ has _ F2 H2 (e1.trans e2) (.o (i1.mono e2.h) i2)
noncomputable def noO:List ArgP->Prop
|[]=>True
|.o _ _ _ :: _=>False
|.d _ :: r=>noO r
|.b _ _ _ :: r=>noO r
noncomputable def noS (i:Nat):List ArgP->Prop
|[]=>True
|.b j _ _ :: r=>j≠i/\noS i r
|.d _ :: r=>noS i r
|.o _ _ _ :: r=>noS i r
noncomputable def zvu:List ArgP->Option (Nat×Pth×T)
|[]=>none
|.o i p t :: _=>some (i,p,t)
|.d _ :: r=>zvu r
|.b _ _ _ :: r=>zvu r
noncomputable def oneO (i:Nat):List ArgP->Prop
|[]=>False
|.o _ _ _ :: r=>noO r/\noS i r
|.d _ :: r=>oneO i r
|.b j _ _ :: r=>j≠i/\oneO i r
noncomputable def zsy (U:DSt) (i:Nat):Prop:=match U[i]? with
|some (.ow _)=>True
|some (.io _ _)=>True
|_=>False
noncomputable def zxy:T->Prop
|.fz _=>False
|_=>True
theorem zdn {F H:Hp} {Y:L2.St} {U:DSt} {fps:Nat->List Addr} (rt:∀ {i:Nat} {p:Pth} {v:V} {u:T},AtS H Y U i p v u->∃ fn,Rt K F H v u fn/\fn.Nodup/\∀ a∈fn,a∈fps i/\∃ s,U[i]?=some s/\s.has=true):∀ {vs:List V} {as:List ArgP},ArgsP K F H Y U vs as->noO as->∃ bf,ArgsR K F H vs (as.map ArgP.arg) bf none/\∀ i,noS i as->∀ b∈bf,∃ j,j≠i/\b∈fps j/\∃ s,U[j]?=some s/\s.has=true
|_,_,.nil,_=>⟨[],.nil,λ i _ b hb=>by simp at hb⟩
|_,_,.d h r,hn=>by
  obtain ⟨bf,h1,h2⟩:=zdn rt r hn
  exact ⟨bf,.d h h1,h2⟩
|_,_,.b (i:=i') h r,hn=>by
  obtain ⟨bf,h1,h2⟩:=zdn rt r hn
  obtain ⟨fn,g1,g2,g3⟩:=rt h
  refine ⟨fn++bf,.b g1 g2 h1,λ i hi b hb=>?_⟩
  rcases vK.mp hb with z|z
  ·exact ⟨i',hi.1,(g3 b z).1,(g3 b z).2⟩
  ·exact h2 i hi.2 b z
|_,_,.o h r,hn=>hn.elim
theorem znl {F H:Hp} {Y:L2.St} {U:DSt} {fps:Nat->List Addr} (rt:∀ {i:Nat} {p:Pth} {v:V} {u:T},AtS H Y U i p v u->∃ fn,Rt K F H v u fn/\fn.Nodup/\∀ a∈fn,a∈fps i/\∃ s,U[i]?=some s/\s.has=true) {i:Nat} {p:Pth} {u:T}:∀ {vs:List V} {as:List ArgP},ArgsP K F H Y U vs as->zvu as=some (i,p,u)->oneO i as->zxy u ->
  ∃ a,AtS H Y U i p (.ref a) u/\∀ fn,Rt K F H (.ref a) u fn->fn.Nodup->∃ bf,ArgsR K F H vs (as.map ArgP.arg) bf (some (a,fn))/\∀ b∈bf,∃ j,j≠i/\b∈fps j/\∃ s,U[j]?=some s/\s.has=true
|_,_,.nil,e,_,_=>by cases e
|_,_,.d h r,e,hn,hf=>by
  obtain ⟨a,h1,h2⟩:=znl rt r e hn hf
  refine ⟨a,h1,λ fn g1 g2=>?_⟩
  obtain ⟨bf,k1,k2⟩:=h2 fn g1 g2
  exact ⟨bf,.d h k1,k2⟩
|_,_,.b (i:=i') h r,e,hn,hf=>by
  obtain ⟨a,h1,h2⟩:=znl rt r e hn.2 hf
  obtain ⟨fb,g1,g2,g3⟩:=rt h
  refine ⟨a,h1,λ fn k1 k2=>?_⟩
  obtain ⟨bf,m1,m2⟩:=h2 fn k1 k2
  refine ⟨fb++bf,.b g1 g2 m1,λ b hb=>?_⟩
  rcases vK.mp hb with z|z
  ·exact ⟨i',hn.1,(g3 b z).1,(g3 b z).2⟩
  ·exact m2 b z
|_,_,.o h r,e,hn,hf=>by
  cases e
  obtain ⟨bf,m1,m2⟩:=zdn rt r hn.1
  obtain ⟨fn0,g1,_,_⟩:=rt h
  cases g1 with
 |fz _=>exact hf.elim
 |li _ _ _=>exact ⟨_,h,λ fn k1 k2=>⟨bf,.o k1 k2 m1,m2 i hn.2⟩⟩
 |ls _ _ _=>exact ⟨_,h,λ fn k1 k2=>⟨bf,.o k1 k2 m1,m2 i hn.2⟩⟩
 |ob _ _ _ _ _=>exact ⟨_,h,λ fn k1 k2=>⟨bf,.o k1 k2 m1,m2 i hn.2⟩⟩
 |dk _ _ _=>exact ⟨_,h,λ fn k1 k2=>⟨bf,.o k1 k2 m1,m2 i hn.2⟩⟩
 |dt _ _ _=>exact ⟨_,h,λ fn k1 k2=>⟨bf,.o k1 k2 m1,m2 i hn.2⟩⟩
 |tp _ _ _=>exact ⟨_,h,λ fn k1 k2=>⟨bf,.o k1 k2 m1,m2 i hn.2⟩⟩
theorem RS.rtS {B:Bs} {F H:Hp} {Y:L2.St} {U:DSt} {fps:Nat->List Addr} (r:RS K B F H Y U fps) {i:Nat} {p:Pth} {v:V} {u:T} (h:AtS H Y U i p v u):∃ fn,Rt K F H v u fn/\fn.Nodup/\∀ a∈fn,a∈fps i/\∃ s,U[i]?=some s/\s.has=true:=by
 obtain ⟨s,t,x,h1,h2,h3,h4⟩:=h
 by_cases hs:s.has=true
 ·obtain ⟨x',t',a1,a2,a3,a4,a5⟩:=r.rt i s h1 hs
  rw [h3] at a1;cases a1
  rw [h2] at a2;cases a2
  obtain ⟨fn,g1,g2,g3,_⟩:=zg71 h4 a3 a5
  exact ⟨fn,g1,g3,λ a ha=>⟨g2 a ha,s,h1,hs⟩⟩
 ·cases s with
 |sh d =>
   cases h2
   obtain ⟨y,b1,b2⟩:=r.sh i d h1
   rw [h3] at b1;cases b1
   cases h4
   exact ⟨[],.fz b2,.nil,λ a ha=>by simp at ha⟩
 |un=>cases h2
 |ow _=>exact absurd rfl hs
 |bo _=>exact absurd rfl hs
 |io _ _=>exact absurd rfl hs
theorem zov {U:DSt} {i:Nat} {p:Pth} {u t0:T} {s:Sl} {N:DSt->Prop} (hi:U[i]?=some s) (ho:s.own=true) (ht:s.tree=some t0) (h:mutS U i p u N):N (U.set i (s.wth (setP t0 p u))):=by
 unfold mutS at h
 rw [hi] at h
 cases s with
|ow t=>cases ht;exact h
|io a t=>cases ht;exact h
|un=>cases ho
|sh _=>cases ho
|bo _=>cases ho
noncomputable def zkv (p:DSpT) (U:DSt) (as:List ArgP) (Q:T->DSt->Prop):Prop:=match zvu as with
|some (i,q,t)=>zsy U i/\oneO i as/\zxy t/\p (as.map ArgP.arg) λ r t2=>mutS U i q t2 λ U'=>Q r U'
|none=>noO as/\p (as.map ArgP.arg) λ r _=>Q r U
theorem znp {B:Bs} {F H:Hp} {Y:L2.St} {U:DSt} {fps:Nat->List Addr} {p:DSpT} {vs:List V} {as:List ArgP} {Qd:T->DSt->Prop} {Q:VK} {E:XK} (r:RS K B F H Y U fps) (ha:ArgsP K F H Y U vs as) (hc:zkv p U as Qd)
  (k:∀ r U',Qd r U'->∀ v F' H' fps' fpr,Res K B F' H' Y U' fps' v r fpr->Q v H'):spT K p vs H Q E:=by
 unfold zkv at hc
 split at hc
 ·rename_i i q t0 eo
  obtain ⟨ho,h1,hf,hp⟩:=hc
  obtain ⟨s,hs,hso⟩:∃ s,U[i]?=some s/\s.own=true:=by
   unfold zsy at ho
   split at ho
   ·rename_i q;exact ⟨_,q,rfl⟩
   ·rename_i q;exact ⟨_,q,rfl⟩
   ·exact ho.elim
  obtain ⟨a,hat,hargs⟩:=znl (λ h=>r.rtS h) ha eo h1 hf
  obtain ⟨fn,t1,g1,g2,g3,g4,back⟩:=r.put hs hso hat
  obtain ⟨bf,m1,m2⟩:=hargs fn g2 g3
  refine ⟨F,_,bf,some (a,fn),_,r.fh,m1,λ b hb hbf=>?_,hp,λ r2 t2 q2 v F' H' fpr fpo post=>?_⟩
  ·obtain ⟨j,hj,hbj,sj,e1,hh⟩:=m2 b hbf
   exact r.dj i j s sj (λ z=>hj z.symm) hs e1 hso hh b (g4 b hb) hbj
  ·obtain ⟨io1,io2,io3,io4⟩:=post.io a fn rfl
   obtain ⟨fps2,r2',e2,e3⟩:=back (F2:=F') (H2:=H') (u2:=t2) (fq:=fpo) post.hh post.ff post.fh (λ b hb fb _=>post.nw b hb fb) post.al (λ b hb f=>absurd (post.nw b (g2.dom b hb).1 (g2.dom b hb).2) f) io1 io2 (λ b hb=>(io3 b hb).elim .inl λ z=>.inr (r.newOk z))
   have qd:=zov hs hso g1 q2
   refine k _ _ qd v F' H' fps2 fpr ⟨r2',post.rt,post.nd,λ b hb=>(r.newOk (post.fr b hb)).1,λ j s' ej hs' b hb hbr=>?_⟩
   have fresh:=post.fr b hbr
   by_cases hji:j=i
   ·subst hji
    rcases e3 b hb with z|z
    ·obtain ⟨x',t',a1,a2,a3,a4,a5⟩:=r.rt j s hs (zu7 hso)
     exact (a3.dom b z).1 fresh
    ·exact io4 b z hbr
   ·rw [e2 j hji] at hb
    rw [xD (λ z=>hji z.symm)] at ej
    exact (r.newOk fresh).2 j s' ej hs' hb
 ·rename_i eo
  obtain ⟨hn,hp⟩:=hc
  obtain ⟨bf,m1,_⟩:=zdn (λ h=>r.rtS h) ha hn
  refine ⟨F,_,bf,none,_,r.fh,m1,λ b hb=>by simp [ofp] at hb,hp,λ r2 t2 q2 v F' H' fpr fpo post=>?_⟩
  have ex:Ext F H F' H':=⟨λ b o hb=>post.hh b o (by simp [ofp]) hb,post.ff,post.fh,post.nw⟩
  exact k _ _ q2 v F' H' fps fpr ⟨r.grow ex,post.rt,post.nd,λ b hb=>(r.newOk (post.fr b hb)).1,λ j s' ej hs' b hb hbr=>(r.newOk (post.fr b hbr)).2 j s' ej hs' hb⟩
noncomputable def zca1 (p:DSpT) (da:DAT):DC:=λ U Q=>da U λ as=>zkv p U as Q
theorem zeo {p:DSpT} {E:XK} (h:RfAT K tA dA'):RfC K (zlv (spT K p) [] E tA) (zca1 p dA'):=by
 intro B F H Y U fps Qd Q r hd k
 refine h r.fh r.rv hd λ as has vs F1 H1 e1 i1=>?_
 rw [wI]
 exact znp (r.grow e1) i1 has k
noncomputable def noM (m:Str) (u:T):Prop:=match u with
|.ob _ fs=>fs.lookup m=none
|_=>False
noncomputable def zyb1 (o:Bool) (C:Addr) (m:Str) (p:DSpT) (dp:DP) (da:DAT):DC:=λ U Q=>dp U λ i q u=>nCls C u/\noM m u/\da U λ as=>zkv p U ((if o then .o i q u else .b i q u) :: as) Q
theorem zkm {F H:Hp} {v:V} {u:T} {fn:List Addr} {C:Addr} {m:Str} (hr:Rt K F H v u fn) (hc:nCls C u) (hm:noM m u):∃ a dx fs,v=.ref a/\H a=some (.ins C dx fs)/\fs.lookup m=none:=by
 cases hr with
|ob g1 g2 g3 g4 g5 =>
  cases (show _=C from hc)
  exact ⟨_,_,_,rfl,g1,(g5.keys m).1 hm⟩
|fz _=>exact hc.elim
|li _ _ _=>exact hc.elim
|ls _ _ _=>exact hc.elim
|dk _ _ _=>exact hc.elim
|dt _ _ _=>exact hc.elim
|tp _ _ _=>exact hc.elim
theorem zv4 {p:DSpT} {E:XK} {C:Addr} {m:Str} (o:Bool) (hp:RfP K ta dp) (h:RfAT K tA dA'):RfC K (zzy C m (spT K p) [] E ta tA) (zyb1 o C m p dp dA'):=by
 intro B F H Y U fps Qd Q r hd k
 refine hp r.fh r.rv hd λ i q u hu v F1 H1 e1 at1=>?_
 have r1:=r.grow e1
 obtain ⟨fn,hr⟩:=at1.rt r1.rv
 obtain ⟨a,dx,fs,rfl,h1,h2⟩:=zkm hr hu.1 hu.2.1
 refine ⟨a,dx,fs,rfl,h1,h2,h r1.fh r1.rv hu.2.2 λ as has vs F2 H2 e2 i2=>?_⟩
 rw [wI]
 have at2:=at1.mono e2.h
 cases o with
|true=>exact znp (r1.grow e2) (.o at2 i2) has k
|false=>exact znp (r1.grow e2) (.b at2 i2) has k
noncomputable def zoy (p:DSpT) (as:List ArgP) (Q:T->Prop):Prop:=noO as/\p (as.map ArgP.arg) λ r _=>Q r
theorem AtS.rtV {F H:Hp} {Y:L2.St} {U:DSt} (r:RV K F H Y U) {i:Nat} {p:Pth} {v:V} {u:T} (h:AtS H Y U i p v u):∃ fn,Rt K F H v u fn/\fn.Nodup:=by
 obtain ⟨s,t,x,h1,h2,h3,h4⟩:=h
 obtain ⟨y,fp,e,hr,nd⟩:=(r.sl i s h1).rt h2
 rw [h3] at e;cases e
 obtain ⟨fn,g1,_,g3,_⟩:=zg71 h4 hr nd
 exact ⟨fn,g1,g3⟩
theorem zsm {F H:Hp} {Y:L2.St} {U:DSt} (r:RV K F H Y U):∀ {vs:List V} {as:List ArgP},ArgsP K F H Y U vs as->noO as->∃ bf,ArgsR K F H vs (as.map ArgP.arg) bf none
|_,_,.nil,_=>⟨[],.nil⟩
|_,_,.d h q,hn=>by
  obtain ⟨bf,h1⟩:=zsm r q hn
  exact ⟨bf,.d h h1⟩
|_,_,.b h q,hn=>by
  obtain ⟨bf,h1⟩:=zsm r q hn
  obtain ⟨fn,g1,g2⟩:=h.rtV r
  exact ⟨fn++bf,.b g1 g2 h1⟩
|_,_,.o h r,hn=>hn.elim
theorem zfo {F H:Hp} {Y:L2.St} {U:DSt} {p:DSpT} {vs:List V} {as:List ArgP} {Qd:T->Prop} {Q:VK} {E:XK} (s:Same F H) (r:RV K F H Y U) (ha:ArgsP K F H Y U vs as) (hc:zoy p as Qd)
  (k:∀ r,Qd r->∀ v F' H' fp,Ext F H F' H'->Rt K F' H' v r fp->fp.Nodup->(∀ a∈fp,H a=none)->Q v H'):spT K p vs H Q E:=by
 obtain ⟨bf,m1⟩:=zsm r ha hc.1
 refine ⟨F,_,bf,none,_,s,m1,λ b hb=>by simp [ofp] at hb,hc.2,λ r2 t2 q2 v F' H' fpr fpo post=>?_⟩
 exact k _ q2 v F' H' fpr ⟨λ b o hb=>post.hh b o (by simp [ofp]) hb,post.ff,post.fh,post.nw⟩ post.rt post.nd post.fr
noncomputable def zwb1 (p:DSpT) (da:DAT):DN:=λ U Q=>da U λ as=>zoy p as Q
noncomputable def zoa1 (C:Addr) (m:Str) (p:DSpT) (dp:DP) (da:DAT):DN:=λ U Q=>dp U λ i q u=>nCls C u/\noM m u/\da U λ as=>zoy p (.b i q u :: as) Q
theorem zb11 {p:DSpT} {E:XK} (h:RfAT K tA dA'):RfN K (zlv (spT K p) [] E tA) (zwb1 p dA'):=by
 intro F H Y U Qd Q s rv hd k
 refine h s rv hd λ as has vs F1 H1 e1 i1=>?_
 rw [wI]
 exact zfo e1.fh (rv.ext e1) i1 has λ r q v F' H' fp e2 h1 h2 h3=>k r q v F' H' fp (e1.trans e2) h1 h2 λ a ha=>zi2 e1 (h3 a ha)
theorem zzo {p:DSpT} {E:XK} {C:Addr} {m:Str} (hp:RfP K ta dp) (h:RfAT K tA dA'):RfN K (zzy C m (spT K p) [] E ta tA) (zoa1 C m p dp dA'):=by
 intro F H Y U Qd Q s rv hd k
 refine hp s rv hd λ i q u hu v F1 H1 e1 at1=>?_
 have rv1:=rv.ext e1
 obtain ⟨fn,hr⟩:=at1.rt rv1
 obtain ⟨a,dx,fs,rfl,h1,h2⟩:=zkm hr hu.1 hu.2.1
 refine ⟨a,dx,fs,rfl,h1,h2,h e1.fh rv1 hu.2.2 λ as has vs F2 H2 e2 i2=>?_⟩
 rw [wI]
 have e12:=e1.trans e2
 exact zfo e2.fh (rv.ext e12) (.b (at1.mono e2.h) i2) has λ r q v F' H' fp e3 h1 h2 h3=>k r q v F' H' fp (e12.trans e3) h1 h2 λ a ha=>zi2 e12 (h3 a ha)
noncomputable def eN (dn:DN):DE:=λ U Q=>dn U λ r=>fzT r Q
theorem RfN.ex {dn:DN} (h:RfN K te dn):RfE K te (eN dn):=λ s rv hd k=>h s rv hd λ r q v F' H' fp e1 h1 h2 h3=>by
 obtain ⟨d,qd,i⟩:=zvy h1 q
 exact k d qd v F' H' e1 i
noncomputable def zla1 (C:Addr) (p:DSpT) (da:DAT):DN:=λ U Q=>da U λ as=>noO as/\p (.o (.ob C []) :: as.map ArgP.arg) λ r t2=>(match r with|.fz .none=>True|_=>False)/\Q t2
theorem ztj {p:DSpT} {E:XK} {C:Addr} (h:RfAT K tA dA'):RfN K (zs81 C (spT K p) [] E tA) (zla1 C p dA'):=by
 intro F H Y U Qd Q s rv hd k
 refine h s rv hd λ as has vs F1 H1 e1 i1=>?_
 intro x dx hx hdx hne
 obtain ⟨bf,m1⟩:=zsm (rv.ext e1) i1 has.1
 have hH:∀ b,b≠x->b≠dx->upd (upd H1 dx (.own x)) x (.ins C dx []) b=H1 b:=λ b h1 h2=>by rw [zw0 h1,zw0 h2]
 have s2:Same H1 (upd (upd H1 dx (.own x)) x (.ins C dx [])):=λ b o z=>by
  rw [hH b (λ q=>by subst q;rw [hx] at z;cases z) (λ q=>by subst q;rw [hdx] at z;cases z)];exact z
 have fx:F1 x=none:=by
  cases q:F1 x with
 |none=>rfl
 |some o=>rw [e1.fh x o q] at hx;cases hx
 have fdx:F1 dx=none:=by
  cases q:F1 dx with
 |none=>rfl
 |some o=>rw [e1.fh dx o q] at hdx;cases hdx
 have m2:ArgsR K F1 (upd (upd H1 dx (.own x)) x (.ins C dx [])) vs (as.map ArgP.arg) bf none/\∀ b∈bf,H1 b≠none:=by
  have key:∀ {vs:List V} {as:List Arg} {bf:List Addr} {oo:Option (Addr×List Addr)},ArgsR K F1 H1 vs as bf oo->oo=none->ArgsR K F1 (upd (upd H1 dx (.own x)) x (.ins C dx [])) vs as bf none/\∀ b∈bf,H1 b≠none:=λ {vs as bf oo} hh=>by
   induction hh with
  |nil=>intro _;exact ⟨.nil,λ b hb=>by simp at hb⟩
  |d h1 _ ih=>intro e;exact ⟨.d h1 (ih e).1,(ih e).2⟩
  |b h1 h2 _ ih =>
    intro e
    refine ⟨.b (h1.frame (λ _ _ z=>z) λ b hb=>⟨?_,(h1.dom b hb).2⟩) h2 (ih e).1,λ b hb=>?_⟩
    ·exact hH b (λ q=>by subst q;exact (h1.dom b hb).1 hx) (λ q=>by subst q;exact (h1.dom b hb).1 hdx)
    ·rcases vK.mp hb with z|z
     ·exact (h1.dom b z).1
     ·exact (ih e).2 b z
  |o _ _ _ _=>intro e;cases e
  exact key m1 rfl
 refine ⟨F1,_,bf,some (x,[x,dx]),_,e1.fh.trans s2,.o (.ob zo0 (by rw [zw0 hne,zo0]) fx fdx .nil) (by simp [Ne.symm hne]) (by rw [wI];exact m2.1),λ b hb hbf=>?_,has.2,λ r t2 q2 v F' H' fpr fpo post=>?_⟩
 ·have:=m2.2 b hbf
  simp [ofp] at hb
  rcases hb with z|z
  ·exact this (by rw [z];exact hx)
  ·exact this (by rw [z];exact hdx)
 ·obtain ⟨q0,q1⟩:=q2
  obtain ⟨io1,io2,io3,io4⟩:=post.io x [x,dx] rfl
  refine ⟨?_,k _ q1 (.ref x) F' H' fpo (e1.trans ⟨λ b o z=>?_,post.ff,post.fh,λ b hb fb=>post.nw b (λ z=>?_) fb⟩) io1 io2 λ b hb=>zi2 e1 ?_⟩
  ·split at q0
   ·cases post.rt with
   |fz i=>exact i.non_inv
   ·exact q0.elim
  ·refine post.hh b o (λ w=>?_) (s2 b o z)
   simp [ofp] at w
   rcases w with w|w
   ·rw [w,hx] at z;cases z
   ·rw [w,hdx] at z;cases z
  ·cases q:H1 b with
  |none=>exact hb q
  |some o=>rw [s2 b o q] at z;cases z
  ·rcases io3 b hb with z|z
   ·simp at z
    rcases z with z|z
    ·rw [z];exact hx
    ·rw [z];exact hdx
   ·cases q:H1 b with
   |none=>rfl
   |some o=>rw [s2 b o q] at z;cases z
end
section
variable {P:Program} {w:World} {K:Fg} {mg:Str->Option Value} {base:Heap}
noncomputable def zg61 (a:Addr):Arg->Sl
|.d x=>.sh x
|.b x=>.bo x
|.o x=>.io a x
noncomputable def zxn (N:List Str) (a:Addr) (as:List Arg):DSt:=as.map (zg61 a)++u7 (N.length - as.length) .un
noncomputable def oIx:List Arg->Option Nat
|[]=>none
|.o _ :: _=>some 0
|.d _ :: r=>(oIx r).map (·+1)
|.b _ :: r=>(oIx r).map (·+1)
noncomputable def exA (as:List Arg) (a:Addr) (Qd:T->T->Prop) (r:T) (U:DSt):Prop:=match oIx as with
|none=>Qd r (.fz .none)
|some k=>∃ t',U[k]?=some (.io a t')/\Qd r t'
noncomputable def zxb1 (as:List Arg) (a:Addr) (Qd:T->T->Prop):DEnds:={ nx:=exA as a Qd (.fz .none),rt:=exA as a Qd }
theorem zhh {F H:Hp}:∀ {vs:List V} {as:List Arg} {bf:List Addr} {oo:Option (Addr×List Addr)},ArgsR K F H vs as bf oo->vs.length=as.length/\∃ fl:Nat->List Addr,
  (∀ (k:Nat) x,as[k]?=some (.d x)->∃ v,vs[k]?=some v/\Is K F v x) /\
  (∀ (k:Nat) x,as[k]?=some (.b x)->∃ v,vs[k]?=some v/\Rt K F H v x (fl k)/\(fl k).Nodup/\∀ b∈fl k,b∈bf) /\
  (∀ (k:Nat) x,as[k]?=some (.o x)->∃ a,vs[k]?=some (.ref a)/\oo=some (a,fl k)/\Rt K F H (.ref a) x (fl k)/\(fl k).Nodup/\oIx as=some k)/\(oo=none->oIx as=none)/\(∀ a fp,oo=some (a,fp)->∃ k x,as[k]?=some (.o x)/\fl k=fp/\oIx as=some k)
|_,_,_,_,.nil=>⟨rfl,λ _=>[],λ k x e=>by simp at e,λ k x e=>by simp at e,λ k x e=>by simp at e,λ _=>rfl,λ a fp e=>by cases e⟩
|_,_,_,_,.d h r=>by
  obtain ⟨hl,fl,h1,h2,h3,h4,h5⟩:=zhh r
  refine ⟨by simp [hl],λ k=>fl (k - 1),λ k x e=>?_,λ k x e=>?_,λ k x e=>?_,λ e=>?_,λ a fp e=>?_⟩
  ·cases k with
  |zero=>simp at e;subst e;exact ⟨_,rfl,h⟩
  |succ k=>obtain ⟨v,g1,g2⟩:=h1 k x (by simpa using e);exact ⟨v,by simpa using g1,g2⟩
  ·cases k with
  |zero=>simp at e
  |succ k=>obtain ⟨v,g1,g2⟩:=h2 k x (by simpa using e);exact ⟨v,by simpa using g1,g2⟩
  ·cases k with
  |zero=>simp at e
  |succ k=>obtain ⟨v,g1,g2,g3,g4,g5⟩:=h3 k x (by simpa using e);exact ⟨v,by simpa using g1,g2,g3,g4,by simp [oIx,g5]⟩
  ·simp [oIx,h4 e]
  ·obtain ⟨k,x,g1,g2,g3⟩:=h5 a fp e
   exact ⟨k+1,x,by simpa using g1,g2,by simp [oIx,g3]⟩
|_,_,_,_,.b (fp:=fp) (bf:=bf) h nd r=>by
  obtain ⟨hl,fl,h1,h2,h3,h4,h5⟩:=zhh r
  refine ⟨by simp [hl],λ k=>if k=0 then fp else fl (k - 1),λ k x e=>?_,λ k x e=>?_,λ k x e=>?_,λ e=>?_,λ a fp' e=>?_⟩
  ·cases k with
  |zero=>simp at e
  |succ k=>obtain ⟨v,g1,g2⟩:=h1 k x (by simpa using e);exact ⟨v,by simpa using g1,g2⟩
  ·cases k with
  |zero=>simp at e;subst e;exact ⟨_,rfl,h,nd,λ b hb=>by simp at hb ⊢;exact .inl hb⟩
  |succ k=>obtain ⟨v,g1,g2,g3,g4⟩:=h2 k x (by simpa using e);exact ⟨v,by simpa using g1,g2,g3,λ b hb=>by have:=g4 b (by simpa using hb);simp [this]⟩
  ·cases k with
  |zero=>simp at e
  |succ k=>obtain ⟨v,g1,g2,g3,g4,g5⟩:=h3 k x (by simpa using e);exact ⟨v,by simpa using g1,g2,g3,g4,by simp [oIx,g5]⟩
  ·simp [oIx,h4 e]
  ·obtain ⟨k,x,g1,g2,g3⟩:=h5 a fp' e
   exact ⟨k+1,x,by simpa using g1,by simpa using g2,by simp [oIx,g3]⟩
|_,_,_,_,.o (a:=a) (fp:=fp) h nd r=>by
  obtain ⟨hl,fl,h1,h2,h3,h4,h5⟩:=zhh r
  refine ⟨by simp [hl],λ k=>if k=0 then fp else fl (k - 1),λ k x e=>?_,λ k x e=>?_,λ k x e=>?_,λ e=>(by cases e),λ a' fp' e=>?_⟩
  ·cases k with
  |zero=>simp at e
  |succ k=>obtain ⟨v,g1,g2⟩:=h1 k x (by simpa using e);exact ⟨v,by simpa using g1,g2⟩
  ·cases k with
  |zero=>simp at e
  |succ k=>obtain ⟨v,g1,g2,g3,g4⟩:=h2 k x (by simpa using e);exact ⟨v,by simpa using g1,g2,g3,λ b hb=>g4 b (by simpa using hb)⟩
  ·cases k with
  |zero=>simp at e;subst e;exact ⟨a,rfl,rfl,h,nd,rfl⟩
  |succ k =>
    obtain ⟨v,g1,g2,g3,g4,g5⟩:=h3 k x (by simpa using e)
    cases g2
  ·cases e
   exact ⟨0,_,rfl,rfl,rfl⟩
theorem zm3 {qual:Str} {st:Stmt} {N:List Str} {k:Nat} {p:DSpT}
  (body:∀ (f:Addr) (cdv:Value) (A:Around) (outer:List Env) (s:Shared) (H:Hp) (E:XK),Room k (A.deeper (envOfC qual (zg0 st) s.heap.objs.size f cdv))->∃ t d,PSs (cxOf CX0 P w K mg base N qual (zg0 st) f cdv A outer s H E).nox (zu2 st) t/\RfS K t d/\∀ as Qd a,p as Qd->d (zxb1 as a Qd) (zxn N a as)) :
  zj7 P w K mg base qual st N k (spT K p):=by
 intro f cdv A outer s H vs Q E hr h
 obtain ⟨F,as,bf,oo,Qd,sf,ha,hd,hp,hq⟩:=h
 obtain ⟨t,d,h1,h2,h3⟩:=body f cdv A outer s H E hr
 obtain ⟨hl,fl,a1,a2,a3,a4,a5⟩:=zhh ha
 obtain ⟨a,haa⟩:∃ a:Addr,∀ a' fp,oo=some (a',fp)->a'=a:=by
  cases oo with
 |none=>exact ⟨0,λ a' fp e=>by cases e⟩
 |some x=>exact ⟨x.1,λ a' fp e=>by cases e;rfl⟩
 have slot:∀ (i:Nat) sl,(zxn N a as)[i]?=some sl->(sl=.un/\as.length<=i) \/ ∃ g,as[i]?=some g/\sl=zg61 a g:=λ i sl e=>by
  unfold zxn at e
  by_cases hi:i < as.length
  ·rw [wR (by simpa using hi),u6] at e
   obtain ⟨g,h1,h2⟩:=wJ.mp e
   exact .inr ⟨g,h1,h2.symm⟩
  ·rw [wM (by simpa using hi),xB] at e
   split at e
   ·cases e;exact .inl ⟨rfl,by lia⟩
   ·cases e
 have val:∀ (i:Nat) v,vs[i]?=some v->(L2.start N vs).getD i none=some v:=λ i v e=>by
  have hi:i < vs.length:=by
   rcases wS i vs.length with z|z
   ·exact z
   ·rw [wH z] at e;cases e
  unfold L2.start
  rw [vL,wR (by simpa using hi),u6,e]
  rfl
 have rs:RS K ⟨F,H,ofp oo⟩ F H (L2.start N vs) (zxn N a as) fl:=by
  refine ⟨λ b o _ z=>z,λ _ _ z=>z,sf,λ b _ z=>z,λ b z=>z,by simp [L2.start,zxn,hl],λ i x e=>?_,λ i sl e hs=>?_,λ i sl e ho b hb=>?_,λ i j sl sl' hij e1 e2 o1 o2 b hb hb2=>?_⟩
  ·rcases slot i _ e with ⟨z,_⟩|⟨g,e1,e2⟩
   ·cases z
   ·cases g with
   |d x'=>cases e2;obtain ⟨v,g1,g2⟩:=a1 i x e1;exact ⟨v,val i v g1,g2⟩
   |b _=>cases e2
   |o _=>cases e2
  ·rcases slot i _ e with ⟨z,_⟩|⟨g,e1,e2⟩
   ·rw [z] at hs;cases hs
   ·cases g with
   |d x'=>rw [e2] at hs;cases hs
   |b x' =>
     obtain ⟨v,g1,g2,g3,g4⟩:=a2 i x' e1
     rw [e2]
     exact ⟨v,x',val i v g1,rfl,g2,λ a u z=>(by cases z),g3⟩
   |o x' =>
     obtain ⟨a',g1,g2,g3,g4,g5⟩:=a3 i x' e1
     have:=haa a' _ g2
     subst this
     rw [e2]
     exact ⟨_,x',val i _ g1,rfl,g3,λ a u z=>(by cases z;rfl),g4⟩
  ·rcases slot i _ e with ⟨z,_⟩|⟨g,e1,e2⟩
   ·rw [z] at ho;cases ho
   ·cases g with
   |d x'=>rw [e2] at ho;cases ho
   |b x'=>rw [e2] at ho;cases ho
   |o x' =>
     obtain ⟨a',g1,g2,g3,g4,g5⟩:=a3 i x' e1
     refine .inr ⟨?_,λ t z=>?_⟩
     ·show b∈ofp oo
      rw [g2];exact hb
     ·rw [e2] at z;cases z
  ·rcases slot i _ e1 with ⟨z,_⟩|⟨g,f1,f2⟩
   ·rw [z] at o1;cases o1
   ·cases g with
   |d x'=>rw [f2] at o1;cases o1
   |b x'=>rw [f2] at o1;cases o1
   |o x' =>
     obtain ⟨a',g1,g2,g3,g4,g5⟩:=a3 i x' f1
     rcases slot j _ e2 with ⟨z,_⟩|⟨g',f1',f2'⟩
     ·rw [z] at o2;cases o2
     ·cases g' with
     |d x''=>rw [f2'] at o2;cases o2
     |b x'' =>
       obtain ⟨v,k1,k2,k3,k4⟩:=a2 j x'' f1'
       exact hd b (by rw [g2];exact hb) (k4 b hb2)
     |o x'' =>
       obtain ⟨a'',k1,k2,k3,k4,k5⟩:=a3 j x'' f1'
       rw [g5] at k5
       exact hij (wO.inj k5)
 have fin:∀ {F' H':Hp} {Y':L2.St} {U':DSt} {fps':Nat->List Addr} {v:V} {r:T} {fpr:List Addr},Res K ⟨F,H,ofp oo⟩ F' H' Y' U' fps' v r fpr->exA as a Qd r U'->Q v H':=λ {F' H' Y' U' fps' v r fpr} res ex=>by
  unfold exA at ex
  split at ex
  ·rename_i eo
   refine hq r (.fz .none) ex v F' H' fpr [] ⟨res.rs.hh,res.rs.ff,res.rs.fh,res.rs.nw,res.rs.al,res.rt,res.nd,res.fr,λ a' fp e=>?_⟩
   obtain ⟨k,x,g1,g2,g3⟩:=a5 a' fp e
   rw [eo] at g3;cases g3
  ·rename_i ko eo
   obtain ⟨t',et,qd⟩:=ex
   obtain ⟨x',t'',b1,b2,b3,b4,b5⟩:=res.rs.rt ko _ et rfl
   cases b2
   have:=b4 a t' rfl
   subst this
   refine hq r t' qd v F' H' fpr (fps' ko) ⟨res.rs.hh,res.rs.ff,res.rs.fh,res.rs.nw,res.rs.al,res.rt,res.nd,res.fr,λ a' fp e=>?_⟩
   have ea:=haa a' fp e
   subst ea
   refine ⟨b3,b5,λ b hb=>?_,λ b hb=>res.dj ko _ et rfl b hb⟩
   rcases res.rs.fr ko _ et rfl b hb with z|⟨z,_⟩
   ·exact .inr z
   ·have:b∈ofp oo:=z
    rw [e] at this
    exact .inl this
 refine ⟨t,h1,h2 rs (h3 as Qd a hp) ⟨λ r q=>fin ⟨r,.fz .non,.nil,λ a ha=>by simp at ha,λ _ _ _ _ a _ ha=>by simp at ha⟩ q,λ _ z=>z.elim,λ _ z=>z.elim,λ res q=>fin res q⟩⟩
theorem zbw {F H:Hp} {vs:List V} {as:List Arg} {bf:List Addr} {oo:Option (Addr×List Addr)} (h:ArgsR K F H vs as bf oo):vs.length=as.length:=(zhh h).1
theorem zab {p:DSpT} {ps:List Str} (h:∀ as Qd,p as Qd->as.length=ps.length):∀ vs H Q E,spT K p vs H Q E->vs.length=ps.length:=λ vs H Q E z=>by
 obtain ⟨F,as,bf,oo,Qd,_,ha,_,hp,_⟩:=z
 rw [zbw ha];exact h as Qd hp
noncomputable def zbh (N:List Str) (ds:List D):DSt:=ds.map Sl.sh++u7 (N.length - ds.length) .un
noncomputable def rD (Qd:D->Prop) (r:T) (_:DSt):Prop:=match r with
|.fz d=>Qd d
|.li ds=>Qd (.list ds)
|.ls ts=>∃ d,toD (.ls ts)=some d/\Qd d
|_=>False
theorem zl31 {Qd:D->Prop} {r:T} {U:DSt} (h:rD Qd r U):∃ d,toD r=some d/\Qd d:=by
 cases r with
|fz d=>exact ⟨d,rfl,h⟩
|li ds=>exact ⟨_,rfl,h⟩
|ls ts=>exact h
|ob _ _=>exact h.elim
|dk _=>exact h.elim
|dt _=>exact h.elim
|tp _=>exact h.elim
theorem zlo {F H:Hp} {N:List Str} {vs:List V} {ds:List D} (s:Same F H) (h:IsAll K F vs ds):RS K ⟨F,H,[]⟩ F H (L2.start N vs) (zbh N ds) (λ _=>[]):=by
 have el:=h.dlen
 have no:∀ (i:Nat) sl,(zbh N ds)[i]?=some sl->sl.has=true->False:=λ i sl e hs=>by
  unfold zbh at e
  by_cases hi:i < ds.length
  ·rw [wR (by simpa using hi),u6] at e
   obtain ⟨x,_,z⟩:=wJ.mp e
   subst z;cases hs
  ·rw [wM (by simpa using hi),xB] at e
   split at e
   ·cases e;cases hs
   ·cases e
 refine ⟨λ b o _ z=>z,λ _ _ z=>z,s,λ b _ z=>z,λ b z=>z,by simp [L2.start,zbh,el],λ i x e=>?_,λ i sl e hs=>(no i sl e hs).elim,λ i sl e ho=>(no i sl e (zu7 ho)).elim,λ i j sl sl' _ e _ o _=>(no i sl e (zu7 o)).elim⟩
 unfold zbh at e
 unfold L2.start
 by_cases hi:i < ds.length
 ·rw [wR (by simpa using hi),u6] at e
  obtain ⟨y,hx,z⟩:=wJ.mp e
  cases z
  obtain ⟨v,hv,iv⟩:=h.dget hx
  refine ⟨v,?_,iv⟩
  rw [vL,wR (by simp;lia),u6,hv]
  rfl
 ·rw [wM (by simpa using hi),xB] at e
  split at e <;> cases e
theorem zbb1 {F0 H0 F H:Hp} {Y:L2.St} {U:DSt} {fps:Nat->List Addr} {v:V} {r:T} {fpr:List Addr} {d:D} (res:Res K ⟨F0,H0,[]⟩ F H Y U fps v r fpr) (e:toD r=some d):∃ F',Ext F0 H0 F' H/\Is K F' v d:=by
 obtain ⟨F2,s1,s2,s3,s4⟩:=zna1 res.rs.fh res.rt e res.nd
 refine ⟨F2,⟨λ b o z=>res.rs.hh b o (by simp) z,res.rs.ff.trans s1,s2,λ b hb fb=>?_⟩,s4⟩
 have:b ∉ fpr:=λ z=>hb (res.fr b z)
 rw [s3 b this]
 exact res.rs.nw b hb fb
theorem zk8 {qual:Str} {st:Stmt} {N:List Str} {k:Nat} {p:DSp}
  (body:∀ (f:Addr) (cdv:Value) (A:Around) (outer:List Env) (s:Shared) (H:Hp) (E:XK),Room k (A.deeper (envOfC qual (zg0 st) s.heap.objs.size f cdv))->∃ t d,PSs (cxOf CX0 P w K mg base N qual (zg0 st) f cdv A outer s H E).nox (zu2 st) t/\RfS K t d/\∀ ds Qd,p ds Qd->d { nx:=λ _=>Qd .none,rt:=rD Qd } (zbh N ds)) :
  zj7 P w K mg base qual st N k (spD K p):=by
 intro f cdv A outer s H vs Q E hr h
 obtain ⟨F,ds,Qd,sf,i,hp,hq⟩:=h
 obtain ⟨t,d,h1,h2,h3⟩:=body f cdv A outer s H E hr
 refine ⟨t,h1,h2 (zlo sf i) (h3 ds Qd hp) ⟨λ r q=>hq _ q _ _ _ ⟨λ b o z=>r.hh b o (by simp) z,r.ff,r.fh,r.nw⟩ .non,λ _ z=>z.elim,λ _ z=>z.elim,λ res q=>?_⟩⟩
 obtain ⟨d',e1,e2⟩:=zl31 (U:=[]) q
 obtain ⟨F',ex,is⟩:=zbb1 res e1
 exact hq _ e2 _ _ _ ex is
theorem zl11 {F:Hp} {vs:List V} {ds:List D} (h:IsAll K F vs ds):vs.length=ds.length:=h.dlen
theorem zln {p:DSp} {ps:List Str} (h:∀ ds Qd,p ds Qd->ds.length=ps.length):∀ vs H Q E,spD K p vs H Q E->vs.length=ps.length:=λ vs H Q E z=>by
 obtain ⟨F,ds,Qd,_,i,hp,_⟩:=z
 rw [zl11 i];exact h ds Qd hp
theorem zmt {F:Hp}:∀ ns:List Int,IsAll K F (ns.map V.int) (ns.map u9)
|[]=>.nil
|n :: r=>.cons (.int n) (zmt r)
theorem zpc1 {st:Stmt} {N:List Str} {k:Nat} {fa:Addr} (M:Md K mg) (T:TopDef K "law" st) (hfa:mg "law"=some (.ref fa)) (S:FnScope N ["script"] (zg0 st)) (hb:zjb "law" "law" st ["script"])
  (body:∀ base:Heap,K.In base->base.Ns mainGlobals mg->∀ (f:Addr) (cdv:Value) (A:Around) (outer:List Env) (s:Shared) (H:Hp) (E:XK),Room k (A.deeper (envOfC "law" (zg0 st) s.heap.objs.size f cdv)) ->
   ∃ t d,PSs (cxOf CX0 P w K mg base N "law" (zg0 st) f cdv A outer s H E).nox (zu2 st) t/\RfS K t d/\∀ (ns:List Int) (Qd:D->Prop),ns.length<=63->Qd (.bool true)->d { nx:=λ _=>Qd .none,rt:=rD Qd } (zbh N [.list (ns.map .int)])) :
  ∃ fd:FuncData,(∀ (s:Shared) (v:Value),BindsTo s fd ⟨[v],[]⟩ [("script",v)])/\∀ base:Heap,K.In base->base.Ns mainGlobals mg->FnOk P w K mg base CX0 (k+1) fa fd ["script"] (zw41 K):=by
 refine zk51 M T hfa S hb (λ vs H Q E h=>by obtain ⟨a,ns,rfl,_⟩:=h;rfl) λ base kb nb=>?_
 intro f cdv A outer s H vs Q E hr h
 obtain ⟨a,ns,rfl,hS,hl,hq⟩:=h
 obtain ⟨t,d,h1,h2,h3⟩:=body base kb nb f cdv A outer s H E hr
 refine ⟨t,h1,h2 (zlo (F:=H) (λ _ _ z=>z) (.cons (.lst hS (zmt ns)) .nil)) (h3 ns (λ d=>d=.bool true) hl rfl) ⟨λ r q=>(by cases q),λ _ z=>z.elim,λ _ z=>z.elim,λ res q=>?_⟩⟩
 obtain ⟨d',e1,e2⟩:=zl31 (U:=[]) q
 obtain ⟨F',ex,is⟩:=zbb1 res e1
 subst e2
 cases is
 exact hq _
end
end L4
namespace L3
open PySem PySem.Spec PyProof.Rows L2
section
variable {X:Cx} {tg:Expr}
end
end L3
namespace L4
open PySem PySem.Spec PyProof.Rows L2 L3
section
variable {K:Fg} {tA:TA} {dA:DF}
end
theorem e_dF (df:DF) (U:DSt) (Q:D->Prop):dF df U Q=( df U λ ds=>Q (.list ds)):=rfl
theorem e_dC (d:D) (x_0:DSt) (Q:D->Prop):dC d x_0 Q=( Q d):=rfl
theorem zrd1 (f:D->D->(D->Prop)->Prop) (da db:DE) (U:DSt) (Q:D->Prop):dOp f da db U Q=( da U λ x=>db U λ y=>f x y Q):=rfl
theorem zm61 (f:D->D->(List D->Prop)->Prop) (da db:DE) (U:DSt) (Q:List D->Prop):dOpF f da db U Q=( da U λ x=>db U λ y=>f x y Q):=rfl
theorem zw91 (df:DF) (db:DE) (U:DSt) (Q:List D->Prop):dRep df db U Q=( df U λ ds=>db U λ y=>fRep ds y Q):=rfl
theorem zqd1 (f:D->(D->Prop)->Prop) (da:DE) (U:DSt) (Q:D->Prop):dUn f da U Q=( da U λ x=>f x Q):=rfl
theorem zw31 (de:DE) (U:DSt) (Q:Bool->Prop):zd81 de U Q=( de U λ d=>fB d Q):=rfl
theorem zq61 (de:DE) (U:DSt) (Q:Bool->Prop):dTru de U Q=( de U λ d=>fTru d Q):=rfl
theorem zp81 (dt du:DT) (U:DSt) (Q:Bool->Prop):dAnd dt du U Q=( dt U λ b=>if b=true then du U Q else Q false):=rfl
theorem zic1 (dt du:DT) (U:DSt) (Q:Bool->Prop):dOr dt du U Q=( dt U λ b=>if b=true then Q true else du U Q):=rfl
theorem zq71 (dt:DT) (U:DSt) (Q:Bool->Prop):dNot dt U Q=( dt U λ b=>Q (!b)):=rfl
theorem zu61 (dt:DT) (da db:DE) (U:DSt) (Q:D->Prop):dIfE dt da db U Q=( dt U λ b=>if b=true then da U Q else db U Q):=rfl
theorem zwv (f g:D->D->(D->Prop)->Prop) (da db dc:DE) (U:DSt) (Q:D->Prop):zev f g da db dc U Q=( da U λ x=>db U λ y=>f x y λ u=>fB u λ b=>if b=true then dc U λ z=>g y z Q else Q (.bool false)):=rfl
theorem zc91 (x_0:DSt) (Q:List D->Prop):dNil x_0 Q=( Q []):=rfl
theorem zd11 (da:DE) (dr:DF) (U:DSt) (Q:List D->Prop):zwq da dr U Q=( da U λ x=>dr U λ xs=>Q (x :: xs)):=rfl
theorem zu91 (dA:DF) (U:DSt) (Q:D->Prop):dTup dA U Q=( dA U λ xs=>xs.length<=sizeLine/\Q (.tuple xs)):=rfl
theorem zm91 (dA:DF) (U:DSt) (Q:List D->Prop):dLst dA U Q=( dA U λ xs=>xs.length<=sizeLine/\Q xs):=rfl
theorem zc11 (p:DSp) (dA:DF) (U:DSt) (Q:D->Prop):zfc1 p dA U Q=( dA U λ ds=>p ds Q):=rfl
theorem zqc1 (f:List D->(D->Prop)->Prop) (dA:DF) (U:DSt) (Q:D->Prop):dCB f dA U Q=( dA U λ ds=>f ds Q):=rfl
theorem zhc1 (f:List D->(List D->Prop)->Prop) (dA:DF) (U:DSt) (Q:List D->Prop):dCF f dA U Q=( dA U λ ds=>f ds Q):=rfl
theorem zoc1 (T:String) (da:DE) (U:DSt) (Q:D->Prop):dIs T da U Q=( da U λ d=>(∀ kvs,d≠.dict kvs)/\Q (.bool (isT T d))):=rfl
theorem zws (x_0:DSt) (Q:Option Int->Prop):zbv x_0 Q=( Q none):=rfl
theorem zq31 (de:DE) (U:DSt) (Q:Option Int->Prop):zra1 de U Q=( de U λ d=>match d with
|.int i=>Q (some i)
|_=>False):=rfl
theorem zkc1 (de:DE) (dl dh:DO) (U:DSt) (Q:D->Prop):dSl de dl dh U Q=( de U λ d=>dl U λ lo=>dh U λ hi=>fSl d lo hi Q):=rfl
theorem zw61 (de:DE) (dl dh dk:DO) (U:DSt) (Q:List D->Prop):dSl3 de dl dh dk U Q=( de U λ d=>dl U λ lo=>dh U λ hi=>dk U λ st=>match d with
|.list ds=>st≠some 0/\Q (zzj ds lo hi st)
|_=>False):=rfl
theorem zbd1 (de:DE) (U:DSt) (Q:List D->Prop):dIt de U Q=( de U λ d=>zpz d Q):=rfl
theorem zi41 (dA:DF) (U:DSt) (Q:List D->Prop):za61 dA U Q=( dA U λ ds=>match ds with
|[.int j]=>-(2 ^ 62)<=j/\j < 2 ^ 62/\Q (rngD 0 j.toNat)
|_=>False):=rfl
theorem zf41 (dA:DF) (U:DSt) (Q:List D->Prop):zcc1 dA U Q=( dA U λ ds=>match ds with
|[.int i,.int j]=>(-(2 ^ 62)<=i/\i < 2 ^ 62/\-(2 ^ 62)<=j/\j < 2 ^ 62)/\Q (rngD i (j - i).toNat)
|_=>False):=rfl
theorem zv21 (dA:DF) (U:DSt) (Q:List D->Prop):zb51 dA U Q=( dA U λ ds=>match ds with
|[.list a]=>Q (zgs a)
|_=>False):=rfl
theorem e_gN (i:Nat) (d:D) (U:DSt) (G:DSt->Prop):gN i d U G=( G (U.set i (.sh d))):=rfl
theorem zw21 (ds:List D) (U:DSt) (G:DSt->Prop):zm41 ds U G=( match ds with
|[]=>G U
|_=>False):=rfl
theorem zxw (g:DG) (gs:DGs) (ds:List D) (U:DSt) (G:DSt->Prop):zlq g gs ds U G=( match ds with
|d :: r=>g d U λ U'=>gs r U' G
|[]=>False):=rfl
theorem e_gT (n:Nat) (gs:DGs) (d:D) (U:DSt) (G:DSt->Prop):gT n gs d U G=( match d with
|.tuple ds=>ds.length=n/\gs ds U G
|_=>False):=rfl
theorem ziz (x_0:DSt) (Q:Bool->Prop):zq41 x_0 Q=( Q true):=rfl
theorem zj81 (C:Addr) (f:Str) (dp:DP) (U:DSt) (Q:Nat->Pth->T->Prop):pFld C f dp U Q=( dp U λ i p u=>nCls C u/\nFld f u λ t=>Q i (p++[.fl f]) t):=rfl
theorem zxd1 (dp:DP) (di:DE) (U:DSt) (Q:Nat->Pth->T->Prop):pIx dp di U Q=( dp U λ i p u=>di U λ k=>nIx u k λ j t=>Q i (p++[.ix j]) t):=rfl
theorem zpd1 (dp:DP) (U:DSt) (Q:D->Prop):dPV dp U Q=( dp U λ _ _ u=>vwT u Q):=rfl
theorem zde1 (dp:DP) (U:DSt) (Q:D->Prop):dPE dp U Q=( dp U λ _ _ u=>fzT u Q):=rfl
theorem e_cE (de:DE) (U:DSt) (Q:T->DSt->Prop):cE de U Q=( de U λ d=>Q (.fz d) U):=rfl
theorem e_cF (df:DF) (U:DSt) (Q:T->DSt->Prop):cF df U Q=( df U λ ds=>Q (.li ds) U):=rfl
theorem zp21 (E:DEnds) (U:DSt):zp51 E U=( E.nx U):=rfl
theorem zh61 (de:DE) (dg:DG) (E:DEnds) (U:DSt):dAsg de dg E U=( de U λ d=>dg d U E.nx):=rfl
theorem zx91 (i:Nat) (dc:DC) (E:DEnds) (U:DSt):dSet i dc E U=( dc U λ r U'=>E.nx (U'.set i (slot r))):=rfl
theorem zrz (dc:DC) (E:DEnds) (U:DSt):zd51 dc E U=( dc U λ _ U'=>E.nx U'):=rfl
theorem zu81 (dc:DC) (E:DEnds) (U:DSt):dRet dc E U=( dc U E.rt):=rfl
theorem zb31 (i:Nat) (E:DEnds) (U:DSt):zl41 i E U=( match U[i]? with
|some (.ow t)=>E.rt t (U.set i .un)
|some (.sh d)=>E.rt (.fz d) U
|_=>False):=rfl
theorem zw01 (x_0:DEnds) (x_1:DSt):zr51 x_0 x_1=( False):=rfl
theorem ztc1 (dt:DT) (d e:DS) (E:DEnds) (U:DSt):dIf dt d e E U=( dt U λ b=>if b=true then d E U else e E U):=rfl
theorem zjc1 (ty:String) (f:FM) (dp:DP) (dA:DF) (U:DSt) (Q:T->DSt->Prop):cBM ty f dp dA U Q=( dp U λ i p u=>tyN ty u/\dA U λ ds=>f u ds λ u2 d=>mutS U i p u2 λ U'=>Q (.fz d) U'):=rfl
theorem zb91 (ty:String) (f:FM) (dp:DP) (U:DSt) (Q:T->DSt->Prop):cBM0 ty f dp U Q=( dp U λ i p u=>tyN ty u/\f u [] λ u2 d=>mutS U i p u2 λ U'=>Q (.fz d) U'):=rfl
theorem zx71 (dp:DP) (dk de:DE) (E:DEnds) (U:DSt):dPut dp dk de E U=( de U λ d=>dp U λ i p u=>dk U λ k=>fPut u k d λ u2=>mutS U i p u2 E.nx):=rfl
theorem zu31 (f:Int->Int->Int) (dp:DP) (dk de:DE) (E:DEnds) (U:DSt):zwa1 f dp dk de E U=( dp U λ i p u=>dk U λ k=>fGet u k λ x=>de U λ y=>fII f x y λ z=>fPut u k z λ u2=>mutS U i p u2 E.nx):=rfl
theorem za91 (i:Nat) (f:Int->Int->Int) (de:DE) (E:DEnds) (U:DSt):dAug i f de E U=( match U[i]? with
|some (.sh x)=>de U λ y=>fII f x y λ z=>E.nx (U.set i (.sh z))
|_=>False):=rfl
theorem zf71 (dp:DP) (dk:DE) (U:DSt) (Q:D->Prop):nGet dp dk U Q=( dp U λ _ _ u=>dk U λ k=>fGet u k Q):=rfl
theorem zxc1 (neg:Bool) (dk:DE) (dp:DP) (U:DSt) (Q:D->Prop):nIn neg dk dp U Q=( dk U λ k=>dp U λ _ _ u=>fHas neg u k Q):=rfl
theorem zzd1 (U:DSt) (Q:T->DSt->Prop):cDT U Q=( Q (.dt []) U):=rfl
theorem e_nE (de:DE) (U:DSt) (Q:T->Prop):nE de U Q=( de U λ d=>Q (.fz d)):=rfl
theorem e_nF (df:DF) (U:DSt) (Q:T->Prop):nF df U Q=( df U λ ds=>Q (.li ds)):=rfl
theorem e_cN (dn:DN) (U:DSt) (Q:T->DSt->Prop):cN dn U Q=( dn U λ r=>Q r U):=rfl
theorem zh91 (C:Addr) (f:Str) (dc:DC) (dp:DP) (E:DEnds) (U:DSt):dFld C f dc dp E U=( dc U λ r U1=>dp U1 λ i p u=>nCls C u/\nSet f u r λ u2=>mutS U1 i p u2 E.nx):=rfl
theorem zzr (C:Addr) (f:Str) (fn:Int->Int->Int) (dp:DP) (de:DE) (E:DEnds) (U:DSt):zkp C f fn dp de E U=( dp U λ i p u=>nCls C u/\nFld f u λ t=>fzT t λ x=>de U λ y=>nFII f fn x u y λ u2=>mutS U i p u2 E.nx):=rfl
theorem zz81 (i:Nat) (p:Pth) (d:DS) (E:DEnds) (U:DSt):dFrz i p d E U=( fzS U i p λ U'=>d E U'):=rfl
theorem zs71 (x_0:DSt) (Q:List ArgP->Prop):aNil x_0 Q=( Q []):=rfl
theorem e_aD (de:DE) (dr:DAT) (U:DSt) (Q:List ArgP->Prop):aD de dr U Q=( de U λ x=>dr U λ as=>Q (.d x :: as)):=rfl
theorem e_aB (dp:DP) (dr:DAT) (U:DSt) (Q:List ArgP->Prop):aB dp dr U Q=( dp U λ i p t=>dr U λ as=>Q (.b i p t :: as)):=rfl
theorem e_aO (dp:DP) (dr:DAT) (U:DSt) (Q:List ArgP->Prop):aO dp dr U Q=( dp U λ i p t=>dr U λ as=>Q (.o i p t :: as)):=rfl
theorem zm11 (p:DSpT) (da:DAT) (U:DSt) (Q:T->DSt->Prop):zca1 p da U Q=( da U λ as=>zkv p U as Q):=rfl
theorem zv01 (o:Bool) (C:Addr) (m:Str) (p:DSpT) (dp:DP) (da:DAT) (U:DSt) (Q:T->DSt->Prop):zyb1 o C m p dp da U Q=( dp U λ i q u=>nCls C u/\noM m u/\da U λ as=>zkv p U ((if o then .o i q u else .b i q u) :: as) Q):=rfl
theorem zfz (p:DSpT) (da:DAT) (U:DSt) (Q:T->Prop):zwb1 p da U Q=( da U λ as=>zoy p as Q):=rfl
theorem zr11 (C:Addr) (m:Str) (p:DSpT) (dp:DP) (da:DAT) (U:DSt) (Q:T->Prop):zoa1 C m p dp da U Q=( dp U λ i q u=>nCls C u/\noM m u/\da U λ as=>zoy p (.b i q u :: as) Q):=rfl
theorem e_eN (dn:DN) (U:DSt) (Q:D->Prop):eN dn U Q=( dn U λ r=>fzT r Q):=rfl
theorem za11 (C:Addr) (p:DSpT) (da:DAT) (U:DSt) (Q:T->Prop):zla1 C p da U Q=( da U λ as=>noO as/\p (.o (.ob C []) :: as.map ArgP.arg) λ r t2=>(match r with|.fz .none=>True|_=>False)/\Q t2):=rfl
noncomputable def slT:Sl->(T->Prop)->Prop
|.sh d,N=>N (.fz d)
|.ow t,N=>N t
|.bo t,N=>N t
|.io _ t,N=>N t
|.un,_=>False
noncomputable def pAt (U:DSt) (i:Nat) (N:T->Prop):Prop:=∃ s t,U[i]?=some s/\s.tree=some t/\N t
theorem zv81 (i:Nat) (U:DSt) (Q:D->Prop):dVar i U Q=pAt U i λ t=>fzT t Q:=rfl
theorem zm01 (i:Nat) (U:DSt) (Q:D->Prop):za51 i U Q=pAt U i λ t=>vwT t Q:=rfl
theorem zo61 (i:Nat) (U:DSt) (Q:Nat->Pth->T->Prop):pVar i U Q=pAt U i λ t=>Q i [] t:=rfl
theorem zz71 (s:Sl) (U:DSt) (N:T->Prop):pAt (s :: U) 0 N=slT s N:=by
 apply propext
 cases s <;> simp [pAt,slT,Sl.tree]
theorem zh71 (i:Nat) (s:Sl) (U:DSt) (N:T->Prop):pAt (s :: U) (i+1) N=pAt U i N:=by simp [pAt]
theorem zc81 (U:DSt) (i:Nat) (p:Pth) (u:T) (N:DSt->Prop):mutS U i p u N=(match U[i]? with
|some (.ow t)=>N (U.set i (.ow (setP t p u)))
|some (.io a t)=>N (U.set i (.io a (setP t p u)))
|_=>False):=rfl
theorem zwd1 (U:DSt) (i:Nat) (p:Pth) (N:DSt->Prop):fzS U i p N=(match U[i]? with
|some (.ow t)=>∃ u d,getP t p=some u/\toD u=some d/\N (U.set i (slot (setP t p (.fz d))))
|some (.sh _)=>N U
|_=>False):=rfl
theorem zo11 (U:DSt) (i:Nat):zsy U i=(match U[i]? with
|some (.ow _)=>True
|some (.io _ _)=>True
|_=>False):=rfl
theorem zz11 (t u:T):setP t [] u=u:=by cases t <;> rfl
theorem zv51 (ds:List D):tyN "list" (.li ds)=True:=by simp [tyN]
theorem zm51 (ds:List T):tyN "list" (.ls ds)=True:=by simp [tyN]
theorem zj71 (ds:List (Key×D)):tyN "dict" (.dk ds)=True:=by simp [tyN]
theorem zo91 (ds:List (List Key×D)):tyN "dict" (.dt ds)=True:=by simp [tyN]
theorem zgd1 (Qd:D->Prop) (d:D) (U:DSt):rD Qd (.fz d) U=Qd d:=rfl
theorem zfd1 (Qd:D->Prop) (d:List D) (U:DSt):rD Qd (.li d) U=Qd (.list d):=rfl
theorem zid1 (Qd:D->Prop) (d:List T) (U:DSt):rD Qd (.ls d) U=∃ e,toD (.ls d)=some e/\Qd e:=rfl
theorem zi21 (p:DSpT) (U:DSt) (as:List ArgP) (Q:T->DSt->Prop):zkv p U as Q=(match zvu as with
|some (i,q,t)=>zsy U i/\oneO i as/\zxy t/\p (as.map ArgP.arg) λ r t2=>mutS U i q t2 λ U'=>Q r U'
|none=>noO as/\p (as.map ArgP.arg) λ r _=>Q r U):=rfl
theorem zbz (p:DSpT) (as:List ArgP) (Q:T->Prop):zoy p as Q=(noO as/\p (as.map ArgP.arg) λ r _=>Q r):=rfl
noncomputable def zu21 (items:List D) (n:Nat) (ix:List Nat) (dg:DG) (dn:DN) (U:DSt) (Q:T->Prop):Prop:=items.length<=sizeLine/\∃ R:Nat->T->Prop,
 (∀ i d,items[i]?=some d->dg d (cST n ix U) λ U'=>dn U' λ r=>R i r)/\∀ rs:List T,rs.length=items.length->(∀ (j:Nat) r,rs[j]?=some r->R j r)->Q (.ls rs)
theorem zj31 (di:DF) (n:Nat) (ix:List Nat) (dg:DG) (dn:DN) (U:DSt) (Q:T->Prop):zq81 di n ix dg dn U Q=di U λ items=>zu21 items n ix dg dn U Q:=rfl
theorem zxp {α:Type} {xs:List α} {enc:α->D} (f:α->T) {n:Nat} {ix:List Nat} {dg:DG} {dn:DN} {U:DSt} {Q:T->Prop} (hz:xs.length<=sizeLine)
  (h:∀ x∈xs,dg (enc x) (cST n ix U) λ U'=>dn U' λ r=>r=f x) (q:Q (.ls (xs.map f))):zu21 (xs.map enc) n ix dg dn U Q:=by
 refine ⟨by rw [u4];exact hz,λ i r=>∀ x,xs[i]?=some x->r=f x,λ i d e=>?_,λ rs hl hR=>?_⟩
 ·rw [u6] at e
  obtain ⟨x,hx,rfl⟩:=wJ.mp e
  have e1:(λ r=>∀ y,xs[i]?=some y->r=f y)=λ r=>r=f x:=by funext r;rw [hx];simp
  show dg (enc x) (cST n ix U) λ U'=>dn U' λ r=>∀ y,xs[i]?=some y->r=f y
  rw [e1]
  exact h x (v8 hx)
 ·rw [u4] at hl
  have:rs=xs.map f:=by
   apply zG
   intro i
   rw [u6]
   by_cases hi:i < rs.length
   ·have e1:rs[i]?=some rs[i]:=u5 hi
    have e2:xs[i]?=some (xs[i]'(by lia)):=u5 _
    rw [e1,e2,hR i _ e1 _ e2];rfl
   ·rw [wH (by lia),wH (by lia)];rfl
  rw [this];exact q
noncomputable def zh51 (items:List D) (n:Nat) (ix:List Nat) (dg:DG) (dt:DT) (de:DE) (U:DSt) (Q:List D->Prop):Prop:=items.length<=sizeLine/\∃ R:Nat->Option D->Prop,
 (∀ i d,items[i]?=some d->dg d (cST n ix U) λ U'=>dt U' λ b=>if b=true then de U' λ r=>R i (some r) else R i none) /\
 ∀ os:List (Option D),os.length=items.length->(∀ (j:Nat) o,os[j]?=some o->R j o)->Q (os.filterMap id)
theorem zb81 (di:DF) (n:Nat) (ix:List Nat) (dg:DG) (dt:DT) (de:DE) (U:DSt) (Q:List D->Prop):zja1 di n ix dg dt de U Q=di U λ items=>zh51 items n ix dg dt de U Q:=rfl
noncomputable def ForB (items:List D) (dg:DG) (db:DS) (E:DEnds) (U:DSt):Prop:=∃ W:Nat->DSt->Prop,W 0 U /\
 (∀ i d U',items[i]?=some d->W i U'->dg d U' λ U2=>db { E with nx:=W (i+1),ct:=W (i+1),bk:=E.nx } U2)/\∀ U',W items.length U'->E.nx U'
theorem zed1 (di:DF) (dg:DG) (db:DS) (E:DEnds) (U:DSt):dFor di dg db E U=di U λ items=>ForB items dg db E U:=rfl
theorem zct {a b:DS} {E:DEnds} {U:DSt} (h:a { E with nx:=b E } U):dSeq a b E U:=⟨b E,h,λ _ z=>z⟩
theorem zuk {a b:DS} {E:DEnds} {U:DSt} (J:DSt->Prop) (h:a { E with nx:=J } U) (hj:∀ U',J U'->b E U'):dSeq a b E U:=⟨J,h,hj⟩
theorem ze0 {a b:DS} {E:DEnds} {U:DSt} (h:∀ J:DSt->Prop,(∀ U',b E U'->J U')->a { E with nx:=J } U):dSeq a b E U:=⟨b E,h (b E) λ _ z=>z,λ _ z=>z⟩
theorem zbc1 {α:Type} {f:α->Option D}:∀ {xs:List α} {os:List (Option D)},os.length=xs.length->(∀ (j:Nat) o x,os[j]?=some o->xs[j]?=some x->o=f x)->os.filterMap id=xs.filterMap f
|[],[],_,_=>rfl
|x :: xs,o :: os,hl,h=>by
  have e:o=f x:=h 0 o x rfl rfl
  have ih:=zbc1 (f:=f) (xs:=xs) (os:=os) (by simpa using hl) λ j o' x' h1 h2=>h (j+1) o' x' (by simpa using h1) (by simpa using h2)
  rw [wX,wX,e,ih]
  rfl
theorem zr41 {α:Type} {xs:List α} {enc:α->D} (f:α->Option D) {n:Nat} {ix:List Nat} {dg:DG} {dt:DT} {de:DE} {U:DSt} {Q:List D->Prop} (hz:xs.length<=sizeLine)
  (h:∀ x∈xs,dg (enc x) (cST n ix U) λ U'=>dt U' λ b=>if b=true then de U' λ r=>some r=f x else none=f x) (q:Q (xs.filterMap f)):zh51 (xs.map enc) n ix dg dt de U Q:=by
 refine ⟨by rw [u4];exact hz,λ i o=>∀ x,xs[i]?=some x->o=f x,λ i d e=>?_,λ os hl hR=>?_⟩
 ·rw [u6] at e
  obtain ⟨x,hx,rfl⟩:=wJ.mp e
  have:=h x (v8 hx)
  have e1:(λ r=>∀ y,xs[i]?=some y->some r=f y)=λ r=>some r=f x:=by
   funext r;rw [hx];simp
  have e2:(∀ y,xs[i]?=some y->(none:Option D)=f y)=(none=f x):=by rw [hx];simp
  show dg (enc x) (cST n ix U) λ U'=>dt U' λ b=>if b=true then de U' λ r=>∀ y,xs[i]?=some y->some r=f y else ∀ y,xs[i]?=some y->(none:Option D)=f y
  rw [e1,e2]
  exact this
 ·rw [u4] at hl
  rw [zbc1 hl λ j o x h1 h2=>hR j o h1 x h2]
  exact q
theorem zrs {α:Type} {xs:List α} {enc:α->D} (g:α->D) {n:Nat} {ix:List Nat} {dg:DG} {de:DE} {U:DSt} {Q:List D->Prop} (hz:xs.length<=sizeLine)
  (h:∀ x∈xs,dg (enc x) (cST n ix U) λ U'=>de U' λ r=>r=g x) (q:Q (xs.map g)):zh51 (xs.map enc) n ix dg zq41 de U Q:=by
 refine zr41 (λ x=>some (g x)) hz (λ x hx=>?_) ?_
 ·have:=h x hx
  have e:(λ r=>some r=some (g x))=λ r=>r=g x:=by funext r;simp
  show dg (enc x) (cST n ix U) λ U'=>if true=true then de U' λ r=>some r=some (g x) else none=some (g x)
  rw [e]
  simp only [if_true]
  exact this
 ·rw [show xs.filterMap (λ x=>some (g x))=xs.map g from congrFun List.filterMap_eq_map' xs]
  exact q
theorem za2 {α:Type} {xs:List α} {enc:α->D} (W:Nat->DSt->Prop) {dg:DG} {db:DS} {E:DEnds} {U:DSt} (h0:W 0 U)
  (hs:∀ (i:Nat) x U',xs[i]?=some x->W i U'->dg (enc x) U' λ U2=>db { E with nx:=W (i+1),ct:=W (i+1),bk:=E.nx } U2) (he:∀ U',W xs.length U'->E.nx U'):ForB (xs.map enc) dg db E U:=by
 refine ⟨W,h0,λ i d U' e w=>?_,λ U' w=>he U' (by rw [u4] at w;exact w)⟩
 rw [u6] at e
 obtain ⟨x,hx,rfl⟩:=wJ.mp e
 exact hs i x U' hx w
theorem two {c:Prop} [Decidable c] {A B:Prop} (h1:c->A) (h2:¬c->B):if c then A else B:=by
 by_cases h:c
 ·rw [if_pos h];exact h1 h
 ·rw [if_neg h];exact h2 h
theorem zhf {α:Type} (f:α->D) (xs:List α):zgs (xs.map f)=(xs.mapIdx λ i x=>(i,x)).map λ p=>.tuple [.int (p.1:Nat),f p.2]:=by
 unfold zgs
 apply zG
 intro i
 rw [yR,u6,u6,yR]
 cases xs[i]? <;> rfl
theorem zk2 {α:Type} {xs:List α} {i:Int} {x:α} (h0:0<=i) (h:xs[i.toNat]?=some x):atI xs i=some x:=by
 have e:((i.toNat:Nat):Int)=i:=by lia
 have:=zdt (xs:=xs) (j:=i.toNat) (v:=x) h
 rwa [e] at this
section
variable (K:Fg)
noncomputable def RfH (te:TE) (de:DE):Prop:=∀ {F H:Hp} {Y:L2.St} {U:DSt} {Qd:D->Prop} {Q:VK},Same F H->RV K F H Y U->de U Qd->(∀ d,Qd d->∀ v F' H',Ext F H F' H'->Is K H' v d->Q v H')->te Y H Q
noncomputable def RfAH (ta:TA) (da:DF):Prop:=∀ {F H:Hp} {Y:L2.St} {U:DSt} {Qd:List D->Prop} {Q:List V->Hp->Prop},Same F H->RV K F H Y U->da U Qd->(∀ ds,Qd ds->∀ vs F' H',Ext F H F' H'->IsAll K H' vs ds->Q vs H')->ta Y H Q
end
section
variable {K:Fg} {te ta tb:TE} {de da db:DE} {tA:TA} {dA:DF}
theorem RfV.h (h:RfV K te de):RfH K te de:=λ s r d k=>h s r d λ x q v F' H' e i=>k x q v F' H' e (i.is e.fh)
theorem zm81:RfAH K tNil dNil:=λ s rv h k=>k _ h _ _ _ (Ext.refl s) .nil
theorem zyx {F H:Hp} {p:Addr} {o:HO} (s:Same F H) (hn:H p=none):Ext F H F (upd H p o) :=
 ⟨zq2 hn _,λ _ _ z=>z,λ b o z=>zq2 hn _ b o (s b o z),λ _ _ z=>z⟩
theorem ze71 (h:RfAH K tA dA):RfH K (zs51 tA) (dF (dLst dA)):=by
 intro F H Y U Qd Q s rv hd k
 refine h s rv hd λ xs hx vs F1 H1 e1 i1=>⟨by rw [i1.dlen];exact hx.1,λ p hp=>?_⟩
 exact k _ hx.2 _ _ _ (e1.trans (zyx e1.fh hp)) (.lst (SqL.of zo0) (i1.mono (zq2 hp _)))
noncomputable def R2H (K:Fg) (r:R2) (f:D->D->(D->Prop)->Prop):Prop:=∀ {F H:Hp} {x y:V} {d e:D} {Qd:D->Prop} {Q:VK},Same F H->Is K H x d->Is K H y e->f d e Qd->(∀ z,Qd z->∀ v F' H',Ext F H F' H'->Is K F' v z->Q v H')->r x y H Q
theorem ze5 {r:R2} {f:D->D->(D->Prop)->Prop} (hr:R2H K r f) (ha:RfH K ta da) (hb:RfH K tb db):RfE K (tOp r ta tb) (dOp f da db):=by
 intro F H Y U Qd Q s rv h k
 refine ha s rv h λ x hx v F1 H1 e1 i1=>hb e1.fh (rv.ext e1) hx λ y hy u F2 H2 e2 i2=>?_
 exact hr e2.fh (i1.mono e2.h) i2 hy λ z hz w F3 H3 e3 i3=>k z hz w F3 H3 ((e1.trans e2).trans e3) i3
theorem q_eq:R2H K (rEqU K) fEq:=by
 intro F H x y d e Qd Q s hx hy h k
 unfold fEq at h
 split at h
 ·cases hx.int_inv;cases hy.int_inv
  refine .inl ⟨rfl,k _ h _ F H (Ext.refl s) ?_⟩
  rw [zei];exact .bl _
 ·cases hx.str_inv;cases hy.str_inv
  refine .inl ⟨rfl,k _ h _ F H (Ext.refl s) ?_⟩
  rw [zui];exact .bl _
 ·cases hx.bl_inv;cases hy.bl_inv
  refine .inl ⟨rfl,k _ h _ F H (Ext.refl s) ?_⟩
  rw [zno];exact .bl _
 ·exact .inr ⟨_,_,hx,hy,h.1,h.2.1,k _ h.2.2 _ F H (Ext.refl s) (.bl _)⟩
theorem q_ne:R2H K (rNeU K) fNe:=by
 intro F H x y d e Qd Q s hx hy h k
 unfold fNe at h
 split at h
 ·cases hx.int_inv;cases hy.int_inv
  refine .inl ⟨rfl,k _ h _ F H (Ext.refl s) ?_⟩
  rw [zei];exact .bl _
 ·cases hx.str_inv;cases hy.str_inv
  refine .inl ⟨rfl,k _ h _ F H (Ext.refl s) ?_⟩
  rw [zui];exact .bl _
 ·cases hx.bl_inv;cases hy.bl_inv
  refine .inl ⟨rfl,k _ h _ F H (Ext.refl s) ?_⟩
  rw [zno];exact .bl _
 ·exact .inr ⟨_,_,hx,hy,h.1,h.2.1,k _ h.2.2 _ F H (Ext.refl s) (.bl _)⟩
end
theorem zu51 (i:Int):isT "int" (.int i)=true:=rfl
theorem zo71 (i:Int):isT "bool" (.int i)=false:=by simp [isT,tyD]
theorem zv61 (i:List D):isT "list" (.list i)=true:=rfl
theorem zp71 (i:List D):isT "tuple" (.tuple i)=true:=rfl
theorem zx61 (i:Str):isT "str" (.str i)=true:=rfl
theorem zl61 (i:Int):(∀ kvs,u9 i≠.dict kvs)=True:=by simp
theorem zh31 (i:List D):(∀ kvs,xJ i≠.dict kvs)=True:=by simp
theorem zy81 (i:List D):(∀ kvs,yD i≠.dict kvs)=True:=by simp
theorem zr71 (i:Str):(∀ kvs,PyData.str i≠.dict kvs)=True:=by simp
theorem zzc1 (i:Bool):(∀ kvs,PyData.bool i≠.dict kvs)=True:=by simp
theorem zd61:(∀ kvs,PyData.none≠.dict kvs)=True:=by simp
theorem zeq (ns:List Int) {n:Nat}:Fit (n+1) (.list (ns.map .int)):=Fit.lst λ d h=>by
 obtain ⟨i,_,rfl⟩:=vR.mp h
 exact Fit.int i
theorem zpq {α:Type} {xs:List α} {f:α->D} {n:Nat} (h:∀ x∈xs,Fit n (f x)):Fit (n+1) (.list (xs.map f)):=Fit.lst λ d hd=>by
 obtain ⟨x,hx,rfl⟩:=vR.mp hd
 exact h x hx
end L4
namespace L3
open PySem PySem.Spec PyProof.Rows L2
section
variable {X:Cx}
theorem za8 {C:Addr} {m:Str} {k:Nat} {ps:List Str} {sp:Sp} {o:Expr} {ta:TE} {apos pos:Pos} {pl:Sem Bool} (d:MethD X.prog X.w X.K X.mg X.base C m k ps sp) (hr:Room k X.A) (he:PE X o ta)
  (ht:eval (.Call (.Attribute o m apos) [] [] pos) X.env=(do
   let ov <- eval o X.env
   standAt apos.atName
   let (f,first) <- holding [ov] (getMethod ov m pl)
   callWith pos f first (backTo pos (starEach [] X.env)) (backToKw pos (keywordEach [] X.env))):=by rfl) :
  PE X (.Call (.Attribute o m apos) [] [] pos) (zzy C m sp [] E0 ta tNil):=by
 obtain ⟨f,fd,c,M,F,b⟩:=d
 exact zjx he c M F hr b .nil zuy ht
noncomputable def zab1 (K:Fg) (le:Int->Int->Prop):List V->Hp->VK->Prop:=λ vs H Q=>∃ (a:Addr) (ns:List Int),vs=[.ref a]/\SqL K H a (ns.map V.int)/\ns≠[]/\∀ M∈ns,(∀ x∈ns,le M x)->Q (.int M) H
theorem zgr {K:Fg} (h:X.K=K) (hc:X.calm=true):CallR X (.builtin "min") (zab1 K λ M x=>M<=x):=by
 subst h
 intro pins s Y H xs us Q I r h
 obtain ⟨a,ns,rfl,hx,hne,q⟩:=h
 obtain ⟨u,rfl,r1⟩:=zyy r
 cases r1
 obtain ⟨its,rv,p,hz⟩:=I.list hx
 have hi:IntsAre its ns:=zsa rv
 obtain ⟨ys,hy⟩:=hi.allInts.items
 have hl:s.heap.IsList a (intItems ys):=hy ▸ p.isList
 have e1:ns=ys.toList.map (·.1):=by
  rw [<- nums_intItems,<- hy]
  exact (show numsOf its.toArray.toList=ns from hi.numsOf).symm
 have hsz:0 < ys.size:=by
  rcases uaC ys.size with z|z
  ·exact absurd (by rw [e1];exact List.map_eq_nil_iff.mpr (k6 (by simpa using z))) hne
  ·exact z
 refine min_intList (I.ok.hd hc) hl hsz λ v h' tk hv hk=>?_
 obtain ⟨t,rfl⟩:=intItems_at hv
 obtain ⟨h1,h2⟩:=argBest_lt (numAt ys) (ys.size - 1)
 refine ⟨.int _,H,I.kept hk,⟨_,rfl⟩,q _ ?_ λ x hx'=>?_⟩
 ·rw [numAt_eq,e1];exact getD_mem (by rw [u4,xY];lia)
 ·rw [e1] at hx'
  obtain ⟨j,hj,rfl⟩:=mem_getD hx'
  rw [u4,xY] at hj
  rw [<- numAt_eq];exact h2 j (by lia)
end
end L3
namespace L4
open PySem PySem.Spec PyProof.Rows L2 L3
section
variable {K:Fg} {te ta ti tv tk tb:TE} {de da di dk db:DE} {dc:DC} {tA:TA} {dA:DF}
noncomputable abbrev fXor:=fI0 λ i j=>.int (Builtin.bitXor i j)
theorem zgb1:R2E K (rI0 λ i j=>V.int (Builtin.bitXor i j)) fXor:=r_I0 λ _ _ _=>.int _
theorem zj21 (x:Int):Builtin.bitXor x 1=x+1 - 2 * (x % 2):=by
 rw [PyProof.Rows.bitXor_and,PyProof.Rows.bitAnd_m1]
noncomputable def zn51:List D->(D->Prop)->Prop
|[.list ds],Q=>∃ ns,zgy ds=some ns/\ns≠[]/\∀ M∈ns,(∀ x∈ns,M<=x)->Q (.int M)
|_,_=>False
theorem zs91:CB K (zab1 K λ M x=>M<=x) zn51:=by
 intro F H vs ds Qd Q s hv h k
 unfold zn51 at h
 split at h
 ·obtain ⟨v,rfl,hw⟩:=vw1 hv
  obtain ⟨p,xs,rfl,h1,i1⟩:=hw.list s
  obtain ⟨ns,e,hne,q⟩:=h
  have:=zal i1 e
  subst this
  exact ⟨p,ns,rfl,h1,hne,λ M hM hx=>k _ (q M hM hx) _ F H (Ext.refl s) (.int _)⟩
 ·exact h.elim
noncomputable def cDK1 (dk de:DE):DC:=λ U Q=>dk U λ k=>de U λ v=>∃ key,keyD k=some key/\Q (.dk [(key,v)]) U
theorem zx51 (dk de:DE) (U:DSt) (Q:T->DSt->Prop):cDK1 dk de U Q=(dk U λ k=>de U λ v=>∃ key,keyD k=some key/\Q (.dk [(key,v)]) U):=rfl
theorem zg81 (hk:RfE K tk dk) (he:RfE K tv de):RfC K (zpa1 [(tk,tv)]) (cDK1 dk de):=by
 intro B F H Y U fps Qd Q r hd k p hp
 have r1:=r.grow (zqq (o:=.dK []) r.fh hp)
 have fp:F p=none:=by
  cases e:F p with
 |none=>rfl
 |some o=>rw [r.fh p o e] at hp;cases hp
 show tk Y _ _
 refine hk r1.fh r1.rv hd λ kd hkd kv F1 H1 e1 i1=>he e1.fh (r1.grow e1).rv hkd λ v hv vv F2 H2 e2 i2=>?_
 obtain ⟨key,ek,q⟩:=hv
 have:=zon i1 ek
 subst this
 have e12:=e1.trans e2
 have hp2:H2 p=some (.dK []):=e12.h _ _ zo0
 have fp2:F2 p=none:=e12.nw p (by rw [zo0];simp) fp
 refine ⟨hp2,[(key,vv)],rfl,by simp,?_⟩
 have ex:Ext F H F2 (upd H2 p (.dK (zwl [] [(key,vv)]))):=by
  have e0:=(zqq (o:=.dK []) r.fh hp).trans e12
  refine ⟨λ b o z=>?_,e0.f,λ b o z=>?_,e0.nw⟩
  ·have:b≠p:=λ y=>by subst y;rw [hp] at z;cases z
   rw [zw0 this];exact e0.h b o z
  ·have:b≠p:=λ y=>by subst y;rw [fp2] at z;cases z
   rw [zw0 this];exact e0.fh b o z
 have hm:zwl [] [(key,vv)]=[(key,vv)]:=rfl
 rw [hm] at ex ⊢
 refine k _ _ q (.ref p) F2 _ fps [p] ⟨r.grow ex,.dk zo0 fp2 (.cons i2 .nil),by simp,λ b hb=>?_,λ j s ej hs b hb hb2=>?_⟩
 ·simp at hb;subst hb
  exact (r.newOk hp).1
 ·simp at hb2;subst hb2
  exact (r.newOk hp).2 j s ej hs hb
noncomputable def zlb1 (de:DE) (f:D->D->(D->Prop)->Prop) (dc:DC) (db:DE):DC:=λ U Q=>de U λ x=>dc U λ r U1=>fzT r λ y=>db U1 λ z=>f y z λ w=>fIx x w λ d=>Q (.fz d) U1
theorem ze31 (de:DE) (f:D->D->(D->Prop)->Prop) (dc:DC) (db:DE) (U:DSt) (Q:T->DSt->Prop):zlb1 de f dc db U Q=(de U λ x=>dc U λ r U1=>fzT r λ y=>db U1 λ z=>f y z λ w=>fIx x w λ d=>Q (.fz d) U1):=rfl
theorem zc31 {w:World} {r:R2} {f:D->D->(D->Prop)->Prop} (he:RfE K te de) (hr:R2E K r f) (hc:RfC K ta dc) (hb:RfE K tb db):RfC K (tOp (rIxV w K) te (tOp r ta tb)) (zlb1 de f dc db):=by
 intro B F H Y U fps Qd Q rs hd k
 refine he rs.fh rs.rv hd λ x hx xv F1 H1 e1 i1=>?_
 have r1:=rs.grow e1
 -- what is frozen stays: the base remembers F1
 have s0:=r1.ff
 have n0:=r1.nw
 refine hc (r1.rem s0 (λ _ _ z=>z)) hx λ t U1 ht yv F2 H2 fps2 fpr res=>?_
 obtain ⟨y,hy,iy⟩:=zvy res.rt ht
 refine hb res.rs.fh res.rs.rv hy λ z hz zv F3 H3 e3 i3=>?_
 refine hr e3.fh (.inl (iy.mono e3.f)) (.inl i3) hz λ wd hw wv F4 H4 e4 i4=>?_
 have e34:=e3.trans e4
 have sF:Same F1 F4:=(show Same F1 F2 from res.rs.ff).trans e34.f
 refine r_ix (w:=w) e4.fh (.inl (i1.mono sF)) (.inl i4) hw λ d hd' v F5 H5 e5 i5=>?_
 refine k _ _ hd' v F5 H5 fps2 [] ⟨((res.rs.grow (e34.trans e5)).unrem s0 n0),.fz i5,.nil,λ a ha=>by simp at ha,λ _ _ _ _ a _ ha=>by simp at ha⟩
end
end L4
namespace L3
open PySem PySem.Spec PyProof.Rows L2
section
variable {X:Cx}
noncomputable def zxu (K:Fg):List V->Hp->VK->Prop:=λ vs H Q=>∃ (a:Addr) (ns:List Int),vs=[.ref a]/\(SqL K H a (ns.map V.int) \/ ∃ kvs:List (Key×V),H a=some (.dK kvs)/\kvs.map (·.1)=ns.map wN)/\ns.length < 64 /\
 ∀ ns':List Int,ns'.Perm ns->ns'.Pairwise (·<=·)->∀ l,H l=none->Q (.ref l) (upd H l (.lst (ns'.map V.int)))
theorem zwg {P:Program} {w:World} {i:Int} {v:Value} (h:(zy1 P w).is (.inl i) v=true):∃ t,v=.int i t:=by
 have h:yI i v=true:=h
 cases v <;> first
 |(simp [yI] at h;subst h;exact ⟨_,rfl⟩)
 |(simp [yI] at h)
theorem zfj:∀ {vs:List Value} {ns:List Int},vs.length=ns.length->(∀ (j:Nat) v i,vs[j]?=some v->ns[j]?=some i->∃ t,v=.int i t)->IntsAre vs ns
|[],[],_,_=>.nil
|[],_ :: _,h,_=>by simp at h
|_ :: _,[],h,_=>by simp at h
|v :: vs,i :: ns,h,q=>by
  obtain ⟨t,rfl⟩:=q 0 v i rfl rfl
  exact .cons i t (zfj (by simpa using h) λ j v i a b=>q (j+1) v i (by simpa using a) (by simpa using b))
theorem zjl {K:Fg} (h:X.K=K) (hc:X.calm=true):CallR X (.builtin "sorted") (zxu K):=by
 subst h
 intro pins s Y H xs us Q I r h
 obtain ⟨a,ns,rfl,hx,hz,q⟩:=h
 obtain ⟨u,rfl,r1⟩:=zyy r
 cases r1
 rcases hx with hx|⟨kvs,hx,hk⟩
 ·obtain ⟨its,rv,p,hz'⟩:=I.list hx
  have hi:IntsAre its ns:=zsa rv
  refine sorted_ints p.isList hi (by rw [rv.length.symm,u4];exact hz) λ out ns' a1 a2 a3=>?_
  obtain ⟨e,he⟩:=sortedAll_at s.heap its out
  refine ⟨.ref _,upd H (s.heap.objs.size+1) (.lst (ns'.map V.int)),I.laid (a:=s.heap.objs.size+1) (t':=s.toks) (λ b o=>sortedAll_old) (y6 _) ?_,rfl,q ns' a2 a3 _ (I.hok.fresh (y6 _))⟩
  refine ⟨by rw [u4,a2.length_eq,sizeLine_eq];lia,out.toList,e,zda a1,?_⟩
  simpa [seqObj] using he
 ·obtain ⟨z,hd,vs0,r0,dd⟩:=zt71 I.hok hx
  obtain ⟨ep,hat⟩:=dd.dictAt
  have hlen:vs0.length=ns.length:=by
   have h1:=r0.length
   have h2:=congrArg y8 hk
   rw [u4,u4] at h2
   lia
  refine Calls.call_function_entry kind_sorted plain_sorted entry_sorted (args_sorted1 _) ?_
  unfold Builtin.«sorted»
  refine wpAny_bind (m:=checkCount "sorted" 1 1 _) (wpAny_pure ?_)
  refine wpAny_bind (PySem.W.kdu_collect (A:=X.A.in1) (PySem.W.kdl_dict (knd:=zy1 X.prog X.w) (kvs:=vs0) (ep:=ep) hd) (I.ok.hd hc) hat (by rw [sizeLine_eq];lia) λ h' tk acc hk' hacc=>?_)
  have hl:acc.toList.length=vs0.length:=by rw [xY];exact hacc.1
  have hI:IntsAre acc.toList ns:=zfj (by rw [hl,hlen]) λ j v i e1 e2=>by
   obtain ⟨k,x,e3,e4⟩:=hacc.2 j v (by rw [<- zX];exact e1)
   have:k=.inl i:=by
    have e5:(kvs.map (·.1))[j]?=some k:=by
     have kk:∀ {l:List (Key×V)} {m:List (Key×Value)} {j:Nat} {k x},KV l m->m[j]?=some (k,x)->(l.map (·.1))[j]?=some k:=by
      intro l m j k x r
      unfold KV at r
      induction r generalizing j with
     |nil=>intro e;simp at e
     |cons h t ih =>
       intro e
       cases j with
      |zero=>simp at e;simp [h.1,e]
      |succ j=>simp at e ⊢;simpa using ih e
     exact kk r0 e3
    rw [hk,u6,e2] at e5
    simpa using e5.symm
   subst this
   exact zwg e4
  refine wpAny_bind (wpAny_newList ?_ (by rw [hl,sizeLine_eq];lia))
  have hoL:(h'.push { cls:=.type "list",data:=.seq acc.toList.toArray }).get? h'.objs.size=some (seqObj "list" acc.toList.toArray 0):=wT _ rfl
  refine wpAny_bind (wpAny_holding (wpAny_call_entry slot_list_sort ⟨_,hoL,rfl⟩ entry_list_sort (list_sort_tree hoL hI (by rw [hl];lia) λ out ns' a1 a2 a3=>⟨_,rfl,?_⟩) (args_list_sort _)))
  refine wpAny_pure ⟨_,rfl,?_⟩
  obtain ⟨e,he⟩:=sortedHeap_at (out:=out) hoL
  have I2:=I.kept (t':=tk) hk'
  refine ⟨.ref _,upd H h'.objs.size (.lst (ns'.map V.int)),I2.laid (a:=h'.objs.size) (t':=tk) (λ b o ho=>?_) (u8 _) ?_,rfl,q ns' a2 a3 _ (I2.hok.fresh (u8 _))⟩
  ·have hlt:=vT ho
   rw [sortedHeap_old (wE hlt) (by rw [size_push'];exact zD hlt)]
   exact v7 _ ho
  ·refine ⟨by rw [u4,a2.length_eq,sizeLine_eq];lia,out.toList,e,zda a1,?_⟩
   simpa [seqObj] using he
end
end L3
namespace L4
open PySem PySem.Spec PyProof.Rows L2 L3
section
variable {K:Fg} {te ta ti tv tk tb:TE} {de da di dk db:DE} {dc:DC} {dp:DP} {tA:TA} {dA:DF}
theorem znu {F:Hp}:∀ (ns:List Int),IsAll K F (ns.map V.int) (ns.map u9)
|[]=>.nil
|n :: r=>.cons (.int n) (znu r)
theorem KvIs.keys {F:Hp}:∀ {kvs:List (Key×V)} {ds:List (Key×D)},KvIs K F kvs ds->kvs.map (·.1)=ds.map (·.1):=by
 intro kvs ds h
 induction h with
|nil=>rfl
|cons a r ih=>simp_all
noncomputable def zox (u:T) (Q:List D->Prop):Prop:=match u with
|.dk kvs=>∃ ns:List Int,kvs.map (·.1)=ns.map wN/\ns.length < 64/\∀ ns':List Int,ns'.Perm ns->ns'.Pairwise (·<=·)->Q (ns'.map .int)
|_=>False
noncomputable def zp01 (dp:DP):DF:=λ U Q=>dp U λ _ _ u=>zox u Q
theorem ziv (hp:RfP K ta dp):RfF K (tCB (zxu K) (zrn ta tNil)) (zp01 dp):=by
 intro F H Y U Qd Q s rv h k
 refine hp s rv h λ i p u hu v F2 H2 e2 at2=>?_
 obtain ⟨fn,hr⟩:=at2.rt (rv.ext e2)
 cases hr with
|dk h1 h2 h3 =>
  obtain ⟨ns,ek,hz,q⟩:=hu
  refine ⟨_,ns,rfl,.inr ⟨_,h1,by rw [<- ek];exact h3.keys⟩,hz,λ ns' p1 p2 l hl=>?_⟩
  obtain ⟨ex,fn⟩:=zl6 (xs:=ns'.map V.int) e2.fh hl
  have hn:H l=none:=by
   cases z:H l with
  |none=>rfl
  |some o=>rw [e2.h l o z] at hl;cases hl
  exact k _ (q ns' p1 p2) l _ F2 _ (e2.trans ex) hn zo0 fn (znu ns')
|fz _=>exact hu.elim
|li _ _ _=>exact hu.elim
|ls _ _ _=>exact hu.elim
|ob _ _ _ _ _=>exact hu.elim
|dt _ _ _=>exact hu.elim
|tp _ _ _=>exact hu.elim
theorem zaw (dp:DP) (U:DSt) (Q:List D->Prop):zp01 dp U Q=(dp U λ _ _ u=>zox u Q):=rfl
theorem zrw (kvs:List (Key×D)) (Q:List D->Prop):zox (.dk kvs) Q=∃ ns:List Int,kvs.map (·.1)=ns.map wN/\ns.length < 64/\∀ ns':List Int,ns'.Perm ns->ns'.Pairwise (·<=·)->Q (ns'.map .int):=rfl
end
end L4
namespace L3
open PySem PySem.Spec PyProof.Rows L2
structure TopDefN (K:Fg) (x:Str) (st:Stmt):Prop where
 ex:∃ (f T:Addr) (oc:Value) (od:Option Addr) (kV doc pm:Value) (an:Option Addr) (cdv ct:Value) (osl:Array (Option Value)) (o:Obj) (n:Nat),PySem.W.nsIn K mainGlobals x=some (some (.ref f)) /\
  K.lookup f=some ⟨oc,od,.func (PySem.W.fnOf x x (zz6 st) (zu2 st) (zg0 st) (.ref T) kV doc pm an cdv ct),osl⟩/\PySem.W.codeIn K cdv x=true/\PySem.W.keepIn K (.ref f)=true/\K.lookup T=some o/\o.data=.seq #[.none] n
theorem zjo {K:Fg} {x:Str} {st:Stmt} {f T:Addr} {oc:Value} {od an:Option Addr} {osl:Array (Option Value)} {kV doc pm cdv ct:Value} {o:Obj} {n:Nat} (a:PySem.W.nsIn K mainGlobals x=some (some (.ref f)))
  (l:K.lookup f=some ⟨oc,od,.func (PySem.W.fnOf x x (zz6 st) (zu2 st) (zg0 st) (.ref T) kV doc pm an cdv ct),osl⟩) (c:PySem.W.codeIn K cdv x=true) (k:PySem.W.keepIn K (.ref f)=true) (lt:K.lookup T=some o) (hd:o.data=.seq #[.none] n):TopDefN K x st :=
 ⟨f,T,oc,od,kV,doc,pm,an,cdv,ct,osl,o,n,a,l,c,k,lt,hd⟩
noncomputable def DefN (P:Program) (w:World) (K:Fg) (mg:Str->Option Value) (base:Heap) (x:Str) (k:Nat) (ps:List Str) (sp:Sp):Prop :=
 ∃ f fd,FnOk P w K mg base CX0 k f fd ps sp/\Binds K fd ps []/\Binds K fd ps [.none]/\PySem.W.keepIn K (.ref f)=true/\mg x=some (.ref f)
noncomputable abbrev zfn (x:Str) (st:Stmt) (ps:List Str) (ds:List Value) (qs:List Str):Prop :=
 ∀ (T:Addr) (kV doc pm:Value) (an:Option Addr) (cdv ct:Value) (us:List Value),us.length=qs.length->∃ k:Option (Array Value)->Sem (List (Str×Value)),bindArgs (PySem.W.fnOf x x (zz6 st) (zu2 st) (zg0 st) (.ref T) kV doc pm an cdv ct) ⟨us,[]⟩=seqItems? (.ref T) >>= k/\k (some #[.none])=pure (ps.zip (us++ds))
section
variable {P:Program} {w:World} {K:Fg} {mg:Str->Option Value} {base:Heap}
theorem zkz {x:Str} {st:Stmt} {N ps:List Str} {k:Nat} {sp:Sp} (M:Md K mg) (T:TopDefN K x st) (S:FnScope N ps (zg0 st)) {qs:List Str} (hq:ps.length=qs.length+1) (hb:zfn x st ps [] ps) (hn:zfn x st ps [.none] qs) (len:∀ vs H Q E,sp vs H Q E->vs.length=ps.length)
  (body:zj7 P w K mg base x st N k sp):DefN P w K mg base x (k+1) ps sp:=by
 obtain ⟨f,t,oc,od,kV,doc,pm,an,cdv,ct,osl,o,n,a,lk,hcd,kp,lt,hd⟩:=T.ex
 refine ⟨f,_,zub1 lk hcd S len λ A outer s H vs Q E hr hsp=>?_,λ s us kin hl=>?_,λ s us kin hl=>?_,kp,M.got a⟩
 ·obtain ⟨t,h,q⟩:=body f cdv A outer s H vs Q E hr hsp
  exact ⟨t,PSs.nox h,q⟩
 ·obtain ⟨kk,e1,e2⟩:=hb t kV doc pm an cdv ct us (by simpa using hl)
  exact PySem.W.binds_K kin rfl lt hd e1 e2
 ·obtain ⟨kk,e1,e2⟩:=hn t kV doc pm an cdv ct us (by rw [vJ] at hl;simp only [yM] at hl;lia)
  exact PySem.W.binds_K kin rfl lt hd e1 e2
end
section
variable {X:Cx} {k:Nat} {C:Addr} {ps:List Str} {sp:Sp} {x m:Str} {p pos apos:Pos} {e o:Expr} {es:List Expr} {ta:TE} {t:TA}
theorem zgx (d:DefN X.prog X.w X.K X.mg X.base x k ps sp) (hr:Room k X.A) (hg:Gl X x) (ha:PA X (e :: es) t) (hdb:(x == ("__debug__":Str))=false:=by decide)
  (he:starEach (e :: es) X.env=(false,eval e X.env) :: starEach es X.env:=by rfl) (hpl:(backTo pos (starEach es X.env)).any (·.1)=false:=by rfl):PE X (.Call (.Name x p) (e :: es) [] pos) (zlv sp [.non] E0 t):=by
 obtain ⟨f,fd,F,_,b,kp,m⟩:=d
 exact znt F hr hg m kp b (.cons rfl .nil) zuy ha hdb he hpl
end
end L3
namespace L4
open PySem PySem.Spec PyProof.Rows L2 L3
section
variable {K:Fg} {te ta ti tv tk tb:TE} {de da di dk db:DE} {dc:DC} {dp:DP} {tA:TA} {dA:DF}
noncomputable def zcz (p:DSp) (dA:DF):DE:=λ U Q=>dA U λ ds=>p (ds++[.none]) Q
theorem zk01 {F:Hp}:∀ {vs us:List V} {ds es:List D},IsAll K F vs ds->IsAll K F us es->IsAll K F (vs++us) (ds++es)
|_,_,_,_,.nil,h=>h
|_,_,_,_,.cons a r,h=>.cons a (zk01 r h)
theorem zlx {p:DSp} {E:XK} (h:RfA K tA dA):RfE K (zlv (spD K p) [.non] E tA) (zcz p dA):=by
 intro F H Y U Qd Q s rv hd k
 refine h s rv hd λ ds hp vs F1 H1 e1 i1=>?_
 exact ⟨F1,ds++[.none],Qd,e1.fh,zk01 i1 (.cons .non .nil),hp,λ d q v F' H' e2 i2=>k d q v F' H' (e1.trans e2) i2⟩
theorem zsx (p:DSp) (dA:DF) (U:DSt) (Q:D->Prop):zcz p dA U Q=(dA U λ ds=>p (ds++[.none]) Q):=rfl
end
section
variable {K:Fg} {tA:TA} {dA:DF}
end
end L4
namespace L5
open PySem PySem.Spec PyProof.Rows L2 L3 L4
theorem ar1 {α:Type} {us:List α} (h:us.length=1):∃ a,us=[a]:=by
 rcases us with _|⟨a,_|⟨b,us⟩⟩
 ·cases h
 ·exact ⟨a,rfl⟩
 ·cases h
theorem ars {α:Type} {n:Nat} {us:List α} (h:us.length=n+1):∃ a r,us=a :: r/\r.length=n:=by
 rcases us with _|⟨a,us⟩
 ·cases h
 ·exact ⟨a,us,rfl,Nat.succ.inj h⟩
theorem ar2 {α:Type} {us:List α} (h:us.length=2):∃ a b,us=[a,b]:=by
 obtain ⟨a,r,rfl,k⟩:=ars h
 obtain ⟨b,rfl⟩:=ar1 k
 exact ⟨a,b,rfl⟩
theorem ar3 {α:Type} {us:List α} (h:us.length=3):∃ a b c,us=[a,b,c]:=by
 obtain ⟨a,r,rfl,k⟩:=ars h
 obtain ⟨b,c,rfl⟩:=ar2 k
 exact ⟨a,b,c,rfl⟩
theorem ar4 {α:Type} {us:List α} (h:us.length=4):∃ a b c d,us=[a,b,c,d]:=by
 obtain ⟨a,r,rfl,k⟩:=ars h
 obtain ⟨b,c,d,rfl⟩:=ar3 k
 exact ⟨a,b,c,d,rfl⟩
theorem ar5 {α:Type} {us:List α} (h:us.length=5):∃ a b c d e,us=[a,b,c,d,e]:=by
 obtain ⟨a,r,rfl,k⟩:=ars h
 obtain ⟨b,c,d,e,rfl⟩:=ar4 k
 exact ⟨a,b,c,d,e,rfl⟩
section
variable {prog:Program} {w:World} {A:Around} {E:Value->Shared->Prop}
end
section
variable {prog:Program} {w:World} {A:Around} {R:Result->Shared->Prop} {I:Addr} {fp wr:List Addr} {n:Nat} {P:Nat->Value->Prop} {St:Nat->Heap->Prop} {d:Value}
end
section
variable {X:Cx} {x:Str} {p pos kp:Pos} {e e2:Expr} {te te2:TE}
end
section
variable {K:Fg} {te te2:TE} {df:DE} {dd:DE}
end
section
variable {P:Program} {w:World} {K:Fg} {mg:Str->Option Value} {base:Heap} {m:Str} {k:Nat} {ta:TE} {tA:TA} {dn:DN} {dA:DF}
noncomputable abbrev Tab:=List (Addr×DSpT)
theorem zf31 {F H:Hp}:∀ {vs:List V} {ds:List D},IsAll K F vs ds->ArgsR K F H vs (ds.map .d) [] none
|_,_,.nil=>.nil
|_,_,.cons h r=>.d h (zf31 r)
theorem tab3 {C1 C2 C3:Addr} {p1 p2 p3:DSpT} (h1:∃ ps,MethD P w K mg base C1 m k ps (spT K p1)) (h2:∃ ps,MethD P w K mg base C2 m k ps (spT K p2)) (h3:∃ ps,MethD P w K mg base C3 m k ps (spT K p3)) :
  ∀ C p,(C,p)∈[(C1,p1),(C2,p2),(C3,p3)]->∃ ps,MethD P w K mg base C m k ps (spT K p):=λ C p h=>by
 rcases vN.mp h with e|h
 ·cases e;exact h1
 rcases vN.mp h with e|h
 ·cases e;exact h2
 rcases vN.mp h with e|h
 ·cases e;exact h3
 ·simp at h
end
section
variable {P:Program} {w:World} {K:Fg} {mg:Str->Option Value} {base:Heap} {m:Str} {k:Nat} {ta tk tx:TE} {tA:TA} {dp:DP} {dk dx:DE} {dA:DF}
noncomputable def zf51 (u:T) (k x:D) (Q:D->Prop):Prop:=match u with
|.dk kvs=>∃ key,keyD k=some key/\Q ((getA kvs key).getD x)
|.dt kvs=>∃ key,keyT k=some key/\Q ((getA kvs key).getD x)
|_=>False
noncomputable def zfb1 (dp:DP) (dk dx:DE):DE:=λ U Q=>dp U λ _ _ u=>tyN "dict" u/\dk U λ k=>dx U λ x=>zf51 u k x Q
theorem zez (dp:DP) (dk dx:DE) (U:DSt) (Q:D->Prop):zfb1 dp dk dx U Q=(dp U λ _ _ u=>tyN "dict" u/\dk U λ k=>dx U λ x=>zf51 u k x Q):=rfl
theorem zj11 {F H:Hp} {v kv xv:V} {u:T} {fn:List Addr} {k x:D} {Qd:D->Prop} {Q:VK} (s:Same F H) (hr:Rt K F H v u fn) (hk:Is K F kv k) (hx:Is K F xv x) (hf:zf51 u k x Qd) (q:∀ d y,Qd d->Is K F y d->Q y H):zfw v [kv,xv] H Q:=by
 cases hr with
|dk h1 h2 h3 =>
  obtain ⟨key,ek,qd⟩:=hf
  have:=zon hk ek
  subst this
  rcases h3.get (k:=key) with ⟨g1,g2⟩|⟨d',y,g1,g2,g3⟩
  ·rw [g1] at qd
   exact ⟨_,_,_,none,rfl,rfl,by rw [<- g2];exact DGet.k h1,q _ _ qd hx⟩
  ·rw [g1] at qd
   exact ⟨_,_,_,some y,rfl,rfl,by rw [<- g2];exact DGet.k h1,q _ _ qd g3⟩
|dt h1 h2 h3 =>
  obtain ⟨key,ek,qd⟩:=hf
  obtain ⟨kb,rfl,hb⟩:=zsj hk ek
  rcases h3.get (k:=key) with ⟨g1,g2⟩|⟨d',y,g1,g2,g3⟩
  ·rw [g1] at qd
   exact ⟨_,_,_,none,rfl,rfl,by rw [<- g2];exact DGet.t h1 (s _ _ hb),q _ _ qd hx⟩
  ·rw [g1] at qd
   exact ⟨_,_,_,some y,rfl,rfl,by rw [<- g2];exact DGet.t h1 (s _ _ hb),q _ _ qd g3⟩
|fz _=>exact hf.elim
|li _ _ _=>exact hf.elim
|ls _ _ _=>exact hf.elim
|ob _ _ _ _ _=>exact hf.elim
|tp _ _ _=>exact hf.elim
theorem znz (hp:RfP K ta dp) (hk:RfE K tk dk) (hx:RfE K tx dx):RfE K (tBMU K "dict" zfw ta (zrn tk (zrn tx tNil))) (zfb1 dp dk dx):=by
 intro F H Y U Qd Q s rv hd kk
 refine hp s rv hd λ i p u hu v F1 H1 e1 at1=>?_
 have rv1:=rv.ext e1
 obtain ⟨fn,hr⟩:=at1.rt rv1
 refine ⟨zc51 hr hu.1,hk e1.fh rv1 hu.2 λ kd hkd kv F2 H2 e2 i2=>hx e2.fh (rv1.ext e2) hkd λ xd hxd xv F3 H3 e3 i3=>?_⟩
 have e13:=(e1.trans e2).trans e3
 exact zj11 e3.fh ((hr.ext e2).ext e3) (i2.mono e3.f) i3 hxd λ d y qd iy=>kk d qd y F3 H3 e13 iy
noncomputable def zq01 (m:Str) (tab:Tab) (dp:DP) (dA:DF):DN:=λ U Q=>dp U λ _ _ u=>match u with
|.ob C fs=>noM m (.ob C fs)/\∃ p,(C,p)∈tab/\dA U λ ds=>p (.b (.ob C fs) :: ds.map .d) λ r _=>Q r
|_=>False
theorem zpw (m:Str) (tab:Tab) (dp:DP) (dA:DF) (U:DSt) (Q:T->Prop):zq01 m tab dp dA U Q=(dp U λ _ _ u=>match u with
|.ob C fs=>noM m (.ob C fs)/\∃ p,(C,p)∈tab/\dA U λ ds=>p (.b (.ob C fs) :: ds.map .d) λ r _=>Q r
|_=>False):=rfl
theorem zzx {tab:Tab} (ht:∀ C p,(C,p)∈tab->∃ ps,MethD P w K mg base C m k ps (spT K p)) (h1:RfP K ta dp) (h2:RfA K tA dA):RfN K (zu01 P w K mg base m k ta tA) (zq01 m tab dp dA):=by
 intro F H Y U Qd Q s rv hd kk
 refine h1 s rv hd λ i q u hu v F1 H1 e1 at1=>?_
 have rv1:=rv.ext e1
 obtain ⟨fn,r1,nd1⟩:=at1.rtV rv1
 cases r1 with
|ob g1 g2 g3 g4 g5 =>
  rename_i a C dx' kvs fs fp'
  obtain ⟨nm,p,hp,hq⟩:=hu
  obtain ⟨ps,md⟩:=ht C p hp
  refine ⟨a,C,dx',kvs,ps,_,rfl,g1,(g5.keys m).1 nm,md,h2 e1.fh rv1 hq λ ds hds vs F2 H2 e2 i2=>?_⟩
  have r2:Rt K F2 H2 (.ref a) (.ob C fs) (a :: dx' :: fp'):=(Rt.ob g1 g2 g3 g4 g5).ext e2
  have e12:=e1.trans e2
  refine ⟨F2,_,_,none,_,e2.fh,.b r2 nd1 (zf31 i2),(λ b hb=>by simp [ofp] at hb),hds,λ r2 t2 q2 v F' H' fpr fpo post=>?_⟩
  exact kk _ q2 v F' H' fpr (e12.trans ⟨λ b o hb=>post.hh b o (by simp [ofp]) hb,post.ff,post.fh,post.nw⟩) post.rt post.nd λ b hb=>zi2 e12 (post.fr b hb)
|fz _=>exact hu.elim
|li _ _ _=>exact hu.elim
|ls _ _ _=>exact hu.elim
|dk _ _ _=>exact hu.elim
|dt _ _ _=>exact hu.elim
|tp _ _ _=>exact hu.elim
end
end L5
namespace L3
open PySem PySem.Spec PyProof.Rows L2
section
variable {s:Shared} {w:World} {prog:Program} {E:Value->Shared->Prop} {A:Around}
end
section
variable {X:Cx} {pins:List (Addr×Obj)} {Y:L2.St} {H:Hp} {s:Shared} {a:Addr} {u:HO} {o:Obj}
end
section
variable {X:Cx} {elts:List Expr}
end
end L3
namespace L4
open PySem PySem.Spec PyProof.Rows L2 L3
section
variable {K:Fg} {ta:TE} {dp:DP}
end
end L4
namespace L3
open PySem PySem.Spec PyProof.Rows L2
section
variable {s:Shared} {w:World} {prog:Program} {E:Value->Shared->Prop} {A:Around}
end
end L3
namespace L4
open PySem PySem.Spec PyProof.Rows L2 L3
section
variable {K:Fg}
end
end L4
namespace L3
open PySem PySem.Spec PyProof.Rows L2
section
variable {s:Shared} {w:World} {prog:Program} {E:Value->Shared->Prop} {A:Around} {Ky:Type} [DecidableEq Ky] {knd:HeapKind prog w Ky}
theorem ztw {d b:Addr} {od:Obj} {es:Array DictEntry} {ep:Nat} {xs:List (Ky×Addr×Value)} {k:Ky} {x:Value} {Q:Value->Shared->Prop} (ru:knd.room A.in1) (hk:knd.is s.heap k b) (gs:(d == sysModules)=false)
  (go:s.heap.get? d=some od) (gx:od.ExactDict) (gd:od.data=.dict es ep) (ge:es.toList=xs.map (entryOfKey knd)) (gi:∀ x∈xs,knd.is s.heap x.1 x.2.1) (gn:(xs.map (·.1)).Nodup) (gz:xs.length<=sizeLine)
  (q1:∀ (j:Nat) (p:Addr×Value),xs[j]?=some (k,p)->∀ t,Q p.2 { s with heap:=s.heap.update d (Obj.mapDictKeys (·.eraseIdxIfInBounds j)),toks:=t })
  (q2:(∀ (j:Nat) (p:Addr×Value),xs[j]?≠some (k,p))->∀ t,Q x { s with toks:=t }):wpAny (model prog w) A (call (.builtin "dict.pop") [.ref d,.ref b,x]) Q E s:=by
 have ty:s.TypeIs (.ref d) "dict":=⟨od,go,gx.1⟩
 have sz:es.size=xs.length:=size_of_entries ge
 refine wpAny_call_entry PySem.F.slot_dict_pop ty PySem.F.entry_dict_pop ?_ (PySem.F.args_dict_pop_3 _ _ _)
 unfold Builtin.«dict.pop» Builtin.Dict.keyAndDefault
 refine wpAny_bind (wpAny_bind (wpAny_notOrdered_dict ty (show wpAny _ _ (pure (d,vO b,some x)) _ _ _ from wpAny_pure ?_)))
 have np:(keyPart (vO b)).isSome=false:=rfl
 simp only [np,xS,if_false]
 refine wpAny_bind (wpAny_dictEntries go gd (wpAny_bind (wpAny_pure ?_)))
 by_cases em:es.isEmpty=true
 ·rw [if_pos em]
  have xe:xs=[]:=by
   have:es.size=0:=by simpa using em
   exact z5.mp (by lia)
  refine wpAny_bind (wpAny_rule (wpAny_bind (wpAny_pure ?_)))
  rw [if_pos uaD]
  exact wpAny_bind (wpAny_missedRemoval_other gs (wpAny_bind (wpAny_rule (wpAny_pure ⟨x,rfl,q2 (by rw [xe];intro j p;simp) s.toks⟩))))
 ·rw [if_neg em]
  unfold Builtin.Dict.takeOut
  refine wpAny_bind (wpAny_holding (wpAny_bind (knd.pyHash ru hk (wpAny_bind (wpAny_dictFind_heap (s:={ s with toks:=s.toks+knd.draws k }) ru hk go gd ge gi gn (λ no=>wpAny_pure ?_) λ j p hj=>?_)))))
  ·rw [if_pos uaD]
   exact wpAny_bind (wpAny_missedRemoval_other gs (wpAny_bind (wpAny_rule (wpAny_pure ⟨x,rfl,q2 no _⟩))))
  ·refine wpAny_bind (wpAny_dictEntries (s:={ s with toks:=s.toks+knd.draws k }) go gd ?_)
   rw [entry_at ge j,hj]
   refine wpAny_bind (wpAny_updateDictKeys (hz:=by lia) (hf:=by rw [uaE];split <;> simp <;> lia) (s:={ s with toks:=s.toks+knd.draws k }) go gd (wpAny_pure ?_))
   rw [if_neg (by simp)]
   exact wpAny_bind (wpAny_letGo (wpAny_pure ⟨p.2,rfl,q1 j p hj _⟩))
end
theorem zwf {α β:Type} (f:α->β):∀ (l:List α) (j:Nat),(l.map f).eraseIdx j=(l.eraseIdx j).map f
|[],_=>rfl
|_ :: _,0=>rfl
|x :: r,j+1=>by rw [vV,zB,zB,vV,zwf f r j]
theorem zs31 {H:Hp} {kvs:List (List Key×V)} {xs:List (List Key×Addr×Value)} {k:List Key} (r:KT H kvs xs) (h:∀ (j:Nat) (p:Addr×Value),xs[j]?≠some (k,p)):valV kvs k=none:=by
 have:=r.val k
 rw [atKey_none_of_get h] at this
 cases e:valV kvs k with
|none=>rfl
|some v=>rw [e] at this;exact this.elim
theorem zm31 {H:Hp} {kvs:List (List Key×V)} {xs:List (List Key×Addr×Value)} {k:List Key} {j:Nat} {p:Addr×Value} (r:KT H kvs xs) (hn:(xs.map (·.1)).Nodup) (h:xs[j]?=some (k,p)):∃ v,valV kvs k=some v/\RelV v p.2:=by
 have:=r.val k
 rw [atKey_of_get hn h] at this
 cases e:valV kvs k with
|none=>rw [e] at this;exact this.elim
|some v=>rw [e] at this;exact ⟨v,rfl,this⟩
theorem zq11 {H:Hp} {k:List Key}:∀ {kvs:List (List Key×V)} {xs:List (List Key×Addr×Value)} {j:Nat} {p:Addr×Value},KT H kvs xs->(xs.map (·.1)).Nodup->xs[j]?=some (k,p)->KT H (zci kvs k) (xs.eraseIdx j):=by
 intro kvs xs j p r
 induction r generalizing j with
|nil=>intro _ h;simp at h
|@cons a b as bs hq t ih =>
  intro hn h
  rw [vV] at hn
  have hn':=vY.mp hn
  unfold zci at ih ⊢
  cases j with
 |zero =>
   simp at h
   subst h
   have e1:a.1=k:=hq.1
   rw [yT (by simp [e1]),List.eraseIdx_zero,List.tail_cons]
   have all:∀ {l:List (List Key×V)} {m:List (List Key×Addr×Value)},KT H l m->k ∉ m.map (·.1)->l.filter (λ kv=>decide (kv.1≠k))=l:=by
    intro l m q
    induction q with
   |nil=>intro _;rfl
   |cons hq' t' ih' =>
     intro nk
     simp at nk
     rw [yE (by simp;rw [hq'.1];exact λ z=>nk.1 z.symm),ih' (by simpa using nk.2)]
   rw [all t hn'.1]
   exact t
 |succ j =>
   simp at h
   have ne:a.1≠k:=λ z=>by
    have:b.1∈bs.map (·.1):=by
     rw [<- hq.1,z]
     exact yU (f:=(·.1)) (v8 h)
    exact hn'.1 this
   rw [yE (by simp [ne]),zB]
   exact .cons hq (ih hn'.2 h)
noncomputable def zcb1:V->List V->Hp->VK->Prop:=λ x vs H Q=>∃ a b kvs k z,x=.ref a/\vs=[.ref b,z]/\H a=some (.dT kvs)/\H b=some (.tup (k.map kV))/\(∀ v,valV kvs k=some v->Q v (upd H a (.dT (zci kvs k))))/\(valV kvs k=none->Q z H)
theorem zo31 {X:Cx} (hu:X.A.units+64 < cLine):MtM X "dict.pop" zcb1:=by
 intro pins s Y H x xs v us Q I rx rv h
 obtain ⟨a,b,kvs,k,z,rfl,rfl,e,eb,q1,q2⟩:=h
 obtain ⟨u,r,rfl,ru,rr⟩:=zrb1 rv
 obtain rfl:v=vO a:=rx
 cases (show u=vO b from ru)
 obtain ⟨hz,hd,ys,rel,o,es,ep,h1,h2,h3,h4,h5,h6⟩:=zmb1 I.hok e
 have hl:ys.length<=sizeLine:=by rw [<- Paired.length rel];exact hz
 refine ztw (tupleKind_room_in1 (by lia)) (zek I.hok eb) hd h1 h2 h3 h4 h5 h6 hl (λ j p hj t=>?_) λ no t=>⟨z,H,I.kept (t':=t) λ _ _ q=>q,rr,q2 (zs31 rel no)⟩
 obtain ⟨v,hv,rv'⟩:=zm31 rel h6 hj
 have sb:Heap.SameBut a s.heap (s.heap.update a (Obj.mapDictKeys (·.eraseIdxIfInBounds j))):=Heap.SameBut.update ..
 have gq:=j7 (Obj.mapDictKeys (·.eraseIdxIfInBounds j)) h1 (Obj.isFreed_of_dict (Obj.data_mapDictKeys h3 _))
 refine ⟨v,upd H a (.dT (zci kvs k)),zxl (t':=t) (ob:=.dT (zci kvs k)) I (by rw [e];exact True.intro) sb ⟨_,gq⟩ ⟨wB (zzw kvs k) hz,hd,ys.eraseIdx j,(zq11 rel h6 hj).keeps λ c zs ec=>?_,_,_,ep+1,gq,h2.mapDictKeys _,Obj.data_mapDictKeys h3 _,?_,?_⟩,rv',q1 v hv⟩
 ·rw [zw0 (zz51 ec e (λ z=>nomatch z))];exact ec
 ·have jl:j < es.size:=by rw [size_of_entries h4];exact (vW.mp hj).1
  rw [uaE,dif_pos jl,Array.toList_eraseIdx,h4,zwf]
 ·rw [<- zwf]
  exact List.Nodup.sublist (List.eraseIdx_sublist _ _) h6
end L3
namespace L4
open PySem PySem.Spec PyProof.Rows L2 L3
section
variable {K:Fg} {ta tb ti tk tx:TE} {dp dq:DP} {dk dy dz:DE}
noncomputable def zh8 {κ:Type} [DecidableEq κ] (kvs:List (κ×D)) (k:κ):List (κ×D):=kvs.filter λ kv=>decide (kv.1≠k)
theorem KvIs.drop {κ:Type} [DecidableEq κ] {F:Hp} {k:κ}:∀ {r:List (κ×V)} {s:List (κ×D)},KvIs K F r s->KvIs K F (zci r k) (zh8 s k)
|_,_,.nil=>.nil
|_,_,.cons (k:=k') (r:=r) (s:=s) h t=>by
  unfold zci zh8
  by_cases e:k'=k
  ·rw [yT (by simp [e]),yT (by simp [e])]
   exact t.drop
  ·rw [yE (by simp [e]),yE (by simp [e])]
   exact .cons h t.drop
noncomputable def zj91 (u:T) (y z:D) (N:D->T->Prop):Prop:=match u with
|.dt kvs=>∃ key,keyT y=some key/\N ((getA kvs key).getD z) (.dt (zh8 kvs key))
|_=>False
noncomputable def sepP (i:Nat) (p:Pth) (j:Nat) (q:Pth):Prop:=j=i/\∃ g h,p=[.fl g]/\q=[.fl h]/\g≠h
noncomputable def zbn (f:Int->Int->Int) (dp:DP) (dk:DE) (dq:DP) (dy dz:DE):DS:=λ E U=>dp U λ i p u=>dk U λ k=>fGet u k λ x=>dq U λ j q t=>tyN "dict" t/\dy U λ y=>dz U λ z=>zj91 t y z λ c t2 =>
 fII f x c λ n=>fPut u k n λ u2=>sepP i p j q/\mutS U j q t2 λ U1=>mutS U1 i p u2 E.nx
theorem zq8 {f g:Str} {u:T} (n:g≠f):∀ (ts:List (Str×T)),(putA f u ts).lookup g=ts.lookup g
|[]=>by
  have hb:(g == f)=false:=beq_eq_false_iff_ne.mpr n
  show wQ g [(f,u)]=_
  simp [wQ,hb]
|(h,t) :: r=>by
  have hb:(g == f)=false:=beq_eq_false_iff_ne.mpr n
  by_cases e:h=f
  ·subst e
   rw [show putA h u ((h,t) :: r)=(h,u) :: r from if_pos rfl]
   simp [wQ,hb]
  ·rw [show putA f u ((h,t) :: r)=(h,t) :: putA f u r from if_neg e]
   simp only [wQ]
   rw [zq8 n r]
theorem zka1 {H:Hp} {x v:V} {t u:T} {g:Str} (h:At H x t [.fl g] v u):∃ a C dx fs ts,x=.ref a/\t=.ob C ts/\H a=some (.ins C dx fs)/\fs.lookup g=some v/\ts.lookup g=some u:=by
 cases h with
|fl h1 h2 h3 h4 =>
  cases h4
  exact ⟨_,_,_,_,_,rfl,rfl,h1,h2,h3⟩
theorem zbr {u:T} {k d:D} {N M:T->Prop} (h:fPut u k d N) (m:∀ u2,N u2->M u2):fPut u k d M:=by
 unfold fPut at h ⊢
 split at h
 ·split at h
  ·obtain ⟨j,e,n⟩:=h;exact ⟨j,e,m _ n⟩
  ·exact h.elim
 ·obtain ⟨key,e,l,n⟩:=h;exact ⟨key,e,l,m _ n⟩
 ·obtain ⟨key,e,l,n⟩:=h;exact ⟨key,e,l,m _ n⟩
 ·exact h.elim
theorem zet {u:T} {k d:D} {N:T->Prop} (h:fPut u k d N):∃ u2,N u2:=by
 unfold fPut at h
 split at h
 ·split at h
  ·obtain ⟨j,e,n⟩:=h;exact ⟨_,n⟩
  ·exact h.elim
 ·obtain ⟨key,e,l,n⟩:=h;exact ⟨_,n⟩
 ·obtain ⟨key,e,l,n⟩:=h;exact ⟨_,n⟩
 ·exact h.elim
theorem zoq {κ:Type} [DecidableEq κ] {k:κ}:∀ {r:List (κ×V)},valV r k=none->zci r k=r:=by
 intro r h
 unfold zci
 rw [List.filter_eq_self]
 intro x hx
 unfold valV at h
 have:=uaF.mp (uaG.mp h) x hx
 simpa using this
theorem zmr {f:Int->Int->Int} (hp:RfP K ta dp) (hk:RfE K ti dk) (hq:RfP K tb dq) (hy:RfE K tk dy) (hz:RfE K tx dz) :
  RfS K (zn71 ta ti (tBMU K "dict" zcb1 tb (zrn tk (zrn tx tNil))) (zp41 K) (ipI f) ztq) (zbn f dp dk dq dy dz):=by
 intro B F H Y U fps E Z r h k
 refine hp r.fh r.rv h λ i p u hu v F1 H1 e1 at1=>?_
 have r1:=r.grow e1
 refine hk r1.fh r1.rv hu λ kd hkd kv F2 H2 e2 i2=>?_
 have r2:=r1.grow e2
 have at2:=at1.mono e2.h
 obtain ⟨fn,hr⟩:=at2.rt r2.rv
 refine zxr r2.fh hr i2 hkd λ x xv hx ix=>hq r2.fh r2.rv hx λ j q t ht w F3 H3 e3 at3=>?_
 have r3:=r2.grow e3
 obtain ⟨fn3,hr3⟩:=at3.rt r3.rv
 refine ⟨zc51 hr3 ht.1,hy r3.fh r3.rv ht.2 λ yd hyd yv F4 H4 e4 i4=>hz (r3.grow e4).fh (r3.grow e4).rv hyd λ zd hzd zv F5 H5 e5 i5=>?_⟩
 have e35:=e3.trans (e4.trans e5)
 have r5:RS K B F5 H5 Y U fps:=(r3.grow e4).grow e5
 have at5:=at3.mono (e4.h.trans e5.h)
 have at25:=at2.mono e35.h
 obtain ⟨fn5,hr5⟩:=at5.rt r5.rv
 cases hr5 with
|dt g1 g2 g3 =>
  rename_i b kvs ds
  obtain ⟨key,ek,hN⟩:=hzd
  obtain ⟨kb,rfl,hb⟩:=zsj (i4.mono e5.f) ek
  have put:∀ (nv:V) (nd:D),Is K F5 nv nd->(fPut u kd nd λ u2=>sepP i p j q/\mutS U j q (.dt (zh8 ds key)) λ U1=>mutS U1 i p u2 E.nx) ->
    ztq v kv nv (upd H5 b (.dT (zci kvs key))) λ H8=>Z.nx Y H8:=by
   intro nv nd inv hf
   obtain ⟨_,⟨rfl,g,h',rfl,rfl,ne⟩,_⟩:=zet hf
   have one:∀ U1,(∀ N:DSt->Prop,mutS U j [.fl h'] (.dt (zh8 ds key)) N=N U1)->(∃ s,U1[j]?=some s/\s.tree=(match U[j]? with
    |some s=>s.tree.map λ t=>setP t [.fl h'] (.dt (zh8 ds key))
    |none=>none))->ztq v kv nv (upd H5 b (.dT (zci kvs key))) λ H8=>Z.nx Y H8:=by
    intro U1 em es
    obtain ⟨U2,fps2,r6,n6,_⟩:=r5.one (o2:=.dT (zci kvs key)) (N:=λ U'=>U'=U1) at5 (u2:=.dt (zh8 ds key)) (by rw [em]) g1 (λ fn' hr'=>by cases hr';rfl) (λ fa=>.dt zo0 fa g3.drop)
    subst n6
    obtain ⟨s0,t0,x0,a1,a2,a3,a4⟩:=at25
    obtain ⟨s5,t5,x5,b1,b2,b3,b4⟩:=at5
    rw [a1] at b1;cases b1
    rw [a2] at b2;cases b2
    rw [a3] at b3;cases b3
    obtain ⟨aa,C,dx,fs,ts,rfl,rfl,c1,c2,c3⟩:=zka1 a4
    obtain ⟨_,_,_,_,_,z1,z2,d1,d2,d3⟩:=zka1 b4
    cases z1
    cases z2
    rw [c1] at d1
    cases d1
    obtain ⟨s6,es1,es2⟩:=es
    rw [a1] at es2
    simp only [a2,Option.map_some] at es2
    have et:setP (.ob C ts) [.fl h'] (.dt (zh8 ds key))=.ob C (putA h' (.dt (zh8 ds key)) ts):=by
     simp only [setP,d3]
    have at6:AtS (upd H5 b (.dT (zci kvs key))) Y U2 j [.fl g] v u:=⟨s6,_,_,es1,es2,a3,by
     rw [et]
     exact .fl (by rw [zw0 (zz51 c1 g1 (λ z=>nomatch z))];exact c1) c2 (by rw [zq8 ne];exact c3) .nil⟩
    exact znr r6 at6 (i2.mono e35.f) inv (zbr hf λ u2 hu2=>by have:=hu2.2;rw [em] at this;exact this) λ U3 fps3 H8 r8 n8=>k.nx r8 n8
   obtain ⟨s0,t0,x0,a1,a2,a3,a4⟩:=at5
   have hl:j < U.length:=(vW.mp a1).1
   obtain ⟨u2,_,hm⟩:=zet hf
   cases s0 with
  |ow t1=>exact one (U.set j (.ow (setP t1 [.fl h'] (.dt (zh8 ds key))))) (λ N=>by simp only [mutS,a1]) ⟨_,wP hl,by rw [a1];rfl⟩
  |io a' t1=>exact one (U.set j (.io a' (setP t1 [.fl h'] (.dt (zh8 ds key))))) (λ N=>by simp only [mutS,a1]) ⟨_,wP hl,by rw [a1];rfl⟩
  |un=>simp only [mutS,a1] at hm
  |sh d=>simp only [mutS,a1] at hm
  |bo t1=>simp only [mutS,a1] at hm
  have go:∀ (cv:V) (c:D),Is K F5 cv c->(fII f x c λ n=>fPut u kd n λ u2=>sepP i p j q/\mutS U j q (.dt (zh8 ds key)) λ U1=>mutS U1 i p u2 E.nx) ->
    (ipI f) xv cv (upd H5 b (.dT (zci kvs key))) λ z H7=>ztq v kv z H7 λ H8=>Z.nx Y H8:=by
   intro cv c ic hf
   unfold fII at hf
   split at hf
   ·cases ix.int_inv
    cases ic.int_inv
    exact ⟨_,_,rfl,rfl,put _ _ (.int _) hf⟩
   ·exact hf.elim
  refine ⟨b,kb,kvs,key,zv,rfl,rfl,g1,r5.fh _ _ hb,λ cv hcv=>?_,λ hno=>?_⟩
  ·rcases g3.get (k:=key) with ⟨q1,q2⟩|⟨d',y',q1,q2,q3⟩
   ·rw [q2] at hcv;cases hcv
   ·rw [q2] at hcv;cases hcv
    rw [q1] at hN
    exact go _ _ q3 hN
  ·rcases g3.get (k:=key) with ⟨q1,q2⟩|⟨d',y',q1,q2,q3⟩
   ·rw [q1] at hN
    have:=go _ _ i5 hN
    rw [zoq q2] at this
    have eH:upd H5 b (.dT kvs)=H5:=by
     funext c
     by_cases z:c=b
     ·subst z;rw [zo0,g1]
     ·rw [zw0 z]
    rw [eH] at this
    exact this
   ·rw [q2] at hno;cases hno
|fz _=>exact hzd.elim
|li _ _ _=>exact hzd.elim
|ls _ _ _=>exact hzd.elim
|ob _ _ _ _ _=>exact hzd.elim
|tp _ _ _=>exact hzd.elim
|dk _ _ _=>exact hzd.elim
theorem zer (f:Int->Int->Int) (dp:DP) (dk:DE) (dq:DP) (dy dz:DE) (E:DEnds) (U:DSt):zbn f dp dk dq dy dz E U=(dp U λ i p u=>dk U λ k=>fGet u k λ x=>dq U λ j q t=>tyN "dict" t/\dy U λ y=>dz U λ z=>zj91 t y z λ c t2 =>
 fII f x c λ n=>fPut u k n λ u2=>sepP i p j q/\mutS U j q t2 λ U1=>mutS U1 i p u2 E.nx):=rfl
theorem zuz (kvs:List (List Key×D)) (y z:D) (N:D->T->Prop):zj91 (.dt kvs) y z N=∃ key,keyT y=some key/\N ((getA kvs key).getD z) (.dt (zh8 kvs key)):=rfl
end
end L4
namespace L5
noncomputable def xr (s:Nat):Nat:=if s % 2=0 then s+1 else s - 1
theorem zj61 (s:Nat):xr (xr s)=s:=by unfold xr;split <;> split <;> lia
theorem zi51 {s m:Nat} (h:s < 2 * m):xr s < 2 * m:=by unfold xr;split <;> lia
theorem zm71 (s:Nat):xr s≠s:=by unfold xr;split <;> lia
noncomputable def hd (E:List Nat) (s:Nat):Nat:=E.getD s 0
noncomputable def tl (E:List Nat) (s:Nat):Nat:=hd E (xr s)
theorem zn41 (E:List Nat) (s:Nat):tl E (xr s)=hd E s:=by unfold tl;rw [zj61]
theorem zr21 (E:List Nat) (s:Nat):hd E (xr s)=tl E s:=rfl
noncomputable def lf (L:List Int) (s:Nat):Int:=L.getD s 0
structure Net (n m:Nat) (E:List Nat) (S:List (List Nat)):Prop where
 lE:E.length=2 * m
 bE:∀ s,s < 2 * m->hd E s < n
 lS:S.length=n
 s1:∀ (v:Nat) l,S[v]?=some l->∀ s∈l,s < 2 * m/\tl E s=v
 s2:∀ s,s < 2 * m->∃ l,S[tl E s]?=some l/\s∈l
noncomputable def lkp (lv:List (Nat×Nat)) (v:Nat):Option Nat:=(lv.find? λ p=>decide (p.1=v)).map (·.2)
theorem zqe {lv:List (Nat×Nat)} {u a v:Nat}:lkp (lv++[(u,a)]) v=match lkp lv v with
 |some b=>some b
 |none=>if u=v then some a else none:=by
 unfold lkp
 rw [List.find?_append]
 cases h:lv.find? λ p=>decide (p.1=v) with
|some x=>simp
|none =>
  by_cases e:u=v
  ·simp [e]
  ·simp [e]
theorem zyo {lv:List (Nat×Nat)} {v a:Nat} (h:lkp lv v=some a):(v,a)∈lv:=by
 unfold lkp at h
 obtain ⟨p,hp,e⟩:=wJ.mp h
 have h1:=List.mem_of_find?_eq_some hp
 have h2:=List.find?_some hp
 simp at h2
 obtain ⟨p1,p2⟩:=p
 simp at h2 e
 subst h2 e
 exact h1
theorem zel {lv:List (Nat×Nat)} {v:Nat} (h:lkp lv v=none):v ∉ lv.map (·.1):=by
 unfold lkp at h
 rw [uaG,uaF] at h
 intro hm
 obtain ⟨p,hp,e⟩:=vR.mp hm
 have:=h p hp
 simp [e] at this
theorem za1:∀ (n:Nat) (l:List Nat),l.Nodup->(∀ x∈l,x < n)->l.length<=n
|0,[],_,_=>u8 _
|0,x :: r,_,h=>absurd (h x (by simp)) (by lia)
|n+1,l,nd,h=>by
  by_cases hm:n∈l
  ·have h1:(l.erase n).length=l.length - 1:=List.length_erase_of_mem hm
   have h2:(l.erase n).Nodup:=nd.erase n
   have h3:∀ x∈l.erase n,x < n:=λ x hx=>by
    have hx1:=(List.Nodup.mem_erase_iff nd).mp hx
    have:=h x hx1.2
    lia
   have:=za1 n _ h2 h3
   lia
  ·have h3:∀ x∈l,x < n:=λ x hx=>by
    have:=h x hx
    have:x≠n:=λ e=>hm (e ▸ hx)
    lia
   have:=za1 n l nd h3
   lia
structure Lev (n m:Nat) (E:List Nat) (L:List Int) (src:Nat) (lv:List (Nat×Nat)):Prop where
 nd:(lv.map (·.1)).Nodup
 bd:∀ p∈lv,p.1 < n
 l0:lkp lv src=some 0
 z0:∀ v,lkp lv v=some 0->v=src
 cl:∀ s,s < 2 * m->0 < lf L s->(lkp lv (tl E s)).isSome=true->(lkp lv (hd E s)).isSome=true
 pr:∀ v a,lkp lv v=some (a+1)->∃ s,s < 2 * m/\0 < lf L s/\hd E s=v/\lkp lv (tl E s)=some a
noncomputable def Adm (E:List Nat) (L:List Int) (lv:List (Nat×Nat)) (s:Nat):Prop:=0 < lf L s/\∃ a,lkp lv (tl E s)=some a/\lkp lv (hd E s)=some (a+1)
inductive Rch (m:Nat) (E:List Nat) (L:List Int) (lv:List (Nat×Nat)) (t:Nat):Nat->Prop
|here:Rch m E L lv t t
|step {s:Nat}:s < 2 * m->Adm E L lv s->Rch m E L lv t (hd E s)->Rch m E L lv t (tl E s)
theorem zih {n m:Nat} {E:List Nat} {L:List Int} {src:Nat} {lv:List (Nat×Nat)} (h:Lev n m E L src lv) {t:Nat}:∀ (a v:Nat),lkp lv v=some a->Rch m E L lv t v->Rch m E L lv t src
|0,v,e,r=>by rw [<- h.z0 v e];exact r
|a+1,v,e,r=>by
  obtain ⟨s,h1,h2,h3,h4⟩:=h.pr v a e
  refine zih h a (tl E s) h4 (.step h1 ⟨h2,a,h4,by rw [h3];exact e⟩ (by rw [h3];exact r))
theorem Rch.mono {m:Nat} {E:List Nat} {L L':List Int} {lv:List (Nat×Nat)} {t v:Nat} (h:∀ s,s < 2 * m->Adm E L' lv s->Adm E L lv s) (r:Rch m E L' lv t v):Rch m E L lv t v:=by
 induction r with
|here=>exact .here
|step h1 h2 _ ih=>exact .step h1 (h _ h1 h2) ih
structure Tri (m:Nat) (E:List Nat) (S:List (List Nat)) (L:List Int) (lv:List (Nat×Nat)) (t:Nat) (TT:List (List Nat)):Prop where
 len:TT.length=S.length
 pre:∀ (v:Nat) l,TT[v]?=some l->∃ k,S[v]?=some k/\l <+: k
 vain:∀ (v:Nat) l k,TT[v]?=some l->S[v]?=some k->∀ (j:Nat) s,l.length<=j->k[j]?=some s->¬(Adm E L lv s/\Rch m E L lv t (hd E s))
theorem Tri.mono {m:Nat} {E:List Nat} {S:List (List Nat)} {L L':List Int} {lv:List (Nat×Nat)} {t:Nat} {TT:List (List Nat)} (h:∀ s,s < 2 * m->Adm E L' lv s->Adm E L lv s) (hS:∀ (v:Nat) k,S[v]?=some k->∀ s∈k,s < 2 * m) (r:Tri m E S L lv t TT):Tri m E S L' lv t TT :=
 ⟨r.len,r.pre,λ v l k h1 h2 j s hj hs z=>r.vain v l k h1 h2 j s hj hs ⟨h s (hS v k h2 s (v8 hs)) z.1,z.2.mono h⟩⟩
theorem Tri.all {m:Nat} {E:List Nat} {S:List (List Nat)} {L:List Int} {lv:List (Nat×Nat)} {t:Nat}:Tri m E S L lv t S :=
 ⟨rfl,λ v l h=>⟨l,h,List.prefix_refl _⟩,λ v l k h1 h2 j s hj hs=>by
  rw [h1] at h2;cases h2
  rw [wH hj] at hs;cases hs⟩
theorem Tri.dead {n m:Nat} {E:List Nat} {S:List (List Nat)} {L:List Int} {lv:List (Nat×Nat)} {t:Nat} {TT:List (List Nat)} (N:Net n m E S) (r:Tri m E S L lv t TT) {v:Nat} (h:TT[v]?=some []) (hv:v≠t):¬ Rch m E L lv t v:=by
 intro z
 cases z with
|here=>exact hv rfl
|step h1 h2 h3 =>
  obtain ⟨l,hl,hm⟩:=N.s2 _ h1
  obtain ⟨j,hj,e⟩:=uaH hm
  exact r.vain _ [] l h hl j _ (wY _) (by rw [<- e];exact u5 hj) ⟨h2,h3⟩
theorem Tri.cut {m:Nat} {E:List Nat} {S:List (List Nat)} {L:List Int} {lv:List (Nat×Nat)} {t:Nat} {TT:List (List Nat)} (r:Tri m E S L lv t TT) {v:Nat} {l:List Nat} (h:TT[v]?=some l) {k:Nat} (hk:k<=l.length)
  (hv:∀ (j:Nat) s,k<=j->l[j]?=some s->¬(Adm E L lv s/\Rch m E L lv t (hd E s))):Tri m E S L lv t (TT.set v (l.take k)):=by
 have hlt:v < TT.length:=by
  rcases wS v TT.length with z|z
  ·exact z
  ·rw [wH z] at h;cases h
 have key:∀ (u:Nat) x,(TT.set v (l.take k))[u]?=some x->(u=v/\x=l.take k) \/ (u≠v/\TT[u]?=some x):=λ u x e=>by
  rw [wV] at e
  by_cases z:v=u
  ·subst z;simp [hlt] at e;exact .inl ⟨rfl,e.symm⟩
  ·simp [z] at e;exact .inr ⟨λ y=>z y.symm,e⟩
 refine ⟨by rw [vZ];exact r.len,λ u x e=>?_,λ u x y e e2 j s hj hs=>?_⟩
 ·rcases key u x e with ⟨rfl,rfl⟩|⟨_,e'⟩
  ·obtain ⟨kk,h1,h2⟩:=r.pre u l h
   exact ⟨kk,h1,(List.take_prefix _ _).trans h2⟩
  ·exact r.pre u x e'
 ·rcases key u x e with ⟨rfl,rfl⟩|⟨_,e'⟩
  ·by_cases hjl:j < l.length
   ·obtain ⟨kk,h1,h2⟩:=r.pre u l h
    rw [h1] at e2;cases e2
    have hs':l[j]?=some s:=by
     rw [<- hs]
     exact (List.prefix_iff_getElem?.mp h2 j hjl) ▸ u5 hjl
    refine hv j s ?_ hs'
    rw [wF] at hj;lia
   ·exact r.vain u l y h e2 j s (by lia) hs
  ·exact r.vain u x y e' e2 j s hj hs
noncomputable def Way (m:Nat) (E:List Nat) (L:List Int) (lv:List (Nat×Nat)):Nat->List Nat->Nat->Prop
|v,[],t=>v=t
|v,s :: p,t=>s < 2 * m/\tl E s=v/\Adm E L lv s/\Way m E L lv (hd E s) p t
theorem Way.snoc {m:Nat} {E:List Nat} {L:List Int} {lv:List (Nat×Nat)}:∀ {v:Nat} {p:List Nat} {u s:Nat},Way m E L lv v p u->s < 2 * m->tl E s=u->Adm E L lv s->Way m E L lv v (p++[s]) (hd E s)
|v,[],u,s,h,h1,h2,h3=>⟨h1,by rw [h2];exact h.symm,h3,rfl⟩
|v,x :: p,u,s,h,h1,h2,h3=>⟨h.1,h.2.1,h.2.2.1,Way.snoc h.2.2.2 h1 h2 h3⟩
theorem Way.unsnoc {m:Nat} {E:List Nat} {L:List Int} {lv:List (Nat×Nat)}:∀ {v:Nat} {p:List Nat} {u s:Nat},Way m E L lv v (p++[s]) u->Way m E L lv v p (tl E s)/\hd E s=u/\s < 2 * m/\Adm E L lv s
|v,[],u,s,h=>⟨h.2.1.symm,h.2.2.2,h.1,h.2.2.1⟩
|v,x :: p,u,s,h=>by
  obtain ⟨a,b,c,d⟩:=Way.unsnoc h.2.2.2
  exact ⟨⟨h.1,h.2.1,h.2.2.1,a⟩,b,c,d⟩
theorem Way.level {m:Nat} {E:List Nat} {L:List Int} {lv:List (Nat×Nat)}:∀ {v:Nat} {p:List Nat} {u a:Nat},Way m E L lv v p u->lkp lv v=some a->lkp lv u=some (a+p.length)
|v,[],u,a,h,e=>by rw [show v=u from h] at e;exact e
|v,x :: p,u,a,h,e=>by
  obtain ⟨h1,h2,⟨_,b,h3,h4⟩,h5⟩:=h
  rw [h2,e] at h3;cases h3
  have:=Way.level h5 h4
  rw [this];congr 1;simp;lia
theorem Way.tails {m:Nat} {E:List Nat} {L:List Int} {lv:List (Nat×Nat)}:∀ {v:Nat} {p:List Nat} {u a:Nat},Way m E L lv v p u->lkp lv v=some a->∀ s∈p,∃ b,a<=b/\lkp lv (tl E s)=some b/\lkp lv (hd E s)=some (b+1)
|v,[],u,a,_,_,s,hs=>by simp at hs
|v,x :: p,u,a,h,e,s,hs=>by
  obtain ⟨h1,h2,⟨_,b,h3,h4⟩,h5⟩:=h
  rw [h2,e] at h3;cases h3
  rcases vN.mp hs with z|z
  ·subst z;exact ⟨a,u8 _,by rw [h2];exact e,h4⟩
  ·obtain ⟨c,k1,k2,k3⟩:=Way.tails h5 h4 s z
   exact ⟨c,by lia,k2,k3⟩
theorem Way.nodup {m:Nat} {E:List Nat} {L:List Int} {lv:List (Nat×Nat)}:∀ {v:Nat} {p:List Nat} {u a:Nat},Way m E L lv v p u->lkp lv v=some a->p.Nodup/\∀ s∈p,xr s ∉ p
|v,[],u,a,_,_=>⟨.nil,λ s hs=>by simp at hs⟩
|v,x :: p,u,a,h,e=>by
  obtain ⟨h1,h2,⟨_,b,h3,h4⟩,h5⟩:=h
  rw [h2,e] at h3;cases h3
  obtain ⟨n1,n2⟩:=Way.nodup h5 h4
  have tx:lkp lv (tl E x)=some a:=by rw [h2];exact e
  refine ⟨vY.mpr ⟨λ z=>?_,n1⟩,λ s hs hx=>?_⟩
  ·obtain ⟨c,k1,k2,_⟩:=Way.tails h5 h4 x z
   rw [tx] at k2;cases k2;lia
  ·rcases vN.mp hs with z|z
   ·subst z
    rcases vN.mp hx with y|y
    ·exact zm71 _ y
    ·obtain ⟨c,k1,k2,k3⟩:=Way.tails h5 h4 _ y
     rw [zn41,h4] at k2;cases k2
     rw [zr21,tx] at k3;injection k3 with k3;lia
   ·rcases vN.mp hx with y|y
    ·obtain ⟨c,k1,k2,k3⟩:=Way.tails h5 h4 s z
     have e1:x=xr s:=y.symm
     subst e1
     rw [zr21,k2] at h4;cases h4
     rw [zn41,k3] at tx;injection tx with tx;lia
    ·exact n2 s z y
end L5
namespace L5
noncomputable def zxk (L:List Int) (s:Nat) (a:Int):List Int:=(L.set s (lf L s - a)).set (xr s) (lf L (xr s)+a)
noncomputable def zl3 (L:List Int) (p:List Nat) (a:Int):List Int:=p.foldl (λ L s=>zxk L s a) L
theorem zvg (L:List Int) (s:Nat) (a:Int):(zxk L s a).length=L.length:=by simp [zxk]
theorem zwa (a:Int):∀ (p:List Nat) (L:List Int),(zl3 L p a).length=L.length
|[],L=>rfl
|s :: p,L=>by show (zl3 (zxk L s a) p a).length=_;rw [zwa a p,zvg]
theorem zly {L:List Int} {i j:Nat} {x:Int} (h:i < L.length):lf (L.set i x) j=if i=j then x else lf L j:=by
 unfold lf
 rw [vL,vL,wV]
 by_cases e:i=j
 ·subst e;simp [h]
 ·simp [e]
theorem zyl {L:List Int} {s j m:Nat} {a:Int} (hl:L.length=2 * m) (hs:s < 2 * m):lf (zxk L s a) j=if j=s then lf L s - a else if j=xr s then lf L (xr s)+a else lf L j:=by
 unfold zxk
 rw [zly (by rw [vZ,hl];exact zi51 hs),zly (by lia)]
 by_cases e1:j=s
 ·subst e1
  rw [if_neg (zm71 j),if_pos rfl,if_pos rfl]
 ·rw [if_neg e1]
  by_cases e2:j=xr s
  ·rw [if_pos e2.symm,if_pos e2]
  ·rw [if_neg (λ z=>e2 z.symm),if_neg e2,if_neg (λ z=>e1 z.symm)]
theorem znb {m:Nat} {a:Int}:∀ {p:List Nat} {L:List Int} {j:Nat},L.length=2 * m->(∀ s∈p,s < 2 * m)->p.Nodup->(∀ s∈p,xr s ∉ p)->lf (zl3 L p a) j=if j∈p then lf L j - a else if xr j∈p then lf L j+a else lf L j
|[],L,j,_,_,_,_=>by simp [zl3]
|s :: p,L,j,hl,hb,nd,nx=>by
  have hs:=hb s (by simp)
  have nd':=vY.mp nd
  have xsp:xr s ∉ p:=λ z=>nx s (by simp) (by simp [z])
  have ih:=znb (a:=a) (p:=p) (L:=zxk L s a) (j:=j) (by rw [zvg];exact hl) (λ t ht=>hb t (by simp [ht])) nd'.2 (λ t ht z=>nx t (by simp [ht]) (by simp [z]))
  show lf (zl3 (zxk L s a) p a) j=_
  rw [ih,zyl hl hs]
  by_cases e1:j=s
  ·subst e1
   rw [if_neg nd'.1,if_pos rfl,if_neg xsp,if_pos (by simp)]
  ·by_cases e2:j=xr s
   ·subst e2
    have n1:xr s ∉ s :: p:=nx s (by simp)
    rw [if_neg xsp,zj61,if_neg nd'.1,if_neg e1,if_pos rfl,if_neg n1,if_pos (by simp)]
   ·have e3:xr j≠s:=λ z=>e2 (by rw [<- z,zj61])
    simp only [vN,e1,e2,e3,if_false,false_or]
noncomputable def term (E:List Nat) (L:List Int) (v k:Nat):Int:=(if hd E (2 * k)=v then lf L (2 * k+1) else 0) - (if hd E (2 * k+1)=v then lf L (2 * k+1) else 0)
noncomputable def bal (m:Nat) (E:List Nat) (L:List Int) (v:Nat):Int:=((u3 m).map (term E L v)).sum
theorem znh {f g:Nat->Int} {d:Int} {k0:Nat}:∀ (m:Nat),k0 < m->(∀ k,k≠k0->g k=f k)->g k0=f k0+d->((u3 m).map g).sum=((u3 m).map f).sum+d
|0,h,_,_=>by lia
|m+1,h,h1,h2=>by
  rw [w9,vX,vX,yF,yF]
  by_cases e:k0=m
  ·subst e
   have:(u3 k0).map g=(u3 k0).map f:=wK λ k hk=>h1 k (by have:=vM.mp hk;lia)
   rw [this]
   simp [h2];lia
  ·have ih:=znh m (by lia) h1 h2
   rw [ih]
   simp [h1 m (λ z=>e z.symm)];lia
theorem zjw {m:Nat} {E:List Nat} {L:List Int} {s:Nat} {a:Int} {v:Nat} (hl:L.length=2 * m) (hs:s < 2 * m):bal m E (zxk L s a) v=bal m E L v+((if hd E s=v then a else 0) - (if tl E s=v then a else 0)):=by
 unfold bal
 refine znh (k0:=s / 2) m (by lia) (λ k hk=>?_) ?_
 ·unfold term
  have:lf (zxk L s a) (2 * k+1)=lf L (2 * k+1):=by
   rw [zyl hl hs,if_neg (by lia),if_neg (by unfold xr;split <;> lia)]
  rw [this]
 ·unfold term
  by_cases e:s % 2=0
  ·have e1:2 * (s / 2)=s:=by lia
   have e2:xr s=s+1:=by unfold xr;rw [if_pos e]
   have h1:lf (zxk L s a) (2 * (s / 2)+1)=lf L (2 * (s / 2)+1)+a:=by
    rw [zyl hl hs,e1,if_neg (by lia),if_pos e2.symm,e2]
   rw [h1,e1]
   have e3:tl E s=hd E (s+1):=by unfold tl;rw [e2]
   rw [e3]
   split <;> split <;> lia
  ·have e1:2 * (s / 2)+1=s:=by lia
   have e2:xr s=2 * (s / 2):=by unfold xr;rw [if_neg e];lia
   have h1:lf (zxk L s a) (2 * (s / 2)+1)=lf L (2 * (s / 2)+1) - a:=by
    rw [zyl hl hs,e1,if_pos rfl]
   rw [h1,e1]
   have e3:tl E s=hd E (2 * (s / 2)):=by unfold tl;rw [e2]
   rw [e3]
   split <;> split <;> lia
theorem zl7 {m:Nat} {E:List Nat} {LA:List Int} {lv:List (Nat×Nat)} {a:Int} {w:Nat}:∀ {p:List Nat} {L:List Int} {v t:Nat},L.length=2 * m->Way m E LA lv v p t->bal m E (zl3 L p a) w=bal m E L w+((if t=w then a else 0) - (if v=w then a else 0))
|[],L,v,t,_,h=>by
  rw [show v=t from h]
  show bal m E L w=_
  lia
|s :: p,L,v,t,hl,h=>by
  have ih:=zl7 (a:=a) (w:=w) (p:=p) (L:=zxk L s a) (by rw [zvg];exact hl) h.2.2.2
  show bal m E (zl3 (zxk L s a) p a) w=_
  rw [ih,zjw hl h.1,h.2.1]
  lia
structure Cap (m:Nat) (most:Nat->Int) (L:List Int):Prop where
 len:L.length=2 * m
 nn:∀ s,s < 2 * m->0<=lf L s
 sm:∀ k,k < m->lf L (2 * k)+lf L (2 * k+1)=most k
theorem Cap.carry {m:Nat} {most:Nat->Int} {E:List Nat} {L:List Int} {lv:List (Nat×Nat)} {v t a0:Nat} {p:List Nat} {a:Int} (c:Cap m most L) (h:Way m E L lv v p t) (hv:lkp lv v=some a0) (ha:0<=a) (hm:∀ s∈p,a<=lf L s):Cap m most (zl3 L p a):=by
 obtain ⟨nd,nx⟩:=h.nodup hv
 have hb:∀ {v p t},Way m E L lv v p t->∀ s∈p,s < 2 * m:=λ {v p t} h=>by
  induction p generalizing v with
 |nil=>intro s hs;simp at hs
 |cons x p ih =>
   intro s hs
   rcases vN.mp hs with z|z
   ·subst z;exact h.1
   ·exact ih h.2.2.2 s z
 have hb:=hb h
 have lc:∀ j,lf (zl3 L p a) j=if j∈p then lf L j - a else if xr j∈p then lf L j+a else lf L j:=λ j=>znb c.len hb nd nx
 refine ⟨by rw [zwa];exact c.len,λ s hs=>?_,λ k hk=>?_⟩
 ·rw [lc]
  have:=c.nn s hs
  split
  ·rename_i z;have:=hm s z;lia
  ·split <;> lia
 ·rw [lc,lc]
  have e1:xr (2 * k)=2 * k+1:=by unfold xr;rw [if_pos (by lia)]
  have e2:xr (2 * k+1)=2 * k:=by unfold xr;rw [if_neg (by lia)];lia
  rw [e1,e2]
  have:=c.sm k hk
  by_cases h1:2 * k∈p
  ·have h2:2 * k+1 ∉ p:=λ z=>nx _ h1 (by rw [e1];exact z)
   rw [if_pos h1,if_neg h2,if_pos h1];lia
  ·by_cases h2:2 * k+1∈p
   ·rw [if_neg h1,if_pos h2,if_pos h2];lia
   ·rw [if_neg h1,if_neg h2,if_neg h2,if_neg h1];lia
theorem zls {m:Nat} {E:List Nat} {L:List Int} {lv:List (Nat×Nat)} {v t a0:Nat} {p:List Nat} {a:Int} (hl:L.length=2 * m) (h:Way m E L lv v p t) (hv:lkp lv v=some a0) (ha:0<=a):∀ s,s < 2 * m->Adm E (zl3 L p a) lv s->Adm E L lv s:=by
 intro s hs ⟨h1,b,h2,h3⟩
 refine ⟨?_,b,h2,h3⟩
 obtain ⟨nd,nx⟩:=h.nodup hv
 have hb:∀ {v p t},Way m E L lv v p t->∀ s∈p,s < 2 * m:=λ {v p t} h=>by
  induction p generalizing v with
 |nil=>intro s hs;simp at hs
 |cons x p ih =>
   intro s hs
   rcases vN.mp hs with z|z
   ·subst z;exact h.1
   ·exact ih h.2.2.2 s z
 rw [znb hl (hb h) nd nx] at h1
 by_cases e1:s∈p
 ·rw [if_pos e1] at h1;lia
 ·rw [if_neg e1] at h1
  by_cases e2:xr s∈p
  ·-- the step against one of the way leads down
   obtain ⟨c,k1,k2,k3⟩:=h.tails hv (xr s) e2
   rw [zn41,h3] at k2
   rw [zr21,h2] at k3
   injection k2 with k2;injection k3 with k3;lia
  ·rw [if_neg e2] at h1;exact h1
theorem zir {m:Nat} {E:List Nat} {L:List Int} {lv:List (Nat×Nat)} {v t a0:Nat} {p:List Nat} {a:Int} (hl:L.length=2 * m) (h:Way m E L lv v p t) (hv:lkp lv v=some a0)
  (cl:∀ s,s < 2 * m->0 < lf L s->(lkp lv (tl E s)).isSome=true->(lkp lv (hd E s)).isSome=true) (ha:0<=a):∀ s,s < 2 * m->0 < lf (zl3 L p a) s->(lkp lv (tl E s)).isSome=true->(lkp lv (hd E s)).isSome=true:=by
 intro s hs h1 h2
 obtain ⟨nd,nx⟩:=h.nodup hv
 have hb:∀ {v p t},Way m E L lv v p t->∀ s∈p,s < 2 * m:=λ {v p t} h=>by
  induction p generalizing v with
 |nil=>intro s hs;simp at hs
 |cons x p ih =>
   intro s hs
   rcases vN.mp hs with z|z
   ·subst z;exact h.1
   ·exact ih h.2.2.2 s z
 rw [znb hl (hb h) nd nx] at h1
 by_cases e1:s∈p
 ·rw [if_pos e1] at h1;exact cl s hs (by lia) h2
 ·rw [if_neg e1] at h1
  by_cases e2:xr s∈p
  ·obtain ⟨c,k1,k2,k3⟩:=h.tails hv (xr s) e2
   rw [zr21] at k3
   rw [zn41] at k2
   rw [k2];rfl
  ·rw [if_neg e2] at h1;exact cl s hs h1 h2
noncomputable def tot (m:Nat) (most:Nat->Int):Int:=((u3 m).map most).sum
theorem zg21 {m:Nat} {most:Nat->Int} {E:List Nat} {L:List Int} (c:Cap m most L) (v:Nat):bal m E L v<=tot m most:=by
 unfold bal tot
 have:∀ j,j<=m->((u3 j).map (term E L v)).sum<=((u3 j).map most).sum:=λ j=>by
  induction j with
 |zero=>intro _;simp
 |succ j ih =>
   intro hj
   have:=ih (by lia)
   rw [w9,vX,vX,yF,yF]
   have h1:=c.nn (2 * j) (by lia)
   have h2:=c.nn (2 * j+1) (by lia)
   have h3:=c.sm j (by lia)
   have h4:term E L v j<=most j:=by unfold term;split <;> split <;> lia
   simp;lia
 exact this m (u8 _)
end L5
namespace L5
open PySem
noncomputable abbrev nB (a b:String):Prop:=(yL a==yL b)=false
noncomputable abbrev nE (a b:String):Prop:=(yL a=yL b)=False
theorem nN {a b:String} (h:nB a b):nE a b:=eq_false (beq_eq_false_iff_ne.mp h)
theorem zlb:nB "ends" "left":=by decide +kernel
theorem zg9:nB "ends" "steps":=by decide +kernel
theorem zja:nB "left" "ends":=by decide +kernel
theorem zm9:nB "left" "steps":=by decide +kernel
theorem zf9:nB "steps" "ends":=by decide +kernel
theorem zi9:nB "steps" "left":=by decide +kernel
theorem zcd:nB "amounts" "ends":=by decide +kernel
theorem zrd:nB "amounts" "left":=by decide +kernel
theorem zvb:nB "amounts" "steps":=by decide +kernel
theorem zmf:nB "levels" "ends":=by decide +kernel
theorem zjf:nB "levels" "left":=by decide +kernel
theorem zvd:nB "levels" "steps":=by decide +kernel
theorem zs8:nB "row_behind" "ends":=by decide +kernel
theorem zt8:nB "row_behind" "left":=by decide +kernel
theorem zr7:nB "row_behind" "steps":=by decide +kernel
theorem zud:nB "push_up" "ends":=by decide +kernel
theorem zsd:nB "push_up" "left":=by decide +kernel
theorem zoa:nB "push_up" "steps":=by decide +kernel
theorem zug:nB "way_up" "ends":=by decide +kernel
theorem zfg:nB "way_up" "left":=by decide +kernel
theorem zad:nB "way_up" "steps":=by decide +kernel
theorem zqd:nB "step_up" "ends":=by decide +kernel
theorem zzc:nB "step_up" "left":=by decide +kernel
theorem zpc:nB "step_up" "steps":=by decide +kernel
theorem zvh:nB "carry" "ends":=by decide +kernel
theorem zdh:nB "carry" "left":=by decide +kernel
theorem zqg:nB "carry" "steps":=by decide +kernel
theorem zqk:nE "ends" "left":=nN zlb
theorem zqh:nE "ends" "steps":=nN zg9
theorem zgk:nE "left" "ends":=nN zja
theorem zzi:nE "left" "steps":=nN zm9
theorem zkh:nE "steps" "ends":=nN zf9
theorem zyi:nE "steps" "left":=nN zi9
theorem zh9:nB "wide" "since":=by decide +kernel
theorem zl9:nB "wide" "other":=by decide +kernel
theorem zfb:nB "wide" "turn":=by decide +kernel
theorem zdj:nB "since" "wide":=by decide +kernel
theorem zqi:nB "other" "wide":=by decide +kernel
theorem zd9:nB "other" "turn":=by decide +kernel
theorem zvj:nB "turn" "wide":=by decide +kernel
theorem zfi:nB "turn" "other":=by decide +kernel
theorem zta:nB "width_at" "wide":=by decide +kernel
theorem zr9:nB "width_at" "since":=by decide +kernel
theorem zz9:nB "width_at" "other":=by decide +kernel
theorem zic:nB "width_at" "turn":=by decide +kernel
theorem zrh:nE "wide" "since":=nN zh9
theorem zuh:nE "wide" "other":=nN zl9
theorem zdl:nE "wide" "turn":=nN zfb
theorem zcj:nE "other" "turn":=nN zd9
theorem zo7:nB "rooms" "lying":=by decide +kernel
theorem zk7:nB "rooms" "pipes":=by decide +kernel
theorem zd8:nB "rooms" "gates":=by decide +kernel
theorem zg6:nB "rooms" "moment":=by decide +kernel
theorem zh5:nB "rooms" "entered":=by decide +kernel
theorem zv6:nB "rooms" "coming":=by decide +kernel
theorem zbg:nB "lying" "rooms":=by decide +kernel
theorem zw7:nB "lying" "pipes":=by decide +kernel
theorem zv7:nB "lying" "gates":=by decide +kernel
theorem zw6:nB "lying" "moment":=by decide +kernel
theorem zz4:nB "lying" "entered":=by decide +kernel
theorem zx6:nB "lying" "coming":=by decide +kernel
theorem zff:nB "pipes" "rooms":=by decide +kernel
theorem zt7:nB "pipes" "lying":=by decide +kernel
theorem zy7:nB "pipes" "gates":=by decide +kernel
theorem zq6:nB "pipes" "moment":=by decide +kernel
theorem zc5:nB "pipes" "entered":=by decide +kernel
theorem zu6:nB "pipes" "coming":=by decide +kernel
theorem zpg:nB "gates" "rooms":=by decide +kernel
theorem zg8:nB "gates" "lying":=by decide +kernel
theorem zah:nB "gates" "pipes":=by decide +kernel
theorem zk6:nB "gates" "moment":=by decide +kernel
theorem zf5:nB "gates" "entered":=by decide +kernel
theorem zi6:nB "gates" "coming":=by decide +kernel
theorem zzd:nB "moment" "rooms":=by decide +kernel
theorem ze6:nB "moment" "lying":=by decide +kernel
theorem zhd:nB "moment" "pipes":=by decide +kernel
theorem zkd:nB "moment" "gates":=by decide +kernel
theorem zw4:nB "moment" "entered":=by decide +kernel
theorem zg5:nB "moment" "coming":=by decide +kernel
theorem zlc:nB "entered" "rooms":=by decide +kernel
theorem zl5:nB "entered" "lying":=by decide +kernel
theorem zbc:nB "entered" "pipes":=by decide +kernel
theorem zrb:nB "entered" "gates":=by decide +kernel
theorem zp4:nB "entered" "moment":=by decide +kernel
theorem zs4:nB "entered" "coming":=by decide +kernel
theorem znd:nB "coming" "rooms":=by decide +kernel
theorem zj6:nB "coming" "lying":=by decide +kernel
theorem zae:nB "coming" "pipes":=by decide +kernel
theorem zfd:nB "coming" "gates":=by decide +kernel
theorem zu5:nB "coming" "moment":=by decide +kernel
theorem zn4:nB "coming" "entered":=by decide +kernel
theorem zkg:nB "holds" "rooms":=by decide +kernel
theorem zkf:nB "holds" "lying":=by decide +kernel
theorem zmg:nB "holds" "pipes":=by decide +kernel
theorem zdf:nB "holds" "gates":=by decide +kernel
theorem zed:nB "holds" "moment":=by decide +kernel
theorem zac:nB "holds" "entered":=by decide +kernel
theorem zee:nB "holds" "coming":=by decide +kernel
theorem zkb:nB "room_in" "rooms":=by decide +kernel
theorem zkc:nB "room_in" "lying":=by decide +kernel
theorem zjc:nB "room_in" "pipes":=by decide +kernel
theorem zyb:nB "room_in" "gates":=by decide +kernel
theorem zx9:nB "room_in" "moment":=by decide +kernel
theorem zj8:nB "room_in" "entered":=by decide +kernel
theorem zs9:nB "room_in" "coming":=by decide +kernel
theorem zti:nB "full" "rooms":=by decide +kernel
theorem zri:nB "full" "lying":=by decide +kernel
theorem znj:nB "full" "pipes":=by decide +kernel
theorem zbj:nB "full" "gates":=by decide +kernel
theorem zof:nB "full" "moment":=by decide +kernel
theorem zdd:nB "full" "entered":=by decide +kernel
theorem ztf:nB "full" "coming":=by decide +kernel
theorem zwj:nB "let" "rooms":=by decide +kernel
theorem zpk:nB "let" "lying":=by decide +kernel
theorem zcl:nB "let" "pipes":=by decide +kernel
theorem zvl:nB "let" "gates":=by decide +kernel
theorem zrj:nB "let" "moment":=by decide +kernel
theorem zng:nB "let" "entered":=by decide +kernel
theorem zej:nB "let" "coming":=by decide +kernel
theorem zvf:nB "go_on" "rooms":=by decide +kernel
theorem zzf:nB "go_on" "lying":=by decide +kernel
theorem zdg:nB "go_on" "pipes":=by decide +kernel
theorem zlg:nB "go_on" "gates":=by decide +kernel
theorem zwd:nB "go_on" "moment":=by decide +kernel
theorem ztc:nB "go_on" "entered":=by decide +kernel
theorem zmd:nB "go_on" "coming":=by decide +kernel
theorem zjg:nE "rooms" "lying":=nN zo7
theorem zyg:nE "rooms" "pipes":=nN zk7
theorem zrf:nE "rooms" "gates":=nN zd8
theorem zyc:nE "rooms" "moment":=nN zg6
theorem zib:nE "rooms" "entered":=nN zh5
theorem ztd:nE "rooms" "coming":=nN zv6
theorem zgg:nE "lying" "pipes":=nN zw7
theorem ztg:nE "lying" "gates":=nN zv7
theorem zce:nE "lying" "moment":=nN zw6
theorem zna:nE "lying" "entered":=nN zz4
theorem zpd:nE "lying" "coming":=nN zx6
theorem zig:nE "pipes" "lying":=nN zt7
theorem zag:nE "pipes" "gates":=nN zy7
theorem zjd:nE "pipes" "moment":=nN zq6
theorem zxa:nE "pipes" "entered":=nN zc5
theorem zbd:nE "pipes" "coming":=nN zu6
theorem zuf:nE "gates" "lying":=nN zg8
theorem zyd:nE "gates" "moment":=nN zk6
theorem zha:nE "gates" "entered":=nN zf5
theorem zbe:nE "gates" "coming":=nN zi6
theorem zxc:nE "moment" "lying":=nN ze6
theorem zaa:nE "moment" "entered":=nN zw4
theorem zpb:nE "moment" "coming":=nN zg5
theorem zla:nE "entered" "lying":=nN zl5
theorem zt9:nE "entered" "moment":=nN zp4
theorem zw9:nE "entered" "coming":=nN zs4
theorem zod:nE "coming" "lying":=nN zj6
theorem zya:nE "coming" "moment":=nN zu5
theorem zba:nE "coming" "entered":=nN zn4
end L5
namespace L5
open PySem PySem.Spec PyProof.Rows L2 L3 L4
noncomputable def nI (x:Nat):D:=.int (x:Int)
noncomputable abbrev dSt (S:List (List Nat)):D:=.list (S.map λ l=>.list (l.map nI))
noncomputable abbrev oS (C:Addr) (E:List Nat) (L:List Int) (S:List (List Nat)):T:=.ob C [("ends",.fz (.list (E.map nI))),("left",.li (L.map .int)),("steps",.fz (dSt S))]
noncomputable def kN (lv:List (Nat×Nat)):List (Key×D):=lv.map λ p=>(.inl (p.1:Int),nI p.2)
theorem zxz (p v:Nat):((wN (p:Int):Key)=wN (v:Int))=(p=v):=by
 apply propext
 constructor
 ·intro z;injection z with z;exact_mod_cast z
 ·intro z;rw [z]
theorem zpm (lv:List (Nat×Nat)) (v:Nat):getA (kN lv) (.inl (v:Int))=(lkp lv v).map nI:=by
 unfold getA kN lkp
 induction lv with
|nil=>rfl
|cons p r ih =>
  by_cases e:p.1=v
  ·simp [e]
  ·have e2:¬ (wN (p.1:Int):Key)=wN (v:Int):=by rw [zxz];exact e
   simp only [vV,xH]
   simp only [e,e2,decide_false]
   exact ih
theorem zc21 {lv:List (Nat×Nat)} {v a:Nat} (h:lkp lv v=none):putD (kN lv) (.inl (v:Int)) (nI a)=kN (lv++[(v,a)]):=by
 unfold putD
 have:((kN lv).any λ kv=>decide (kv.1=(wN (v:Int):Key)))=false:=by
  rw [List.any_eq_false]
  intro kv hk
  unfold kN at hk
  obtain ⟨p,hp,rfl⟩:=vR.mp hk
  have h1:=zel h
  have:p.1≠v:=λ e=>h1 (by rw [<- e];exact yU hp)
  simp only [decide_eq_true_eq]
  rw [zxz];exact this
 rw [this]
 simp [kN]
theorem zdb1 {l:List Nat} {i s:Nat} (h:l[i]?=some s):atI (l.map nI) (i:Int)=some (nI s):=zk2 (by lia) (by rw [vI,u6,h];rfl)
theorem zs41 {E:List Nat} {s m:Nat} (hl:E.length=2 * m) (hs:s < 2 * m):atI (E.map nI) (s:Int)=some (nI (hd E s)):=by
 refine zdb1 ?_
 unfold hd
 rw [vL,u5 (by lia)];rfl
theorem zu71 {L:List Int} {s m:Nat} (hl:L.length=2 * m) (hs:s < 2 * m):atI (L.map u9) (s:Int)=some (.int (lf L s)):=by
 refine zk2 (by lia) ?_
 rw [vI,u6]
 unfold lf
 rw [vL,u5 (by lia)];rfl
theorem znc1 {S:List (List Nat)} {v:Nat} {l:List Nat} (h:S[v]?=some l):atI (S.map λ l=>(xJ (l.map nI))) (v:Int)=some (.list (l.map nI)):=zk2 (by lia) (by rw [vI,u6,h];rfl)
theorem ze01 (s:Nat):(s:Int)+1 - 2 * ((s:Int) % 2)=((xr s:Nat):Int):=by unfold xr;split <;> lia
end L5
namespace L5
structure Bfs (n m:Nat) (E:List Nat) (L:List Int) (src:Nat) (lv:List (Nat×Nat)) (row:List Nat) (lev:Nat):Prop where
 nd:(lv.map (·.1)).Nodup
 bd:∀ p∈lv,p.1 < n
 l0:lkp lv src=some 0
 z0:∀ v,lkp lv v=some 0->v=src
 ro:∀ v∈row,lkp lv v=some lev
 le:∀ v b,lkp lv v=some b->b<=lev/\(b=lev->v∈row)
 cl:∀ v b,lkp lv v=some b->b < lev->∀ s,s < 2 * m->tl E s=v->0 < lf L s->(lkp lv (hd E s)).isSome=true
 pr:∀ v a,lkp lv v=some (a+1)->∃ s,s < 2 * m/\0 < lf L s/\hd E s=v/\lkp lv (tl E s)=some a
theorem Bfs.start {n m:Nat} {E:List Nat} {L:List Int} {src:Nat} (h:src < n):Bfs n m E L src [(src,0)] [src] 0:=by
 have e:∀ v,lkp [(src,0)] v=if src=v then some 0 else none:=λ v=>by
  by_cases z:src=v
  ·simp [lkp,z]
  ·simp [lkp,z]
 refine ⟨by simp,λ p hp=>?_,by rw [e];simp,λ v hv=>?_,λ v hv=>?_,λ v b hv=>?_,λ v b _ hb=>by lia,λ v a hv=>?_⟩
 ·simp at hp;subst hp;exact h
 ·rw [e] at hv
  split at hv
  ·rename_i z;exact z.symm
  ·cases hv
 ·simp at hv;subst hv;rw [e];simp
 ·rw [e] at hv
  split at hv
  ·rename_i z;cases hv;exact ⟨u8 _,λ _=>by simp [z]⟩
  ·cases hv
 ·rw [e] at hv
  split at hv <;> cases hv
theorem Bfs.lev {n m:Nat} {E:List Nat} {L:List Int} {src:Nat} {lv:List (Nat×Nat)} {lev:Nat} (h:Bfs n m E L src lv [] lev):Lev n m E L src lv:=by
 refine ⟨h.nd,h.bd,h.l0,h.z0,λ s hs hp ht=>?_,h.pr⟩
 obtain ⟨b,hb⟩:=xA.mp ht
 have:=h.le _ b hb
 have hlt:b < lev:=by
  rcases wS b lev with z|z
  ·exact z
  ·have:=this.2 (by lia);simp at this
 exact h.cl _ b hb hlt s hs rfl hp
structure Mid (n m:Nat) (E:List Nat) (L:List Int) (lv:List (Nat×Nat)) (lev:Nat) (lv1:List (Nat×Nat)) (beh:List Nat):Prop where
 nd:(lv1.map (·.1)).Nodup
 bd:∀ p∈lv1,p.1 < n
 old:∀ v b,lkp lv v=some b->lkp lv1 v=some b
 new:∀ v b,lkp lv1 v=some b->lkp lv v=some b \/ (b=lev+1/\v∈beh)
 ro:∀ v∈beh,lkp lv1 v=some (lev+1)
 pr:∀ v a,lkp lv1 v=some (a+1)->∃ s,s < 2 * m/\0 < lf L s/\hd E s=v/\lkp lv1 (tl E s)=some a
 len:lv1.length=lv.length+beh.length
theorem Mid.start {n m:Nat} {E:List Nat} {L:List Int} {src:Nat} {lv:List (Nat×Nat)} {row:List Nat} {lev:Nat} (h:Bfs n m E L src lv row lev):Mid n m E L lv lev lv [] :=
 ⟨h.nd,h.bd,λ _ _ z=>z,λ _ _ z=>.inl z,λ v hv=>by simp at hv,h.pr,by simp⟩
theorem Mid.put {n m:Nat} {E:List Nat} {L:List Int} {lv lv1:List (Nat×Nat)} {lev:Nat} {beh:List Nat} {s:Nat} (h:Mid n m E L lv lev lv1 beh) (hs:s < 2 * m) (hp:0 < lf L s) (ht:lkp lv1 (tl E s)=some lev) (hn:hd E s < n) (hg:lkp lv1 (hd E s)=none):Mid n m E L lv lev (lv1++[(hd E s,lev+1)]) (beh++[hd E s]):=by
 have keep:∀ v b,lkp lv1 v=some b->lkp (lv1++[(hd E s,lev+1)]) v=some b:=λ v b e=>by rw [zqe,e]
 have me:lkp (lv1++[(hd E s,lev+1)]) (hd E s)=some (lev+1):=by rw [zqe,hg];simp
 have back:∀ v b,lkp (lv1++[(hd E s,lev+1)]) v=some b->lkp lv1 v=some b \/ (v=hd E s/\b=lev+1):=λ v b e=>by
  rw [zqe] at e
  cases q:lkp lv1 v with
 |some c=>rw [q] at e;exact .inl e
 |none =>
   rw [q] at e
   simp only at e
   split at e
   ·rename_i z;cases e;exact .inr ⟨z.symm,rfl⟩
   ·cases e
 refine ⟨?_,λ p hp'=>?_,λ v b e=>keep v b (h.old v b e),λ v b e=>?_,λ v hv=>?_,λ v a e=>?_,by simp [h.len];lia⟩
 ·rw [vX]
  refine wG.mpr ⟨h.nd,by simp,λ x hx y hy z=>?_⟩
  simp at hy;subst hy;subst z
  exact zel hg hx
 ·rcases vK.mp hp' with z|z
  ·exact h.bd p z
  ·simp at z;subst z;exact hn
 ·rcases back v b e with z|⟨z1,z2⟩
  ·rcases h.new v b z with y|⟨y1,y2⟩
   ·exact .inl y
   ·exact .inr ⟨y1,by simp [y2]⟩
  ·exact .inr ⟨z2,by simp [z1]⟩
 ·rcases vK.mp hv with z|z
  ·exact keep v _ (h.ro v z)
  ·simp at z;rw [z];exact me
 ·rcases back v (a+1) e with z|⟨z1,z2⟩
  ·obtain ⟨s',k1,k2,k3,k4⟩:=h.pr v a z
   exact ⟨s',k1,k2,k3,keep _ _ k4⟩
  ·have:a=lev:=by lia
   subst this
   exact ⟨s,hs,hp,z1.symm,keep _ _ ht⟩
theorem Mid.bfs {n m:Nat} {E:List Nat} {S:List (List Nat)} {L:List Int} {src:Nat} {lv lv1:List (Nat×Nat)} {row:List Nat} {lev:Nat} {beh:List Nat} (N:Net n m E S) (h0:Bfs n m E L src lv row lev) (h:Mid n m E L lv lev lv1 beh)
  (cl:∀ v∈row,∀ l,S[v]?=some l->∀ s∈l,0 < lf L s->(lkp lv1 (hd E s)).isSome=true):Bfs n m E L src lv1 beh (lev+1):=by
 refine ⟨h.nd,h.bd,h.old _ _ h0.l0,λ v hv=>?_,h.ro,λ v b hv=>?_,λ v b hv hb s hs ht hp=>?_,h.pr⟩
 ·rcases h.new v 0 hv with z|⟨z,_⟩
  ·exact h0.z0 v z
  ·lia
 ·rcases h.new v b hv with z|⟨z1,z2⟩
  ·have:=h0.le v b z;exact ⟨by lia,λ e=>by lia⟩
  ·exact ⟨by lia,λ _=>z2⟩
 ·rcases h.new v b hv with z|⟨z1,_⟩
  ·have le:=h0.le v b z
   by_cases e:b=lev
   ·have hr:=le.2 e
    obtain ⟨l,hl,hm⟩:=N.s2 s hs
    rw [ht] at hl
    exact cl v hr l hl s hm hp
   ·have:=h0.cl v b z (by lia) s hs ht hp
    obtain ⟨c,hc⟩:=xA.mp this
    rw [h.old _ c hc];rfl
  ·lia
end L5
namespace L5
open PySem PySem.Spec PyProof.Rows L2 L3 L4
structure Go (m:Nat) (E:List Nat) (S:List (List Nat)) (L:List Int) (lv:List (Nat×Nat)) (t src:Nat) (p:List Nat) (here:Nat) (TT:List (List Nat)):Prop where
 tri:Tri m E S L lv t TT
 way:Way m E L lv src p here
 l0:lkp lv src=some 0
 last:∀ s∈p,∃ l,TT[tl E s]?=some (l++[s])
noncomputable def szT (TT:List (List Nat)):Nat:=(TT.map y8).sum
theorem zxb:∀ {TT:List (List Nat)} {v:Nat} {l:List Nat} (k:List Nat),TT[v]?=some l->szT (TT.set v k)+l.length=szT TT+k.length
|[],v,l,k,h=>by simp at h
|x :: r,0,l,k,h=>by simp at h;subst h;simp [szT];lia
|x :: r,v+1,l,k,h=>by
  have:=zxb (TT:=r) (v:=v) k (by simpa using h)
  simp [szT] at this ⊢;lia
theorem Go.lev {m:Nat} {E:List Nat} {S:List (List Nat)} {L:List Int} {lv:List (Nat×Nat)} {t src:Nat} {p:List Nat} {here:Nat} {TT:List (List Nat)} (g:Go m E S L lv t src p here TT):lkp lv here=some p.length:=by
 have:=g.way.level g.l0
 rwa [Nat.zero_add] at this
theorem Go.short {m:Nat} {E:List Nat} {S:List (List Nat)} {L:List Int} {lv:List (Nat×Nat)} {t src:Nat} {p:List Nat} {here:Nat} {TT:List (List Nat)} (g:Go m E S L lv t src p here TT) (hb:∀ s∈p,s < 2 * m):p.length<=2 * m :=
 za1 _ p (g.way.nodup g.l0).1 hb
theorem Way.lt {m:Nat} {E:List Nat} {L:List Int} {lv:List (Nat×Nat)}:∀ {v:Nat} {p:List Nat} {t:Nat},Way m E L lv v p t->∀ s∈p,s < 2 * m
|_,[],_,_,s,hs=>by simp at hs
|v,x :: p,t,h,s,hs=>by
  rcases vN.mp hs with z|z
  ·rw [z];exact h.1
  ·exact h.2.2.2.lt s z
theorem Go.tails {m:Nat} {E:List Nat} {S:List (List Nat)} {L:List Int} {lv:List (Nat×Nat)} {t src:Nat} {p:List Nat} {here:Nat} {TT:List (List Nat)} (g:Go m E S L lv t src p here TT):∀ s∈p,tl E s≠here:=by
 have key:∀ {v:Nat} {p:List Nat} {u a:Nat},Way m E L lv v p u->lkp lv v=some a->∀ s∈p,∃ b,b < a+p.length/\lkp lv (tl E s)=some b:=by
  intro v p
  induction p generalizing v with
 |nil=>intro u a _ _ s hs;simp at hs
 |cons x r ih =>
   intro u a h e s hs
   obtain ⟨h1,h2,⟨h3,b,h4,h5⟩,h6⟩:=h
   have:b=a:=by rw [h2,e] at h4;injection h4 with h4;exact h4.symm
   subst this
   rcases vN.mp hs with z|z
   ·subst z;exact ⟨b,by simp,h4⟩
   ·obtain ⟨c,c1,c2⟩:=ih h6 h5 s z
    exact ⟨c,by simp;lia,c2⟩
 intro s hs e
 obtain ⟨b,h1,h2⟩:=key g.way g.l0 s hs
 rw [e,g.lev] at h2
 injection h2 with h2
 lia
theorem Go.vain {m:Nat} {E:List Nat} {S:List (List Nat)} {L:List Int} {lv:List (Nat×Nat)} {t src:Nat} {p:List Nat} {here n:Nat} {TT:List (List Nat)} (N:Net n m E S) (g:Go m E S L lv t src p here TT) {l:List Nat} {j:Nat} (h:TT[here]?=some l)
  (bad:∀ (i:Nat) s,j<=i->l[i]?=some s->¬(0 < lf L s/\lkp lv (hd E s)=some (p.length+1))):∀ (i:Nat) s,j<=i->l[i]?=some s->¬(Adm E L lv s/\Rch m E L lv t (hd E s)):=λ i s hi e z=>by
 obtain ⟨k,h1,h2⟩:=g.tri.pre here l h
 obtain ⟨_,hs⟩:=N.s1 here k h1 s (h2.subset (v8 e))
 obtain ⟨z1,a,z2,z3⟩:=z.1
 rw [hs,g.lev] at z2
 injection z2 with z2
 subst z2
 exact bad i s hi e ⟨z1,z3⟩
theorem Go.cut {m:Nat} {E:List Nat} {S:List (List Nat)} {L:List Int} {lv:List (Nat×Nat)} {t src:Nat} {p:List Nat} {here n:Nat} {TT:List (List Nat)} (N:Net n m E S) (g:Go m E S L lv t src p here TT) {l:List Nat} {j:Nat} (h:TT[here]?=some l) (hj:j<=l.length)
  (bad:∀ (i:Nat) s,j<=i->l[i]?=some s->¬(0 < lf L s/\lkp lv (hd E s)=some (p.length+1))):Go m E S L lv t src p here (TT.set here (l.take j)) :=
 ⟨g.tri.cut h hj (g.vain N h bad),g.way,g.l0,λ s hs=>by
  obtain ⟨k,hk⟩:=g.last s hs
  refine ⟨k,?_⟩
  rw [xD (λ z=>g.tails s hs z.symm)]
  exact hk⟩
theorem zhi {TT:List (List Nat)} {v:Nat} {l:List Nat} (h:TT[v]?=some l):v < TT.length:=by
 rcases wS v TT.length with z|z
 ·exact z
 ·rw [wH z] at h;cases h
theorem Go.fwd {m:Nat} {E:List Nat} {S:List (List Nat)} {L:List Int} {lv:List (Nat×Nat)} {t src:Nat} {p:List Nat} {here n:Nat} {TT:List (List Nat)} (N:Net n m E S) (g:Go m E S L lv t src p here TT) {l:List Nat} {j s:Nat} (h:TT[here]?=some l) (h0:0 < j) (hj:j<=l.length)
  (bad:∀ (i:Nat) s,j<=i->l[i]?=some s->¬(0 < lf L s/\lkp lv (hd E s)=some (p.length+1))) (hs:l[j - 1]?=some s) (hp:0 < lf L s) (hl:lkp lv (hd E s)=some (p.length+1)) :
  Go m E S L lv t src (p++[s]) (hd E s) (TT.set here (l.take j))/\szT (TT.set here (l.take j))<=szT TT/\s < 2 * m:=by
 have g1:=g.cut N h hj bad
 obtain ⟨k,k1,k2⟩:=g.tri.pre here l h
 obtain ⟨hsm,hst⟩:=N.s1 here k k1 s (k2.subset (v8 hs))
 refine ⟨⟨g1.tri,g.way.snoc hsm hst ⟨hp,_,by rw [hst];exact g.lev,hl⟩,g.l0,λ x hx=>?_⟩,?_,hsm⟩
 ·rcases vK.mp hx with z|z
  ·exact g1.last x z
  ·simp at z;subst z
   refine ⟨l.take (j - 1),?_⟩
   rw [hst,wP (zhi h)]
   congr 1
   have:j=(j - 1)+1:=by lia
   rw [this,wZ,yG,hs];rfl
 ·have:=zxb (l.take j) h
  rw [wF] at this
  lia
theorem Go.back {m:Nat} {E:List Nat} {S:List (List Nat)} {L:List Int} {lv:List (Nat×Nat)} {t src:Nat} {p:List Nat} {s here n:Nat} {TT:List (List Nat)} (N:Net n m E S) (g:Go m E S L lv t src (p++[s]) here TT) {l:List Nat} (h:TT[here]?=some l) (ht:here≠t)
  (bad:∀ (i:Nat) s',0<=i->l[i]?=some s'->¬(0 < lf L s'/\lkp lv (hd E s')=some ((p++[s]).length+1))) :
  s < 2 * m/\∃ k,(TT.set here [])[tl E s]?=some (k++[s])/\Go m E S L lv t src p (tl E s) ((TT.set here []).set (tl E s) k)/\szT ((TT.set here []).set (tl E s) k)+1<=szT TT:=by
 have g1:=g.cut (j:=0) N h (wY _) bad
 rw [k7] at g1
 obtain ⟨k,hk⟩:=g1.last s (by simp)
 obtain ⟨w1,w2,w3,w4⟩:=g.way.unsnoc
 have dead:¬ Rch m E L lv t here:=g1.tri.dead N (v:=here) (by rw [wP (zhi h)]) ht
 have tri2:=g1.tri.cut hk (k:=k.length) (by simp) (λ j x hj e z=>by
  have hjl:j < (k++[s]).length:=by
   rcases wS j (k++[s]).length with y|y
   ·exact y
   ·rw [wH y] at e;cases e
  have:j=k.length:=by rw [vJ] at hjl;simp at hjl;lia
  subst this
  rw [List.getElem?_concat_length] at e
  injection e with e
  subst e
  rw [w2] at z
  exact dead z.2)
 rw [List.take_left] at tri2
 have sz1:=zxb (TT:=TT) [] h
 have sz2:=zxb k hk
 have g2:Go m E S L lv t src p (tl E s) (TT.set here []):=⟨g1.tri,w1,g.l0,λ x hx=>g1.last x (by simp [hx])⟩
 refine ⟨w3,k,hk,⟨tri2,w1,g.l0,λ x hx=>?_⟩,?_⟩
 ·obtain ⟨q,hq⟩:=g2.last x hx
  refine ⟨q,?_⟩
  rw [xD (λ z=>g2.tails x hx z.symm)]
  exact hq
 ·rw [vJ] at sz2
  simp at sz1 sz2
  lia
theorem Go.dead {m:Nat} {E:List Nat} {S:List (List Nat)} {L:List Int} {lv:List (Nat×Nat)} {t src:Nat} {here n:Nat} {TT:List (List Nat)} (N:Net n m E S) (g:Go m E S L lv t src [] here TT) {l:List Nat} (h:TT[here]?=some l) (ht:here≠t)
  (bad:∀ (i:Nat) s',0<=i->l[i]?=some s'->¬(0 < lf L s'/\lkp lv (hd E s')=some (([]:List Nat).length+1))):¬ Rch m E L lv t src:=by
 have g1:=g.cut (j:=0) N h (wY _) bad
 have e:src=here:=g.way
 rw [e]
 exact g1.tri.dead N (v:=here) (by rw [wP (zhi h)];rfl) ht
theorem zve {n j:Nat} (h:j < n):ixN n ((j:Nat):Int)=some j:=by
 unfold ixN
 rw [if_pos (by lia),if_pos (by lia),vI]
end L5
namespace L5
structure Up (m:Nat) (most:Nat->Int) (E:List Nat) (L L':List Int) (src snk:Nat):Prop where
 cap:Cap m most L'
 eqb:∀ v,v≠src->v≠snk->bal m E L' v=bal m E L v
 out:∀ k,k < m->hd E (2 * k+1)=src->lf L (2 * k+1)<=lf L' (2 * k+1)
 inn:∀ k,k < m->hd E (2 * k)=snk->lf L (2 * k+1)<=lf L' (2 * k+1)
 bs:bal m E L' src<=bal m E L src
 bt:bal m E L snk<=bal m E L' snk
theorem Up.refl {m:Nat} {most:Nat->Int} {E:List Nat} {L:List Int} {src snk:Nat} (c:Cap m most L):Up m most E L L src snk :=
 ⟨c,λ _ _ _=>rfl,λ _ _ _=>xC _,λ _ _ _=>xC _,xC _,xC _⟩
theorem Up.trans {m:Nat} {most:Nat->Int} {E:List Nat} {L L' L2:List Int} {src snk:Nat} (h:Up m most E L L' src snk) (k:Up m most E L' L2 src snk):Up m most E L L2 src snk :=
 ⟨k.cap,λ v a b=>(k.eqb v a b).trans (h.eqb v a b),λ i a b=>zH (h.out i a b) (k.out i a b),λ i a b=>zH (h.inn i a b) (k.inn i a b),zH k.bs h.bs,zH h.bt k.bt⟩
theorem Up.carry {m:Nat} {most:Nat->Int} {E:List Nat} {L:List Int} {lv:List (Nat×Nat)} {src snk:Nat} {p:List Nat} {a:Int} (c:Cap m most L) (h:Way m E L lv src p snk) (l0:lkp lv src=some 0) (ha:0<=a) (hm:∀ s∈p,a<=lf L s):Up m most E L (zl3 L p a) src snk:=by
 obtain ⟨nd,nx⟩:=h.nodup l0
 have lev:=h.level l0
 have ft:∀ {v:Nat} {p:List Nat} {u a:Nat},Way m E L lv v p u->lkp lv v=some a->∀ s∈p,∃ b,b < a+p.length/\lkp lv (tl E s)=some b:=by
  intro v p
  induction p generalizing v with
 |nil=>intro u a _ _ s hs;simp at hs
 |cons x r ih =>
   intro u a h e s hs
   obtain ⟨h1,h2,⟨h3,b,h4,h5⟩,h6⟩:=h
   have:b=a:=by rw [h2,e] at h4;injection h4 with h4;exact h4.symm
   subst this
   rcases vN.mp hs with z|z
   ·subst z;exact ⟨b,by simp,h4⟩
   ·obtain ⟨c,c1,c2⟩:=ih h6 h5 s z
    exact ⟨c,by simp;lia,c2⟩
 have keep:∀ j,j ∉ p->lf L j<=lf (zl3 L p a) j:=λ j hj=>by
  rw [znb c.len h.lt nd nx,if_neg hj]
  split <;> lia
 refine ⟨c.carry h l0 ha hm,λ v v1 v2=>?_,λ k hk e=>keep _ λ z=>?_,λ k hk e=>keep _ λ z=>?_,by rw [zl7 c.len h,if_pos rfl];split <;> lia,by rw [zl7 c.len h,if_pos rfl];split <;> lia⟩
 ·rw [zl7 c.len h,if_neg (λ z=>v2 z.symm),if_neg (λ z=>v1 z.symm)];lia
 ·obtain ⟨b,_,_,z3⟩:=h.tails l0 _ z
  rw [e,l0] at z3
  injection z3 with z3
  lia
 ·obtain ⟨b,z1,z2⟩:=ft h l0 _ z
  have:tl E (2 * k+1)=snk:=by
   unfold tl xr
   rw [if_neg (by lia),yG];exact e
  rw [this,lev] at z2
  injection z2 with z2
  lia
end L5
namespace L5
open PySem PySem.Spec PyProof.Rows L2 L3 L4
noncomputable abbrev Ar:=Nat×Nat×Int
noncomputable def dAr (a:Ar):D:=.tuple [nI a.1,nI a.2.1,.int a.2.2]
noncomputable def zi5 (A:List Ar):List Nat:=A.flatMap λ a=>[a.2.1,a.1]
noncomputable def zq9 (A:List Ar) (f:List Int):List Int:=(A.zip f).flatMap λ x=>[x.1.2.2 - x.2,x.2]
theorem zvp (A:List Ar) (a:Ar):zi5 (A++[a])=zi5 A++[a.2.1,a.1]:=by simp [zi5]
theorem zk11 {E X:List Nat} {s:Nat} (h:s < E.length):hd (E++X) s=hd E s:=by
 unfold hd
 rw [vL,vL,wR h]
theorem zmd1 {E:List Nat} {m x y:Nat} (h:E.length=2 * m):hd (E++[x,y]) (2 * m)=x/\hd (E++[x,y]) (2 * m+1)=y:=by
 unfold hd
 constructor
 ·rw [vL,wM (by lia),h];simp
 ·rw [vL,wM (by lia),h];simp
theorem Net.nil (n:Nat):Net n 0 [] (u7 n []):=⟨rfl,λ s hs=>by lia,by simp,(λ v l h s hs=>by
 rw [xB] at h
 split at h
 ·cases h;simp at hs
 ·cases h),λ s hs=>by lia⟩
theorem Net.push {n m:Nat} {E:List Nat} {S:List (List Nat)} {u v:Nat} {l1 l2:List Nat} (N:Net n m E S) (hu:u < n) (hv:v < n) (h1:S[u]?=some l1) (h2:(S.set u (l1++[2 * m]))[v]?=some l2) :
  Net n (m+1) (E++[v,u]) ((S.set u (l1++[2 * m])).set v (l2++[2 * m+1])):=by
 obtain ⟨e1,e2⟩:=zmd1 (x:=v) (y:=u) N.lE
 have x1:xr (2 * m)=2 * m+1:=by unfold xr;rw [if_pos (by lia)]
 have x2:xr (2 * m+1)=2 * m:=by unfold xr;rw [if_neg (by lia)];lia
 have old:∀ s,s < 2 * m->tl (E++[v,u]) s=tl E s:=λ s hs=>zk11 (by rw [N.lE];exact zi51 hs)
 have t1:tl (E++[v,u]) (2 * m)=u:=by unfold tl;rw [x1];exact e2
 have t2:tl (E++[v,u]) (2 * m+1)=v:=by unfold tl;rw [x2];exact e1
 have A1:∀ (w:Nat) l,(S.set u (l1++[2 * m]))[w]?=some l->∀ s∈l,(s < 2 * m/\tl E s=w) \/ (s=2 * m/\w=u):=λ w l h s hs=>by
  by_cases z:u=w
  ·subst z
   rw [wP (by rw [N.lS];exact hu)] at h
   cases h
   rcases vK.mp hs with y|y
   ·exact .inl (N.s1 u l1 h1 s y)
   ·simp at y;exact .inr ⟨y,rfl⟩
  ·rw [xD z] at h
   exact .inl (N.s1 w l h s hs)
 have B1:∀ s,s < 2 * m->∃ l,(S.set u (l1++[2 * m]))[tl E s]?=some l/\s∈l:=λ s hs=>by
  obtain ⟨l,k1,k2⟩:=N.s2 s hs
  by_cases z:u=tl E s
  ·rw [<- z] at k1 ⊢
   rw [h1] at k1;cases k1
   exact ⟨_,wP (by rw [N.lS];exact hu),by simp [k2]⟩
  ·exact ⟨l,by rw [xD z];exact k1,k2⟩
 have B2:∃ l,(S.set u (l1++[2 * m]))[u]?=some l/\2 * m∈l:=⟨_,wP (by rw [N.lS];exact hu),by simp⟩
 have B3:∀ (w s:Nat),(∃ l,(S.set u (l1++[2 * m]))[w]?=some l/\s∈l)->∃ l,((S.set u (l1++[2 * m])).set v (l2++[2 * m+1]))[w]?=some l/\s∈l:=λ w s ⟨l,k1,k2⟩=>by
  by_cases z:v=w
  ·subst z
   rw [h2] at k1;cases k1
   exact ⟨_,wP (by rw [vZ,N.lS];exact hv),by simp [k2]⟩
  ·exact ⟨l,by rw [xD z];exact k1,k2⟩
 refine ⟨by rw [vJ,N.lE];simp;lia,λ s hs=>?_,by rw [vZ,vZ];exact N.lS,λ w l h s hs=>?_,λ s hs=>?_⟩
 ·by_cases z:s < 2 * m
  ·rw [zk11 (by rw [N.lE];exact z)];exact N.bE s z
  ·have:s=2 * m \/ s=2 * m+1:=by lia
   rcases this with y|y
   ·rw [y,e1];exact hv
   ·rw [y,e2];exact hu
 ·have key:(s < 2 * m/\tl E s=w) \/ (s=2 * m/\w=u) \/ (s=2 * m+1/\w=v):=by
   by_cases z:v=w
   ·subst z
    rw [wP (by rw [vZ,N.lS];exact hv)] at h
    cases h
    rcases vK.mp hs with y|y
    ·rcases A1 v l2 h2 s y with k|k
     ·exact .inl k
     ·exact .inr (.inl k)
    ·simp at y;exact .inr (.inr ⟨y,rfl⟩)
   ·rw [xD z] at h
    rcases A1 w l h s hs with k|k
    ·exact .inl k
    ·exact .inr (.inl k)
  rcases key with ⟨k1,k2⟩|⟨rfl,rfl⟩|⟨rfl,rfl⟩
  ·exact ⟨by lia,by rw [old s k1];exact k2⟩
  ·exact ⟨by lia,t1⟩
  ·exact ⟨by lia,t2⟩
 ·by_cases z:s < 2 * m
  ·rw [old s z];exact B3 _ _ (B1 s z)
  ·have:s=2 * m \/ s=2 * m+1:=by lia
   rcases this with y|y
   ·subst y;rw [t1];exact B3 _ _ B2
   ·subst y;rw [t2]
    exact ⟨_,wP (by rw [vZ,N.lS];exact hv),by simp⟩
theorem zxg:∀ {A:List Ar} {f:List Int},f.length=A.length->(zq9 A f).length=2 * A.length
|[],f,h=>by simp [zq9]
|a :: r,[],h=>by simp at h
|a :: r,x :: f,h=>by have:=zxg (A:=r) (f:=f) (by simpa using h);simp [zq9] at this ⊢;lia
theorem zza:∀ {A:List Ar} {f:List Int} {k:Nat} {a:Ar} {x:Int},A[k]?=some a->f[k]?=some x->lf (zq9 A f) (2 * k)=a.2.2 - x/\lf (zq9 A f) (2 * k+1)=x
|[],f,k,a,x,h,_=>by simp at h
|b :: r,[],k,a,x,_,h=>by simp at h
|b :: r,y :: f,0,a,x,h1,h2=>by simp at h1 h2;subst h1;subst h2;simp [zq9,lf]
|b :: r,y :: f,k+1,a,x,h1,h2=>by
  have:=zza (A:=r) (f:=f) (k:=k) (by simpa using h1) (by simpa using h2)
  rw [show 2 * (k+1)=2 * k+1+1 by lia]
  simp [zq9,lf] at this ⊢;exact this
theorem zyj:∀ {A:List Ar} {k:Nat} {a:Ar},A[k]?=some a->hd (zi5 A) (2 * k)=a.2.1/\hd (zi5 A) (2 * k+1)=a.1
|[],k,a,h=>by simp at h
|b :: r,0,a,h=>by simp at h;subst h;simp [zi5,hd]
|b :: r,k+1,a,h=>by
  have:=zyj (A:=r) (k:=k) (by simpa using h)
  rw [show 2 * (k+1)=2 * k+1+1 by lia]
  simp [zi5,hd] at this ⊢;exact this
noncomputable def zwh (A:List Ar) (k:Nat):Int:=((A[k]?).map λ a=>a.2.2).getD 0
theorem zcr {A:List Ar} {f:List Int} (hl:f.length=A.length) (hf:∀ (k:Nat) a x,A[k]?=some a->f[k]?=some x->0<=x/\x<=a.2.2):Cap A.length (zwh A) (zq9 A f):=by
 have get:∀ k,k < A.length->∃ a x,A[k]?=some a/\f[k]?=some x:=λ k hk=>⟨A[k],f[k],u5 _,u5 _⟩
 refine ⟨zxg hl,λ s hs=>?_,λ k hk=>?_⟩
 ·obtain ⟨a,x,h1,h2⟩:=get (s / 2) (by lia)
  obtain ⟨e1,e2⟩:=zza h1 h2
  have:=hf _ a x h1 h2
  rcases Nat.mod_two_eq_zero_or_one s with z|z
  ·rw [show s=2 * (s / 2) by lia,e1];lia
  ·rw [show s=2 * (s / 2)+1 by lia,e2];lia
 ·obtain ⟨a,x,h1,h2⟩:=get k hk
  obtain ⟨e1,e2⟩:=zza h1 h2
  rw [e1,e2,zwh,h1];simp
theorem zrx {L:List Int} {m:Nat} (h:L.length=2 * m):zzj (L.map u9) (some 1) none (some 2)=(u3 m).map λ k=>.int (lf L (2 * k+1)):=by
 unfold zzj
 rw [u4,h]
 have e1:sliceBounds (some 1) none (some 2) (2 * m)=(max 0 (min (1:Int) ((2 * m:Nat):Int)),((2 * m:Nat):Int),2):=by
  unfold sliceBounds
  rfl
 rw [e1]
 show z7 _ (sliceRange (max 0 (min (1:Int) ((2 * m:Nat):Int))) ((2 * m:Nat):Int) 2)=_
 have e2:sliceRange (max 0 (min (1:Int) ((2 * m:Nat):Int))) ((2 * m:Nat):Int) 2=(u3 m).map λ k=>2 * k+1:=by
  unfold sliceRange
  cases m with
 |zero=>rfl
 |succ m =>
   have e3:max 0 (min (1:Int) ((2 * (m+1):Nat):Int))=1:=by lia
   rw [e3]
   have:(if (2:Int) > 0 then (if (1:Int) < ((2 * (m+1):Nat):Int) then (((2 * (m+1):Nat):Int) - 1+2 - 1) / 2 else 0) else (if (1:Int) > ((2 * (m+1):Nat):Int) then (1 - ((2 * (m+1):Nat):Int) - 2 - 1) / (-2) else 0))=((m+1:Nat):Int):=by
    rw [if_pos (by decide),if_pos (by lia)];lia
   simp only [this]
   rw [vI]
   refine wK λ k hk=>?_
   lia
 rw [e2,y9]
 have:∀ l:List Nat,(∀ k∈l,k < m)->z7 ((λ x=>(L.map u9)[x]?) ∘ λ k=>2 * k+1) l=l.map λ k=>u9 (lf L (2 * k+1)):=by
  intro l
  induction l with
 |nil=>intro _;rfl
 |cons k r ih =>
   intro hk
   have hk0:=hk k (by simp)
   have e:(L.map u9)[2 * k+1]?=some (.int (lf L (2 * k+1))):=by
    rw [u6]
    unfold lf
    rw [vL,u5 (by lia)];rfl
   rw [wX]
   simp only [Function.comp]
   rw [e]
   simp only [vV]
   congr 1
   exact ih λ x hx=>hk x (by simp [hx])
 exact this _ λ k hk=>vM.mp hk
theorem zd01 {S:List (List Nat)} {v:Nat} {l:List Nat} (h:S[v]?=some l):l.length<=szT S:=by
 have:=zxb [] h
 simp at this;lia
theorem zs11 (i:Nat):CMul 2 (i:Int):=by
 unfold CMul
 exact .inl (by decide)
theorem zfq:∀ {A:List Ar} {f:List Int} {a:Ar} {x:Int},f.length=A.length->zq9 (A++[a]) (f++[x])=zq9 A f++[a.2.2 - x,x]:=by
 intro A f a x h
 unfold zq9
 rw [xK h.symm,zI]
 rfl
structure Best (n:Nat) (A:List Ar) (f:List Int) (src snk:Nat) (L:List Int) (side:List Nat):Prop where
 up:Up A.length (zwh A) (zi5 A) (zq9 A f) L src snk
 inn:src∈side
 out:snk ∉ side
 bd:∀ v∈side,v < n
 ris:side.Pairwise (· < ·)
 cl:∀ s,s < 2 * A.length->0 < lf L s->tl (zi5 A) s∈side->hd (zi5 A) s∈side
 rc:∃ lv,Lev n A.length (zi5 A) L src lv/\∀ v,v∈side ↔ (lkp lv v).isSome=true
theorem zhz {lv:List (Nat×Nat)} {v:Nat}:(lkp lv v).isSome=true ↔ v∈lv.map (·.1):=by
 constructor
 ·intro h
  obtain ⟨b,hb⟩:=xA.mp h
  exact yU (f:=(·.1)) (zyo hb)
 ·intro h
  cases e:lkp lv v with
 |some b=>rfl
 |none=>exact absurd h (zel e)
theorem zmz {n:Nat} {A:List Ar} {f:List Int} {src snk:Nat} {L:List Int} {lv:List (Nat×Nat)} (up:Up A.length (zwh A) (zi5 A) (zq9 A f) L src snk) (hv:Lev n A.length (zi5 A) L src lv) (ht:(lkp lv snk).isSome=false)
  {ns:List Int} (hp:ns.Perm (lv.map λ p=>((p.1:Nat):Int))) (hs:ns.Pairwise (·<=·)):∃ side:List Nat,ns.map u9=side.map nI/\Best n A f src snk L side:=by
 have hmem:∀ x∈ns,∃ p∈lv,x=((p.1:Nat):Int):=λ x hx=>by
  obtain ⟨p,h1,h2⟩:=vR.mp (hp.mem_iff.mp hx)
  exact ⟨p,h1,h2.symm⟩
 refine ⟨ns.map Int.toNat,?_,?_⟩
 ·rw [wD]
  refine wK λ x hx=>?_
  obtain ⟨p,_,rfl⟩:=hmem x hx
  simp [nI]
 have iff:∀ v,v∈ns.map Int.toNat ↔ (lkp lv v).isSome=true:=λ v=>by
  rw [zhz]
  constructor
  ·intro h
   obtain ⟨x,hx,rfl⟩:=vR.mp h
   obtain ⟨p,hp',rfl⟩:=hmem x hx
   rw [vI]
   exact yU (f:=(·.1)) hp'
  ·intro h
   obtain ⟨p,hp',rfl⟩:=vR.mp h
   refine vR.mpr ⟨((p.1:Nat):Int),hp.mem_iff.mpr (vR.mpr ⟨p,hp',rfl⟩),vI _⟩
 have nd:ns.Nodup:=by
  refine hp.nodup_iff.mpr ?_
  have h1:=hv.nd
  have:(lv.map λ p=>((p.1:Nat):Int))=(lv.map (·.1)).map λ x=>((x:Nat):Int):=by rw [wD];rfl
  rw [this]
  exact h1.map (λ x:Nat=>(x:Int)) (λ a b hne z=>hne (by exact_mod_cast z))
 refine ⟨up,(iff _).mpr (by rw [hv.l0];rfl),(λ z=>by rw [(iff _).mp z] at ht;cases ht),λ v hvm=>?_,?_,λ s h1 h2 h3=>(iff _).mpr (hv.cl s h1 h2 ((iff _).mp h3)),lv,hv,iff⟩
 ·obtain ⟨b,hb⟩:=xA.mp ((iff v).mp hvm)
  exact hv.bd _ (zyo hb)
 ·have key:∀ (l:List Int),l.Pairwise (·<=·)->l.Nodup->(∀ x∈l,0<=x)->(l.map Int.toNat).Pairwise (· < ·):=by
   intro l
   induction l with
  |nil=>intros;exact .nil
  |cons x r ih =>
    intro h1 h2 h3
    obtain ⟨a1,a2⟩:=uaI.mp h1
    obtain ⟨b1,b2⟩:=vY.mp h2
    refine uaI.mpr ⟨λ y hy=>?_,ih a2 b2 λ z hz=>h3 z (by simp [hz])⟩
    obtain ⟨z,hz,rfl⟩:=vR.mp hy
    have c1:=a1 z hz
    have c2:x≠z:=λ e=>b1 (e ▸ hz)
    have c3:=h3 x (by simp)
    lia
  exact key ns hs nd λ x hx=>by obtain ⟨p,_,rfl⟩:=hmem x hx;lia
noncomputable def sm (m:Nat) (g:Nat->Int):Int:=((u3 m).map g).sum
theorem zs5 (m:Nat) (g:Nat->Int):sm (m+1) g=sm m g+g m:=by
 unfold sm
 rw [w9,vX,yF]
 simp
theorem zn3 {m:Nat} {g h:Nat->Int} (e:∀ k,k < m->g k=h k):sm m g=sm m h:=by
 unfold sm
 rw [wK λ k hk=>e k (vM.mp hk)]
theorem zew (g h:Nat->Int):∀ m,sm m (λ k=>g k+h k)=sm m g+sm m h
|0=>rfl
|m+1=>by rw [zs5,zs5,zs5,zew g h m];lia
theorem zbf:∀ m,sm m (λ _=>0)=0
|0=>rfl
|m+1=>by rw [zs5,zbf m];rfl
theorem zc71 {g h:Nat->Int}:∀ {m:Nat},(∀ k,k < m->g k<=h k)->sm m g<=sm m h
|0,_=>xC _
|m+1,e=>by
  rw [zs5,zs5]
  have:=zc71 (m:=m) λ k hk=>e k (by lia)
  have:=e m (by lia)
  lia
theorem zme {g h:Nat->Int}:∀ {m:Nat},(∀ k,k < m->g k<=h k)->sm m g=sm m h->∀ k,k < m->g k=h k
|0,_,_,k,hk=>by lia
|m+1,e,q,k,hk=>by
  rw [zs5,zs5] at q
  have a:=zc71 (m:=m) λ k hk=>e k (by lia)
  have b:=e m (by lia)
  by_cases z:k=m
  ·subst z;lia
  ·exact zme (m:=m) (λ k hk=>e k (by lia)) (by lia) k (by lia)
theorem zdy {j:Nat} (d:Int):∀ {m:Nat},j < m->sm m (λ k=>if k=j then d else 0)=d
|0,h=>by lia
|m+1,h=>by
  rw [zs5]
  by_cases z:m=j
  ·subst z
   rw [if_pos rfl,zn3 (h:=λ _=>0) λ k hk=>if_neg (by lia),zbf];lia
  ·rw [zdy d (m:=m) (by lia),if_neg z];lia
noncomputable def trm (u v:Nat) (x:Int) (w:Nat):Int:=(if v=w then x else 0) - (if u=w then x else 0)
noncomputable def bl (m:Nat) (eu ev:Nat->Nat) (x:Nat->Int) (w:Nat):Int:=sm m λ k=>trm (eu k) (ev k) (x k) w
noncomputable def flux (m:Nat) (eu ev:Nat->Nat) (x:Nat->Int) (side:List Nat):Int:=sm m λ k=>(if ev k∈side then x k else 0) - (if eu k∈side then x k else 0)
theorem zyp (m:Nat) (eu ev:Nat->Nat) (x:Nat->Int):∀ {side:List Nat},side.Nodup->flux m eu ev x side=(side.map (bl m eu ev x)).sum
|[],_=>by
  unfold flux
  rw [zn3 (h:=λ _=>0) λ k _=>by simp,zbf];rfl
|w :: r,h=>by
  obtain ⟨h1,h2⟩:=vY.mp h
  rw [vV,zJ,<- zyp m eu ev x h2]
  unfold bl flux
  rw [<- zew]
  refine zn3 λ k _=>?_
  unfold trm
  have a:∀ z:Nat,(if z∈w :: r then x k else 0)=(if z=w then x k else 0)+(if z∈r then x k else 0):=λ z=>by
   by_cases e:z=w
   ·subst e;simp [h1]
   ·simp [e]
  rw [a,a];lia
theorem zmu {g:Nat->Int} {s:Nat}:∀ {side:List Nat},side.Nodup->s∈side->(∀ w∈side,w≠s->g w=0)->(side.map g).sum=g s
|[],_,h,_=>by simp at h
|w :: r,nd,h,z=>by
  obtain ⟨h1,h2⟩:=vY.mp nd
  rw [vV,zJ]
  by_cases e:w=s
  ·subst e
   have:∀ l:List Nat,(∀ y∈l,g y=0)->(l.map g).sum=0:=by
    intro l
    induction l with
   |nil=>intro _;rfl
   |cons y t ih=>intro k;rw [vV,zJ,k y (by simp),ih λ u hu=>k u (by simp [hu])];rfl
   rw [this r λ y hy=>z y (by simp [hy]) λ q=>h1 (q ▸ hy)];lia
  ·have hs:s∈r:=by
    rcases vN.mp h with q|q
    ·exact absurd q.symm e
    ·exact q
   rw [zmu h2 hs λ y hy=>z y (by simp [hy]),z w (by simp) e];lia
noncomputable def tight (m:Nat) (eu ev:Nat->Nat) (cap x:Nat->Int) (side:List Nat):Prop:=∀ k,k < m->(eu k∈side->ev k ∉ side->x k=cap k)/\(ev k∈side->eu k ∉ side->x k=0)
noncomputable def within (m:Nat) (cap x:Nat->Int):Prop:=∀ k,k < m->0<=x k/\x k<=cap k
theorem zc01 {m:Nat} {eu ev:Nat->Nat} {cap x y:Nat->Int} {side:List Nat} (hx:tight m eu ev cap x side) (hy:within m cap y):flux m eu ev x side<=flux m eu ev y side:=by
 refine zc71 λ k hk=>?_
 obtain ⟨a,b⟩:=hx k hk
 obtain ⟨c,d⟩:=hy k hk
 by_cases h1:ev k∈side
 ·by_cases h2:eu k∈side
  ·simp only [if_pos h1,if_pos h2];lia
  ·simp only [if_pos h1,if_neg h2,b h1 h2];lia
 ·by_cases h2:eu k∈side
  ·simp only [if_neg h1,if_pos h2,a h2 h1];lia
  ·simp only [if_neg h1,if_neg h2];lia
noncomputable def aU (A:List Ar) (k:Nat):Nat:=((A[k]?).map λ a=>a.1).getD 0
noncomputable def aV (A:List Ar) (k:Nat):Nat:=((A[k]?).map λ a=>a.2.1).getD 0
theorem znw {A:List Ar} {L:List Int} (w:Nat):bal A.length (zi5 A) L w=bl A.length (aU A) (aV A) (λ k=>lf L (2 * k+1)) w:=by
 show sm _ _=sm _ _
 refine zn3 λ k hk=>?_
 have ga:A[k]?=some A[k]:=u5 hk
 obtain ⟨e1,e2⟩:=zyj ga
 unfold term trm aU aV
 rw [e1,e2,ga];rfl
theorem zxq {l:List Nat} (h:l.Pairwise (· < ·)):l.Nodup:=h.imp λ h=>by lia
theorem Best.tight {n:Nat} {A:List Ar} {f L:List Int} {src snk:Nat} {side:List Nat} (b:Best n A f src snk L side):tight A.length (aU A) (aV A) (zwh A) (λ k=>lf L (2 * k+1)) side:=λ k hk=>by
 have ga:A[k]?=some A[k]:=u5 hk
 obtain ⟨e1,e2⟩:=zyj ga
 have s1:=b.up.cap.sm k hk
 have n1:=b.up.cap.nn (2 * k) (by lia)
 have n2:=b.up.cap.nn (2 * k+1) (by lia)
 have x1:xr (2 * k)=2 * k+1:=by unfold xr;rw [if_pos (by lia)]
 have x2:xr (2 * k+1)=2 * k:=by unfold xr;rw [if_neg (by lia)];lia
 have u1:aU A k=A[k].1:=by unfold aU;rw [ga];rfl
 have v1:aV A k=A[k].2.1:=by unfold aV;rw [ga];rfl
 rw [u1,v1]
 refine ⟨λ h1 h2=>?_,λ h1 h2=>?_⟩
 ·by_cases z:0 < lf L (2 * k)
  ·have:=b.cl (2 * k) (by lia) z (by unfold tl;rw [x1,e2];exact h1)
   rw [e1] at this;exact absurd this h2
  ·show lf L (2 * k+1)=_;lia
 ·by_cases z:0 < lf L (2 * k+1)
  ·have:=b.cl (2 * k+1) (by lia) z (by unfold tl;rw [x2,e1];exact h1)
   rw [e2] at this;exact absurd this h2
  ·show lf L (2 * k+1)=_;lia
theorem Best.within {n:Nat} {A:List Ar} {f L:List Int} {src snk:Nat} {side:List Nat} (b:Best n A f src snk L side):within A.length (zwh A) (λ k=>lf L (2 * k+1)):=λ k hk=>by
 have s1:=b.up.cap.sm k hk
 have n1:=b.up.cap.nn (2 * k) (by lia)
 have n2:=b.up.cap.nn (2 * k+1) (by lia)
 show 0<=lf L (2 * k+1)/\lf L (2 * k+1)<=_
 lia
noncomputable abbrev Pr:=Nat×Nat
noncomputable def pU (P:List Pr) (k:Nat):Nat:=((P[k]?).map λ a=>a.1).getD 0
noncomputable def pV (P:List Pr) (k:Nat):Nat:=((P[k]?).map λ a=>a.2).getD 0
noncomputable def fx (f:List Int) (k:Nat):Int:=(f[k]?).getD 0
noncomputable def nb (P:List Pr) (f:List Int) (w:Nat):Int:=bl P.length (pU P) (pV P) (fx f) w
theorem zpv (u v w:Nat):trm u v 0 w=0:=by unfold trm;simp
theorem zx2 {κ:Type} [DecidableEq κ] (p:κ×D) (r:List (κ×D)) (k:κ):getA (p :: r) k=if p.1=k then some p.2 else getA r k:=by
 unfold getA
 rw [xH]
 by_cases e:p.1=k
 ·simp [e]
 ·simp [e]
theorem zmk {κ:Type} [DecidableEq κ] (k k':κ) (d:D):∀ l:List (κ×D),getA (l++[(k,d)]) k'=match getA l k' with|some x=>some x|none=>if k=k' then some d else none
|[]=>by
  rw [zC,zx2]
  rfl
|p :: r=>by
  rw [List.cons_append,zx2,zx2,zmk k k' d r]
  by_cases e:p.1=k'
  ·rw [if_pos e,if_pos e]
  ·rw [if_neg e,if_neg e]
theorem zbq {κ:Type} [DecidableEq κ] (k:κ):∀ l:List (κ×D),(l.any λ kv=>decide (kv.1=k))=(getA l k).isSome
|[]=>rfl
|p :: r=>by
  rw [xR,zx2,zbq k r]
  by_cases e:p.1=k
  ·simp [e]
  ·simp [e]
theorem zok {κ:Type} [DecidableEq κ] (k k':κ) (d:D):∀ l:List (κ×D),getA (l.map λ kv=>if kv.1=k then (kv.1,d) else kv) k'=if k=k' then (getA l k').map (λ _=>d) else getA l k'
|[]=>by simp [getA]
|p :: r=>by
  rw [vV,zx2,zx2,zok k k' d r]
  by_cases e1:p.1=k
  ·rw [if_pos e1]
   by_cases e2:k=k'
   ·rw [if_pos (e1.trans e2),if_pos e2,if_pos (e1.trans e2)];rfl
   ·have:¬ p.1=k':=λ z=>e2 (e1.symm.trans z)
    rw [if_neg this,if_neg e2,if_neg e2,if_neg this]
  ·rw [if_neg e1]
   by_cases e2:p.1=k'
   ·have:¬ k=k':=λ z=>e1 (e2.trans z.symm)
    rw [if_pos e2,if_neg this,if_pos e2]
   ·rw [if_neg e2,if_neg e2]
theorem zvk {κ:Type} [DecidableEq κ] (kvs:List (κ×D)) (k k':κ) (d:D):getA (putD kvs k d) k'=if k=k' then some d else getA kvs k':=by
 unfold putD
 rw [zbq]
 by_cases e:k=k'
 ·subst e
  rw [if_pos rfl]
  cases h:getA kvs k with
 |some x=>rw [if_pos (by simp),zok,if_pos rfl,h];rfl
 |none=>rw [if_neg (by simp),zmk,h];simp
 ·rw [if_neg e]
  split
  ·rw [zok,if_neg e]
  ·rw [zmk]
   cases getA kvs k' with
  |none=>simp [e]
  |some y=>rfl
theorem zyt {κ:Type} [DecidableEq κ] (kvs:List (κ×D)) (k:κ) (d:D):(putD kvs k d).length<=kvs.length+1:=by
 unfold putD
 split
 ·rw [u4];lia
 ·simp
theorem zdm {A:List Ar} {f:List Int} (h:f.length=A.length):A.zip f=(u3 A.length).map λ k=>((aU A k,aV A k,zwh A k),fx f k):=by
 refine yV (by rw [xT,u4,vP];lia) λ j h1 h2=>?_
 rw [xT] at h1
 have ja:j < A.length:=by lia
 have jf:j < f.length:=by lia
 rw [zK,x8,yW]
 unfold aU aV zwh fx
 rw [u5 ja,u5 jf];rfl
theorem zhw {A:List Ar} (v:Nat):bal A.length (zi5 A) (zq9 A (u7 A.length 0)) v=0:=by
 rw [znw]
 unfold bl
 rw [zn3 (h:=λ _=>0) λ k hk=>?_,zbf]
 have e:=(zza (A:=A) (f:=u7 A.length 0) (k:=k) (a:=A[k]) (x:=0) (u5 hk) (by rw [xB,if_pos hk])).2
 show trm _ _ (lf (zq9 A (u7 A.length 0)) (2 * k+1)) v=0
 rw [e,zpv]
theorem zns {f:Int->Int->Int} {fl gl:Str} {C a:Addr} {ts:List (Str×T)} {di dy dz:DE} {E:DEnds} {U:DSt} {ds:List D} {kvs:List (List Key×D)} {z y c:Int} {yd zd:D} {key:List Key} {j:Nat}
  (h0:U[0]?=some (.io a (.ob C ts))) (hl:ts.lookup fl=some (.li ds)) (hg:ts.lookup gl=some (.dt kvs)) (ne:fl≠gl) (hi:∀ Q:D->Prop,Q (.int z)->di U Q) (hy:∀ Q:D->Prop,Q yd->dy U Q) (hz:∀ Q:D->Prop,Q zd->dz U Q)
  (z0:0<=z) (gy:ds[z.toNat]?=some (.int y)) (hj:ixN ds.length z=some j) (hk:keyT yd=some key) (hc:(getA kvs key).getD zd=.int c)
  (q:E.nx (U.set 0 (.io a (.ob C (putA fl (.li (ds.set j (.int (f y c)))) (putA gl (.dt (zh8 kvs key)) ts)))))) :
  zbn f (pFld C fl (pVar 0)) di (pFld C gl (pVar 0)) dy dz E U:=by
 have l0:0 < U.length:=(vW.mp h0).1
 have m1:∀ (p:Pth) (u:T) (N:DSt->Prop),mutS U 0 p u N=N (U.set 0 (.io a (setP (.ob C ts) p u))):=λ p u N=>by simp only [mutS,h0]
 have e1:setP (.ob C ts) [.fl gl] (.dt (zh8 kvs key))=.ob C (putA gl (.dt (zh8 kvs key)) ts):=by simp only [setP,hg]
 have e2:∀ u,setP (.ob C (putA gl (.dt (zh8 kvs key)) ts)) [.fl fl] u=.ob C (putA fl u (putA gl (.dt (zh8 kvs key)) ts)):=λ u=>by
  simp only [setP,zq8 ne,hl]
 have fin:mutS U 0 [.fl gl] (.dt (zh8 kvs key)) λ U1=>mutS U1 0 [.fl fl] (.li (ds.set j (.int (f y c)))) E.nx:=by
  rw [m1,e1]
  have:(U.set 0 (.io a (.ob C (putA gl (.dt (zh8 kvs key)) ts))))[0]?=some (.io a (.ob C (putA gl (.dt (zh8 kvs key)) ts))):=wP l0
  simp only [mutS,this,e2,List.set_set]
  exact q
 have pv:∀ (g:Str) (u:T) (Q:Nat->Pth->T->Prop),ts.lookup g=some u->Q 0 [.fl g] u->pFld C g (pVar 0) U Q:=λ g u Q hu hq=>⟨_,_,h0,rfl,rfl,u,hu,hq⟩
 refine pv fl _ _ hl (hi _ ⟨z0,_,gy,pv gl _ _ hg ⟨rfl,hy _ (hz _ ⟨key,hk,?_⟩)⟩⟩)
 rw [hc]
 exact ⟨j,hj,⟨rfl,fl,gl,rfl,rfl,ne⟩,fin⟩
end L5
namespace L4
open PySem PySem.Spec PyProof.Rows L2 L3
section
variable {P:Program} {w:World} {K:Fg} {mg:Str->Option Value} {base:Heap}
end
section
variable {K:Fg} {g:TG} {dg:DG} {tb:TS} {db:DS} {n:Nat}
end
section
variable {K:Fg} {t1 t2 t3 te:TE} {d1 d2 d3:DE} {dn:DN}
end
end L4
namespace L5
open PySem PySem.W PyProof.Rows
section
variable {n:Nat} {lt:Nat->Nat->Bool} {cmp:Nat->Nat->(Bool->Shared->Prop)->Shared->Prop} {s:Shared} {p:Array Nat}
end
end L5
namespace L3
open PySem PySem.W PySem.Spec PyProof.Rows L2 L5
section
variable {s:Shared} {w:World} {prog:Program} {E:Value->Shared->Prop} {A:Around}
end
end L3
namespace L4
open PySem PySem.Spec PyProof.Rows L2 L3
section
variable {K:Fg}
end
end L4
namespace L3
open PySem PySem.Spec PyProof.Rows L2
section
variable {s:Shared} {w:World} {prog:Program} {E:Value->Shared->Prop} {A:Around}
end
section
variable {X:Cx} {tg:Expr}
end
end L3
namespace L4
open PySem PySem.Spec PyProof.Rows L2 L3
section
variable {K:Fg} {w:World}
end
section
variable {K:Fg} {g:TG} {dg:DG} {tb:TS} {db:DS} {n:Nat} {B:Bs} {F H:Hp} {Y:L2.St} {U:DSt} {fps:Nat->List Addr}
end
section
variable {K:Fg} {te:TE} {tA:TA} {dA:DF} {dc:DC} {tt tu:TT} {dt:DT} {t u:TS} {d e:DS}
noncomputable abbrev DU:=DSt->(Bool->DSt->Prop)->Prop
variable {du:DU}
noncomputable def RfU (K:Fg) (tt:TT) (du:DU):Prop:=∀ {B:Bs} {F H:Hp} {Y:L2.St} {U:DSt} {fps:Nat->List Addr} {Qd:Bool->DSt->Prop} {Q:Bool->Hp->Prop},RS K B F H Y U fps->du U Qd->(∀ b U',Qd b U'->∀ F' H' fps',RS K B F' H' Y U' fps'->Q b H')->tt Y H Q
noncomputable def uNot (du:DU):DU:=λ U Q=>du U λ b U'=>Q (!b) U'
theorem zw71 (h:RfU K tt du):RfU K (tNot tt) (uNot du):=λ r q k=>h r q λ b U' z F' H' fps' r'=>k (!b) U' z F' H' fps' r'
noncomputable def uC (dc:DC):DU:=λ U Q=>dc U λ r U'=>∃ b,r=.fz (.bool b)/\Q b U'
theorem ru_c (h:RfC K te dc):RfU K (zl91 K te) (uC dc):=by
 intro B F H Y U fps Qd Q r hd k
 refine h r hd λ x U' q v F1 H1 fps1 fpr res=>?_
 obtain ⟨b,rfl,q⟩:=q
 have hr:=res.rt
 cases hr with
|fz hi =>
  cases hi
  exact ⟨b,rfl,k b U' q F1 H1 fps1 res.rs⟩
noncomputable def dIfU (du:DU) (d e:DS):DS:=λ E U=>du U λ b U'=>if b=true then d E U' else e E U'
theorem zt81 (ht:RfU K tt du) (h1:RfS K t d) (h2:RfS K u e):RfS K (tIfS tt t u) (dIfU du d e):=by
 intro B F H Y U fps E Z r h k
 refine ht r h λ b U' hb F1 H1 fps1 r1=>?_
 cases b with
|true=>rw [if_pos rfl] at hb ⊢;exact h1 r1 hb k
|false=>rw [if_neg vS] at hb ⊢;exact h2 r1 hb k
theorem zc61 (du:DU) (U:DSt) (Q:Bool->DSt->Prop):uNot du U Q=du U λ b U'=>Q (!b) U':=rfl
theorem e_uC (dc:DC) (U:DSt) (Q:Bool->DSt->Prop):uC dc U Q=dc U λ r U'=>∃ b,r=.fz (.bool b)/\Q b U':=rfl
theorem zr81 (du:DU) (d e:DS) (E:DEnds) (U:DSt):dIfU du d e E U=du U λ b U'=>if b=true then d E U' else e E U':=rfl
end
noncomputable abbrev DX:=Addr->DSt->Prop
section
variable {K:Fg} {EY:L2.St->XK} {ex:DX} {te ta:TE} {tA:TA} {dA:DF} {dc:DCX} {tt:TT} {dt:DT} {t u tb:TS} {d e db:DS} {g:TG} {dg:DG} {n:Nat} {dp:DP} {dA':DAT}
end
section
variable {P:Program} {w:World} {K:Fg} {mg:Str->Option Value} {base:Heap}
end
end L4
namespace L3
open PySem PySem.Spec PyProof.Rows L2
section
variable {X:Cx}
variable {k:Nat} {m:Str} {pos apos:Pos} {o:Expr} {ta:TE} {EY:St->XK}
end
end L3
namespace L4
open PySem PySem.Spec PyProof.Rows L2 L3
section
variable {K:Fg} {te:TE} {de:DE} {tj:TJ}
variable {dj:DJ}
end
section
variable {K:Fg} {te ta:TE} {tA:TA} {da de:DE} {dA:DF} {dp:DP} {dn:DN}
end
end L4
namespace L4
open PySem PySem.W PySem.Spec PySem.Calls PyProof.Rows PySem.Builtin PySem.Builtin.ObjectAttr PySem.Builtin.Getset_descriptor
section
variable {prog:Program} {w:World} {A:Around} {E:Value->Shared->Prop} {s:Shared} {K:Fg} {x D:Addr} {ox:Obj}
end
end L4
namespace L3
open PySem PySem.Spec PyProof.Rows L2
section
variable {X:Cx} {pins:List (Addr×Obj)} {Y:St} {H:Hp} {s:Shared}
end
section
variable {X:Cx} {pins:List (Addr×Obj)} {Y:St} {H H':Hp} {s s':Shared} {ea C:Addr} {oe:Obj} {B:Heap} {a0:Value}
end
end L3
namespace L4
open PySem PySem.Spec PyProof.Rows L2 L3
section
variable {i j:Nat} {ea:Addr}
variable {te te':TE} {ta ta':TA} {u u':TS}
end
section
variable {K:Fg} {B:Bs} {F H:Hp} {Y:L2.St} {U:DSt} {fps:Nat->List Addr} {i:Nat}
end
end L4
namespace L3
open PySem PySem.Spec PyProof.Rows L2
section
variable {X:Cx} {tg:Expr}
end
end L3
namespace L4
open PySem PySem.Spec PyProof.Rows L2 L3
section
variable {K:Fg} {w:World}
end
section
variable {K:Fg} {te:TE} {de:DE} {tj:TJ} {dj:DJ}
end
section
variable {K:Fg} {te te1 te2:TE} {df:DF} {de:DE} {dc:DC}
end
section
variable {X:Cx} {x:Str} {pos pos':Pos} {e a b:Expr} {te ta tb:TE} {k j:Nat} {K:Fg}
theorem pset (i:Nat) (hN:X.N.Nodup) (he:PE X e te) (hi:X.N[i]?=some x:=by rfl) (hx:Loc X.env.scope x:=by walk_at "vi") (hs:swapsWith e (some (.Name x pos')) pos.line X.env=pure false:=by rfl) (hf:X.fn x=true \/ X.env.scope.names.lookup x=some .local:=by walk_at "vi"):PS X (.Assign [.Name x pos'] e pos) (tAsg te (zvq i)):=zb71 hN hi hx he hs hf
theorem pgn (i:Nat) (hN:X.N.Nodup) (hi:X.N[i]?=some x:=by rfl) (hx:Loc X.env.scope x:=by walk_at "vi") (hf:X.fn x=true \/ X.env.scope.names.lookup x=some .local:=by walk_at "vi"):PG X (.Name x pos) (zvq i):=zt01 hN hi hx hf
theorem pix (w:World) (K:Fg) (hr:Room k X.A) (ha:PE X a ta) (hb:PE X b tb) (hw:X.w=w:=by rfl) (hK:X.K=K:=by rfl) (hs:zlt b:=by exact λ _ _=>rfl):PE X (.Subscript a b pos) (tOp (rIxV w K) ta tb):=zuc1 (ix_V (Room.units hr) hw hK) ha hb hs
theorem nds (l:List Str) (h:l.Nodup:=by decide +kernel):l.Nodup:=h
theorem rvi {i:Int}:RfV K (tC (.int i)) (dC (.int i)):=RfE.v zq1
theorem rgn (i:Nat) (hi:i < 100:=by decide):RfG K 100 (zvq i) (gN i):=zw1 hi
theorem rmn {A:Around} (hr:Room k A) (h:j<=k:=by decide):Room j A:=Room.mono hr h
end
section
variable {K:Fg} {te ta te1 te2:TE} {dn1 dn2:DN} {dp:DP}
variable {tA:TA} {dA:DAT}
end
section
variable {K:Fg} {B:Bs} {F H F' H':Hp} {Y:L2.St} {U:DSt} {fps:Nat->List Addr}
end
section
variable {P:Program} {w:World} {K:Fg} {mg:Str->Option Value} {base:Heap}
end
section
variable {K:Fg} {B:Bs} {F H:Hp} {Y:L2.St} {U:DSt} {fps:Nat->List Addr}
end
section
variable {K:Fg} {B:Bs} {F H:Hp} {Y:L2.St} {U:DSt} {fps:Nat->List Addr}
variable {tA:TA} {dA:DAT}
end
end L4
namespace L5
open PySem PySem.Spec PyProof.Rows L2 L3 L4
section
variable {K:Fg} {te ta:TE} {df:DF} {da:DE} {tt tu:TT} {dt:DT} {du dv:DU}
noncomputable def uT (dt:DT):DU:=λ U Q=>dt U λ b=>Q b U
theorem e_uT (dt:DT) (U:DSt) (Q:Bool->DSt->Prop):uT dt U Q=dt U λ b=>Q b U:=rfl
theorem ru_t (h:RfT K tt dt):RfU K tt (uT dt):=by
 intro B F H Y U fps Qd Q r hd k
 exact h r.fh r.rv hd λ b hb F1 H1 e1=>k b U hb F1 H1 fps (r.grow e1)
noncomputable def uOr (du dv:DU):DU:=λ U Q=>du U λ b U'=>if b=true then Q true U' else dv U' Q
theorem ztd1 (du dv:DU) (U:DSt) (Q:Bool->DSt->Prop):uOr du dv U Q=du U λ b U'=>if b=true then Q true U' else dv U' Q:=rfl
theorem zjd1 (h1:RfU K tt du) (h2:RfU K tu dv):RfU K (tOr tt tu) (uOr du dv):=by
 intro B F H Y U fps Qd Q r h k
 refine h1 r h λ b U' hb F1 H1 fps1 r1=>?_
 cases b with
|true=>rw [if_pos rfl] at hb ⊢;exact k true U' hb F1 H1 fps1 r1
|false=>rw [if_neg vS] at hb ⊢;exact h2 r1 hb k
end
section
variable {prog:Program} {w:World} {A:Around} {E:Value->Shared->Prop}
end
section
variable {X:Cx} {pins:List (Addr×Obj)} {Y:L2.St} {A:Around} {E:Value->Shared->Prop}
end
section
variable {K:Fg} {te:TE} {de:DE}
end
section
variable {K:Fg}
end
theorem zrc1 {α β:Type} {xs:List α} {enc:α->D} (ok:β->Prop) (en:β->D) {n:Nat} {ix:List Nat} {dg:DG} {de:DE} {U:DSt} {Q:List D->Prop} (hz:xs.length<=sizeLine)
  (h:∀ x∈xs,dg (enc x) (cST n ix U) λ U'=>de U' λ r=>∃ b,ok b/\r=en b) (q:∀ bs:List β,bs.length=xs.length->(∀ b∈bs,ok b)->Q (bs.map en)):zh51 (xs.map enc) n ix dg zq41 de U Q:=by
 refine ⟨by rw [u4];exact hz,λ _ o=>∃ b,ok b/\o=some (en b),λ i d e=>?_,λ os hl hR=>?_⟩
 ·rw [u6] at e
  obtain ⟨x,hx,rfl⟩:=wJ.mp e
  have:=h x (v8 hx)
  have e1:(λ r=>∃ b,ok b/\some r=some (en b))=λ r=>∃ b,ok b/\r=en b:=by funext r;simp
  show dg (enc x) (cST n ix U) λ U'=>if true=true then de U' λ r=>∃ b,ok b/\some r=some (en b) else ∃ b,ok b/\none=some (en b)
  rw [e1]
  simp only [if_true]
  exact this
 ·have key:∀ os:List (Option D),(∀ o∈os,∃ b,ok b/\o=some (en b))->∃ bs:List β,bs.length=os.length/\(∀ b∈bs,ok b)/\os.filterMap id=bs.map en:=by
   intro os
   induction os with
  |nil=>intro _;exact ⟨[],rfl,(λ b hb=>by simp at hb),rfl⟩
  |cons o r ih =>
    intro k
    obtain ⟨b,h1,rfl⟩:=k o (by simp)
    obtain ⟨bs,k1,k2,k3⟩:=ih λ o ho=>k o (by simp [ho])
    refine ⟨b :: bs,by simp [k1],λ c hc=>?_,by simp [k3]⟩
    rcases vN.mp hc with z|z
    ·rw [z];exact h1
    ·exact k2 c z
  obtain ⟨bs,b1,b2,b3⟩:=key os λ o ho=>by
   obtain ⟨j,hj⟩:=List.mem_iff_getElem?.mp ho
   exact hR j o hj
  rw [b3]
  exact q bs (by rw [b1,hl,u4]) b2
end L5
namespace L4
open PySem PySem.Spec PyProof.Rows L2 L3
section
variable {K:Fg} {te ta ti tj:TE} {de d1 d2:DE} {dp:DP} {w:World}
theorem RS.any {B:Bs} {F H:Hp} {Y:L2.St} {U:DSt} {fps:Nat->List Addr} (r:RS K B F H Y U fps) (i:Nat) (v:Option V):RS K B F H (Y.set i v) (U.set i .un) fps:=by
 have r:=r.forget i
 have key:∀ (j:Nat) s,(U.set i .un)[j]?=some s->s=.un \/ (Y.set i v).getD j none=Y.getD j none:=λ j s e=>by
  by_cases hij:i=j
  ·subst hij
   rw [wV] at e
   by_cases hl:i < U.length
   ·simp [hl] at e;exact .inl e.symm
   ·simp [hl] at e
  ·exact .inr (by rw [zc2,if_neg (by lia)])
 refine ⟨r.hh,r.ff,r.fh,r.nw,r.al,by rw [vZ];exact r.len,λ j d' e=>?_,λ j s e hs=>?_,r.fr,r.dj⟩
 ·rcases key j _ e with z|z
  ·cases z
  ·rw [z];exact r.sh j d' e
 ·rcases key j _ e with z|z
  ·rw [z] at hs;cases hs
  ·rw [z];exact r.rt j s e hs
theorem AtS.any {H:Hp} {Y:L2.St} {U:DSt} {i r:Nat} {p:Pth} {v:V} {u:T} (h:AtS H Y U i p v u) (hn:i≠r) (x:Option V):AtS H (Y.set r x) (U.set r .un) i p v u:=by
 obtain ⟨s,t,y,h1,h2,h3,h4⟩:=h
 exact ⟨s,t,y,by rw [wV,if_neg (by lia)];exact h1,h2,by rw [zc2,if_neg (by lia)];exact h3,h4⟩
noncomputable def dRwA (r:Nat) (dp:DP) (d1 d2 de:DE):DS:=λ E U=>dp U λ i p u=>(i≠r/\r < U.length)/\d1 (U.set r .un) λ k=>fGet u k λ x=>de (U.set r .un) λ y=>fAdd x y λ z=>d2 (U.set r .un) λ k2=>fPut u k2 z λ u2=>mutS (U.set r .un) i p u2 E.nx
theorem zs61 (r:Nat) (dp:DP) (d1 d2 de:DE) (E:DEnds) (U:DSt):dRwA r dp d1 d2 de E U=(dp U λ i p u=>(i≠r/\r < U.length)/\d1 (U.set r .un) λ k=>fGet u k λ x=>de (U.set r .un) λ y=>fAdd x y λ z=>d2 (U.set r .un) λ k2=>fPut u k2 z λ u2=>mutS (U.set r .un) i p u2 E.nx):=rfl
theorem zw51 {r:Nat} (hp:RfP K ta dp) (h1:RfE K ti d1) (he:RfE K te de) (h2:RfE K tj d2):RfS K (tSeq (tAsg ta (zvq r)) (tAsg (tOp (zqy K) (tOp (rIxV w K) (tVar r) ti) te) (gSub (tVar r) tj ztq))) (dRwA r dp d1 d2 de):=by
 intro B F H Y U fps E Z rs h k
 refine hp rs.fh rs.rv h λ i p u hu v F1 H1 e1 at1=>?_
 obtain ⟨⟨hn,hr⟩,hu⟩:=hu
 have r1:=(rs.grow e1).any r (some v)
 have at2:=at1.any hn (some v)
 have ev:(Y.set r (some v)).getD r none=some v:=by rw [zc2,if_pos ⟨rfl,by rw [rs.len];exact hr⟩]
 refine ⟨v,zp7 (F:=F1) (H:=H1) (U:=U.set r .un) ev,h1 r1.fh r1.rv hu λ kd hk kv F2 H2 e2 i2=>?_⟩
 have r2:=r1.grow e2
 have at3:=at2.mono e2.h
 obtain ⟨fn,hrt⟩:=at3.rt r2.rv
 have go:∀ (x:D) (y:V),(de (U.set r .un) λ y=>fAdd x y λ z=>d2 (U.set r .un) λ k2=>fPut u k2 z λ u2=>mutS (U.set r .un) i p u2 E.nx)->Is K F2 y x->te (Y.set r (some v)) H2 λ b H3=>zqy K y b H3 λ v' H4=>gSub (tVar r) tj ztq v' (Y.set r (some v)) H4 Z.nx:=by
  intro x y hx ix
  refine he r2.fh r2.rv hx λ z hz zv F3 H3 e3 i3=>?_
  have r3:=r2.grow e3
  refine zv2 r3.fh (.inl (ix.mono e3.f)) (.inl i3) hz λ s hs sv F4 H4 e4 i4=>?_
  have r4:=r3.grow e4
  have at4:=(at3.mono e3.h).mono e4.h
  refine ⟨v,zp7 (F:=F4) (H:=H4) (U:=U.set r .un) ev,h2 r4.fh r4.rv hs λ k2 hk2 k2v F5 H5 e5 i5=>?_⟩
  exact znr (r4.grow e5) (at4.mono e5.h) i5 (i4.mono e5.f) hk2 λ U2 fps2 H6 r6 n6=>k.nx r6 n6
 rcases zxr (Q:=λ y H=>te (Y.set r (some v)) H λ b H3=>zqy K y b H3 λ v' H4=>gSub (tVar r) tj ztq v' (Y.set r (some v)) H4 Z.nx) r2.fh hrt i2 hk λ d y qd iy=>go d y qd iy with ⟨a,xs,j,y,rfl,rfl,j0,g1,g2,q⟩|q
 ·exact .inl (.inl (.inl ⟨a,xs,j,y,rfl,rfl,g1,at_nat' j0 g2,q⟩))
 ·exact .inr q
end
end L4
namespace L5
open PySem PySem.Spec PyProof.Rows L2 L3 L4
noncomputable def su {α:Type} (l:List α) (f:α->Int):Int:=(l.map f).sum
section
variable {α β:Type}
theorem zas (f:α->Int):su [] f=0:=rfl
theorem zm2 (x:α) (l:List α) (f:α->Int):su (x :: l) f=f x+su l f:=by unfold su;simp
theorem zhb (l m:List α) (f:α->Int):su (l++m) f=su l f+su m f:=by unfold su;simp
theorem zp5 (l:List β) (p:β->α) (f:α->Int):su (l.map p) f=su l λ x=>f (p x):=by unfold su;rw [wD];rfl
theorem zd1 {l:List α} {f g:α->Int} (h:∀ x∈l,f x=g x):su l f=su l g:=by unfold su;rw [wK h]
theorem zxe (l:List β) (p:β->List α) (f:α->Int):su (l.flatMap p) f=su l λ x=>su (p x) f:=by
 induction l with
|nil=>rfl
|cons x r ih=>rw [wA,zhb,ih,zm2]
theorem zeb (l:List α):su l (λ _=>0)=0:=by
 induction l with
|nil=>rfl
|cons x r ih=>rw [zm2,ih];rfl
theorem su_zero' {l:List α} {f:α->Int} (h:∀ x∈l,f x=0):su l f=0:=by rw [zd1 h,zeb]
theorem zq51 (l:List α) (f g:α->Int):su l (λ x=>f x+g x)=su l f+su l g:=by
 induction l with
|nil=>rfl
|cons x r ih=>rw [zm2,zm2,zm2,ih];lia
theorem znk (l:List α) (f g:α->Int):su l (λ x=>f x - g x)=su l f - su l g:=by
 induction l with
|nil=>rfl
|cons x r ih=>rw [zm2,zm2,zm2,ih];lia
theorem zva1 {l:List α} {f g:α->Int} (h:∀ x∈l,f x<=g x):su l f<=su l g:=by
 induction l with
|nil=>exact xC _
|cons x r ih =>
  have a:=h x v6
  have b:=ih λ y hy=>h y (vU _ hy)
  rw [zm2,zm2];lia
theorem zul {n k:Nat} (d:Nat->Int) (h:k < n):su (u3 n) (λ j=>if j=k then d j else 0)=d k:=by
 have:=zdy (j:=k) (d k) h
 unfold sm at this
 refine Eq.trans (zd1 λ j _=>?_) this
 by_cases e:j=k
 ·subst e;simp
 ·simp [e]
end
theorem zzu {A:List Ar} {F:List Int} (h:F.length=A.length) (Φ:Nat->Nat->Int->Int->Prop):(∀ k,k < A.length->Φ (aU A k) (aV A k) (zwh A k) (fx F k)) ↔ ∀ p∈A.zip F,Φ p.1.1 p.1.2.1 p.1.2.2 p.2:=by
 rw [zdm h]
 constructor
 ·intro q p hp
  obtain ⟨k,hk,rfl⟩:=vR.mp hp
  exact q k (vM.mp hk)
 ·intro q k hk
  exact q _ (vR.mpr ⟨k,vM.mpr hk,rfl⟩)
theorem za21 {A:List Ar} {F:List Int} (h:F.length=A.length) (φ:Nat->Nat->Int->Int):(sm A.length λ k=>φ (aU A k) (aV A k) (fx F k))=su (A.zip F) λ p=>φ p.1.1 p.1.2.1 p.2:=by
 rw [zdm h,zp5];rfl
structure Nt where
 N:Nat
 n:Nat
 fl:Nat->Int
 rm:Nat->Int
 P:Nat->List Nat
 U:Nat->Nat
 V:Nat->Nat
 Ln:Nat->Nat
 W:Nat->Nat->Int
structure Fm where
 a:Nat->Int
 r:Nat->Nat->Int
 g:Nat->Nat->Int
 t:List (Nat->Int)
noncomputable def Nt.nd (T:Nt) (m k:Nat):Nat:=2+m * T.N+k
noncomputable def Nt.arcs (T:Nt) (cs:List (Nat->Int)):List Ar :=
 (u3 T.N).map (λ k=>(0,T.nd 0 k,T.fl k))++((u3 T.n).flatMap λ m=>(u3 T.N).map (λ k=>(T.nd m k,T.nd (m+1) k,T.rm k))++(T.P m).map λ i=>(T.nd m (T.U i),T.nd (m+T.Ln i) (T.V i),T.W i m)) ++
  cs.flatMap λ c=>(u3 T.N).map λ k=>(T.nd T.n k,1,c k)
noncomputable def Nt.flow (T:Nt) (f:Fm):List Int :=
 (u3 T.N).map f.a++((u3 T.n).flatMap λ m=>(u3 T.N).map (f.r m)++(T.P m).map (f.g m))++f.t.flatMap λ t=>(u3 T.N).map t
noncomputable def Nt.both (T:Nt) (cs:List (Nat->Int)) (f:Fm):List (Ar×Int) :=
 (u3 T.N).map (λ k=>((0,T.nd 0 k,T.fl k),f.a k))++((u3 T.n).flatMap λ m=>(u3 T.N).map (λ k=>((T.nd m k,T.nd (m+1) k,T.rm k),f.r m k))++(T.P m).map λ i=>((T.nd m (T.U i),T.nd (m+T.Ln i) (T.V i),T.W i m),f.g m i)) ++
  (cs.zip f.t).flatMap λ c=>(u3 T.N).map λ k=>((T.nd T.n k,1,c.1 k),c.2 k)
section
variable {T:Nt} {cs:List (Nat->Int)} {f:Fm}
theorem zzg {α β γ:Type} {p:γ->List α} {q:γ->List β} (l:List γ) (h:∀ x,(p x).length=(q x).length):(l.flatMap p).length=(l.flatMap q).length:=by
 induction l with
|nil=>rfl
|cons x r ih=>simp only [wA,vJ,ih,h]
theorem zml {α β γ:Type} {p:γ->List α} {q:γ->List β} (l:List γ) (h:∀ x,(p x).length=(q x).length):(l.flatMap p).zip (l.flatMap q)=l.flatMap λ x=>(p x).zip (q x):=by
 induction l with
|nil=>rfl
|cons x r ih=>rw [wA,wA,wA,xK (h x),ih]
theorem zht (n:Nat) (e:(Nat->Int)->Nat->Ar):∀ (cs ts:List (Nat->Int)),cs.length=ts.length->(cs.flatMap λ c=>(u3 n).map (e c)).zip (ts.flatMap λ t=>(u3 n).map t)=(cs.zip ts).flatMap λ c=>(u3 n).map λ k=>(e c.1 k,c.2 k)
|[],[],_=>rfl
|c :: cs,t :: ts,h=>by
  rw [wA,wA,xK (by simp),List.zip_cons_cons,wA,zht n e cs ts (by simpa using h),xU]
theorem ztu (n:Nat) (e:(Nat->Int)->Nat->Ar):∀ (cs ts:List (Nat->Int)),cs.length=ts.length->(cs.flatMap λ c=>(u3 n).map (e c)).length=(ts.flatMap λ t=>(u3 n).map t).length
|[],[],_=>rfl
|c :: cs,t :: ts,h=>by
  rw [wA,wA,vJ,vJ,ztu n e cs ts (by simpa using h)];simp
theorem Nt.len (h:cs.length=f.t.length):(T.flow f).length=(T.arcs cs).length:=by
 unfold Nt.flow Nt.arcs
 rw [vJ,vJ,vJ,vJ,ztu T.N _ cs f.t h]
 congr 1
 congr 1
 ·simp
 ·exact zzg _ λ m=>by simp
theorem Nt.zip (h:cs.length=f.t.length):(T.arcs cs).zip (T.flow f)=T.both cs f:=by
 unfold Nt.flow Nt.arcs Nt.both
 have l1:((u3 T.N).map λ k=>((0,T.nd 0 k,T.fl k):Ar)).length=((u3 T.N).map f.a).length:=by simp
 have l2:=zzg (p:=λ m=>(u3 T.N).map (λ k=>((T.nd m k,T.nd (m+1) k,T.rm k):Ar))++(T.P m).map λ i=>(T.nd m (T.U i),T.nd (m+T.Ln i) (T.V i),T.W i m)) (q:=λ m=>(u3 T.N).map (f.r m)++(T.P m).map (f.g m)) (u3 T.n) λ m=>by simp
 rw [xK (by rw [vJ,vJ,l1,l2]),xK l1,zht T.N _ cs f.t h,xU,zml _ λ m=>by simp]
 congr 1
 congr 1
 refine congrArg (λ z=>zL z (u3 T.n)) (funext λ m=>?_)
 rw [xK (by simp),xU,xU]
theorem zwo {α:Type} [DecidableEq α] (d:Int):∀ (l:List α) (xs:List Int),l.Nodup->xs.length=l.length->∃ g:α->Int,l.map g=xs
|[],[],_,_=>⟨λ _=>d,rfl⟩
|a :: l,x :: xs,nd,h=>by
  obtain ⟨h1,h2⟩:=vY.mp nd
  obtain ⟨g,e⟩:=zwo d l xs h2 (by simpa using h)
  refine ⟨λ b=>if b=a then x else g b,?_⟩
  rw [vV,if_pos rfl,<- e]
  congr 1
  exact wK λ b hb=>if_neg λ (z:b=a)=>h1 (by rw [<- z];exact hb)
theorem zsi {β:Type} {q:β->Nat} (mk:Nat->List Int->β):∀ (n:Nat) (ln:Nat->Nat) (F:List Int),F.length=((u3 n).map ln).sum->∃ B:Nat->List Int,(∀ m,m < n->(B m).length=ln m)/\F=(u3 n).flatMap B
|0,ln,F,h=>⟨λ _=>[],λ m hm=>by lia,k6 (by simpa using h)⟩
|n+1,ln,F,h=>by
  rw [w9,vX,yF] at h
  simp at h
  obtain ⟨B,h1,h2⟩:=zsi (q:=q) mk n ln (F.take ((u3 n).map ln).sum) (by rw [wF];lia)
  refine ⟨λ m=>if m=n then F.drop ((u3 n).map ln).sum else B m,λ m hm=>?_,?_⟩
  ·by_cases e:m=n
   ·subst e;simp only [if_true,xZ];lia
   ·simp only [if_neg e];exact h1 m (by lia)
  ·rw [w9,zI]
   simp only [wA,List.flatMap_nil,wI,if_pos rfl,if_true]
   have:((u3 n).flatMap λ m=>if m=n then F.drop ((u3 n).map ln).sum else B m)=(u3 n).flatMap B:=by
    have:∀ l:List Nat,(∀ m∈l,m≠n)->(l.flatMap λ m=>if m=n then F.drop ((u3 n).map ln).sum else B m)=l.flatMap B:=by
     intro l
     induction l with
    |nil=>intro _;rfl
    |cons x r ih=>intro k;rw [wA,wA,ih λ m hm=>k m (by simp [hm]),if_neg (k x (by simp))]
    exact this _ λ m hm=>by have:=vM.mp hm;lia
   rw [this,<- h2,yH]
theorem zom (n:Nat):∀ (c:Nat) (F:List Int),F.length=c * n->∃ ts:List (Nat->Int),ts.length=c/\F=ts.flatMap λ t=>(u3 n).map t
|0,F,h=>⟨[],rfl,k6 (by simpa using h)⟩
|c+1,F,h=>by
  rw [xV] at h
  obtain ⟨ts,h1,h2⟩:=zom n c (F.drop n) (by rw [xZ];lia)
  obtain ⟨g,hg⟩:=zwo 0 (u3 n) (F.take n) k8 (by rw [wF,vP];lia)
  exact ⟨g :: ts,by simp [h1],by rw [wA,hg,<- h2,yH]⟩
theorem zjv {α β:Type} (p:β->List α) (l:List β):(l.flatMap p).length=(l.map λ x=>(p x).length).sum:=by
 induction l with
|nil=>rfl
|cons x r ih=>rw [wA,vJ,ih,vV,zJ]
theorem Nt.split (nd:∀ m,(T.P m).Nodup) {F:List Int} (h:F.length=(T.arcs cs).length):∃ f:Fm,cs.length=f.t.length/\F=T.flow f:=by
 unfold Nt.arcs at h
 rw [vJ,vJ,u4,vP] at h
 have e3:(cs.flatMap λ c=>(u3 T.N).map λ k=>((T.nd T.n k,1,c k):Ar)).length=cs.length * T.N:=by
  have:∀ l:List (Nat->Int),(l.flatMap λ c=>(u3 T.N).map λ k=>((T.nd T.n k,1,c k):Ar)).length=l.length * T.N:=by
   intro l
   induction l with
  |nil=>simp
  |cons c r ih=>rw [wA,vJ,ih,xE,xV];simp;lia
  exact this cs
 rw [e3,zjv] at h
 generalize hM:((u3 T.n).map λ m=>((u3 T.N).map (λ k=>((T.nd m k,T.nd (m+1) k,T.rm k):Ar))++(T.P m).map λ i=>(T.nd m (T.U i),T.nd (m+T.Ln i) (T.V i),T.W i m)).length).sum=M at h
 obtain ⟨a,ha⟩:=zwo 0 (u3 T.N) (F.take T.N) k8 (by rw [wF,vP];lia)
 obtain ⟨B,b1,b2⟩:=zsi (β:=Nat) (q:=id) (λ _ _=>0) T.n (λ m=>T.N+(T.P m).length) ((F.drop T.N).take M) (by
  rw [wF,xZ,<- hM]
  have:((u3 T.n).map λ m=>((u3 T.N).map (λ k=>((T.nd m k,T.nd (m+1) k,T.rm k):Ar))++(T.P m).map λ i=>(T.nd m (T.U i),T.nd (m+T.Ln i) (T.V i),T.W i m)).length)=(u3 T.n).map λ m=>T.N+(T.P m).length:=wK λ m _=>by simp
  rw [this] at hM ⊢
  lia)
 obtain ⟨ts,t1,t2⟩:=zom T.N cs.length (F.drop (T.N+M)) (by rw [xZ];lia)
 have hr:∀ m,∃ g:Nat->Int,m < T.n->(u3 T.N).map g=(B m).take T.N:=λ m=>by
  by_cases e:m < T.n
  ·obtain ⟨g,hg⟩:=zwo 0 (u3 T.N) ((B m).take T.N) k8 (by rw [wF,b1 m e,vP];lia)
   exact ⟨g,λ _=>hg⟩
  ·exact ⟨λ _=>0,λ z=>absurd z e⟩
 have hg:∀ m,∃ g:Nat->Int,m < T.n->(T.P m).map g=(B m).drop T.N:=λ m=>by
  by_cases e:m < T.n
  ·obtain ⟨g,hg⟩:=zwo 0 (T.P m) ((B m).drop T.N) (nd m) (by rw [xZ,b1 m e];lia)
   exact ⟨g,λ _=>hg⟩
  ·exact ⟨λ _=>0,λ z=>absurd z e⟩
 obtain ⟨r,hr⟩:=Classical.axiomOfChoice hr
 obtain ⟨g,hg⟩:=Classical.axiomOfChoice hg
 refine ⟨⟨a,r,g,ts⟩,t1.symm,?_⟩
 unfold Nt.flow
 show F=(u3 T.N).map a++((u3 T.n).flatMap λ m=>(u3 T.N).map (r m)++(T.P m).map (g m))++ts.flatMap λ t=>(u3 T.N).map t
 have e2:((u3 T.n).flatMap λ m=>(u3 T.N).map (r m)++(T.P m).map (g m))=(u3 T.n).flatMap B:=by
  have:∀ l:List Nat,(∀ m∈l,m < T.n)->(l.flatMap λ m=>(u3 T.N).map (r m)++(T.P m).map (g m))=l.flatMap B:=by
   intro l
   induction l with
  |nil=>intro _;rfl
  |cons x y ih=>intro k;rw [wA,wA,ih λ m hm=>k m (by simp [hm]),hr x (k x (by simp)),hg x (k x (by simp)),yH]
  exact this _ λ m hm=>vM.mp hm
 rw [e2,ha,<- b2,<- t2,wC,<- List.drop_drop]
 rw [yH,yH]
end
noncomputable def Nt.inn (T:Nt) (f:Fm) (m k:Nat):Int:=su (u3 T.n) λ m'=>su (T.P m') λ i=>if m'+T.Ln i=m/\T.V i=k then f.g m' i else 0
noncomputable def Nt.out (T:Nt) (f:Fm) (m k:Nat):Int:=if m < T.n then su (T.P m) λ i=>if T.U i=k then f.g m i else 0 else 0
structure Nt.Ok (T:Nt):Prop where
 nd:∀ m,(T.P m).Nodup
 ub:∀ m,∀ i∈T.P m,T.U i < T.N
 vb:∀ m,∀ i∈T.P m,T.V i < T.N
 ln:∀ m,∀ i∈T.P m,1<=T.Ln i/\m+T.Ln i<=T.n
section
variable {T:Nt} {cs:List (Nat->Int)} {f:Fm}
theorem Nt.nd_inj {m m' k k':Nat} (h:k < T.N) (h':k' < T.N) (e:T.nd m k=T.nd m' k'):m=m'/\k=k':=by
 unfold Nt.nd at e
 rcases z6 m m' with z|z|z
 ·have:=yX T.N (show m+1<=m' from z)
  rw [xV] at this;lia
 ·subst z;exact ⟨rfl,by lia⟩
 ·have:=yX T.N (show m'+1<=m from z)
  rw [xV] at this;lia
theorem Nt.nd2 (m k:Nat):2<=T.nd m k:=by unfold Nt.nd;lia
theorem Nt.is_nd {w:Nat} (h2:2<=w) (hw:w < T.nd (T.n+1) 0):∃ m k,m<=T.n/\k < T.N/\w=T.nd m k:=by
 unfold Nt.nd at hw ⊢
 have hN:0 < T.N:=by
  rcases uaC T.N with z|z
  ·rw [z] at hw;simp at hw;lia
  ·exact z
 refine ⟨(w - 2) / T.N,(w - 2) % T.N,?_,Nat.mod_lt _ hN,?_⟩
 ·exact Nat.le_of_lt_succ (Nat.div_lt_of_lt_mul (by rw [yN,Nat.succ_eq_add_one];lia))
 ·have:=Nat.div_add_mod (w - 2) T.N
  rw [yN] at this;lia
theorem zo21 {m m' m'' k k' k'':Nat} (h:k < T.N) (h':k' < T.N) (h'':k'' < T.N) (x:Int):trm (T.nd m k) (T.nd m' k') x (T.nd m'' k'')=(if m'=m''/\k'=k'' then x else 0) - (if m=m''/\k=k'' then x else 0):=by
 unfold trm
 congr 1
 ·by_cases e:m'=m''/\k'=k''
  ·obtain ⟨rfl,rfl⟩:=e;simp
  ·rw [if_neg e,if_neg λ z=>e (Nt.nd_inj h' h'' z)]
 ·by_cases e:m=m''/\k=k''
  ·obtain ⟨rfl,rfl⟩:=e;simp
  ·rw [if_neg e,if_neg λ z=>e (Nt.nd_inj h h'' z)]
theorem zoe {N k:Nat} {c:Prop} [Decidable c] (d:Nat->Int) (h:k < N):su (u3 N) (λ j=>if c/\j=k then d j else 0)=if c then d k else 0:=by
 by_cases e:c
 ·rw [if_pos e,<- zul d h]
  exact zd1 λ j _=>by simp [e]
 ·rw [if_neg e]
  exact su_zero' λ j _=>by simp [e]
theorem Nt.bal (ok:T.Ok) (hl:cs.length=f.t.length) {m k:Nat} (hm:m<=T.n) (hk:k < T.N):bl (T.arcs cs).length (aU (T.arcs cs)) (aV (T.arcs cs)) (fx (T.flow f)) (T.nd m k) =
  (if m=0 then f.a k else f.r (m - 1) k)+T.inn f m k - T.out f m k - (if m < T.n then f.r m k else su f.t λ t=>t k):=by
 unfold bl
 rw [za21 (Nt.len hl) λ u v x=>trm u v x (T.nd m k),Nt.zip hl]
 unfold Nt.both
 rw [zhb,zhb,zp5,zxe,zxe]
 have p1:(su (u3 T.N) λ j=>trm 0 (T.nd 0 j) (f.a j) (T.nd m k))=if m=0 then f.a k else 0:=by
  rw [<- zoe (c:=m=0) f.a hk]
  refine zd1 λ j hj=>?_
  have hj:=vM.mp hj
  unfold trm
  have h2:=Nt.nd2 (T:=T) m k
  rw [if_neg (show (0:Nat)≠T.nd m k by lia)]
  by_cases e:m=0/\j=k
  ·obtain ⟨rfl,rfl⟩:=e;simp
  ·rw [if_neg e,if_neg λ z=>e (by have:=Nt.nd_inj hj hk z;exact ⟨this.1.symm,this.2⟩)];rfl
 have p3:(su (cs.zip f.t) λ x=>su ((u3 T.N).map λ j=>(((T.nd T.n j,1,x.1 j):Ar),x.2 j)) λ p=>trm p.1.1 p.1.2.1 p.2 (T.nd m k))=- if m=T.n then su f.t (λ t=>t k) else 0:=by
  have e1:∀ x∈cs.zip f.t,(su ((u3 T.N).map λ j=>(((T.nd T.n j,1,x.1 j):Ar),x.2 j)) λ p=>trm p.1.1 p.1.2.1 p.2 (T.nd m k))=0 - if m=T.n then x.2 k else 0:=λ x _=>by
   rw [zp5,<- zoe (c:=m=T.n) x.2 hk]
   refine Eq.trans (zd1 (g:=λ j=>0 - if m=T.n/\j=k then x.2 j else 0) λ j hj=>?_) (by rw [znk,zeb])
   have hj:=vM.mp hj
   unfold trm
   have h2:=Nt.nd2 (T:=T) m k
   show (if 1=T.nd m k then x.2 j else 0) - (if T.nd T.n j=T.nd m k then x.2 j else 0)=_
   rw [if_neg (show (1:Nat)≠T.nd m k by lia)]
   by_cases e:m=T.n/\j=k
   ·obtain ⟨rfl,rfl⟩:=e;simp
   ·rw [if_neg e,if_neg λ z=>e (by have:=Nt.nd_inj hj hk z;exact ⟨this.1.symm,this.2⟩)]
  rw [zd1 e1,znk,zeb]
  have e2:(su (cs.zip f.t) λ x=>if m=T.n then x.2 k else 0)=if m=T.n then su f.t (λ t=>t k) else 0:=by
   by_cases e:m=T.n
   ·simp only [if_pos e]
    have:f.t=(cs.zip f.t).map (·.2):=by rw [k9 (by lia)]
    conv=>rhs;rw [this]
    rw [zp5]
   ·simp only [if_neg e];exact zeb _
  rw [e2];lia
 have p2:(su (u3 T.n) λ m'=>su ((u3 T.N).map (λ j=>(((T.nd m' j,T.nd (m'+1) j,T.rm j):Ar),f.r m' j))++(T.P m').map λ i=>((T.nd m' (T.U i),T.nd (m'+T.Ln i) (T.V i),T.W i m'),f.g m' i)) λ p=>trm p.1.1 p.1.2.1 p.2 (T.nd m k)) =
   (if m=0 then 0 else f.r (m - 1) k) - (if m < T.n then f.r m k else 0)+(T.inn f m k - T.out f m k):=by
  have e1:∀ m'∈u3 T.n,(su ((u3 T.N).map (λ j=>(((T.nd m' j,T.nd (m'+1) j,T.rm j):Ar),f.r m' j))++(T.P m').map λ i=>((T.nd m' (T.U i),T.nd (m'+T.Ln i) (T.V i),T.W i m'),f.g m' i)) λ p=>trm p.1.1 p.1.2.1 p.2 (T.nd m k)) =
    ((if m'+1=m then f.r m' k else 0) - (if m'=m then f.r m' k else 0))+((su (T.P m') λ i=>if m'+T.Ln i=m/\T.V i=k then f.g m' i else 0) - (if m'=m then su (T.P m') λ i=>if T.U i=k then f.g m' i else 0 else 0)):=λ m' _=>by
   rw [zhb,zp5,zp5]
   congr 1
   ·rw [<- zoe (c:=m'+1=m) (f.r m') hk,<- zoe (c:=m'=m) (f.r m') hk,<- znk]
    exact zd1 λ j hj=>zo21 (vM.mp hj) (vM.mp hj) hk _
   ·have:(if m'=m then su (T.P m') λ i=>if T.U i=k then f.g m' i else 0 else 0)=su (T.P m') λ i=>if m'=m/\T.U i=k then f.g m' i else 0:=by
     by_cases e:m'=m
     ·rw [if_pos e];exact zd1 λ i _=>by simp [e]
     ·rw [if_neg e];exact (su_zero' λ i _=>by simp [e]).symm
    rw [this,<- znk]
    exact zd1 λ i hi=>zo21 (ok.ub m' i hi) (ok.vb m' i hi) hk _
  rw [zd1 e1,zq51,znk,znk]
  congr 1
  ·congr 1
   ·by_cases e:m=0
    ·rw [if_pos e];exact su_zero' λ j _=>if_neg (by lia)
    ·rw [if_neg e,<- zul (λ j=>f.r j k) (show m - 1 < T.n by lia)]
     refine zd1 λ j _=>?_
     by_cases z:j=m - 1
     ·rw [if_pos z,if_pos (by lia)]
     ·rw [if_neg z,if_neg (by lia)]
   ·by_cases e:m < T.n
    ·rw [if_pos e,<- zul (λ j=>f.r j k) e]
    ·rw [if_neg e];exact su_zero' λ j hj=>if_neg (by have:=vM.mp hj;lia)
  ·congr 1
   unfold Nt.out
   by_cases e:m < T.n
   ·rw [if_pos e,<- zul (λ j=>su (T.P j) λ i=>if T.U i=k then f.g j i else 0) e]
   ·rw [if_neg e];exact su_zero' λ j hj=>if_neg (by have:=vM.mp hj;lia)
 rw [p1,p2,p3]
 have h3:¬ m < T.n ↔ m=T.n:=by lia
 by_cases e:m=0
 ·rw [if_pos e,if_pos e,if_pos e]
  by_cases z:m < T.n
  ·rw [if_pos z,if_pos z,if_neg (by lia)];lia
  ·rw [if_neg z,if_neg z,if_pos (by lia)];lia
 ·rw [if_neg e,if_neg e,if_neg e]
  by_cases z:m < T.n
  ·rw [if_pos z,if_pos z,if_neg (by lia)];lia
  ·rw [if_neg z,if_neg z,if_pos (by lia)];lia
theorem Nt.worth (hl:cs.length=f.t.length):bl (T.arcs cs).length (aU (T.arcs cs)) (aV (T.arcs cs)) (fx (T.flow f)) 0=- su (u3 T.N) f.a:=by
 unfold bl
 rw [za21 (Nt.len hl) λ u v x=>trm u v x 0,Nt.zip hl]
 unfold Nt.both
 rw [zhb,zhb,zp5,zxe,zxe]
 have z:∀ u v x,2<=u->1<=v->trm u v x 0=0:=λ u v x h1 h2=>by
  unfold trm;rw [if_neg (by lia),if_neg (by lia)];rfl
 rw [su_zero' (l:=u3 T.n) λ m _=>?_,su_zero' (l:=cs.zip f.t) λ x _=>?_,zd1 (g:=λ k=>0 - f.a k) λ k _=>?_,znk,zeb]
 ·lia
 ·have h2:=Nt.nd2 (T:=T) 0 k
  unfold trm
  show (if T.nd 0 k=0 then f.a k else 0) - (if 0=0 then f.a k else 0)=_
  rw [if_neg (by lia),if_pos rfl]
 ·rw [zp5]
  exact su_zero' λ k _=>z _ _ _ (Nt.nd2 _ _) (by show 1<=1;lia)
 ·rw [zhb,zp5,zp5,su_zero' λ k _=>z _ _ _ (Nt.nd2 _ _) (by have:=Nt.nd2 (T:=T) (m+1) k;show 1<=T.nd (m+1) k;lia),su_zero' λ i _=>z _ _ _ (Nt.nd2 _ _) (by have:=Nt.nd2 (T:=T) (m+T.Ln i) (T.V i);show 1<=T.nd (m+T.Ln i) (T.V i);lia)];rfl
structure Nt.Fl (T:Nt) (cs:List (Nat->Int)) (f:Fm):Prop where
 t:cs.length=f.t.length
 a:∀ k,k < T.N->0<=f.a k/\f.a k<=T.fl k
 r:∀ m k,m < T.n->k < T.N->0<=f.r m k/\f.r m k<=T.rm k
 g:∀ m i,m < T.n->i∈T.P m->0<=f.g m i/\f.g m i<=T.W i m
 s:∀ c∈cs.zip f.t,∀ k,k < T.N->0<=c.2 k/\c.2 k<=c.1 k
 b:∀ m k,m<=T.n->k < T.N->(if m=0 then f.a k else f.r (m - 1) k)+T.inn f m k=T.out f m k+(if m < T.n then f.r m k else su f.t λ t=>t k)
theorem Nt.both_iff (hl:cs.length=f.t.length) (Φ:Nat->Nat->Int->Int->Prop):(∀ p∈T.both cs f,Φ p.1.1 p.1.2.1 p.1.2.2 p.2) ↔ (∀ k,k < T.N->Φ 0 (T.nd 0 k) (T.fl k) (f.a k))/\(∀ m k,m < T.n->k < T.N->Φ (T.nd m k) (T.nd (m+1) k) (T.rm k) (f.r m k)) /\
  (∀ m i,m < T.n->i∈T.P m->Φ (T.nd m (T.U i)) (T.nd (m+T.Ln i) (T.V i)) (T.W i m) (f.g m i))/\∀ c∈cs.zip f.t,∀ k,k < T.N->Φ (T.nd T.n k) 1 (c.1 k) (c.2 k):=by
 constructor
 ·intro h
  unfold Nt.both at h
  refine ⟨λ k hk=>?_,λ m k hm hk=>?_,λ m i hm hi=>?_,λ c hc k hk=>?_⟩
  ·exact h _ (xP _ (xP _ (vR.mpr ⟨k,vM.mpr hk,rfl⟩)))
  ·exact h _ (xP _ (wU _ (x9.mpr ⟨m,vM.mpr hm,xP _ (vR.mpr ⟨k,vM.mpr hk,rfl⟩)⟩)))
  ·exact h _ (xP _ (wU _ (x9.mpr ⟨m,vM.mpr hm,wU _ (vR.mpr ⟨i,hi,rfl⟩)⟩)))
  ·exact h _ (wU _ (x9.mpr ⟨c,hc,vR.mpr ⟨k,vM.mpr hk,rfl⟩⟩))
 ·rintro ⟨h1,h2,h3,h4⟩ p hp
  unfold Nt.both at hp
  rcases vK.mp hp with hp|hp
  ·rcases vK.mp hp with hp|hp
   ·obtain ⟨k,hk,rfl⟩:=vR.mp hp
    exact h1 k (vM.mp hk)
   ·obtain ⟨m,hm,hp⟩:=x9.mp hp
    have hm:=vM.mp hm
    rcases vK.mp hp with hp|hp
    ·obtain ⟨k,hk,rfl⟩:=vR.mp hp
     exact h2 m k hm (vM.mp hk)
    ·obtain ⟨i,hi,rfl⟩:=vR.mp hp
     exact h3 m i hm hi
  ·obtain ⟨c,hc,hp⟩:=x9.mp hp
   obtain ⟨k,hk,rfl⟩:=vR.mp hp
   exact h4 c hc k (vM.mp hk)
theorem Nt.Fl.within (h:T.Fl cs f):within (T.arcs cs).length (zwh (T.arcs cs)) (fx (T.flow f)):=by
 refine (zzu (Nt.len h.t) λ _ _ c x=>0<=x/\x<=c).mpr ?_
 rw [Nt.zip h.t]
 exact (Nt.both_iff h.t λ _ _ c x=>0<=x/\x<=c).mpr ⟨h.a,h.r,h.g,h.s⟩
theorem Nt.Fl.bal (ok:T.Ok) (h:T.Fl cs f) {w:Nat} (h2:2<=w) (hw:w < T.nd (T.n+1) 0):bl (T.arcs cs).length (aU (T.arcs cs)) (aV (T.arcs cs)) (fx (T.flow f)) w=0:=by
 obtain ⟨m,k,hm,hk,rfl⟩:=Nt.is_nd h2 hw
 have:=h.b m k hm hk
 rw [Nt.bal ok h.t hm hk];lia
theorem Nt.Fl.of (ok:T.Ok) (ht:cs.length=f.t.length) (hw:L5.within (T.arcs cs).length (zwh (T.arcs cs)) (fx (T.flow f))) (hb:∀ w,w≠0->w≠1->bl (T.arcs cs).length (aU (T.arcs cs)) (aV (T.arcs cs)) (fx (T.flow f)) w=0):T.Fl cs f:=by
 have:=(zzu (Nt.len ht) λ _ _ c x=>0<=x/\x<=c).mp hw
 rw [Nt.zip ht] at this
 obtain ⟨h1,h2,h3,h4⟩:=(Nt.both_iff ht λ _ _ c x=>0<=x/\x<=c).mp this
 refine ⟨ht,h1,h2,h3,h4,λ m k hm hk=>?_⟩
 have h2:=Nt.nd2 (T:=T) m k
 have:=hb (T.nd m k) (by lia) (by lia)
 rw [Nt.bal ok ht hm hk] at this
 lia
theorem bl_flux' {m:Nat} {eu ev:Nat->Nat} {x:Nat->Int} {s:Nat} {side:List Nat} (nd:side.Nodup) (hs:s∈side) (h:∀ w∈side,w≠s->bl m eu ev x w=0):bl m eu ev x s=flux m eu ev x side:=by
 rw [zyp m eu ev x nd,zmu nd hs h]
theorem zf81 {m:Nat} {eu ev:Nat->Nat} {x y:Nat->Int} (h:∀ k,k < m->x k=y k) (w:Nat):bl m eu ev x w=bl m eu ev y w:=zn3 λ k hk=>by show trm _ _ (x k) w=trm _ _ (y k) w;rw [h k hk]
theorem zx11 {m:Nat} {x:Nat->Int} {k:Nat} (h:k < m):fx ((u3 m).map x) k=x k:=by
 unfold fx;rw [u6,xL h];rfl
theorem Nt.best (ok:T.Ok) {c:Nat} {f0 L:List Int} {side:List Nat} (b:Best c (T.arcs cs) f0 0 1 L side) (hb:∀ v,v≠0->v≠1->L5.bal (T.arcs cs).length (zi5 (T.arcs cs)) L v=0) :
  ∃ f,T.Fl cs f/\(u3 (T.arcs cs).length).map (λ k=>lf L (2 * k+1))=T.flow f:=by
 obtain ⟨f,ht,e⟩:=Nt.split (cs:=cs) ok.nd (F:=(u3 (T.arcs cs).length).map (λ k=>lf L (2 * k+1))) (by simp)
 have ex:∀ k,k < (T.arcs cs).length->fx (T.flow f) k=lf L (2 * k+1):=λ k hk=>by rw [<- e,zx11 hk]
 refine ⟨f,Nt.Fl.of ok ht (λ k hk=>by rw [ex k hk];exact b.within k hk) λ w h1 h2=>?_,e⟩
 rw [zf81 ex]
 have:=hb w h1 h2
 rw [znw] at this;exact this
theorem Nt.most (ok:T.Ok) {L f0:List Int} {side:List Nat} (b:Best (T.nd (T.n+1) 0) (T.arcs cs) f0 0 1 L side) (h:T.Fl cs f) (e:(u3 (T.arcs cs).length).map (λ k=>lf L (2 * k+1))=T.flow f) {f':Fm} (h':T.Fl cs f'):su (u3 T.N) f'.a<=su (u3 T.N) f.a:=by
 have ex:∀ k,k < (T.arcs cs).length->lf L (2 * k+1)=fx (T.flow f) k:=λ k hk=>by rw [<- e,zx11 hk]
 have tg:tight (T.arcs cs).length (aU (T.arcs cs)) (aV (T.arcs cs)) (zwh (T.arcs cs)) (fx (T.flow f)) side:=λ k hk=>by rw [<- ex k hk];exact b.tight k hk
 have l:=zc01 tg h'.within
 have go:∀ {g:Fm},T.Fl cs g->bl (T.arcs cs).length (aU (T.arcs cs)) (aV (T.arcs cs)) (fx (T.flow g)) 0=flux (T.arcs cs).length (aU (T.arcs cs)) (aV (T.arcs cs)) (fx (T.flow g)) side:=λ {g} hg =>
  bl_flux' (zxq b.ris) b.inn λ w hw hn=>hg.bal ok (by
   rcases wS w 2 with z|z
   ·have:w=1:=by lia
    exact absurd (this ▸ hw) b.out
   ·exact z) (b.bd w hw)
 rw [<- go h,<- go h',Nt.worth h.t,Nt.worth h'.t] at l
 lia
end
end L5
open PySem PySem.Spec PyProof.Rows L2 L3 L4 L5
local macro_rules|`(tactic| walk_at "ds")=>do `(tactic| simp only [$(<- ("zbh zxn zg61 List.map_cons List.map_nil List.length_cons List.length_nil Nat.reduceAdd Nat.reduceSub List.replicate List.cons_append List.nil_append".splitOn " ").toArray.mapM λ s=>`(Lean.Parser.Tactic.simpLemma| $(Lean.mkIdent s.toName):ident)),*])
local macro_rules|`(tactic| walk_at "cs")=>do `(tactic| simp only [$(<- ("cST List.map_cons List.map_nil List.replicate List.cons_append List.nil_append List.getD_cons_zero List.getD_cons_succ".splitOn " ").toArray.mapM λ s=>`(Lean.Parser.Tactic.simpLemma| $(Lean.mkIdent s.toName):ident)),*])
local macro_rules|`(tactic| walk_at "dd")=>do `(tactic| simp only [$(<- ("e_dF nI zpm zs61 e_uT ztd1 e_dC zrd1 zm61 zw91 zqd1 zw31 zq61 zp81 zic1 zq71 zu61 zwv zc91 zd11 zu91 zm91 zc11 zqc1 zhc1 zoc1 zws zq31 zkc1 zw61 zbd1 zi41 zf41 zv21 e_gN zw21 zxw e_gT ziz zj81 zxd1 zpd1 zde1 e_cE e_cF zp21 zh61 zx91 zrz zu81 zb31 zw01 ztc1 zjc1 zb91 zx71 zu31 za91 zf71 zxc1 zzd1 e_nE e_nF e_cN zh91 zzr zz81 zs71 e_aD e_aB e_aO zm11 zv01 zfz zr11 e_eN za11 zpw zer zuz zez zc61 e_uC zr81 zf51 zv81 zm01 zo61 zz71 zh71 zc81 zwd1 zo11 zz11 zv51 zm51 zj71 zo91 zgd1 zfd1 zid1 zi21 zbz zb81 zj31 zed1 zx51 ze31 fAdd fCat fI fI0 fMul fRep fEq fNe zqz fIsN zx81 fIx fNeg fB fTru fLen fSum zy91 zn51 zaw zrw zsx fSl fSlF zpz zu51 zo71 zv61 zp71 zx61 zl61 zh31 zy81 zr71 zzc1 zd61 fzT vwT slT slot Sl.wth mApp mExt zr91 mPop fPut fGet fHas fII keyD nFld nCls noM nSet nFII nIx noO noS zvu oneO zxy ArgP.arg toD zj21 zxb1 exA oIx List.getElem?_cons_zero List.getElem?_cons_succ List.set_cons_zero List.set_cons_succ List.length_cons List.length_nil List.map_cons List.map_nil List.nil_append List.cons_append List.lookup putA setP getP beq_self_eq_true Nat.reduceAdd Nat.reduceSub Nat.reduceMul Int.reduceAdd Int.reduceSub Int.reduceMul Int.reduceNeg Int.reduceLT Int.reduceLE Int.reducePow Int.reduceToNat Nat.reducePow Nat.reduceLT Nat.reduceLeDiff Nat.reduceEqDiff Int.reduceEq Int.reduceMod Int.reduceDiv Int.reduceBEq Int.reduceBNe Int.reduceGT Int.reduceGE zv41 CPow sizeLine_eq decide_eq_true_eq decide_true decide_false Bool.not_true Bool.not_false Bool.not_eq_true' Bool.not_eq_eq_eq_not Bool.not_not decide_eq_false_iff_not decide_not true_and and_true if_true if_false Bool.false_eq_true reduceCtorEq ite_true ite_false not_false_eq_true not_true_eq_false ne_eq Option.some.injEq exists_eq_left' exists_eq_left Option.map_some Option.map_none Option.bind_some zlb zg9 zja zm9 zf9 zi9 zcd zrd zvb zmf zjf zvd zs8 zt8 zr7 zud zsd zoa zug zfg zad zqd zzc zpc zvh zdh zqg zqk zqh zgk zzi zkh zyi zh9 zl9 zfb zdj zqi zd9 zvj zfi zta zr9 zz9 zic zrh zuh zdl zcj zo7 zk7 zd8 zg6 zh5 zv6 zbg zw7 zv7 zw6 zz4 zx6 zff zt7 zy7 zq6 zc5 zu6 zpg zg8 zah zk6 zf5 zi6 zzd ze6 zhd zkd zw4 zg5 zlc zl5 zbc zrb zp4 zs4 znd zj6 zae zfd zu5 zn4 zkg zkf zmg zdf zed zac zee zkb zkc zjc zyb zx9 zj8 zs9 zti zri znj zbj zof zdd ztf zwj zpk zcl zvl zrj zng zej zvf zzf zdg zlg zwd ztc zmd zjg zyg zrf zyc zib ztd zgg ztg zce zna zpd zig zag zjd zxa zbd zuf zyd zha zbe zxc zaa zpb zla zt9 zw9 zod zya zba".splitOn " ").toArray.mapM λ s=>`(Lean.Parser.Tactic.simpLemma| $(Lean.mkIdent s.toName):ident)),*])
local macro_rules|`(tactic| walk_at "dn")=>`(tactic| (refine ze0 λ J hJ=>?_;walk_at "dd";refine hJ _ ?_;clear hJ))
local macro_rules|`(tactic| walk_at "dns")=>`(tactic| repeat walk_at "dn")
namespace K25
open PySem PySem.Spec PyProof.Rows L2 L3 L4 L5
def top (i:Nat):Stmt:=PySem.Challenge.pw_vatyard_k25_a_greatest_flow_is_played.main.body.getD i (.Pass ⟨0,0,0,0⟩)
abbrev zo2:Stmt:=zz1 (top 3) 0
abbrev zs2:Stmt:=zz1 (top 3) 1
abbrev zv3:Stmt:=zz1 (top 4) 0
abbrev zr3:Stmt:=zz1 (top 4) 1
abbrev zf3:Stmt:=zz1 (top 5) 0
abbrev zj3:Stmt:=zz1 (top 5) 1
abbrev zsg:Stmt:=top 6
abbrev zn1:Stmt:=zz1 (top 16) 0
abbrev zb7:Stmt:=zz1 (top 16) 2
abbrev zg4:Stmt:=zz1 (top 16) 4
abbrev zb6:Stmt:=zz1 (top 16) 5
abbrev zdb:Stmt:=zz1 (top 16) 6
abbrev za7:Stmt:=zz1 (top 16) 7
abbrev zt5:Stmt:=top 17
abbrev zf4:Stmt:=top 18
abbrev zlk:Stmt:=top 19
abbrev zc8:Stmt:=top 21
abbrev zsf:Stmt:=top 22
abbrev zx1:Stmt:=zz1 (top 24) 0
abbrev zb3:Stmt:=zz1 (top 24) 1
abbrev zq3:Stmt:=zz1 (top 24) 2
abbrev ze2:Stmt:=zz1 (top 24) 3
abbrev zd2:Stmt:=zz1 (top 24) 4
abbrev zx3:Stmt:=zz1 (top 24) 5
abbrev zd3:Stmt:=zz1 (top 24) 6
abbrev zy2:Stmt:=zz1 (top 24) 7
abbrev zdc:Stmt:=top 25
abbrev zp8:Stmt:=top 27
abbrev zqc:Stmt:=top 28
abbrev zm8:Stmt:=top 29
abbrev zc6:Stmt:=top 30
abbrev zf7:Stmt:=top 31
abbrev zd7:Stmt:=top 32
abbrev zz2:Stmt:=top 33
abbrev zz5:Stmt:=top 34
abbrev zn2:Stmt:=top 35
abbrev zfy:Stmt:=top 36
section
variable {P:Program} {w:World} {K:Fg} {mg:Str->Option Value} {base:Heap} {jA:Addr}
noncomputable def zw5 (C:Addr):DSpT:=λ as Q=>∃ (m:Nat) (E:List Nat) (L:List Int) (S:List (List Nat)) (lv:List (Nat×Nat)) (tr:List Nat) (lev:Nat),as=[.b (oS C E L S),.b (.dk (kN lv)),.o (.li (tr.map nI)),.d (nI lev)]/\E.length=2 * m/\L.length=2 * m /\
 (∀ s∈tr,s < 2 * m/\(0 < lf L s->(lkp lv (hd E s)).isSome=true))/\∀ j,j<=tr.length->(∀ (i:Nat) s,j<=i->tr[i]?=some s->¬(0 < lf L s/\lkp lv (hd E s)=some lev))->(j=0->Q (.fz .none) (.li []))/\∀ s,0 < j->tr[j - 1]?=some s->0 < lf L s->lkp lv (hd E s)=some lev->Q (.fz (nI s)) (.li ((tr.take j).map nI))
theorem zo4:FnScope ["self", "levels", "steps", "level", "step"] ["self", "levels", "steps", "level"] (zg0 zd3):=by exact ⟨rfl,rfl,rfl,by decide +kernel,rfl,by decide +kernel,by decide +kernel⟩
theorem zu9 (jE:Cls K jA) (T:TopMeth K jA "step_up" "Stream.step_up" zd3) (jS:mg "len"=none) (jG:NoAttr K jA "left") (jL:NoAttr K jA "ends"):MethD P w K mg base jA "step_up" 1 ["self", "levels", "steps", "level"] (spT K (zw5 jA)):=by
 refine zi3 jE T zo4 (λ _ _ _ _ _ _ us hl=>by obtain ⟨_,_,_,_,rfl⟩:=ar4 hl;rfl) (zab λ as Qd h=>by obtain ⟨_,_,_,_,_,_,_,rfl,_⟩:=h;rfl) (zm3 ?_)
 intro f cdv A outer s H E hr
 have nd:=zo4.nd
 refine ⟨_,_,(zc0 (zqa PassesOwn.never (zuc (K:=K) rfl (pv 2) (λ _=>rfl)) (zc0 (pset 4 nd (pix w K hr (pv 2) (zr0 zjh (zh1 (zf1 (K:=K) rfl) rfl jS ze7 (zb0 (pv 2) zh0)) zf0)))
   (zc0 (zr8 (PW.pt (zbp (zt0 zpo (pix w K hr (zq0 (K:=K) rfl (pv 0) rfl) (pv 4)) zf0 (zm1 _)) (zmh (zt0 (zn9 (K:=K) rfl (Room.units hr)) (pix w K hr (pv 1) (pix w K hr (zq0 (K:=K) rfl (pv 0) rfl) (pv 4))) (pv 3) (zm1 _))))) (zj0 (zg1 (pv 4))) zi1)
   (zj0 (zk1 (zkq (K:=K) rfl PySem.F.plainAttrs_list PySem.F.slot_list_pop PySem.F.type_list_pop zkw (pv 2)))))))
   (zj0 (zg1 zcy))),(zk0 (zub (zpn (za0 2)) (zk0 (zz0 (zl0 r_ix (za0 2) (RfE.v (zl0 zst (RfE.v (zij ztk (ze1 (za0 2) zj2))) rvi))) (rgn 4))
   (zk0 (ze9 (zto (zs0 (zl0 r_gt (RfE.v (zl0 r_ix (RfP.v (zy0 jE jG (zm0 0))) (za0 4))) rvi)) (zs0 (ze5 q_eq (RfV.h (RfE.v (zrp (zm0 1) (zl0 r_ix (RfP.v (zy0 jE jL (zm0 0))) (za0 4))))) (RfV.h (za0 3))))) (zb2 (RfE.c (zi0 4))) zj1)
   (zl1 (zyv zmw (zm0 2))))))
   (zb2 (RfE.c zdv))),?_⟩
 rintro as Qd a ⟨m,E,L,S,lv,tr,lev,rfl,hE,hL,hb,q⟩
 walk_at "ds"
 refine zct ?_
 refine ⟨λ μ U=>∃ s4,μ<=tr.length/\(∀ (i:Nat) s,μ<=i->tr[i]?=some s->¬(0 < lf L s/\lkp lv (hd E s)=some lev))/\U=[.bo (oS jA E L S),.bo (.dk (kN lv)),.io a (.li ((tr.take μ).map nI)),.sh (nI lev),s4],⟨tr.length,.un,u8 _,λ i s hi e=>?_,?_⟩,?_⟩
 ·rw [wH hi] at e;cases e
 ·rw [xM]
 rintro μ U ⟨s4,hμ,bad,rfl⟩
 obtain ⟨q0,q1⟩:=q μ hμ bad
 walk_at "dd"
 cases μ with
|zero =>
  simp only [k7,xQ,List.isEmpty_nil]
  walk_at "dd"
  exact ⟨_,rfl,q0 rfl⟩
|succ μ =>
  obtain ⟨s,hs⟩:∃ s,tr[μ]?=some s:=⟨tr[μ]'(by lia),u5 _⟩
  have hsm:=hb s (v8 hs)
  have el:((tr.take (μ+1)).map nI).length=μ+1:=by rw [u4,wF];lia
  have e1:((tr.take (μ+1)).map nI).isEmpty=false:=by
   rw [List.isEmpty_eq_false_iff]
   intro z
   rw [z] at el;simp at el
  have es:(tr.take (μ+1))[μ]?=some s:=by rw [j6 (by lia)];exact hs
  rw [e1]
  walk_at "dd"
  refine ze0 λ J hJ=>?_
  walk_at "dd"
  rw [el,show ((μ+1:Nat):Int) - 1=(μ:Int) by lia]
  refine ⟨_,zdb1 es,?_⟩
  walk_at "dd"
  refine hJ _ ?_
  clear hJ
  have next:¬(0 < lf L s/\lkp lv (hd E s)=some lev)->∃ m',m' < μ+1/\∃ s4,m'<=tr.length/\(∀ (i:Nat) s,m'<=i->tr[i]?=some s->¬(0 < lf L s/\lkp lv (hd E s)=some lev))/\([Sl.bo (oS jA E L S),Sl.bo (.dk (kN lv)),Sl.io a (.li ((tr.take (μ+1)).map nI).dropLast),Sl.sh (nI lev),Sl.sh (nI s)]:DSt)=[.bo (oS jA E L S),.bo (.dk (kN lv)),.io a (.li ((tr.take m').map nI)),.sh (nI lev),s4]:=λ hn=>by
   refine ⟨μ,by lia,.sh (nI s),by lia,λ i s' hi e=>?_,?_⟩
   ·rcases wS μ i with z|z
    ·exact bad i s' (by lia) e
    ·have:i=μ:=by lia
     subst this
     rw [hs] at e;cases e;exact hn
   ·rw [z8,el,yG,<- List.map_take,List.take_take,Nat.min_eq_left (by lia)]
  have pop:¬(0 < lf L s/\lkp lv (hd E s)=some lev)->∃ d,((tr.take (μ+1)).map nI)[((tr.take (μ+1)).map nI).length - 1]?=some d/\∃ m',m' < μ+1/\∃ s4,m'<=tr.length/\(∀ (i:Nat) s,m'<=i->tr[i]?=some s->¬(0 < lf L s/\lkp lv (hd E s)=some lev))/\([Sl.bo (oS jA E L S),Sl.bo (.dk (kN lv)),Sl.io a (.li ((tr.take (μ+1)).map nI).dropLast),Sl.sh (nI lev),Sl.sh (nI s)]:DSt)=[.bo (oS jA E L S),.bo (.dk (kN lv)),.io a (.li ((tr.take m').map nI)),.sh (nI lev),s4]:=λ hn =>
   ⟨nI s,by rw [el,yG,u6,es];rfl,next hn⟩
  refine ze0 λ J hJ=>?_
  walk_at "dd"
  refine ⟨_,zu71 hL hsm.1,?_⟩
  walk_at "dd"
  refine two (λ hp=>?_) λ hp=>hJ _ ?_
  ·obtain ⟨b,hbb⟩:=xA.mp (hsm.2 hp)
   refine ⟨_,zs41 hE hsm.1,?_⟩
   walk_at "dd"
   refine ⟨_,nI b,rfl,by rw [zpm,hbb];rfl,?_⟩
   walk_at "dd"
   refine two (λ he=>?_) λ he=>hJ _ ?_
   ·have:b=lev:=by lia
    subst this
    exact ⟨_,rfl,q1 s (by lia) (by rw [yG];exact hs) hp hbb⟩
   ·walk_at "dd"
    exact pop λ z=>by rw [hbb] at z;exact he (by have:=z.2;injection this with this;rw [this])
  ·walk_at "dd"
   exact pop λ z=>hp z.1
noncomputable def zn7 (C:Addr):DSpT:=λ as Q=>∃ (m:Nat) (E:List Nat) (L:List Int) (S:List (List Nat)) (p:List Nat),as=[.o (oS C E L S),.d (.list (p.map nI))]/\E.length=2 * m/\L.length=2 * m/\p≠[]/\p.length<=1000000/\(∀ s∈p,s < 2 * m) /\
 ∀ a,(∃ s∈p,a=lf L s)->(∀ s∈p,a<=lf L s)->Q (.fz .none) (oS C E (zl3 L p a) S)
theorem ztn (L:List Int) (p:List Nat) (s:Nat) (a:Int):zl3 L (p++[s]) a=zxk (zl3 L p a) s a:=by unfold zl3;rw [List.foldl_append];rfl
theorem zr6:FnScope ["self", "path", "amount", "step"] ["self", "path"] (zg0 zy2):=by exact ⟨rfl,rfl,rfl,by decide +kernel,rfl,by decide +kernel,by decide +kernel⟩
theorem zld (jE:Cls K jA) (T:TopMeth K jA "carry" "Stream.carry" zy2) (vD:mg "min"=none) (jG:NoAttr K jA "left"):MethD P w K mg base jA "carry" 1 ["self", "path"] (spT K (zn7 jA)):=by
 refine zi3 jE T zr6 (λ _ _ _ _ _ _ us hl=>by obtain ⟨_,_,rfl⟩:=ar2 hl;rfl) (zab λ as Qd h=>by obtain ⟨_,_,_,_,_,rfl,_⟩:=h;rfl) (zm3 ?_)
 intro f cdv A outer s H E hr
 have nd:=zr6.nd
 refine ⟨_,_,(zc0 (pset 2 nd (zh1 (zgr (K:=K) rfl rfl) rfl vD zf61 (zb0 (zk4 (sc:=zg0 zy2) (N:=["self", "path", "amount", "step"]) (own:=["step"]) (ix:=[0]) rfl rfl rfl (by exact ⟨rfl,by decide +kernel,by decide +kernel,by decide +kernel,by decide +kernel⟩) (pi_W (K:=K) rfl (pv 1)) (λ _ _ _ _=>⟨(pgn 0 (nds ["step", "self"])),zk3,(pix w K hr (zq0 (K:=K) rfl (pv 1) rfl) (pv 0))⟩)) zh0)))
   (zj0 (zw3 PassesOwn.never rfl (pi_W (K:=K) rfl (pv 1)) (pgn 3 nd) (zc0 (zoj (zq0 (K:=K) rfl (pv 0) rfl) (pv 3) (zdz (K:=K) (Room.units hr) rfl) (pv 2) zj41 (zwp (Room.units hr)))
   (zj0 (zoj (zq0 (K:=K) rfl (pv 0) rfl) (zr0 zk31 (pv 3) zf0) (zdz (K:=K) (Room.units hr) rfl) (pv 2) zep (zwp (Room.units hr)))))))),(zk0 (zz0 (zij zs91 (ze1 (RfE.v (RfF.e (ze4 (zau (za0 1)) (zw1 (i:=0) (n:=1) (by decide)) zh6 (zl0 r_ix (RfP.v (zy0 jE jG (zm0 1))) (za0 0))))) zj2)) (rgn 2))
   (zs3 (zuq (zi0 1)) (rgn 3) (zk0 (zcn (zy0 jE jG (zm0 0)) (zi0 3) (zi0 2))
   (zcn (zy0 jE jG (zm0 0)) (zl0 zgb1 (za0 3) rvi) (zi0 2))))),?_⟩
 rintro as Qd a ⟨m,E,L,S,p,rfl,hE,hL,hne,hz,hb,q⟩
 walk_at "ds"
 refine ze0 λ J hJ=>?_
 walk_at "dd"
 refine zrs (λ s=>.int (lf L s)) (by rw [sizeLine_eq];lia) (λ s hs=>?_) ?_
 ·walk_at "cs"
  walk_at "dd"
  exact ⟨_,zu71 hL (hb s hs),rfl⟩
 refine ⟨p.map (lf L),?_,by simpa using hne,λ M hM hx=>hJ _ ?_⟩
 ·rw [<- L4.ints_map (p.map (lf L)),wD];rfl
 clear hJ
 walk_at "dd"
 refine za2 (λ i U=>∃ s3,U=[.io a (oS jA E (zl3 L (p.take i) M) S),.sh (.list (p.map nI)),.sh (.int M),s3]) ⟨.un,rfl⟩ ?_ ?_
 ·rintro i s U' hs ⟨s3,rfl⟩
  have hsm:=hb s (v8 hs)
  have hl:(zl3 L (p.take i) M).length=2 * m:=by rw [zwa];exact hL
  rw [show p.take (i+1)=p.take i++[s] by rw [wZ,hs];rfl,ztn]
  generalize zl3 L (p.take i) M=L1 at hl ⊢
  walk_at "dd"
  refine ze0 λ J hJ=>?_
  walk_at "dd"
  have get:∀ {LL:List Int} {j:Nat},j < LL.length->(LL.map u9)[((j:Nat):Int).toNat]?=some (.int (lf LL j)):=λ {LL j} h=>by
   rw [vI,u6]
   unfold lf
   rw [vL,u5 h];rfl
  have ixn:∀ {LL:List Int} {j:Nat},j < LL.length->ixN (LL.map u9).length ((j:Nat):Int)=some j:=λ {LL j} h=>by
   unfold ixN
   rw [if_pos (by lia),if_pos (by rw [u4];lia),vI]
  refine ⟨by lia,_,get (by lia),?_⟩
  walk_at "dd"
  refine ⟨s,ixn (by lia),hJ _ ?_⟩
  clear hJ
  rw [show (L1.map u9).set s (.int (lf L1 s - M))=(L1.set s (lf L1 s - M)).map .int from (xN ..).symm]
  walk_at "dd"
  rw [ze01]
  have hx:xr s < 2 * m:=zi51 hsm
  refine ⟨by lia,_,get (by rw [vZ];lia),?_⟩
  walk_at "dd"
  refine ⟨xr s,ixn (by rw [vZ];lia),.sh (nI s),?_⟩
  rw [show ((L1.set s (lf L1 s - M)).map u9).set (xr s) (.int (lf (L1.set s (lf L1 s - M)) (xr s)+M))=((L1.set s (lf L1 s - M)).set (xr s) (lf (L1.set s (lf L1 s - M)) (xr s)+M)).map .int from (xN ..).symm]
  rw [zly (by lia),if_neg (λ z=>zm71 s z.symm)]
  rfl
 ·rintro U' ⟨s3,rfl⟩
  rw [xM]
  obtain ⟨s0,hs0,e0⟩:=vR.mp hM
  walk_at "dd"
  exact ⟨_,rfl,q M ⟨s0,hs0,e0.symm⟩ λ s hs=>hx _ (yU hs)⟩
end
section
variable {P:Program} {w:World} {K:Fg} {mg:Str->Option Value} {base:Heap} {jA:Addr}
noncomputable def zp3 (C:Addr):DSpT:=λ as Q=>∃ (n m:Nat) (E:List Nat) (L:List Int) (S:List (List Nat)) (src:Nat) (lv:List (Nat×Nat)) (row:List Nat) (lev:Nat),as=[.b (oS C E L S),.d (.list (row.map nI)),.o (.dk (kN lv))]/\n<=100000/\Net n m E S/\L.length=2 * m/\Bfs n m E L src lv row lev /\
 ∀ lv' row',Bfs n m E L src lv' row' (lev+1)->lv'.length=lv.length+row'.length->Q (.fz (.list (row'.map nI))) (.dk (kN lv'))
theorem zh3:FnScope ["self", "row", "told", "behind", "here", "step", "goal"] ["self", "row", "told"] (zg0 ze2):=by exact ⟨rfl,rfl,rfl,by decide +kernel,rfl,by decide +kernel,by decide +kernel⟩
theorem zc7 (jE:Cls K jA) (T:TopMeth K jA "row_behind" "Stream.row_behind" ze2) (jP:NoAttr K jA "steps") (jL:NoAttr K jA "ends") (jG:NoAttr K jA "left"):MethD P w K mg base jA "row_behind" 1 ["self", "row", "told"] (spT K (zp3 jA)):=by
 refine zi3 jE T zh3 (λ _ _ _ _ _ _ us hl=>by obtain ⟨_,_,_,rfl⟩:=ar3 hl;rfl) (zab λ as Qd h=>by obtain ⟨_,_,_,_,_,_,_,_,_,rfl,_⟩:=h;rfl) (zm3 ?_)
 intro f cdv A outer s H E hr
 have nd:=zh3.nd
 refine ⟨_,_,(zc0 (pset 3 nd (zo1 zh0))
   (zc0 (zw3 PassesOwn.never rfl (pi_W (K:=K) rfl (pv 1)) (pgn 4 nd) (zj0 (zw3 PassesOwn.never rfl (pi_W (K:=K) rfl (pix w K hr (zq0 (K:=K) rfl (pv 0) rfl) (pv 4))) (pgn 5 nd) (zc0 (pset 6 nd (pix w K hr (zq0 (K:=K) rfl (pv 0) rfl) (pv 5)))
   (zj0 (zr8 (PW.pt (zbp (zt0 zpo (pix w K hr (zq0 (K:=K) rfl (pv 0) rfl) (pv 5)) zf0 (zm1 _)) (zmh (zt0 (zar (w:=w) (K:=K) (Room.units hr) rfl rfl) (pv 6) (pv 2) (by with_unfolding_all rfl))))) (zc0 (zxd (zr0 (zp0 (K:=K) rfl) (pix w K hr (pv 2) (pv 4)) zf0) (zqn (pv 2) (pv 6) (zwp (Room.units hr))))
   (zj0 (zk1 (zj4 (K:=K) rfl PySem.F.plainAttrs_list PySem.F.slot_list_append PySem.F.type_list_append zc1 (pv 3) (zb0 (pv 6) zh0))))) zi1))))))
   (zj0 (zg1 (pv 3))))),(zk0 (zf2 (RfF.c (zg3 zn0)))
   (zk0 (zs3 (zuq (zi0 1)) (rgn 4) (zs3 (zuq (zl0 r_ix (RfP.v (zy0 jE jP (zm0 0))) (za0 4))) (rgn 5) (zk0 (zz0 (zl0 r_ix (RfP.v (zy0 jE jL (zm0 0))) (za0 5)) (rgn 6))
   (ze9 (zto (zs0 (zl0 r_gt (RfE.v (zl0 r_ix (RfP.v (zy0 jE jG (zm0 0))) (za0 5))) rvi)) (zs0 (zzz (zi0 6) (zm0 2)))) (zk0 (zmp (zl0 zv2 (RfE.v (zrp (zm0 2) (zi0 4))) rvi) (zm0 2) (zi0 6))
   (zl1 (zjj zh7 (zm0 3) (zd0 (zi0 6) zn0)))) zj1))))
   (znc 3 [] (zf8 (i:=3))))),?_⟩
 rintro as Qd a ⟨n,m,E,L,S,src,lv,row,lev,rfl,hn,N,hL,B,q⟩
 walk_at "ds"
 refine ze0 λ J hJ=>?_
 walk_at "dd"
 refine hJ _ ?_
 clear hJ
 refine ze0 λ J hJ=>?_
 walk_at "dd"
 refine za2 (λ i U=>∃ lv1 beh s4 s5 s6,Mid n m E L lv lev lv1 beh/\(∀ v∈row.take i,∀ l,S[v]?=some l->∀ s∈l,0 < lf L s->(lkp lv1 (hd E s)).isSome=true) /\
  U=[.bo (oS jA E L S),.sh (.list (row.map nI)),.io a (.dk (kN lv1)),.ow (.li (beh.map nI)),s4,s5,s6]) ⟨lv,[],.un,.un,.un,Mid.start B,λ v hv=>by simp at hv,rfl⟩ ?_ ?_
 ·rintro i v U hv ⟨lv1,beh,s4,s5,s6,M,cl,rfl⟩
  have hvr:=v8 hv
  have hvl:=M.old _ _ (B.ro v hvr)
  have hvn:=B.bd _ (zyo (B.ro v hvr))
  obtain ⟨l,hl⟩:∃ l,S[v]?=some l:=⟨S[v]'(by rw [N.lS];exact hvn),u5 _⟩
  walk_at "dd"
  refine ⟨_,znc1 hl,?_⟩
  walk_at "dd"
  refine za2 (λ j U=>∃ lv1 beh s5 s6,Mid n m E L lv lev lv1 beh/\(∀ v∈row.take i,∀ l,S[v]?=some l->∀ s∈l,0 < lf L s->(lkp lv1 (hd E s)).isSome=true)/\(∀ s∈l.take j,0 < lf L s->(lkp lv1 (hd E s)).isSome=true) /\
   U=[.bo (oS jA E L S),.sh (.list (row.map nI)),.io a (.dk (kN lv1)),.ow (.li (beh.map nI)),.sh (nI v),s5,s6]) ⟨lv1,beh,s5,s6,M,cl,λ s hs=>by simp at hs,rfl⟩ ?_ ?_
  ·clear M hvl cl lv1 beh s4 s5 s6
   rintro j s U hs ⟨lv1,beh,s5,s6,M,cl,cj,rfl⟩
   have hvl:=M.old _ _ (B.ro v hvr)
   have hsl:=v8 hs
   obtain ⟨hsm,hst⟩:=N.s1 v l hl s hsl
   have hz:lv1.length<=n:=by
    have:=za1 n (lv1.map (·.1)) M.nd (λ x hx=>by obtain ⟨p,hp,rfl⟩:=vR.mp hx;exact M.bd p hp)
    rwa [u4] at this
   have hz2:=M.len
   have tk:∀ x∈l.take (j+1),x∈l.take j \/ x=s:=λ x hx=>by
    rw [wZ,hs] at hx
    rcases vK.mp hx with z|z
    ·exact .inl z
    ·simp at z;exact .inr z
   walk_at "dd"
   refine ze0 λ J2 hJ2=>?_
   walk_at "dd"
   refine ⟨_,zs41 N.lE hsm,?_⟩
   walk_at "dd"
   refine hJ2 _ ?_
   clear hJ2
   walk_at "dd"
   refine ⟨_,zu71 hL hsm,?_⟩
   walk_at "dd"
   refine two (λ hp=>?_) λ hp=>?_
   ·rw [yQ]
    refine two (λ hg=>?_) λ hg=>?_
    ·have hg:lkp lv1 (hd E s)=none:=by simpa using hg
     refine ze0 λ J2 hJ2=>?_
     walk_at "dd"
     refine ⟨_,nI lev,rfl,by rw [zpm,hvl];rfl,?_⟩
     walk_at "dd"
     refine ⟨by rw [kN,u4];lia,hJ2 _ ?_⟩
     clear hJ2
     rw [show (u9 ((lev:Int)+1))=nI (lev+1) from rfl,zc21 hg]
     walk_at "dd"
     refine ⟨by rw [u4];lia,lv1++[(hd E s,lev+1)],beh++[hd E s],_,_,M.put hsm hp (by rw [hst];exact hvl) (N.bE s hsm) hg,λ u hu k hk x hx hp'=>?_,λ x hx hx0=>?_,by rw [vX];rfl⟩
     ·obtain ⟨b,hb⟩:=xA.mp (cl u hu k hk x hx hp')
      rw [zqe,hb];rfl
     ·rcases tk x hx with z|z
      ·obtain ⟨b,hb⟩:=xA.mp (cj x z hx0)
       rw [zqe,hb];rfl
      ·rw [z,zqe,hg];simp
    ·exact ⟨lv1,beh,_,_,M,cl,λ x hx hx0=>(tk x hx).elim (λ z=>cj x z hx0) λ z=>by rw [z];cases q:lkp lv1 (hd E s) with|none=>exact absurd (by rw [q];rfl) hg|some b=>rfl,rfl⟩
   ·exact ⟨lv1,beh,_,_,M,cl,λ x hx hx0=>(tk x hx).elim (λ z=>cj x z hx0) λ z=>absurd (z ▸ hx0) hp,rfl⟩
  ·rintro U ⟨lv1,beh,s5,s6,M,cl,cj,rfl⟩
   refine ⟨lv1,beh,_,_,_,M,λ u hu k hk s hs hp=>?_,rfl⟩
   rw [wZ,hv] at hu
   rcases vK.mp hu with z|z
   ·exact cl u z k hk s hs hp
   ·simp at z;subst z
    rw [hl] at hk;cases hk
    rw [xM] at cj
    exact cj s hs hp
 ·rintro U ⟨lv1,beh,s4,s5,s6,M,cl,rfl⟩
  rw [xM] at cl
  refine hJ _ ?_
  walk_at "dd"
  refine ⟨_,_,rfl,rfl,?_⟩
  exact ⟨_,rfl,q _ _ (Mid.bfs N B M cl) M.len⟩
noncomputable def zp6 (C:Addr):DSpT:=λ as Q=>∃ (n m:Nat) (E:List Nat) (L:List Int) (S:List (List Nat)) (src:Nat),as=[.b (oS C E L S),.d (nI src)]/\n<=100000/\Net n m E S/\L.length=2 * m/\src < n /\
 ∀ lv,Lev n m E L src lv->∀ t,Q (.dk (kN lv)) t
theorem zn5:FnScope ["self", "source", "told", "row"] ["self", "source"] (zg0 zq3):=by exact ⟨rfl,rfl,rfl,by decide +kernel,rfl,by decide +kernel,by decide +kernel⟩
theorem zka (jE:Cls K jA) (T:TopMeth K jA "levels" "Stream.levels" zq3) (kG:MethD P w K mg base jA "row_behind" 1 ["self", "row", "told"] (spT K (zp3 jA))):MethD P w K mg base jA "levels" 2 ["self", "source"] (spT K (zp6 jA)):=by
 refine zi3 jE T zn5 (λ _ _ _ _ _ _ us hl=>by obtain ⟨_,_,rfl⟩:=ar2 hl;rfl) (zab λ as Qd h=>by obtain ⟨_,_,_,_,_,_,rfl,_⟩:=h;rfl) (zm3 ?_)
 intro f cdv A outer s H E hr
 have nd:=zn5.nd
 refine ⟨_,_,(zc0 (pset 2 nd (zi11 (zrv (pv 1) zf0 zd41) rfl rfl (by simp) (by decide)))
   (zc0 (pset 3 nd (zo1 (zb0 (pv 1) zh0)))
   (zc0 (zqa PassesOwn.never (zuc (K:=K) rfl (pv 3) (λ _=>rfl)) (zj0 (pset 3 nd (zt3 kG (rmn hr) (pv 0) (zb0 (pv 3) (zb0 (pv 2) zh0))))))
   (zj0 (zg1 (pv 2)))))),(zk0 (zf2 (zg81 (zi0 1) zq1))
   (zk0 (zz0 (RfF.e (zg3 (zd0 (zi0 1) zn0))) (rgn 3))
   (zk0 (zub (zpn (za0 3)) (zf2 (zv4 false (zm0 0) (at_d (zi0 3) (at_o (zm0 2) zw2)))))
   (zf8 (i:=2))))),?_⟩
 rintro as Qd a ⟨n,m,E,L,S,src,rfl,hn,N,hL,hs,q⟩
 walk_at "ds"
 refine ze0 λ J hJ=>?_
 walk_at "dd"
 refine hJ _ ?_
 clear hJ
 refine ze0 λ J hJ=>?_
 walk_at "dd"
 refine hJ _ ?_
 clear hJ
 refine zct ?_
 refine ⟨λ μ U=>∃ lv row lev,Bfs n m E L src lv row lev/\μ=2 * (n - lv.length)+(if row=[] then 0 else 1)/\U=[.bo (oS jA E L S),.sh (nI src),.ow (.dk (kN lv)),.sh (.list (row.map nI))],⟨_,[(src,0)],[src],0,Bfs.start hs,rfl,rfl⟩,?_⟩
 rintro μ U ⟨lv,row,lev,B,rfl,rfl⟩
 walk_at "dd"
 refine two (λ hr0=>?_) λ hr0=>?_
 ·refine ⟨n,m,E,L,S,src,lv,row,lev,rfl,hn,N,hL,B,λ lv' row' B' e=>⟨_,?_,lv',row',lev+1,B',rfl,rfl⟩⟩
  have hz:=za1 n (lv'.map (·.1)) B'.nd (λ x hx=>by obtain ⟨p,hp,rfl⟩:=vR.mp hx;exact B'.bd p hp)
  rw [u4] at hz
  have hr1:row≠[]:=λ z=>by rw [z] at hr0;cases hr0
  rw [if_neg hr1]
  by_cases z:row'=[]
  ·subst z;rw [if_pos rfl];simp at e;lia
  ·have:=List.length_pos_iff.mpr z
   rw [if_neg z];lia
 ·have hr1:row=[]:=by
   cases row with
  |nil=>rfl
  |cons x r=>exact absurd rfl hr0
  subst hr1
  exact q lv B.lev _
end
section
variable {P:Program} {w:World} {K:Fg} {mg:Str->Option Value} {base:Heap} {jA:Addr}
noncomputable abbrev tT (TT:List (List Nat)):L4.T:=.ls (TT.map λ l=>.li (l.map nI))
theorem setT {TU:List (List Nat)} {v:Nat} (x:List Nat):(TU.map λ l=>L4.T.li (l.map nI)).set v (.li (x.map nI))=(TU.set v x).map λ l=>L4.T.li (l.map nI):=by rw [xN]
noncomputable def zn6 (C:Addr):DSpT:=λ as Q=>∃ (n m:Nat) (E:List Nat) (L:List Int) (S:List (List Nat)) (lv:List (Nat×Nat)) (TT:List (List Nat)) (src snk:Nat),as=[.b (oS C E L S),.b (.dk (kN lv)),.o (tT TT),.d (nI src),.d (nI snk)]/\m<=400000/\Net n m E S/\L.length=2 * m/\src < n/\src≠snk/\lkp lv src=some 0 /\
 (∀ s,s < 2 * m->0 < lf L s->(lkp lv (tl E s)).isSome=true->(lkp lv (hd E s)).isSome=true)/\Tri m E S L lv snk TT /\
 (∀ TT',¬ Rch m E L lv snk src->Q (.fz (.list [])) (tT TT'))/\∀ p TT',Tri m E S L lv snk TT'->Way m E L lv src p snk->Q (.fz (.list (p.map nI))) (tT TT')
theorem zb5:FnScope ["self", "levels", "tries", "source", "sink", "path", "here", "step"] ["self", "levels", "tries", "source", "sink"] (zg0 zx3):=by exact ⟨rfl,rfl,rfl,by decide +kernel,rfl,by decide +kernel,by decide +kernel⟩
theorem zgb (jE:Cls K jA) (T:TopMeth K jA "way_up" "Stream.way_up" zx3) (jL:NoAttr K jA "ends") (kR:MethD P w K mg base jA "step_up" 1 ["self", "levels", "steps", "level"] (spT K (zw5 jA))):MethD P w K mg base jA "way_up" 2 ["self", "levels", "tries", "source", "sink"] (spT K (zn6 jA)):=by
 refine zi3 jE T zb5 (λ _ _ _ _ _ _ us hl=>by obtain ⟨_,_,_,_,_,rfl⟩:=ar5 hl;rfl) (zab λ as Qd h=>by obtain ⟨_,_,_,_,_,_,_,_,_,rfl,_⟩:=h;rfl) (zm3 ?_)
 intro f cdv A outer s H E hr
 have nd:=zb5.nd
 refine ⟨_,_,(zc0 (pset 5 nd (zo1 zh0))
   (zc0 (pset 6 nd (pv 3))
   (zc0 (zqa PassesOwn.never (zt0 (zso (K:=K) rfl (Room.units hr)) (pv 6) (pv 4) (zm1 _)) (zc0 (pset 7 nd (zt3 kR (rmn hr) (pv 0) (zb0 (pv 1) (zb0 (pix w K hr (pv 2) (pv 6)) (zb0 (zr0 (zp0 (K:=K) rfl) (pix w K hr (pv 1) (pv 6)) zf0) zh0)))))
   (zj0 (zr8 (zt0 zv31 (pv 7) zcy (zm1 _)) (zc0 (zk1 (zj4 (K:=K) rfl PySem.F.plainAttrs_list PySem.F.slot_list_append PySem.F.type_list_append zc1 (pv 5) (zb0 (pv 7) zh0)))
   (zj0 (pset 6 nd (pix w K hr (zq0 (K:=K) rfl (pv 0) rfl) (pv 7))))) (zj0 (zr8 (zuc (K:=K) rfl (pv 5) (λ _=>rfl)) (zc0 (pset 6 nd (pix w K hr (zq0 (K:=K) rfl (pv 0) rfl) (zr0 zk31 (zkq (K:=K) rfl PySem.F.plainAttrs_list PySem.F.slot_list_pop PySem.F.type_list_pop zkw (pv 5)) zf0)))
   (zj0 (zk1 (zkq (K:=K) rfl PySem.F.plainAttrs_list PySem.F.slot_list_pop PySem.F.type_list_pop zkw (pix w K hr (pv 2) (pv 6)))))) (zj0 (zg1 (pv 5)))))))))
   (zj0 (zg1 (pv 5)))))),(zk0 (zf2 (RfF.c (zg3 zn0)))
   (zk0 (zz0 (zi0 3) (rgn 6))
   (zk0 (zub (zs0 (ze5 q_ne (RfV.h (za0 6)) (RfV.h (za0 4)))) (zk0 (zf2 (zv4 false (zm0 0) (at_b (zm0 1) (at_o (zkx (zm0 2) (zi0 6)) (at_d (zl0 zv2 (RfE.v (zrp (zm0 1) (zi0 6))) rvi) zw2)))))
   (ze9 (zs0 (zl0 zl71 (za0 7) (RfE.v zdv))) (zk0 (zl1 (zjj zh7 (zm0 5) (zd0 (zi0 7) zn0)))
   (zz0 (zl0 r_ix (RfP.v (zy0 jE jL (zm0 0))) (za0 7)) (rgn 6))) (ze9 (zpn (za0 5)) (zk0 (zf2 (zc31 (RfP.e (zy0 jE jL (zm0 0))) zgb1 (zyv zmw (zm0 5)) zq1))
   (zl1 (zyv zmw (zkx (zm0 2) (zi0 6))))) (znc 5 [] (zf8 (i:=5)))))))
   (znc 5 [] (zf8 (i:=5)))))),?_⟩
 rintro as Qd a ⟨n,m,E,L,S,lv,TT,src,snk,rfl,hm,N,hL,hsn,hss,l0,cl,tri,q0,q1⟩
 walk_at "ds"
 refine ze0 λ J hJ=>?_
 walk_at "dd"
 refine hJ _ ?_
 clear hJ
 refine ze0 λ J hJ=>?_
 walk_at "dd"
 refine hJ _ ?_
 clear hJ
 refine zct ?_
 refine ⟨λ μ U=>∃ p here TT s7,Go m E S L lv snk src p here TT/\μ=szT TT * (2 * m+2)+(2 * m+1 - p.length)/\U=[.bo (oS jA E L S),.bo (.dk (kN lv)),.io a (tT TT),.sh (nI src),.sh (nI snk),.ow (.li (p.map nI)),.sh (nI here),s7],
  ⟨_,[],src,TT,.un,⟨tri,rfl,l0,λ s hs=>by simp at hs⟩,rfl,rfl⟩,?_⟩
 rintro μ U ⟨p,here,TU,s7,g,rfl,rfl⟩
 have hpl:=g.short g.way.lt
 have hln:p.length=p.length:=rfl
 walk_at "dd"
 refine two (λ hne=>?_) λ hne=>?_
 ·have hne:here≠snk:=λ z=>hne (by rw [z])
  obtain ⟨k,hk⟩:∃ k,TU[here]?=some k:=by
   have:here < n:=by
    cases p with
   |nil=>have e:src=here:=g.way;rw [<- e];exact hsn
   |cons x r =>
     obtain ⟨y,hy⟩:∃ y,(x :: r).getLast?=some y:=⟨_,uaJ⟩
     obtain ⟨r0,e⟩:=uaK.mp hy
     have gw:=g.way
     rw [e] at gw
     obtain ⟨_,w2,w3,_⟩:=gw.unsnoc
     rw [<- w2];exact N.bE y w3
   exact ⟨TU[here]'(by rw [g.tri.len,N.lS];exact this),u5 _⟩
  have hkl:=zhi hk
  have gT:(TU.map λ l=>L4.T.li (l.map nI))[here]?=some (L4.T.li (k.map nI)):=by rw [u6,hk];rfl
  refine ze0 λ J hJ=>?_
  walk_at "dd"
  refine ⟨here,.li (k.map nI),by rw [u4];exact zve hkl,by rw [u6,hk];rfl,_,nI p.length,rfl,by rw [zpm,g.lev];rfl,?_⟩
  walk_at "dd"
  refine ⟨m,E,L,S,lv,k,p.length+1,rfl,N.lE,hL,λ s hs=>?_,λ j hj bad=>⟨λ h0=>hJ _ ?_,λ s h0 hs hp hlv=>hJ _ ?_⟩⟩
  ·obtain ⟨k2,h1,h2⟩:=g.tri.pre here k hk
   obtain ⟨hsm,hst⟩:=N.s1 here k2 h1 s (h2.subset hs)
   exact ⟨hsm,λ hp=>cl s hsm hp (by rw [hst,g.lev];rfl)⟩
  ·subst h0
   have eT:(TU.map λ l=>L4.T.li (l.map nI)).set here (.li [])=(TU.set here []).map λ l=>L4.T.li (l.map nI):=setT []
   rw [gT]
   simp only []
   rw [eT]
   walk_at "dd"
   refine two (λ hp=>?_) λ hp=>?_
   ·obtain ⟨y,hy⟩:∃ y,p.getLast?=some y:=by
     cases p with
    |nil=>cases hp
    |cons x r=>exact ⟨_,uaJ⟩
    obtain ⟨p0,rfl⟩:=uaK.mp hy
    obtain ⟨hym,k2,hk2,g2,hsz⟩:=g.back N hk hne bad
    refine ze0 λ J hJ=>?_
    walk_at "dd"
    refine ⟨nI y,by simp,?_⟩
    walk_at "dd"
    rw [ze01]
    refine ⟨_,zs41 N.lE (zi51 hym),hJ _ ?_⟩
    clear hJ
    rw [show (wW nI (p0++[y])).dropLast=p0.map nI by rw [vX];exact uaL,zr21]
    have hz2:=zhi hk2
    have gT2:((TU.set here []).map λ l=>L4.T.li (l.map nI))[tl E y]?=some (L4.T.li ((k2++[y]).map nI)):=by rw [u6,hk2];rfl
    walk_at "dd"
    refine ⟨tl E y,_,by rw [u4];exact zve hz2,gT2,?_⟩
    walk_at "dd"
    refine ⟨nI y,by simp,_,?_,p0,tl E y,_,.sh .none,g2,rfl,?_⟩
    ·have:=yX (2 * m+2) hsz
     rw [xV] at this
     rw [vJ]
     simp only [yM]
     lia
    ·rw [gT2,show (wW nI (k2++[y])).dropLast=k2.map nI by rw [vX];exact uaL]
     simp only []
     rw [setT]
   ·have hp:p=[]:=by
     cases p with
    |nil=>rfl
    |cons x r=>exact absurd rfl hp
    subst hp
    exact ⟨_,_,rfl,rfl,_,rfl,q0 _ (g.dead N hk hne bad)⟩
  ·rw [gT]
   simp only []
   rw [setT]
   obtain ⟨g2,hsz,hsm⟩:=g.fwd N hk h0 hj bad hs hp hlv
   walk_at "dd"
   refine ze0 λ J hJ=>?_
   walk_at "dd"
   refine ⟨by rw [u4];lia,hJ _ ?_⟩
   clear hJ
   walk_at "dd"
   refine ⟨_,zs41 N.lE hsm,?_⟩
   walk_at "dd"
   refine ⟨_,?_,p++[s],hd E s,TU.set here (k.take j),_,g2,rfl,by rw [vX];rfl⟩
   rw [vJ]
   have:=yX (2 * m+2) hsz
   simp only [yM]
   lia
 ·have hne:here=snk:=by lia
  subst hne
  exact ⟨_,_,rfl,rfl,_,rfl,q1 p TU g.tri g.way⟩
end
section
variable {P:Program} {w:World} {K:Fg} {mg:Str->Option Value} {base:Heap} {jA:Addr}
noncomputable def zo5 (C:Addr):DSpT:=λ as Q=>∃ (n m:Nat) (most:Nat->Int) (E:List Nat) (L:List Int) (S:List (List Nat)) (lv:List (Nat×Nat)) (src snk:Nat),as=[.o (oS C E L S),.b (.dk (kN lv)),.d (nI src),.d (nI snk)]/\n<=100000/\m<=400000/\Net n m E S/\Cap m most L/\src < n/\src≠snk/\Lev n m E L src lv/\(lkp lv snk).isSome=true /\
 ∀ L',Up m most E L L' src snk->bal m E L snk < bal m E L' snk->Q (.fz .none) (oS C E L' S)
theorem zt4:FnScope ["self", "levels", "source", "sink", "tries", "path"] ["self", "levels", "source", "sink"] (zg0 zd2):=by exact ⟨rfl,rfl,rfl,by decide +kernel,rfl,by decide +kernel,by decide +kernel⟩
theorem zy9 (jE:Cls K jA) (T:TopMeth K jA "push_up" "Stream.push_up" zd2) (kD:mg "list"=none) (jP:NoAttr K jA "steps") (kI:MethD P w K mg base jA "way_up" 2 ["self", "levels", "tries", "source", "sink"] (spT K (zn6 jA))) (qK:MethD P w K mg base jA "carry" 1 ["self", "path"] (spT K (zn7 jA))):MethD P w K mg base jA "push_up" 3 ["self", "levels", "source", "sink"] (spT K (zo5 jA)):=by
 refine zi3 jE T zt4 (λ _ _ _ _ _ _ us hl=>by obtain ⟨_,_,_,_,rfl⟩:=ar4 hl;rfl) (zab λ as Qd h=>by obtain ⟨_,_,_,_,_,_,_,_,_,rfl,_⟩:=h;rfl) (zm3 ?_)
 intro f cdv A outer s H E hr
 have nd:=zt4.nd
 refine ⟨_,_,(zc0 (zd4 (i:=4) (sc:=zg0 zd2) (N:=["self", "levels", "source", "sink", "tries", "path"]) (own:=["steps"]) (ix:=[]) rfl rfl rfl (by exact ⟨rfl,by decide +kernel,by decide +kernel,by decide +kernel,by decide +kernel⟩) nd rfl rfl (pi_W (K:=K) rfl (zq0 (K:=K) rfl (pv 0) rfl)) (λ _ _ _ _=>⟨(pgn 0 (nds ["steps"])),zk3,(zh4 (ze3 (K:=K) rfl) rfl kD zx8 (zb0 (pv 0) zh0))⟩))
   (zc0 (pset 5 nd (zt3 kI (rmn hr) (pv 0) (zb0 (pv 1) (zb0 (pv 4) (zb0 (pv 2) (zb0 (pv 3) zh0))))))
   (zj0 (zqa PassesOwn.never (zuc (K:=K) rfl (pv 5) (λ _=>rfl)) (zc0 (zk1 (zt3 qK (rmn hr) (pv 0) (zb0 (pv 5) zh0)))
   (zj0 (pset 5 nd (zt3 kI (rmn hr) (pv 0) (zb0 (pv 1) (zb0 (pv 4) (zb0 (pv 2) (zb0 (pv 3) zh0)))))))))))),(zk0 (zf2 (RfN.c (zxi (zau (RfP.v (zy0 jE jP (zm0 0)))) (zw1 (i:=0) (n:=1) (by decide)) (RfF.new (zmy zol (ze1 (za0 0) zj2))))))
   (zk0 (zf2 (zv4 false (zm0 0) (at_b (zm0 1) (at_o (zm0 4) (at_d (zi0 2) (at_d (zi0 3) zw2))))))
   (zub (zpn (za0 5)) (zk0 (zl1 (zv4 true (zm0 0) (at_d (zi0 5) zw2)))
   (zf2 (zv4 false (zm0 0) (at_b (zm0 1) (at_o (zm0 4) (at_d (zi0 2) (at_d (zi0 3) zw2)))))))))),?_⟩
 rintro as Qd a ⟨n,m,most,E,L,S,lv,src,snk,rfl,hn,hm,N,c,hsn,hss,hv,ht,q⟩
 walk_at "ds"
 refine ze0 λ J hJ=>?_
 walk_at "dd"
 refine zxp (λ l=>.li (l.map nI)) (by rw [sizeLine_eq,N.lS];lia) (λ l hl=>?_) (hJ _ ?_)
 ·walk_at "cs"
  walk_at "dd"
 clear hJ
 obtain ⟨b0,hb0⟩:=xA.mp ht
 have rch:Rch m E L lv snk src:=zih hv b0 snk hb0 .here
 refine ze0 λ J hJ=>?_
 walk_at "dd"
 refine ⟨n,m,E,L,S,lv,S,src,snk,rfl,hm,N,c.len,hsn,hss,hv.l0,hv.cl,Tri.all,λ TT' h=>absurd rch h,λ p TT' tri hw=>hJ _ ?_⟩
 clear hJ
 refine ⟨λ μ U=>∃ L' p TT,Up m most E L L' src snk/\(p≠[]->Tri m E S L' lv snk TT)/\(∀ s,s < 2 * m->0 < lf L' s->(lkp lv (tl E s)).isSome=true->(lkp lv (hd E s)).isSome=true) /\
   bal m E L snk<=bal m E L' snk/\(p=[]->bal m E L snk < bal m E L' snk)/\(p≠[]->Way m E L' lv src p snk)/\μ=(tot m most - bal m E L' snk).toNat/\U=[.io a (oS jA E L' S),.bo (.dk (kN lv)),.sh (nI src),.sh (nI snk),.ow (tT TT),.sh (.list (p.map nI))],
  ⟨_,L,p,TT',Up.refl c,λ _=>tri,hv.cl,xC _,λ z=>?_,λ _=>hw,rfl,rfl⟩,?_⟩
 ·subst z;exact absurd hw hss
 clear tri hw TT' p
 rintro μ U ⟨L',p,TT,up,tri,cl,le,hlt,hw,rfl,rfl⟩
 walk_at "dd"
 refine two (λ hp=>?_) λ hp=>?_
 ·have hp:p≠[]:=λ z=>by rw [z] at hp;cases hp
  have hw:=hw hp
  refine ze0 λ J hJ=>?_
  walk_at "dd"
  have hpl:p.length<=2 * m:=za1 _ p (hw.nodup hv.l0).1 hw.lt
  refine ⟨m,E,L',S,p,rfl,N.lE,up.cap.len,hp,by lia,hw.lt,λ am ham hmin=>hJ _ ?_⟩
  clear hJ
  obtain ⟨s0,hs0,e0⟩:=ham
  have pos:0 < am:=by
   rw [e0]
   obtain ⟨_,hadm⟩:True/\∀ {v:Nat} {p:List Nat} {t:Nat},Way m E L' lv v p t->∀ s∈p,0 < lf L' s:=⟨trivial,by
    intro v p
    induction p generalizing v with
   |nil=>intro t _ s hs;simp at hs
   |cons x r ih =>
     intro t h s hs
     rcases vN.mp hs with z|z
     ·rw [z];exact h.2.2.1.1
     ·exact ih h.2.2.2 s z⟩
   exact hadm hw s0 hs0
  have up2:=up.trans (Up.carry up.cap hw hv.l0 (by lia) hmin)
  have hb:bal m E (zl3 L' p am) snk=bal m E L' snk+am:=by
   rw [zl7 up.cap.len hw,if_pos rfl,if_neg hss];lia
  have hle:=zg21 (E:=E) up2.cap snk
  have cl2:=zir up.cap.len hw hv.l0 cl (a:=am) (by lia)
  have tri2:Tri m E S (zl3 L' p am) lv snk TT:=(tri hp).mono (zls up.cap.len hw hv.l0 (by lia)) λ v k h s hs=>(N.s1 v k h s hs).1
  generalize zl3 L' p am=L2 at *
  walk_at "dd"
  refine ⟨n,m,E,L2,S,lv,TT,src,snk,rfl,hm,N,up2.cap.len,hsn,hss,hv.l0,cl2,tri2,λ TT' h=>?_,λ p' TT' tri' hw'=>?_⟩
  ·exact ⟨_,by lia,L2,[],TT',up2,λ z=>absurd rfl z,cl2,by lia,λ _=>by lia,λ z=>absurd rfl z,rfl,rfl⟩
  ·exact ⟨_,by lia,L2,p',TT',up2,λ _=>tri',cl2,by lia,λ _=>by lia,λ _=>hw',rfl,rfl⟩
 ·have hp:p=[]:=by
   cases p with
  |nil=>rfl
  |cons x r=>exact absurd rfl hp
  exact ⟨_,rfl,q L' up (hlt hp)⟩
end
section
variable {P:Program} {w:World} {K:Fg} {mg:Str->Option Value} {base:Heap} {jA:Addr}
noncomputable def zx5 (C:Addr):DSpT:=λ as Q=>∃ (m:Nat) (E:List Nat) (L:List Int) (S:List (List Nat)),as=[.b (oS C E L S)]/\L.length=2 * m/\m<=400000/\∀ t,Q (.fz (.list ((u3 m).map λ k=>.int (lf L (2 * k+1))))) t
theorem zl4:FnScope ["self"] ["self"] (zg0 zb3):=by exact ⟨rfl,rfl,rfl,by decide +kernel,rfl,by decide +kernel,by decide +kernel⟩
theorem zo9 (jE:Cls K jA) (T:TopMeth K jA "amounts" "Stream.amounts" zb3) (jG:NoAttr K jA "left"):MethD P w K mg base jA "amounts" 1 ["self"] (spT K (zx5 jA)):=by
 refine zi3 jE T zl4 (λ _ _ _ _ _ _ us hl=>by obtain ⟨_,rfl⟩:=ar1 hl;rfl) (zab λ as Qd h=>by obtain ⟨_,_,_,_,rfl,_⟩:=h;rfl) (zm3 ?_)
 intro f cdv A outer s H E hr
 have nd:=zl4.nd
 refine ⟨_,_,(zj0 (zg1 (zef (K:=K) rfl (zq0 (K:=K) rfl (pv 0) rfl) (za5 zf0) zio (za5 zf0)))),(zb2 (RfE.c (RfF.e (zwx (RfP.v (zy0 jE jG (zm0 0))) (za9 zq1) zcp (za9 zq1))))),?_⟩
 rintro as Qd a ⟨m,E,L,S,rfl,hL,hm,q⟩
 walk_at "ds"
 walk_at "dd"
 rw [zrx hL]
 exact q _
noncomputable def zm4 (C:Addr):DSpT:=λ as Q=>∃ (n:Nat) (A:List Ar) (f:List Int),as=[.o (.ob C []),.d (nI n),.d (.list (A.map dAr)),.d (.list (f.map .int))]/\f.length=A.length/\n<=100000/\A.length<=400000/\(∀ a∈A,a.1 < n/\a.2.1 < n) /\
 ∀ S,Net n A.length (zi5 A) S->Q (.fz .none) (.ob C [("ends",.li ((zi5 A).map nI)),("left",.li ((zq9 A f).map .int)),("steps",tT S)])
theorem zc4:FnScope ["self", "count", "arcs", "flow", "number", "arc"] ["self", "count", "arcs", "flow"] (zg0 zx1):=by exact ⟨rfl,rfl,rfl,by decide +kernel,rfl,by decide +kernel,by decide +kernel⟩
theorem zw8 (M:Md K mg) (cT:TopCls K "Stream" jA) (T:TopMeth K jA "__init__" "Stream.__init__" zx1) (jR:mg "enumerate"=none) (jJ:mg "range"=none) (jL:NoAttr K jA "ends") (jG:NoAttr K jA "left") (jP:NoAttr K jA "steps"):zzn P w K mg base "Stream" jA 1 ["self", "count", "arcs", "flow"] (spT K (zm4 jA)):=by
 have jE:=cT.cls
 refine zxh M cT T zc4 (λ _ _ _ _ _ _ us hl=>by obtain ⟨_,_,_,_,rfl⟩:=ar4 hl;rfl) (zab λ as Qd h=>by obtain ⟨_,_,_,rfl,_⟩:=h;rfl) (zm3 ?_)
 intro f cdv A outer s H E hr
 have nd:=zc4.nd
 refine ⟨_,_,(zc0 (zr5 (pv 0) (zo1 zh0) rfl)
   (zc0 (zr5 (pv 0) (zo1 zh0) rfl)
   (zc0 (zr5 (pv 0) (zk4 (sc:=zg0 zx1) (N:=["self", "count", "arcs", "flow", "number", "arc"]) (own:=["number"]) (ix:=[]) rfl rfl rfl (by exact ⟨rfl,by decide +kernel,by decide +kernel,by decide +kernel,by decide +kernel⟩) (zb1 rfl jJ (zb0 (pv 1) zh0)) (λ _ _ _ _=>⟨(pgn 0 (nds ["number"])),zk3,(zo1 zh0)⟩)) rfl)
   (zj0 (zw3 PassesOwn.never rfl (zzm (K:=K) rfl rfl jR (zb0 (pv 2) zh0)) (zf6 (K:=K) (n:=2) rfl rfl (zv0 (pgn 4 nd) (zv0 (pgn 5 nd) zm6))) (zc0 (zk1 (zj4 (K:=K) rfl PySem.F.plainAttrs_list PySem.F.slot_list_extend PySem.F.type_list_extend (zsh (K:=K) rfl) (zq0 (K:=K) rfl (pv 0) rfl) (zb0 (zo1 (zb0 (pix w K hr (pv 5) zf0) (zb0 (pix w K hr (pv 5) zf0) zh0))) zh0)))
   (zc0 (zk1 (zj4 (K:=K) rfl PySem.F.plainAttrs_list PySem.F.slot_list_extend PySem.F.type_list_extend (zsh (K:=K) rfl) (zq0 (K:=K) rfl (pv 0) rfl) (zb0 (zo1 (zb0 (zr0 zjh (pix w K hr (pv 5) zf0) (pix w K hr (pv 3) (pv 4))) (zb0 (pix w K hr (pv 3) (pv 4)) zh0))) zh0)))
   (zc0 (zk1 (zj4 (K:=K) rfl PySem.F.plainAttrs_list PySem.F.slot_list_append PySem.F.type_list_append zc1 (pix w K hr (zq0 (K:=K) rfl (pv 0) rfl) (pix w K hr (pv 5) zf0)) (zb0 (zr0 zv1 zf0 (pv 4)) zh0)))
   (zj0 (zk1 (zj4 (K:=K) rfl PySem.F.plainAttrs_list PySem.F.slot_list_append PySem.F.type_list_append zc1 (pix w K hr (zq0 (K:=K) rfl (pv 0) rfl) (pix w K hr (pv 5) zf0)) (zb0 (zr0 (zp0 (K:=K) rfl) (zr0 zv1 zf0 (pv 4)) zf0) zh0)))))))))))),(zk0 (zj5 jE jL (RfF.c (zg3 zn0)) (zm0 0))
   (zk0 (zj5 jE jG (RfF.c (zg3 zn0)) (zm0 0))
   (zk0 (zj5 jE jP (RfN.c (zxi (RfI.j (zt2 (zd0 (zi0 1) zn0))) (zw1 (i:=0) (n:=1) (by decide)) (RfF.new (zg3 zn0)))) (zm0 0))
   (zs3 (ztt (zd0 (zi0 2) zn0)) (zde (zu0 (rgn 4) (zu0 (rgn 5) zo6))) (zk0 (zl1 (zjj zu11 (zy0 jE jL (zm0 0)) (zd0 (RfF.e (zg3 (zd0 (zl0 r_ix (za0 5) rvi) (zd0 (zl0 r_ix (za0 5) rvi) zn0)))) zn0)))
   (zk0 (zl1 (zjj zu11 (zy0 jE jG (zm0 0)) (zd0 (RfF.e (zg3 (zd0 (zl0 zst (RfE.v (zl0 r_ix (za0 5) rvi)) (RfE.v (zl0 r_ix (za0 3) (za0 4)))) (zd0 (zl0 r_ix (za0 3) (za0 4)) zn0)))) zn0)))
   (zk0 (zl1 (zjj zh7 (zkx (zy0 jE jP (zm0 0)) (zl0 r_ix (za0 5) rvi)) (zd0 (zl0 zrl rvi (za0 4)) zn0)))
   (zl1 (zjj zh7 (zkx (zy0 jE jP (zm0 0)) (zl0 r_ix (za0 5) rvi)) (zd0 (zl0 zv2 (RfE.v (zl0 zrl rvi (za0 4))) rvi) zn0)))))))))),?_⟩
 rintro as Qd a ⟨n,A,f,rfl,hf,hn,hA,hb,q⟩
 walk_at "ds"
 walk_at "dn"
 walk_at "dn"
 refine ze0 λ J hJ=>?_
 walk_at "dd"
 refine ⟨by lia,by lia,?_⟩
 rw [vI]
 refine zxp (λ _=>.li []) (by rw [vP,sizeLine_eq];lia) (λ i hi=>?_) (hJ _ ?_)
 ·walk_at "cs"
 clear hJ
 have e0:(u3 n).map (λ _=>(L4.T.li []:L4.T))=(u7 n []).map λ l=>.li (l.map nI):=by simp [List.map_const']
 rw [e0]
 walk_at "dd"
 refine ⟨λ i U=>∃ S s4 s5,i<=A.length/\szT S=2 * i/\Net n i (zi5 (A.take i)) S/\U=[.io a (.ob jA [("ends",.li ((zi5 (A.take i)).map nI)),("left",.li ((zq9 (A.take i) (f.take i)).map .int)),("steps",tT S)]),.sh (nI n),.sh (.list (A.map dAr)),.sh (.list (f.map .int)),s4,s5],⟨u7 n [],.un,.un,wY _,by simp [szT],Net.nil n,rfl⟩,?_,?_⟩
 ·rintro i d U hd ⟨S,s4,s5,hi,hsz,N,rfl⟩
  obtain ⟨x,hx,rfl⟩:=zxm hd
  rw [u6] at hx
  obtain ⟨u,hu,rfl⟩:=wJ.mp hx
  have hil:i < A.length:=by
   rcases wS i A.length with z|z
   ·exact z
   ·rw [wH z] at hu;cases hu
  obtain ⟨y,hy⟩:∃ y,f[i]?=some y:=⟨f[i]'(by lia),u5 _⟩
  obtain ⟨b1,b2⟩:=hb u (v8 hu)
  have tA:A.take (i+1)=A.take i++[u]:=by rw [wZ,hu];rfl
  have tF:f.take (i+1)=f.take i++[y]:=by rw [wZ,hy];rfl
  have lE:(zi5 (A.take i)).length=2 * i:=N.lE
  have lL:(zq9 (A.take i) (f.take i)).length=2 * i:=by
   rw [zxg (by rw [wF,wF];lia),wF];lia
  have eF:=zfq (A:=A.take i) (f:=f.take i) (a:=u) (x:=y) (by rw [wF,wF];lia)
  dsimp only
  rw [tA,tF,zvp,eF]
  generalize zi5 (A.take i)=E at lE N ⊢
  generalize zq9 (A.take i) (f.take i)=L at lL ⊢
  rw [show dAr u=.tuple [nI u.1,nI u.2.1,.int u.2.2] from rfl]
  have hfi:atI (f.map u9) (i:Int)=some (.int y):=zk2 (by lia) (by rw [vI,u6,hy];rfl)
  have a0:atI [nI u.1,nI u.2.1,u9 u.2.2] 0=some (nI u.1):=rfl
  have a1:atI [nI u.1,nI u.2.1,u9 u.2.2] 1=some (nI u.2.1):=rfl
  have a2:atI [nI u.1,nI u.2.1,u9 u.2.2] 2=some (.int u.2.2):=rfl
  walk_at "dd"
  refine ze0 λ J hJ=>?_
  walk_at "dd"
  refine ⟨nI u.2.1,rfl,nI u.1,rfl,by rw [u4];lia,hJ _ ?_⟩
  clear hJ
  rw [show E.map nI++[nI u.2.1,nI u.1]=(E++[u.2.1,u.1]).map nI by rw [vX];rfl]
  refine ze0 λ J hJ=>?_
  walk_at "dd"
  refine ⟨_,rfl,_,hfi,?_⟩
  walk_at "dd"
  refine ⟨_,hfi,by rw [u4];lia,hJ _ ?_⟩
  clear hJ
  rw [show L.map u9++[.int (u.2.2 - y),.int y]=(L++[u.2.2 - y,y]).map .int by rw [vX];rfl]
  obtain ⟨l1,hl1⟩:∃ l1,S[u.1]?=some l1:=⟨S[u.1]'(by rw [N.lS];exact b1),u5 _⟩
  obtain ⟨l2,hl2⟩:∃ l2,(S.set u.1 (l1++[2 * i]))[u.2.1]?=some l2:=⟨(S.set u.1 (l1++[2 * i]))[u.2.1]'(by rw [vZ,N.lS];exact b2),u5 _⟩
  have N2:=N.push b1 b2 hl1 hl2
  have z1:=zd01 hl1
  have z2:=zd01 hl2
  have z3:=zxb (l1++[2 * i]) hl1
  have z4:=zxb (l2++[2 * i+1]) hl2
  rw [vJ,yM] at z3 z4
  have g1:(S.map λ l=>L4.T.li (l.map nI))[u.1]?=some (L4.T.li (l1.map nI)):=by rw [u6,hl1];rfl
  have g2:((S.set u.1 (l1++[2 * i])).map λ l=>L4.T.li (l.map nI))[u.2.1]?=some (L4.T.li (l2.map nI)):=by rw [u6,hl2];rfl
  have i1:ixN (S.map λ l=>L4.T.li (l.map nI)).length ((u.1:Nat):Int)=some u.1:=by rw [u4];exact zve (by rw [N.lS];exact b1)
  have i2:ixN ((S.set u.1 (l1++[2 * i])).map λ l=>L4.T.li (l.map nI)).length ((u.2.1:Nat):Int)=some u.2.1:=by rw [u4,vZ];exact zve (by rw [N.lS];exact b2)
  refine ze0 λ J hJ=>?_
  walk_at "dd"
  refine ⟨nI u.1,rfl,u.1,_,i1,g1,rfl,zs11 i,?_⟩
  walk_at "dd"
  refine ⟨by rw [u4];lia,hJ _ ?_⟩
  clear hJ
  rw [g1]
  dsimp only
  rw [show l1.map nI++[u9 (2 * (i:Int))]=(l1++[2 * i]).map nI by rw [vX];rfl,setT]
  walk_at "dd"
  refine ⟨nI u.2.1,rfl,u.2.1,_,i2,g2,rfl,zs11 i,?_⟩
  walk_at "dd"
  refine ⟨by rw [u4];lia,_,.sh (nI i),.sh (.tuple [nI u.1,nI u.2.1,.int u.2.2]),by lia,by lia,N2,?_⟩
  rw [g2]
  dsimp only
  rw [show l2.map nI++[u9 (2 * (i:Int)+1)]=(l2++[2 * i+1]).map nI by rw [vX];rfl,setT]
  rfl
 ·rintro U ⟨S,s4,s5,hi,hsz,N,rfl⟩
  rw [zrg,u4,xM] at N
  rw [zrg,u4,xM,yP (by lia)]
  exact ⟨_,rfl,q S N⟩
end
section
variable {P:Program} {w:World} {K:Fg} {mg:Str->Option Value} {base:Heap} {jA:Addr}
theorem frzT (S:List (List Nat)):(zho (S.map λ l=>L4.T.li (l.map nI))).map (λ dss=>xJ (dss.map .list))=some (dSt S):=by
 have:∀ S:List (List Nat),zho (S.map λ l=>L4.T.li (l.map nI))=some (S.map λ l=>l.map nI):=by
  intro S
  induction S with
 |nil=>rfl
 |cons l r ih=>simp only [vV,zho,ih];rfl
 rw [this]
 simp only [Option.map_some,wD]
 rfl
noncomputable def zdi:DSp:=λ ds Q=>∃ (n:Nat) (A:List Ar) (src snk:Nat) (fl:D) (f:List Int),ds=[nI n,.list (A.map dAr),nI src,nI snk,fl]/\((fl=.none/\f=u7 A.length 0) \/ fl=.list (f.map .int))/\f.length=A.length/\n < 64/\A.length<=400000/\(∀ a∈A,a.1 < n/\a.2.1 < n) /\
 (∀ (k:Nat) a x,A[k]?=some a->f[k]?=some x->0<=x/\x<=a.2.2)/\src < n/\snk < n/\src≠snk /\
 ∀ (L:List Int) (side:List Nat),Best n A f src snk L side->Q (.tuple [.list ((u3 A.length).map λ k=>.int (lf L (2 * k+1))),.list (side.map nI)])
theorem zie:FnScope ["count", "arcs", "source", "sink", "flow", "stream", "levels"] ["count", "arcs", "source", "sink", "flow"] (zg0 zdc):=by exact ⟨rfl,rfl,rfl,by decide +kernel,rfl,by decide +kernel,by decide +kernel⟩
theorem zkn (M:Md K mg) (T:TopDefN K "greatest" zdc) (jS:mg "len"=none) (qZ:mg "sorted"=none) (jE:Cls K jA) (kJ:MethD P w K mg base jA "levels" 2 ["self", "source"] (spT K (zp6 jA))) (kS:MethD P w K mg base jA "push_up" 3 ["self", "levels", "source", "sink"] (spT K (zo5 jA))) (kT:MethD P w K mg base jA "amounts" 1 ["self"] (spT K (zx5 jA))) (uY:zzn P w K mg base "Stream" jA 1 ["self", "count", "arcs", "flow"] (spT K (zm4 jA))):DefN P w K mg base "greatest" 4 ["count", "arcs", "source", "sink", "flow"] (spD K zdi):=by
 refine zkz M T zie (qs:=["count", "arcs", "source", "sink"]) rfl (λ _ _ _ _ _ _ _ us hl=>match us,hl with|[_,_,_,_,_],_=>⟨_,rfl,rfl⟩) (λ _ _ _ _ _ _ _ us hl=>match us,hl with|[_,_,_,_],_=>⟨_,rfl,rfl⟩) (zln λ ds Qd h=>by obtain ⟨_,_,_,_,_,_,rfl,_⟩:=h;rfl) (zk8 ?_)
 intro f cdv A outer s H E hr
 have nd:=zie.nd
 refine ⟨_,_,(zc0 (pset 5 nd (zbb uY (rmn hr) rfl (zb0 (pv 0) (zb0 (pv 1) (zb0 (zjk (zt0 zy71 (pv 4) zcy (zm1 _)) (zr0 zv1 (zo1 (zb0 zf0 zh0)) (zh1 (zf1 (K:=K) rfl) rfl jS ze7 (zb0 (pv 1) zh0))) (pv 4)) zh0)))))
   (zc0 (pset 6 nd (zt3 kJ (rmn hr) (pv 5) (zb0 (pv 2) zh0)))
   (zc0 (zqa PassesOwn.never (zt0 (zn61 (w:=w) (K:=K) (Room.units hr) rfl rfl) (pv 3) (pv 6) (by with_unfolding_all rfl)) (zc0 (zk1 (zt3 kS (rmn hr) (pv 5) (zb0 (pv 6) (zb0 (pv 2) (zb0 (pv 3) zh0)))))
   (zj0 (pset 6 nd (zt3 kJ (rmn hr) (pv 5) (zb0 (pv 2) zh0))))))
   (zj0 (zg1 (zh2 (zb0 (za8 kT (rmn hr) (pv 5)) (zb0 (zh1 (zjl (K:=K) rfl rfl) rfl qZ zpr (zb0 (pv 6) zh0)) zh0)))))))),(zk0 (zf2 (RfN.c (ztj (at_d (zi0 0) (at_d (zi0 1) (at_d (zsv (zs0 (zl0 zld1 (za0 4) (RfE.v zdv))) (RfF.e (zmn (zg3 (zd0 zq1 zn0)) (zij ztk (ze1 (za0 1) zj2)))) (zi0 4)) zw2))))))
   (zk0 (znc 5 [.fl "steps"] (znc 5 [.fl "ends"] (zf2 (zv4 false (zm0 5) (at_d (zi0 2) zw2)))))
   (zk0 (zub (zs0 (zd91 (zi0 3) (zm0 6))) (zk0 (zl1 (zv4 true (zm0 5) (at_b (zm0 6) (at_d (zi0 2) (at_d (zi0 3) zw2)))))
   (zf2 (zv4 false (zm0 5) (at_d (zi0 2) zw2)))))
   (zb2 (RfE.c (zx4 (zd0 (RfN.ex (zzo (zm0 5) zw2)) (zd0 (RfF.e (ziv (zm0 6))) zn0)))))))),?_⟩
 rintro ds Qd ⟨n,A,src,snk,fl,f,rfl,hfl,hf,hn,hA,hb,hc,hs1,hs2,hss,q⟩
 walk_at "ds"
 refine ze0 λ J hJ=>?_
 have start:∀ S,Net n A.length (zi5 A) S->J [.sh (nI n),.sh (.list (A.map dAr)),.sh (nI src),.sh (nI snk),.sh fl,.ow (.ob jA [("ends",.li ((zi5 A).map nI)),("left",.li ((zq9 A f).map .int)),("steps",tT S)]),.un]:=λ S N=>by
  refine hJ _ ?_
  clear hJ
  have cap:=zcr hf hc
  refine ze0 λ J hJ=>?_
  walk_at "dd"
  refine ⟨_,dSt S,rfl,frzT S,_,_,rfl,rfl,?_⟩
  refine ⟨n,A.length,zi5 A,zq9 A f,S,src,rfl,by lia,N,cap.len,hs1,λ lv hv t=>hJ _ ?_⟩
  clear hJ
  refine zct ?_
  refine ⟨λ μ U=>∃ L lv,Up A.length (zwh A) (zi5 A) (zq9 A f) L src snk/\Lev n A.length (zi5 A) L src lv/\μ=(tot A.length (zwh A) - bal A.length (zi5 A) L snk).toNat/\U=[.sh (nI n),.sh (.list (A.map dAr)),.sh (nI src),.sh (nI snk),.sh fl,.ow (oS jA (zi5 A) L S),.ow (.dk (kN lv))],
   ⟨_,zq9 A f,lv,Up.refl cap,hv,rfl,rfl⟩,?_⟩
  clear hv lv
  rintro μ U ⟨L,lv,up,hv,rfl,rfl⟩
  walk_at "dd"
  rw [yQ]
  refine two (λ ht=>?_) λ ht=>?_
  ·refine ze0 λ J hJ=>?_
   walk_at "dd"
   refine ⟨n,A.length,zwh A,zi5 A,L,S,lv,src,snk,rfl,by lia,by lia,N,up.cap,hs1,hss,hv,ht,λ L' up' hlt=>hJ _ ?_⟩
   clear hJ
   walk_at "dd"
   have up2:=up.trans up'
   have hle:=zg21 (E:=zi5 A) up2.cap snk
   refine ⟨n,A.length,zi5 A,L',S,src,rfl,by lia,N,up2.cap.len,hs1,λ lv' hv' t=>⟨_,by lia,L',lv',up2,hv',rfl,rfl⟩⟩
  ·refine ⟨A.length,zi5 A,L,S,rfl,up.cap.len,hA,λ t=>?_⟩
   have hz:=za1 n (lv.map (·.1)) hv.nd (λ x hx=>by obtain ⟨p,hp,rfl⟩:=vR.mp hx;exact hv.bd p hp)
   rw [u4] at hz
   refine ⟨lv.map λ p=>((p.1:Nat):Int),?_,by rw [u4];lia,λ ns' hp hs=>?_⟩
   ·unfold kN;rw [wD,wD];rfl
   ·obtain ⟨side,e,b⟩:=zmz up hv (by simpa using ht) hp hs
    rw [e]
    exact q L side b
 clear hJ
 rcases hfl with ⟨rfl,rfl⟩|rfl
 ·walk_at "dd"
  refine ⟨by rw [u4];lia,by rw [u4];lia,by rw [u4];lia,n,A,u7 A.length 0,by rw [u4,vI,show (u7 A.length [u9 0]).flatten=(u7 A.length 0).map .int by rw [j2,j3]];rfl,hf,by lia,hA,hb,λ S N=>⟨trivial,start S N⟩⟩
 ·walk_at "dd"
  exact ⟨n,A,f,rfl,hf,by lia,hA,hb,λ S N=>⟨trivial,start S N⟩⟩
end
inductive Gt where
|st (x:Int)|la (x:Int) (f:Nat)|ti (x y:Int) (t:Nat)
noncomputable def Gt.d:Gt->D
|.st x=>.tuple [.str "steady",.int x]
|.la x f=>.tuple [.str "late",.int x,.int (f:Int)]
|.ti x y t=>.tuple [.str "tidal",.int x,.int y,.int (t:Int)]
noncomputable def Gt.at:Gt->Nat->Int
|.st x,_=>x
|.la x f,m=>if f<=m then x else 0
|.ti x y t,m=>if m % t=0 then x else y
noncomputable def Gt.ob (C1 C2 C3:Addr):Gt->L4.T
|.st x=>.ob C1 [("wide",.fz (.int x))]
|.la x f=>.ob C2 [("wide",.fz (.int x)),("since",.fz (.int (f:Int)))]
|.ti x y t=>.ob C3 [("wide",.fz (.int x)),("other",.fz (.int y)),("turn",.fz (.int (t:Int)))]
noncomputable def Gt.ok:Gt->Prop
|.ti _ _ t=>0 < t/\t < 1000
|_=>True
section
variable {P:Program} {w:World} {K:Fg} {mg:Str->Option Value} {base:Heap} {jC jF jD:Addr}
noncomputable def zu4 (C:Addr):DSpT:=λ as Q=>∃ x:Int,as=[.o (.ob C []),.d (.int x)]/\Q (.fz .none) (.ob C [("wide",.fz (.int x))])
noncomputable def zy6 (C:Addr):DSpT:=λ as Q=>∃ x y:Int,as=[.o (.ob C []),.d (.int x),.d (.int y)]/\Q (.fz .none) (.ob C [("wide",.fz (.int x)),("since",.fz (.int y))])
noncomputable def zm5 (C:Addr):DSpT:=λ as Q=>∃ x y z:Int,as=[.o (.ob C []),.d (.int x),.d (.int y),.d (.int z)]/\Q (.fz .none) (.ob C [("wide",.fz (.int x)),("other",.fz (.int y)),("turn",.fz (.int z))])
noncomputable def zp2 (C:Addr):DSpT:=λ as Q=>∃ (x:Int) (m:Nat),as=[.b (.ob C [("wide",.fz (.int x))]),.d (.int (m:Int))]/\Q (.fz (.int (Gt.at (.st x) m))) (.fz .none)
noncomputable def zu3 (C:Addr):DSpT:=λ as Q=>∃ (x:Int) (f m:Nat),as=[.b (.ob C [("wide",.fz (.int x)),("since",.fz (.int (f:Int)))]),.d (.int (m:Int))]/\Q (.fz (.int (Gt.at (.la x f) m))) (.fz .none)
noncomputable def za3 (C:Addr):DSpT:=λ as Q=>∃ (x y:Int) (t m:Nat),as=[.b (.ob C [("wide",.fz (.int x)),("other",.fz (.int y)),("turn",.fz (.int (t:Int)))]),.d (.int (m:Int))]/\0 < t/\t < 1000/\Q (.fz (.int (Gt.at (.ti x y t) m))) (.fz .none)
noncomputable def zim (C1 C2 C3:Addr):DSpT:=λ as Q=>∃ g:Gt,as=[.d g.d]/\Q (g.ob C1 C2 C3) (.fz .none)
theorem zz3:FnScope ["self", "wide"] ["self", "wide"] (zg0 zo2):=by exact ⟨rfl,rfl,rfl,by decide +kernel,rfl,by decide +kernel,by decide +kernel⟩
theorem zn8 (M:Md K mg) (cT:TopCls K "Steady" jC) (T:TopMeth K jC "__init__" "Steady.__init__" zo2) (jT:NoAttr K jC "wide"):zzn P w K mg base "Steady" jC 1 ["self", "wide"] (spT K (zu4 jC)):=by
 have kE:=cT.cls
 refine zxh M cT T zz3 (λ _ _ _ _ _ _ us hl=>by obtain ⟨_,_,rfl⟩:=ar2 hl;rfl) (zab λ as Qd h=>by obtain ⟨_,rfl,_⟩:=h;rfl) (zm3 ?_)
 intro f cdv A outer s H E hr
 have nd:=zz3.nd
 refine ⟨_,_,(zj0 (zr5 (pv 0) (pv 1) rfl)),(zj5 kE jT (RfE.c (zi0 1)) (zm0 0)),?_⟩
 rintro as Qd a ⟨x,rfl,q⟩
 walk_at "ds"
 walk_at "dd"
 exact ⟨_,rfl,q⟩
theorem zv5:FnScope ["self", "wide", "since"] ["self", "wide", "since"] (zg0 zv3):=by exact ⟨rfl,rfl,rfl,by decide +kernel,rfl,by decide +kernel,by decide +kernel⟩
theorem zob (M:Md K mg) (cT:TopCls K "Late" jF) (T:TopMeth K jF "__init__" "Late.__init__" zv3) (kA:NoAttr K jF "wide") (jV:NoAttr K jF "since"):zzn P w K mg base "Late" jF 1 ["self", "wide", "since"] (spT K (zy6 jF)):=by
 have kU:=cT.cls
 refine zxh M cT T zv5 (λ _ _ _ _ _ _ us hl=>by obtain ⟨_,_,_,rfl⟩:=ar3 hl;rfl) (zab λ as Qd h=>by obtain ⟨_,_,rfl,_⟩:=h;rfl) (zm3 ?_)
 intro f cdv A outer s H E hr
 have nd:=zv5.nd
 refine ⟨_,_,(zc0 (zr5 (pv 0) (pv 1) rfl)
   (zj0 (zr5 (pv 0) (pv 2) rfl))),(zk0 (zj5 kU kA (RfE.c (zi0 1)) (zm0 0))
   (zj5 kU jV (RfE.c (zi0 2)) (zm0 0))),?_⟩
 rintro as Qd a ⟨x,y,rfl,q⟩
 walk_at "ds"
 walk_at "dn"
 walk_at "dd"
 exact ⟨_,rfl,q⟩
theorem zr4:FnScope ["self", "wide", "other", "turn"] ["self", "wide", "other", "turn"] (zg0 zf3):=by exact ⟨rfl,rfl,rfl,by decide +kernel,rfl,by decide +kernel,by decide +kernel⟩
theorem zp9 (M:Md K mg) (cT:TopCls K "Tidal" jD) (T:TopMeth K jD "__init__" "Tidal.__init__" zf3) (jW:NoAttr K jD "wide") (jU:NoAttr K jD "other") (jX:NoAttr K jD "turn"):zzn P w K mg base "Tidal" jD 1 ["self", "wide", "other", "turn"] (spT K (zm5 jD)):=by
 have kB:=cT.cls
 refine zxh M cT T zr4 (λ _ _ _ _ _ _ us hl=>by obtain ⟨_,_,_,_,rfl⟩:=ar4 hl;rfl) (zab λ as Qd h=>by obtain ⟨_,_,_,rfl,_⟩:=h;rfl) (zm3 ?_)
 intro f cdv A outer s H E hr
 have nd:=zr4.nd
 refine ⟨_,_,(zc0 (zr5 (pv 0) (pv 1) rfl)
   (zc0 (zr5 (pv 0) (pv 2) rfl)
   (zj0 (zr5 (pv 0) (pv 3) rfl)))),(zk0 (zj5 kB jW (RfE.c (zi0 1)) (zm0 0))
   (zk0 (zj5 kB jU (RfE.c (zi0 2)) (zm0 0))
   (zj5 kB jX (RfE.c (zi0 3)) (zm0 0)))),?_⟩
 rintro as Qd a ⟨x,y,z,rfl,q⟩
 walk_at "ds"
 walk_at "dn"
 walk_at "dn"
 walk_at "dd"
 exact ⟨_,rfl,q⟩
theorem za4:FnScope ["self", "moment"] ["self", "moment"] (zg0 zs2):=by exact ⟨rfl,rfl,rfl,by decide +kernel,rfl,by decide +kernel,by decide +kernel⟩
theorem zv8 (kE:Cls K jC) (T:TopMeth K jC "width_at" "Steady.width_at" zs2) (jT:NoAttr K jC "wide"):MethD P w K mg base jC "width_at" 1 ["self", "moment"] (spT K (zp2 jC)):=by
 refine zi3 kE T za4 (λ _ _ _ _ _ _ us hl=>by obtain ⟨_,_,rfl⟩:=ar2 hl;rfl) (zab λ as Qd h=>by obtain ⟨_,_,rfl,_⟩:=h;rfl) (zm3 ?_)
 intro f cdv A outer s H E hr
 have nd:=za4.nd
 refine ⟨_,_,(zj0 (zg1 (zq0 (K:=K) rfl (pv 0) rfl))),(zb2 (RfE.c (RfP.e (zy0 kE jT (zm0 0))))),?_⟩
 rintro as Qd a ⟨x,m,rfl,q⟩
 walk_at "ds"
 walk_at "dd"
 exact q
theorem zd5:FnScope ["self", "moment"] ["self", "moment"] (zg0 zr3):=by exact ⟨rfl,rfl,rfl,by decide +kernel,rfl,by decide +kernel,by decide +kernel⟩
theorem zoc (kU:Cls K jF) (T:TopMeth K jF "width_at" "Late.width_at" zr3) (kA:NoAttr K jF "wide") (jV:NoAttr K jF "since"):MethD P w K mg base jF "width_at" 1 ["self", "moment"] (spT K (zu3 jF)):=by
 refine zi3 kU T zd5 (λ _ _ _ _ _ _ us hl=>by obtain ⟨_,_,rfl⟩:=ar2 hl;rfl) (zab λ as Qd h=>by obtain ⟨_,_,_,rfl,_⟩:=h;rfl) (zm3 ?_)
 intro f cdv A outer s H E hr
 have nd:=zd5.nd
 refine ⟨_,_,(zj0 (zg1 (zjk (zt0 zya1 (pv 1) (zq0 (K:=K) rfl (pv 0) rfl) (zm1 _)) (zq0 (K:=K) rfl (pv 0) rfl) zf0))),(zb2 (RfE.c (zsv (zs0 (zl0 r_ge (za0 1) (RfP.v (zy0 kU jV (zm0 0))))) (RfP.e (zy0 kU kA (zm0 0))) zq1))),?_⟩
 rintro as Qd a ⟨x,f,m,rfl,q⟩
 walk_at "ds"
 walk_at "dd"
 have q:Qd (.fz (.int (if f<=m then x else 0))) (.fz .none):=q
 refine two (λ h=>?_) λ h=>?_
 ·rw [if_pos (by lia)] at q;exact q
 ·rw [if_neg (by lia)] at q;exact q
theorem zq4:FnScope ["self", "moment"] ["self", "moment"] (zg0 zj3):=by exact ⟨rfl,rfl,rfl,by decide +kernel,rfl,by decide +kernel,by decide +kernel⟩
theorem zv9 (kB:Cls K jD) (T:TopMeth K jD "width_at" "Tidal.width_at" zj3) (jW:NoAttr K jD "wide") (jU:NoAttr K jD "other") (jX:NoAttr K jD "turn"):MethD P w K mg base jD "width_at" 1 ["self", "moment"] (spT K (za3 jD)):=by
 refine zi3 kB T zq4 (λ _ _ _ _ _ _ us hl=>by obtain ⟨_,_,rfl⟩:=ar2 hl;rfl) (zab λ as Qd h=>by obtain ⟨_,_,_,_,rfl,_⟩:=h;rfl) (zm3 ?_)
 intro f cdv A outer s H E hr
 have nd:=zq4.nd
 refine ⟨_,_,(zj0 (zg1 (zjk (zt0 (zn9 (K:=K) rfl (Room.units hr)) (zr0 zg2 (pv 1) (zq0 (K:=K) rfl (pv 0) rfl)) zf0 (zm1 _)) (zq0 (K:=K) rfl (pv 0) rfl) (zq0 (K:=K) rfl (pv 0) rfl)))),(zb2 (RfE.c (zsv (zs0 (ze5 q_eq (RfV.h (RfE.v (zl0 zi8 (za0 1) (RfP.v (zy0 kB jX (zm0 0)))))) (RfV.h rvi))) (RfP.e (zy0 kB jW (zm0 0))) (RfP.e (zy0 kB jU (zm0 0)))))),?_⟩
 rintro as Qd a ⟨x,y,t,m,rfl,h0,h1,q⟩
 walk_at "ds"
 walk_at "dd"
 have q:Qd (.fz (.int (if m % t=0 then x else y))) (.fz .none):=q
 have e:((m:Int) % (t:Int)=0) ↔ m % t=0:=by rw [<- Int.natCast_emod];lia
 refine ⟨by lia,two (λ h=>?_) λ h=>?_⟩
 ·rw [if_pos (e.mp h)] at q;exact q
 ·rw [if_neg (λ z=>h (e.mpr z))] at q;exact q
theorem zii:FnScope ["gate"] ["gate"] (zg0 zsg):=by exact ⟨rfl,rfl,rfl,by decide +kernel,rfl,by decide +kernel,by decide +kernel⟩
theorem zup (M:Md K mg) (T:TopDef K "gate_of" zsg) (vC:zzn P w K mg base "Tidal" jD 1 ["self", "wide", "other", "turn"] (spT K (zm5 jD))) (uZ:zzn P w K mg base "Steady" jC 1 ["self", "wide"] (spT K (zu4 jC))) (vF:zzn P w K mg base "Late" jF 1 ["self", "wide", "since"] (spT K (zy6 jF))):Def P w K mg base "gate_of" 3 ["gate"] (spT K (zim jC jF jD)):=by
 refine zg7 M T zii (λ _ _ _ _ _ _ us hl=>by obtain ⟨_,rfl⟩:=ar1 hl;rfl) (zab λ as Qd h=>by obtain ⟨_,rfl,_⟩:=h;rfl) (zm3 ?_)
 intro f cdv A outer s H E hr
 have nd:=zii.nd
 refine ⟨_,_,(zc0 (zr8 (zt0 (zn9 (K:=K) rfl (Room.units hr)) (pix w K hr (pv 0) zf0) zhj (zm1 _)) (zj0 (zg1 (zbb uZ (rmn hr) rfl (zb0 (pix w K hr (pv 0) zf0) zh0)))) zi1)
   (zc0 (zr8 (zt0 (zn9 (K:=K) rfl (Room.units hr)) (pix w K hr (pv 0) zf0) zhj (zm1 _)) (zj0 (zg1 (zbb vF (rmn hr) rfl (zb0 (pix w K hr (pv 0) zf0) (zb0 (pix w K hr (pv 0) zf0) zh0))))) zi1)
   (zj0 (zg1 (zbb vC (rmn hr) rfl (zb0 (pix w K hr (pv 0) zf0) (zb0 (pix w K hr (pv 0) zf0) (zb0 (pix w K hr (pv 0) zf0) zh0)))))))),(zk0 (ze9 (zs0 (ze5 q_eq (RfV.h (RfE.v (zl0 r_ix (za0 0) rvi))) (RfV.h (RfE.v zkj)))) (zb2 (RfN.c (ztj (at_d (zl0 r_ix (za0 0) rvi) zw2)))) zj1)
   (zk0 (ze9 (zs0 (ze5 q_eq (RfV.h (RfE.v (zl0 r_ix (za0 0) rvi))) (RfV.h (RfE.v zkj)))) (zb2 (RfN.c (ztj (at_d (zl0 r_ix (za0 0) rvi) (at_d (zl0 r_ix (za0 0) rvi) zw2))))) zj1)
   (zb2 (RfN.c (ztj (at_d (zl0 r_ix (za0 0) rvi) (at_d (zl0 r_ix (za0 0) rvi) (at_d (zl0 r_ix (za0 0) rvi) zw2)))))))),?_⟩
 rintro as Qd a ⟨g,rfl,q⟩
 cases g with
|st x =>
  unfold Gt.d
  walk_at "ds"
  refine ze0 λ J hJ=>?_
  walk_at "dd"
  refine ⟨_,rfl,?_⟩
  walk_at "dd"
  exact ⟨_,rfl,x,rfl,trivial,q⟩
|la x f =>
  unfold Gt.d
  walk_at "ds"
  refine ze0 λ J hJ=>?_
  walk_at "dd"
  refine ⟨_,rfl,?_⟩
  walk_at "dd"
  rw [if_neg (by decide +kernel)]
  refine hJ _ ?_
  clear hJ
  refine ze0 λ J hJ=>?_
  walk_at "dd"
  refine ⟨_,rfl,?_⟩
  walk_at "dd"
  exact ⟨_,rfl,_,rfl,x,f,rfl,trivial,q⟩
|ti x y t =>
  unfold Gt.d
  walk_at "ds"
  refine ze0 λ J hJ=>?_
  walk_at "dd"
  refine ⟨_,rfl,?_⟩
  walk_at "dd"
  rw [if_neg (by decide +kernel)]
  refine hJ _ ?_
  clear hJ
  refine ze0 λ J hJ=>?_
  walk_at "dd"
  refine ⟨_,rfl,?_⟩
  walk_at "dd"
  rw [if_neg (by decide +kernel)]
  refine hJ _ ?_
  clear hJ
  walk_at "dd"
  exact ⟨_,rfl,_,rfl,_,rfl,x,y,t,rfl,trivial,q⟩
end
structure Pi where
 u:Nat
 v:Nat
 len:Nat
 pr:Int
 g:Gt
noncomputable def Pi.d (p:Pi):D:=.tuple [.int (p.u:Int),.int (p.v:Int),.int (p.len:Int),.int p.pr,p.g.d]
theorem zmj {n k:Nat} (h:k < n):ixN n ((k:Nat):Int)=some k:=by
 unfold ixN
 rw [if_pos (by lia),if_pos (by lia)];simp
structure Va where
 nm:Str
 room:Int
 fill:Int
noncomputable def Va.d (v:Va):D:=.tuple [.str v.nm,.int v.room,.int v.fill]
noncomputable def pS (C C1 C2 C3:Addr) (rooms lying:List Int) (ps:List Pi) (m:Nat) (en:List Int) (kvs:List (List Key×D)):L4.T :=
 .ob C [("rooms",.li (rooms.map .int)),("lying",.li (lying.map .int)),("pipes",.fz (.list (ps.map Pi.d))),("gates",.ls (ps.map λ p=>p.g.ob C1 C2 C3)),("moment",.fz (.int (m:Int))),("entered",.li (en.map .int)),("coming",.dt kvs)]
section
variable {P:Program} {w:World} {K:Fg} {mg:Str->Option Value} {base:Heap} {jC jF jD jB:Addr}
noncomputable def zs6 (C C1 C2 C3:Addr):DSpT:=λ as Q=>∃ (vs:List Va) (ps:List Pi),as=[.o (.ob C []),.d (.tuple [.list (vs.map Va.d),.list (ps.map Pi.d)])]/\vs.length<=12/\ps.length<=24 /\
 Q (.fz .none) (pS C C1 C2 C3 (vs.map Va.room) (vs.map Va.fill) ps 0 (u7 ps.length 0) [])
noncomputable def zz7 (C C1 C2 C3:Addr):DSpT:=λ as Q=>∃ (rooms lying:List Int) (ps:List Pi) (m:Nat) (en:List Int) (kvs:List (List Key×D)) (k:Nat) (p:Pi) (e:Int),as=[.b (pS C C1 C2 C3 rooms lying ps m en kvs),.d (.int (k:Int))]/\ps[k]?=some p/\en[k]?=some e/\p.g.ok/\ps.length<=24/\Q (.fz (.int (p.g.at m - e))) (.fz .none)
noncomputable def zai (C C1 C2 C3:Addr):DSpT:=λ as Q=>∃ (rooms lying:List Int) (ps:List Pi) (m:Nat) (en:List Int) (kvs:List (List Key×D)) (k:Nat) (am:Int) (p:Pi) (e y c0:Int),as=[.o (pS C C1 C2 C3 rooms lying ps m en kvs),.d (.int (k:Int)),.d (.int am)]/\ps[k]?=some p/\en[k]?=some e/\lying[p.u]?=some y/\p.g.ok/\ps.length<=24/\kvs.length < 16777216 /\
 1<=am/\am<=p.g.at m - e/\am<=y/\(getA kvs [.inl ((m:Int)+(p.len:Int)),.inl (k:Int)]).getD (.int 0)=.int c0 /\
 Q (.fz (.int (y - am))) (pS C C1 C2 C3 rooms (lying.set p.u (y - am)) ps m (en.set k (e+am)) (putD kvs [.inl ((m:Int)+(p.len:Int)),.inl (k:Int)] (.int (c0+am))))
noncomputable def zfa (C C1 C2 C3:Addr):DSpT:=λ as Q=>∃ (rooms lying:List Int) (ps:List Pi) (m:Nat) (en:List Int) (kvs:List (List Key×D)),as=[.b (pS C C1 C2 C3 rooms lying ps m en kvs)]/\Q (.fz (.list (lying.map .int))) (.fz .none)
noncomputable def zpe (C C1 C2 C3:Addr):DSpT:=λ as Q=>∃ (rooms lying:List Int) (ps:List Pi) (m:Nat) (en:List Int) (kvs:List (List Key×D)),as=[.b (pS C C1 C2 C3 rooms lying ps m en kvs)]/\rooms.length=lying.length/\rooms.length<=12/\(∀ (i:Nat) r y,rooms[i]?=some r->lying[i]?=some y->y<=r)/\Q (.fz (.list [])) (.fz .none)
theorem zj9:FnScope ["self"] ["self"] (zg0 zb7):=by exact ⟨rfl,rfl,rfl,by decide +kernel,rfl,by decide +kernel,by decide +kernel⟩
theorem zyh (jH:Cls K jB) (T:TopMeth K jB "holds" "Play.holds" zb7) (kD:mg "list"=none) (jI:NoAttr K jB "lying"):MethD P w K mg base jB "holds" 1 ["self"] (spT K (zfa jB jC jF jD)):=by
 refine zi3 jH T zj9 (λ _ _ _ _ _ _ us hl=>by obtain ⟨_,rfl⟩:=ar1 hl;rfl) (zab λ as Qd h=>by obtain ⟨_,_,_,_,_,_,rfl,_⟩:=h;rfl) (zm3 ?_)
 intro f cdv A outer s H E hr
 have nd:=zj9.nd
 refine ⟨_,_,(zj0 (zg1 (zh4 (ze3 (K:=K) rfl) rfl kD zx8 (zb0 (zq0 (K:=K) rfl (pv 0) rfl) zh0)))),(zb2 (RfE.c (RfF.e (zmy zol (ze1 (RfP.v (zy0 jH jI (zm0 0))) zj2))))),?_⟩
 rintro as Qd a ⟨rooms,lying,ps,m,en,kvs,rfl,q⟩
 unfold pS
 walk_at "ds"
 walk_at "dd"
 exact q
theorem zqb:FnScope ["self"] ["self"] (zg0 zb6):=by exact ⟨rfl,rfl,rfl,by decide +kernel,rfl,by decide +kernel,by decide +kernel⟩
theorem zxj (jH:Cls K jB) (T:TopMeth K jB "full" "Play.full" zb6) (jR:mg "enumerate"=none) (jY:NoAttr K jB "rooms") (jI:NoAttr K jB "lying"):MethD P w K mg base jB "full" 1 ["self"] (spT K (zpe jB jC jF jD)):=by
 refine zi3 jH T zqb (λ _ _ _ _ _ _ us hl=>by obtain ⟨_,rfl⟩:=ar1 hl;rfl) (zab λ as Qd h=>by obtain ⟨_,_,_,_,_,_,rfl,_⟩:=h;rfl) (zm3 ?_)
 intro f cdv A outer s H E hr
 have nd:=zqb.nd
 refine ⟨_,_,(zj0 (zg1 (zk4 (sc:=zg0 zb6) (N:=["self"]) (own:=["vat", "room"]) (ix:=[0]) rfl rfl rfl (by exact ⟨rfl,by decide +kernel,by decide +kernel,by decide +kernel,by decide +kernel⟩) (zzm (K:=K) rfl rfl jR (zb0 (zq0 (K:=K) rfl (pv 0) rfl) zh0)) (λ _ _ _ _=>⟨(zf6 (K:=K) (n:=2) rfl rfl (zv0 (pgn 0 (nds ["vat", "room", "self"])) (zv0 (pgn 1 (nds ["vat", "room", "self"])) zm6))),(zgp (zt0 zpo (pix w K hr (zq0 (K:=K) rfl (pv 2) rfl) (pv 0)) (pv 1) (zm1 _))),(pv 0)⟩)))),(zb2 (RfE.c (RfF.e (ze4 (zav (ze1 (RfP.v (zy0 jH jY (zm0 0))) zj2)) (zde (zu0 (zw1 (i:=0) (n:=2) (by decide)) (zu0 (zw1 (i:=1) (n:=2) (by decide)) zo6))) (zs0 (zl0 r_gt (RfE.v (zl0 r_ix (RfP.v (zy0 jH jI (zm0 2))) (za0 0))) (za0 1))) (zi0 0))))),?_⟩
 rintro as Qd a ⟨rooms,lying,ps,m,en,kvs,rfl,hl,h12,hb,q⟩
 unfold pS
 walk_at "ds"
 walk_at "dd"
 rw [zhf]
 refine zr41 (λ _=>none) (by rw [sizeLine_eq,j4];lia) (λ x hx=>?_) ?_
 ·obtain ⟨i,r⟩:=x
  obtain ⟨j,hj,ej⟩:=List.mem_mapIdx.mp hx
  cases ej
  have ly:i < lying.length:=by lia
  have gl:atI (lying.map u9) ((i:Nat):Int)=some (.int lying[i]):=zk2 (by lia) (by rw [vI,u6,u5 ly];rfl)
  have hh:=hb i _ _ (u5 hj) (u5 ly)
  walk_at "cs"
  walk_at "dd"
  refine ⟨_,gl,?_⟩
  walk_at "dd"
  rw [if_neg (by lia)];trivial
 ·have:∀ l:List (Nat×Int),l.filterMap (λ _=>(none:Option D))=[]:=λ l=>by simp
  rw [this];exact q
theorem zy5:FnScope ["self", "yard"] ["self", "yard"] (zg0 zn1):=by exact ⟨rfl,rfl,rfl,by decide +kernel,rfl,by decide +kernel,by decide +kernel⟩
theorem zva (M:Md K mg) (cT:TopCls K "Play" jB) (T:TopMeth K jB "__init__" "Play.__init__" zn1) (jS:mg "len"=none) (kD:mg "list"=none) (uU:Def P w K mg base "gate_of" 3 ["gate"] (spT K (zim jC jF jD))) (jY:NoAttr K jB "rooms") (jI:NoAttr K jB "lying") (jN:NoAttr K jB "pipes") (jZ:NoAttr K jB "gates") (jM:NoAttr K jB "moment") (jO:NoAttr K jB "entered") (jQ:NoAttr K jB "coming"):zzn P w K mg base "Play" jB 4 ["self", "yard"] (spT K (zs6 jB jC jF jD)):=by
 have jH:=cT.cls
 refine zxh M cT T zy5 (λ _ _ _ _ _ _ us hl=>by obtain ⟨_,_,rfl⟩:=ar2 hl;rfl) (zab λ as Qd h=>by obtain ⟨_,_,rfl,_⟩:=h;rfl) (zm3 ?_)
 intro f cdv A outer s H E hr
 have nd:=zy5.nd
 refine ⟨_,_,(zc0 (zr5 (pv 0) (zk4 (sc:=zg0 zn1) (N:=["self", "yard"]) (own:=["vat"]) (ix:=[]) rfl rfl rfl (by exact ⟨rfl,by decide +kernel,by decide +kernel,by decide +kernel,by decide +kernel⟩) (pi_W (K:=K) rfl (pix w K hr (pv 1) zf0)) (λ _ _ _ _=>⟨(pgn 0 (nds ["vat"])),zk3,(pix w K hr (pv 0) zf0)⟩)) rfl)
   (zc0 (zr5 (pv 0) (zk4 (sc:=zg0 zn1) (N:=["self", "yard"]) (own:=["vat"]) (ix:=[]) rfl rfl rfl (by exact ⟨rfl,by decide +kernel,by decide +kernel,by decide +kernel,by decide +kernel⟩) (pi_W (K:=K) rfl (pix w K hr (pv 1) zf0)) (λ _ _ _ _=>⟨(pgn 0 (nds ["vat"])),zk3,(pix w K hr (pv 0) zf0)⟩)) rfl)
   (zc0 (zr5 (pv 0) (zh4 (ze3 (K:=K) rfl) rfl kD zx8 (zb0 (pix w K hr (pv 1) zf0) zh0)) rfl)
   (zc0 (zr5 (pv 0) (zk4 (sc:=zg0 zn1) (N:=["self", "yard"]) (own:=["pipe"]) (ix:=[]) rfl rfl rfl (by exact ⟨rfl,by decide +kernel,by decide +kernel,by decide +kernel,by decide +kernel⟩) (pi_W (K:=K) rfl (pix w K hr (pv 1) zf0)) (λ _ _ _ _=>⟨(pgn 0 (nds ["pipe"])),zk3,(zx0 uU (rmn hr) rfl (zb0 (pix w K hr (pv 0) zf0) zh0))⟩)) rfl)
   (zc0 (zr5 (pv 0) zf0 rfl)
   (zc0 (zr5 (pv 0) (zr0 zv1 (zo1 (zb0 zf0 zh0)) (zh1 (zf1 (K:=K) rfl) rfl jS ze7 (zb0 (zq0 (K:=K) rfl (pv 0) rfl) zh0))) rfl)
   (zj0 (zr5 (pv 0) zhv rfl)))))))),(zk0 (zj5 jH jY (RfF.c (ze4 (zau (RfE.v (zl0 r_ix (za0 1) rvi))) (zw1 (i:=0) (n:=1) (by decide)) zh6 (zl0 r_ix (za0 0) rvi))) (zm0 0))
   (zk0 (zj5 jH jI (RfF.c (ze4 (zau (RfE.v (zl0 r_ix (za0 1) rvi))) (zw1 (i:=0) (n:=1) (by decide)) zh6 (zl0 r_ix (za0 0) rvi))) (zm0 0))
   (zk0 (zj5 jH jN (RfE.c (RfF.e (zmy zol (ze1 (RfE.v (zl0 r_ix (za0 1) rvi)) zj2)))) (zm0 0))
   (zk0 (zj5 jH jZ (RfN.c (zxi (zau (RfE.v (zl0 r_ix (za0 1) rvi))) (zw1 (i:=0) (n:=1) (by decide)) (zb11 (at_d (zl0 r_ix (za0 0) rvi) zw2)))) (zm0 0))
   (zk0 (zj5 jH jM (RfE.c zq1) (zm0 0))
   (zk0 (zj5 jH jO (RfF.c (zmn (zg3 (zd0 zq1 zn0)) (zij ztk (ze1 (RfP.v (zy0 jH jN (zm0 0))) zj2)))) (zm0 0))
   (zj5 jH jQ znd1 (zm0 0)))))))),?_⟩
 rintro as Qd a ⟨vs,ps,rfl,hv,hp,q⟩
 walk_at "ds"
 refine ze0 λ J hJ=>?_
 walk_at "dd"
 refine ⟨_,rfl,?_⟩
 walk_at "dd"
 refine zrs (λ v=>.int v.room) (by rw [sizeLine_eq];lia) (λ v _=>?_) (hJ _ ?_)
 ·unfold Va.d
  walk_at "cs"
  walk_at "dd"
  exact ⟨_,rfl,rfl⟩
 clear hJ
 refine ze0 λ J hJ=>?_
 walk_at "dd"
 refine ⟨_,rfl,?_⟩
 walk_at "dd"
 refine zrs (λ v=>.int v.fill) (by rw [sizeLine_eq];lia) (λ v _=>?_) (hJ _ ?_)
 ·unfold Va.d
  walk_at "cs"
  walk_at "dd"
  exact ⟨_,rfl,rfl⟩
 clear hJ
 refine ze0 λ J hJ=>?_
 walk_at "dd"
 refine ⟨_,rfl,?_⟩
 walk_at "dd"
 refine hJ _ ?_
 clear hJ
 refine ze0 λ J hJ=>?_
 walk_at "dd"
 refine ⟨_,rfl,?_⟩
 walk_at "dd"
 refine zxp (λ p=>p.g.ob jC jF jD) (by rw [sizeLine_eq];lia) (λ p _=>?_) (hJ _ ?_)
 ·unfold Pi.d
  walk_at "cs"
  walk_at "dd"
  exact ⟨_,rfl,p.g,rfl,rfl⟩
 clear hJ
 walk_at "dn"
 refine ze0 λ J hJ=>?_
 walk_at "dd"
 rw [u4,vI,j2]
 refine ⟨by lia,by lia,by lia,hJ _ ?_⟩
 clear hJ
 walk_at "dd"
 refine ⟨_,rfl,?_⟩
 unfold pS at q
 rw [wD,wD,j3] at q
 exact q
theorem zt6:FnScope ["self", "pipe"] ["self", "pipe"] (zg0 zg4):=by exact ⟨rfl,rfl,rfl,by decide +kernel,rfl,by decide +kernel,by decide +kernel⟩
theorem zid (jH:Cls K jB) (T:TopMeth K jB "room_in" "Play.room_in" zg4) (jS:mg "len"=none) (kU:Cls K jF) (kE:Cls K jC) (kB:Cls K jD) (jM:NoAttr K jB "moment") (jO:NoAttr K jB "entered") (jN:NoAttr K jB "pipes") (jZ:NoAttr K jB "gates") (kK:MethD P w K mg base jC "width_at" 1 ["self", "moment"] (spT K (zp2 jC))) (qD:MethD P w K mg base jF "width_at" 1 ["self", "moment"] (spT K (zu3 jF))) (kW:MethD P w K mg base jD "width_at" 1 ["self", "moment"] (spT K (za3 jD))):MethD P w K mg base jB "room_in" 2 ["self", "pipe"] (spT K (zz7 jB jC jF jD)):=by
 refine zi3 jH T zt6 (λ _ _ _ _ _ _ us hl=>by obtain ⟨_,_,rfl⟩:=ar2 hl;rfl) (zab λ as Qd h=>by obtain ⟨_,_,_,_,_,_,_,_,_,rfl,_⟩:=h;rfl) (zm3 ?_)
 intro f cdv A outer s H E hr
 have nd:=zt6.nd
 refine ⟨_,_,(zc0 (zr8 (zlr (zym zk41 zry zf0 (pv 1) (zh1 (zf1 (K:=K) rfl) rfl jS ze7 (zb0 (zq0 (K:=K) rfl (pv 0) rfl) zh0)))) (zj0 zze) zi1)
   (zj0 (zg1 (zr0 zjh (ziy (P:=P) (w:=w) (K:=K) (mg:=mg) (base:=base) (k:=1) rfl rfl rfl rfl rfl (rmn hr) (pix w K hr (zq0 (K:=K) rfl (pv 0) rfl) (pv 1)) (zb0 (zq0 (K:=K) rfl (pv 0) rfl) zh0)) (pix w K hr (zq0 (K:=K) rfl (pv 0) rfl) (pv 1)))))),(zk0 (ze9 (zux (zs0 (zco r_le r_lt zq1 (zi0 1) (zij ztk (ze1 (RfP.v (zy0 jH jN (zm0 0))) zj2))))) zte zj1)
   (zb2 (RfE.c (zl0 zst (RfE.v (RfN.ex (zzx (tab:=[(jC,(zp2 jC)),(jF,(zu3 jF)),(jD,(za3 jD))]) (tab3 ⟨_,kK⟩ ⟨_,qD⟩ ⟨_,kW⟩) (zkx (zy0 jH jZ (zm0 0)) (zi0 1)) (zd0 (RfP.e (zy0 jH jM (zm0 0))) zn0)))) (RfE.v (zl0 r_ix (RfP.v (zy0 jH jO (zm0 0))) (za0 1))))))),?_⟩
 rintro as Qd a ⟨rooms,lying,ps,m,en,kvs,k,p,e,rfl,hk,he,ok,hl,q⟩
 unfold pS
 walk_at "ds"
 refine ze0 λ J hJ=>?_
 walk_at "dd"
 have lk:=(vW.mp hk).1
 rw [u4,if_pos (by lia),if_neg (by lia)]
 refine hJ _ ?_
 clear hJ
 walk_at "dd"
 refine ⟨k,_,zmj (by rw [u4];exact lk),by rw [u6,hk];rfl,?_⟩
 have ge:atI (en.map u9) ((k:Nat):Int)=some (.int e):=zk2 (by lia) (by rw [vI,u6,he];rfl)
 obtain ⟨u,v,ln,pr,g⟩:=p
 have fin:∀ x:Int,x=g.at m->∃ d,atI (en.map u9) ((k:Nat):Int)=some d/\fSub (.int x) d λ d=>Qd (.fz d) (.fz .none):=λ x hx=>⟨_,ge,by rw [hx];exact q⟩
 cases g with
|st x =>
  unfold Gt.ob
  walk_at "dd"
  exact ⟨_,v6,x,m,rfl,fin _ rfl⟩
|la x f =>
  unfold Gt.ob
  walk_at "dd"
  exact ⟨_,vU _ v6,x,f,m,rfl,fin _ rfl⟩
|ti x y t =>
  unfold Gt.ob
  walk_at "dd"
  exact ⟨_,vU _ (vU _ v6),x,y,t,m,rfl,ok.1,ok.2,fin _ rfl⟩
theorem zle:FnScope ["self", "pipe", "amount", "left", "start", "place"] ["self", "pipe", "amount"] (zg0 zdb):=by exact ⟨rfl,rfl,rfl,by decide +kernel,rfl,by decide +kernel,by decide +kernel⟩
theorem zin (jH:Cls K jB) (T:TopMeth K jB "let" "Play.let" zdb) (jO:NoAttr K jB "entered") (jI:NoAttr K jB "lying") (jQ:NoAttr K jB "coming") (jN:NoAttr K jB "pipes") (jM:NoAttr K jB "moment") (qL:MethD P w K mg base jB "room_in" 2 ["self", "pipe"] (spT K (zz7 jB jC jF jD))):MethD P w K mg base jB "let" 3 ["self", "pipe", "amount"] (spT K (zai jB jC jF jD)):=by
 refine zi3 jH T zle (λ _ _ _ _ _ _ us hl=>by obtain ⟨_,_,_,rfl⟩:=ar3 hl;rfl) (zab λ as Qd h=>by obtain ⟨_,_,_,_,_,_,_,_,_,_,_,_,rfl,_⟩:=h;rfl) (zm3 ?_)
 intro f cdv A outer s H E hr
 have nd:=zle.nd
 refine ⟨_,_,(zc0 (pset 3 nd (zt3 qL (rmn hr) (pv 0) (zb0 (pv 1) zh0)))
   (zc0 (zr8 (zt0 zry (pv 2) zf0 (zm1 _)) (zj0 zze) zi1)
   (zc0 (zr8 (zt0 zpo (pv 2) (pv 3) (zm1 _)) (zj0 zze) zi1)
   (zc0 (pset 4 nd (pix w K hr (pix w K hr (zq0 (K:=K) rfl (pv 0) rfl) (pv 1)) zf0))
   (zc0 (zr8 (zt0 zpo (pv 2) (pix w K hr (zq0 (K:=K) rfl (pv 0) rfl) (pv 4)) (zm1 _)) (zj0 zze) zi1)
   (zc0 (zoj (zq0 (K:=K) rfl (pv 0) rfl) (pv 1) (zdz (K:=K) (Room.units hr) rfl) (pv 2) zep (zwp (Room.units hr)))
   (zc0 (zoj (zq0 (K:=K) rfl (pv 0) rfl) (pv 4) (zdz (K:=K) (Room.units hr) rfl) (pv 2) zj41 (zwp (Room.units hr)))
   (zc0 (pset 5 nd (zh2 (zb0 (zr0 (zp0 (K:=K) rfl) (zq0 (K:=K) rfl (pv 0) rfl) (pix w K hr (pix w K hr (zq0 (K:=K) rfl (pv 0) rfl) (pv 1)) zf0)) (zb0 (pv 1) zh0))))
   (zc0 (zxd (zr0 (zp0 (K:=K) rfl) (zj4 (K:=K) rfl PySem.F.plainAttrs_dict PySem.F.slot_dict_get PySem.F.type_dict_get (zx01 (Room.units hr)) (zq0 (K:=K) rfl (pv 0) rfl) (zb0 (pv 5) (zb0 zf0 zh0))) (pv 2)) (zqn (zq0 (K:=K) rfl (pv 0) rfl) (pv 5) (zwp (Room.units hr))))
   (zj0 (zg1 (pix w K hr (zq0 (K:=K) rfl (pv 0) rfl) (pv 4))))))))))))),(zk0 (zf2 (zv4 false (zm0 0) (at_d (zi0 1) zw2)))
   (zk0 (ze9 (zs0 (zl0 r_lt (za0 2) rvi)) zte zj1)
   (zk0 (ze9 (zs0 (zl0 r_gt (za0 2) (za0 3))) zte zj1)
   (zk0 (zz0 (zl0 r_ix (RfE.v (zl0 r_ix (RfP.v (zy0 jH jN (zm0 0))) (za0 1))) rvi) (rgn 4))
   (zk0 (ze9 (zs0 (zl0 r_gt (za0 2) (RfE.v (zl0 r_ix (RfP.v (zy0 jH jI (zm0 0))) (za0 4))))) zte zj1)
   (zk0 (zcn (zy0 jH jO (zm0 0)) (zi0 1) (zi0 2))
   (zk0 (zcn (zy0 jH jI (zm0 0)) (zi0 4) (zi0 2))
   (zk0 (zz0 (zx4 (zd0 (zl0 zv2 (RfP.v (zy0 jH jM (zm0 0))) (RfE.v (zl0 r_ix (RfE.v (zl0 r_ix (RfP.v (zy0 jH jN (zm0 0))) (za0 1))) rvi))) (zd0 (zi0 1) zn0))) (rgn 5))
   (zk0 (zmp (zl0 zv2 (RfE.v (znz (zy0 jH jQ (zm0 0)) (zi0 5) zq1)) (za0 2)) (zy0 jH jQ (zm0 0)) (zi0 5))
   (zb2 (RfE.c (zl0 r_ix (RfP.v (zy0 jH jI (zm0 0))) (za0 4))))))))))))),?_⟩
 rintro as Qd a ⟨rooms,lying,ps,m,en,kvs,k,am,p,e,y,c0,rfl,hk,he,hy,ok,hl,hkv,a1,a2,a3,hc,q⟩
 have lk:=(vW.mp hk).1
 have le:=(vW.mp he).1
 have ly:=(vW.mp hy).1
 unfold pS at q ⊢
 walk_at "ds"
 refine ze0 λ J hJ=>?_
 walk_at "dd"
 refine ⟨rooms,lying,ps,m,en,kvs,k,p,e,rfl,hk,he,ok,hl,hJ _ ?_⟩
 clear hJ
 refine ze0 λ J hJ=>?_
 walk_at "dd"
 rw [if_neg (by lia)]
 refine hJ _ ?_
 clear hJ
 refine ze0 λ J hJ=>?_
 walk_at "dd"
 rw [if_neg (by lia)]
 refine hJ _ ?_
 clear hJ
 have gp:atI (ps.map Pi.d) ((k:Nat):Int)=some (.tuple [.int (p.u:Int),.int (p.v:Int),.int (p.len:Int),.int p.pr,p.g.d]):=zk2 (by lia) (by rw [vI,u6,hk];rfl)
 have gy:atI (lying.map u9) ((p.u:Nat):Int)=some (.int y):=zk2 (by lia) (by rw [vI,u6,hy];rfl)
 refine ze0 λ J hJ=>?_
 walk_at "dd"
 refine ⟨_,gp,?_⟩
 walk_at "dd"
 refine ⟨_,rfl,hJ _ ?_⟩
 clear hJ
 refine ze0 λ J hJ=>?_
 walk_at "dd"
 refine ⟨_,gy,?_⟩
 walk_at "dd"
 rw [if_neg (by lia)]
 refine hJ _ ?_
 clear hJ
 refine ze0 λ J hJ=>?_
 walk_at "dd"
 refine ⟨by lia,_,by rw [vI,u6,he];rfl,?_⟩
 walk_at "dd"
 refine ⟨k,zmj (by rw [u4];exact le),hJ _ ?_⟩
 clear hJ
 refine ze0 λ J hJ=>?_
 walk_at "dd"
 refine ⟨by lia,_,by rw [vI,u6,hy];rfl,?_⟩
 walk_at "dd"
 refine ⟨p.u,zmj (by rw [u4];exact ly),hJ _ ?_⟩
 clear hJ
 refine ze0 λ J hJ=>?_
 walk_at "dd"
 refine ⟨_,gp,?_⟩
 walk_at "dd"
 refine ⟨_,rfl,hJ _ ?_⟩
 clear hJ
 refine ze0 λ J hJ=>?_
 walk_at "dd"
 refine ⟨[.inl ((m:Int)+(p.len:Int)),.inl (k:Int)],rfl,?_⟩
 rw [hc]
 walk_at "dd"
 refine ⟨[.inl ((m:Int)+(p.len:Int)),.inl (k:Int)],rfl,hkv,hJ _ ?_⟩
 clear hJ
 walk_at "dd"
 rw [xN,xN] at q
 refine ⟨_,zk2 (by lia) (by rw [vI,wP (by rw [u4];exact ly)]),_,rfl,q⟩
end
noncomputable def kTI (t:Int) (i:Nat):List Key:=[.inl t,.inl (i:Int)]
noncomputable def cm (kvs:List (List Key×D)) (t:Int) (i:Nat):Int:=match getA kvs (kTI t i) with
|some (.int c)=>c
|_=>0
noncomputable def AllI (kvs:List (List Key×D)):Prop:=∀ k d,getA kvs k=some d->∃ c,d=.int c
noncomputable def inc (l:List Int) (v:Nat) (c:Int):List Int:=l.set v (l.getD v 0+c)
noncomputable def arrL (ps:List Pi) (kvs:List (List Key×D)) (t:Int):Nat->List Int->List Int
|0,l=>l
|n+1,l=>inc (arrL ps kvs t n l) ((ps[n]?).map Pi.v |>.getD 0) (cm kvs t n)
noncomputable def arrK (kvs:List (List Key×D)) (t:Int):Nat->List (List Key×D)
|0=>kvs
|n+1=>zh8 (arrK kvs t n) (kTI t n)
theorem zgf {κ:Type} [DecidableEq κ] (k k':κ):∀ kvs:List (κ×D),getA (zh8 kvs k) k'=if k=k' then none else getA kvs k'
|[]=>by unfold zh8 getA;simp
|(a,d) :: r=>by
  have ih:=zgf k k' r
  unfold zh8 at ih ⊢
  by_cases e:a=k
  ·rw [yT (by simp [e]),ih,zx2,e]
   split <;> rfl
  ·rw [yE (by simp [e]),zx2,zx2,ih]
   by_cases f:a=k'
   ·subst f;rw [if_pos rfl,if_neg (λ z=>e z.symm),if_pos rfl]
   ·rw [if_neg f,if_neg f]
theorem zpu {t t':Int} {i i':Nat} (h:kTI t i=kTI t' i'):t=t'/\i=i':=by
 unfold kTI at h
 injection h with h1 h2
 injection h1 with h1
 injection h2 with h2 _
 injection h2 with h2
 exact ⟨h1,by lia⟩
theorem zeg (kvs:List (List Key×D)) (t:Int) (t':Int) (i:Nat):∀ n,getA (arrK kvs t n) (kTI t' i)=if t'=t/\i < n then none else getA kvs (kTI t' i)
|0=>by rw [if_neg (by lia)];rfl
|n+1=>by
  show getA (zh8 (arrK kvs t n) (kTI t n)) (kTI t' i)=_
  rw [zgf,zeg kvs t t' i n]
  by_cases e:kTI t n=kTI t' i
  ·obtain ⟨e1,e2⟩:=zpu e
   rw [if_pos e,if_pos ⟨e1.symm,by lia⟩]
  ·rw [if_neg e]
   by_cases f:t'=t/\i < n
   ·rw [if_pos f,if_pos ⟨f.1,by lia⟩]
   ·rw [if_neg f,if_neg (λ z=>?_)]
    refine f ⟨z.1,?_⟩
    have:i≠n:=λ y=>e (by rw [z.1,y])
    lia
theorem zzq {kvs:List (List Key×D)} (h:AllI kvs) (k:List Key):AllI (zh8 kvs k):=λ k' d e=>by
 rw [zgf] at e
 split at e
 ·cases e
 ·exact h k' d e
theorem zca {kvs:List (List Key×D)} (h:AllI kvs) (t:Int):∀ n,AllI (arrK kvs t n)
|0=>h
|n+1=>zzq (zca h t n) _
theorem zz21 {kvs:List (List Key×D)} (h:AllI kvs) (t:Int) (i:Nat):(getA kvs (kTI t i)).getD (.int 0)=.int (cm kvs t i):=by
 unfold cm
 cases e:getA kvs (kTI t i) with
|none=>rfl
|some d =>
  obtain ⟨c,rfl⟩:=h _ _ e
  rfl
theorem za01 (kvs:List (List Key×D)) (t:Int) (n:Nat):cm (arrK kvs t n) t n=cm kvs t n:=by
 unfold cm
 rw [zeg,if_neg (by lia)]
theorem zrq (l:List Int) (v:Nat) (c:Int):(inc l v c).length=l.length:=by unfold inc;simp
theorem zma (ps:List Pi) (kvs:List (List Key×D)) (t:Int) (l:List Int):∀ n,(arrL ps kvs t n l).length=l.length
|0=>rfl
|n+1=>by
  show (inc _ _ _).length=_
  rw [zrq,zma ps kvs t l n]
section
variable {P:Program} {w:World} {K:Fg} {mg:Str->Option Value} {base:Heap} {jC jF jD jB:Addr}
noncomputable def zji (rooms lying:List Int):Prop:=rooms.length=lying.length/\rooms.length<=12/\∀ (i:Nat) r y,rooms[i]?=some r->lying[i]?=some y->y<=r
noncomputable def zo3 (C C1 C2 C3:Addr):DSpT:=λ as Q=>∃ (rooms lying:List Int) (ps:List Pi) (m:Nat) (en:List Int) (kvs:List (List Key×D)),as=[.b (pS C C1 C2 C3 rooms lying ps m en kvs)]/\zji rooms lying/\Q (.fz .none) (.fz .none)
noncomputable def zua (C C1 C2 C3:Addr):DSpT:=λ as Q=>∃ (rooms lying:List Int) (ps:List Pi) (m:Nat) (en:List Int) (kvs:List (List Key×D)),as=[.o (pS C C1 C2 C3 rooms lying ps m en kvs)]/\zji rooms lying/\ps.length<=24/\(∀ p∈ps,p.v < lying.length)/\AllI kvs /\
 Q (.fz (.int ((m+1:Nat):Int))) (pS C C1 C2 C3 rooms (arrL ps kvs ((m+1:Nat):Int) ps.length lying) ps (m+1) (u7 ps.length 0) (arrK kvs ((m+1:Nat):Int) ps.length))
theorem zb8:FnScope ["play", "vats"] ["play"] (zg0 zt5):=by exact ⟨rfl,rfl,rfl,by decide +kernel,rfl,by decide +kernel,by decide +kernel⟩
theorem zcg (M:Md K mg) (T:TopDef K "refuse_full" zt5) (jH:Cls K jB) (uA:MethD P w K mg base jB "full" 1 ["self"] (spT K (zpe jB jC jF jD))):Def P w K mg base "refuse_full" 2 ["play"] (spT K (zo3 jB jC jF jD)):=by
 refine zg7 M T zb8 (λ _ _ _ _ _ _ us hl=>by obtain ⟨_,rfl⟩:=ar1 hl;rfl) (zab λ as Qd h=>by obtain ⟨_,_,_,_,_,_,rfl,_⟩:=h;rfl) (zm3 ?_)
 intro f cdv A outer s H E hr
 have nd:=zb8.nd
 refine ⟨_,_,(zc0 (pset 1 nd (za8 uA (rmn hr) (pv 0)))
   (zj0 (zr8 (zuc (K:=K) rfl (pv 1) (λ _=>rfl)) (zj0 zze) zi1))),(zk0 (zf2 (zv4 false (zm0 0) zw2))
   (ze9 (zpn (za0 1)) zte zj1)),?_⟩
 rintro as Qd a ⟨rooms,lying,ps,m,en,kvs,rfl,⟨h1,h2,h3⟩,q⟩
 unfold pS
 walk_at "ds"
 refine ze0 λ J hJ=>?_
 walk_at "dd"
 refine ⟨rooms,lying,ps,m,en,kvs,rfl,h1,h2,h3,?_⟩
 walk_at "dd"
 refine hJ _ ?_
 clear hJ
 walk_at "dd"
 rw [if_neg (by decide)]
 exact q
theorem zy8:FnScope ["self", "number", "pipe"] ["self"] (zg0 za7):=by exact ⟨rfl,rfl,rfl,by decide +kernel,rfl,by decide +kernel,by decide +kernel⟩
theorem zfh (jH:Cls K jB) (T:TopMeth K jB "go_on" "Play.go_on" za7) (jR:mg "enumerate"=none) (jS:mg "len"=none) (kC:Def P w K mg base "refuse_full" 2 ["play"] (spT K (zo3 jB jC jF jD))) (jM:NoAttr K jB "moment") (jO:NoAttr K jB "entered") (jN:NoAttr K jB "pipes") (jI:NoAttr K jB "lying") (jQ:NoAttr K jB "coming"):MethD P w K mg base jB "go_on" 3 ["self"] (spT K (zua jB jC jF jD)):=by
 refine zi3 jH T zy8 (λ _ _ _ _ _ _ us hl=>by obtain ⟨_,rfl⟩:=ar1 hl;rfl) (zab λ as Qd h=>by obtain ⟨_,_,_,_,_,_,rfl,_⟩:=h;rfl) (zm3 ?_)
 intro f cdv A outer s H E hr
 have nd:=zy8.nd
 refine ⟨_,(dSeq (zd51 (zca1 (zo3 jB jC jF jD) (aB (pVar 0) aNil)))
   (dSeq (zkp jB "moment" (λ i j=>i+j) (pVar 0) (dC (.int 1)))
   (dSeq (dFld jB "entered" (cF (dRep (dLst (zwq (dC (.int 0)) dNil)) (dCB fLen (zwq (dPV (pFld jB "pipes" (pVar 0))) dNil)))) (pVar 0))
   (dSeq (dFor (zb51 (zwq (dPE (pFld jB "pipes" (pVar 0))) dNil)) (gT 2 (zlq (gN 1) (zlq (gN 2) zm41))) (zbn (λ i j=>i+j) (pFld jB "lying" (pVar 0)) (dOp fIx (za51 2) (dC (.int 1))) (pFld jB "coming" (pVar 0)) (dTup (zwq (dPE (pFld jB "moment" (pVar 0))) (zwq (dVar 1) dNil))) (dC (.int 0))))
   (dRet (cE (dPE (pFld jB "moment" (pVar 0))))))))),(zc0 (zk1 (zx0 kC (rmn hr) rfl (zb0 (pv 0) zh0)))
   (zc0 (zat (pv 0) zf0 zf91)
   (zc0 (zr5 (pv 0) (zr0 zv1 (zo1 (zb0 zf0 zh0)) (zh1 (zf1 (K:=K) rfl) rfl jS ze7 (zb0 (zq0 (K:=K) rfl (pv 0) rfl) zh0))) rfl)
   (zc0 (zw3 PassesOwn.never rfl (zzm (K:=K) rfl rfl jR (zb0 (zq0 (K:=K) rfl (pv 0) rfl) zh0)) (zf6 (K:=K) (n:=2) rfl rfl (zv0 (pgn 1 nd) (zv0 (pgn 2 nd) zm6))) (zj0 (zoj (zq0 (K:=K) rfl (pv 0) rfl) (pix w K hr (pv 2) zf0) (zdz (K:=K) (Room.units hr) rfl) (zj4 (K:=K) rfl PySem.F.plainAttrs_dict PySem.F.slot_dict_pop PySem.F.type_dict_pop (zo31 (Room.units hr)) (zq0 (K:=K) rfl (pv 0) rfl) (zb0 (zh2 (zb0 (zq0 (K:=K) rfl (pv 0) rfl) (zb0 (pv 1) zh0))) (zb0 zf0 zh0))) zep (zwp (Room.units hr)))))
   (zj0 (zg1 (zq0 (K:=K) rfl (pv 0) rfl))))))),(zk0 (zl1 (zeo (at_b (zm0 0) zw2)))
   (zk0 (zts (fn:=(λ i j=>i+j)) jH jM (zm0 0) zq1)
   (zk0 (zj5 jH jO (RfF.c (zmn (zg3 (zd0 zq1 zn0)) (zij ztk (ze1 (RfP.v (zy0 jH jN (zm0 0))) zj2)))) (zm0 0))
   (zk0 (zs3 (ztt (zd0 (RfP.e (zy0 jH jN (zm0 0))) zn0)) (zde (zu0 (rgn 1) (zu0 (rgn 2) zo6))) (zmr (zy0 jH jI (zm0 0)) (zl0 r_ix (za0 2) rvi) (zy0 jH jQ (zm0 0)) (zx4 (zd0 (RfP.e (zy0 jH jM (zm0 0))) (zd0 (zi0 1) zn0))) zq1))
   (zb2 (RfE.c (RfP.e (zy0 jH jM (zm0 0))))))))),?_⟩
 rintro as Qd a ⟨rooms,lying,ps,m,en,kvs,rfl,no,h24,hv,hi,q⟩
 unfold pS at q ⊢
 walk_at "ds"
 refine ze0 λ J hJ=>?_
 walk_at "dd"
 refine ⟨rooms,lying,ps,m,en,kvs,rfl,no,?_⟩
 walk_at "dd"
 refine hJ _ ?_
 clear hJ
 refine ze0 λ J hJ=>?_
 walk_at "dd"
 refine hJ _ ?_
 clear hJ
 refine ze0 λ J hJ=>?_
 walk_at "dd"
 rw [u4,vI,j2]
 refine ⟨by lia,by lia,by lia,hJ _ ?_⟩
 clear hJ
 have et:(m:Int)+1=((m+1:Nat):Int):=by lia
 rw [et]
 generalize hT:((m+1:Nat):Int)=t at q ⊢
 refine ze0 λ J hJ=>?_
 walk_at "dd"
 rw [zhf]
 refine za2 (λ i U=>∃ (s1 s2:Sl),U=[.io a (.ob jB [("rooms",.li (rooms.map .int)),("lying",.li ((arrL ps kvs t i lying).map .int)),("pipes",.fz (.list (ps.map Pi.d))),("gates",.ls (ps.map λ p=>p.g.ob jC jF jD)),("moment",.fz (.int t)),("entered",.li (u7 ps.length (.int 0))),("coming",.dt (arrK kvs t i))]),s1,s2]) ⟨_,_,rfl⟩ ?_ ?_
 ·rintro i x U hx ⟨s1,s2,rfl⟩
  obtain ⟨i',p⟩:=x
  rw [yR] at hx
  obtain ⟨p',hp,e⟩:=wJ.mp hx
  cases e
  have hl:p.v < (arrL ps kvs t i lying).length:=by rw [zma];exact hv p (v8 hp)
  have en1:arrL ps kvs t (i+1) lying=inc (arrL ps kvs t i lying) p.v (cm kvs t i):=by
   show inc _ _ _=_
   rw [hp];rfl
  have ek1:arrK kvs t (i+1)=zh8 (arrK kvs t i) (kTI t i):=rfl
  rw [en1,ek1]
  have ec:=zz21 (zca hi t i) t i
  rw [za01] at ec
  generalize arrL ps kvs t i lying=L at hl ⊢
  generalize arrK kvs t i=M at ec ⊢
  generalize hpd:ps.map Pi.d=PD
  unfold Pi.d
  refine ⟨rfl,zns (z:=(p.v:Int)) (y:=L.getD p.v 0) (c:=cm kvs t i) (yd:=.tuple [.int t,.int (i:Int)]) (zd:=.int 0) (key:=kTI t i) (j:=p.v) (ds:=L.map .int) (kvs:=M) rfl rfl rfl (by decide +kernel) (λ Q hq=>?_) (λ Q hq=>?_) (λ Q hq=>hq) (by lia) ?_ (zmj (by rw [u4];exact hl)) rfl ec ?_⟩
  ·walk_at "dd"
   exact ⟨_,rfl,hq⟩
  ·walk_at "dd"
   exact hq
  ·rw [vI,u6,vL,u5 hl];rfl
  ·refine ⟨.sh (.int (i:Int)),.sh (.tuple [.int (p.u:Int),.int (p.v:Int),.int (p.len:Int),.int p.pr,p.g.d]),?_⟩
   unfold inc
   rw [xN]
   rfl
 ·rintro U ⟨s1,s2,rfl⟩
  rw [j4]
  refine hJ _ ?_
  clear hJ
  walk_at "dd"
  rw [j3] at q
  exact ⟨_,rfl,q⟩
end
structure Le where
 t:Nat
 at_:Nat
 am:Int
noncomputable def Le.d (l:Le):D:=.tuple [.int (l.t:Int),.int (l.at_:Int),.int l.am]
noncomputable def byM (plan:List Le) (m:Nat):List Le:=plan.filter λ l=>l.t=m
noncomputable def zhc:DSp:=λ ds Q=>∃ (plan:List Le) (n:Nat),ds=[.list (plan.map Le.d),.int (n:Int)]/\n<=1000/\plan.length<=1000/\(∀ l∈plan,l.t < n)/\Q (.list ((u3 n).map λ m=>.list ((byM plan m).map Le.d)))
theorem zvx {plan:List Le} {i:Nat} {l:Le} (h:plan[i]?=some l) (m:Nat):byM (plan.take (i+1)) m=byM (plan.take i) m++(if l.t=m then [l] else []):=by
 unfold byM
 rw [wZ,h,List.filter_append]
 congr 1
 by_cases e:l.t=m
 ·simp [e]
 ·simp [e]
theorem zdq {α:Type} {n u:Nat} {g:Nat->α} {x:α}:((u3 n).map g).set u x=(u3 n).map λ v=>if v=u then x else g v:=by
 apply zG
 intro j
 rw [wV,u6,u6,u4,vP]
 by_cases h:j < n
 ·rw [xL h]
  by_cases z:u=j
  ·subst z;simp [h]
  ·simp [z]
   exact λ y=>absurd y.symm z
 ·rw [wH (by simpa using h)]
  by_cases z:u=j
  ·subst z;simp [h]
  ·simp [z]
theorem zft (plan:List Le) (m:Nat):(byM plan m).length<=plan.length:=zZ _ _
theorem zll {α:Type} (f:α->List D):∀ xs:List α,zho (xs.map λ x=>L4.T.li (f x))=some (xs.map f)
|[]=>rfl
|x :: r=>by
  show (zho (r.map λ x=>L4.T.li (f x))).map (f x :: ·)=_
  rw [zll f r];rfl
section
variable {P:Program} {w:World} {K:Fg} {mg:Str->Option Value} {base:Heap} {jC jF jD jB:Addr}
theorem zz8:FnScope ["plan", "until", "told", "letting", "moment"] ["plan", "until"] (zg0 zf4):=by exact ⟨rfl,rfl,rfl,by decide +kernel,rfl,by decide +kernel,by decide +kernel⟩
theorem zwi (M:Md K mg) (T:TopDef K "by_moments" zf4) (jJ:mg "range"=none):Def P w K mg base "by_moments" 1 ["plan", "until"] (spD K zhc):=by
 refine zg7 M T zz8 (λ _ _ _ _ _ _ us hl=>by obtain ⟨_,_,rfl⟩:=ar2 hl;rfl) (zln λ ds Qd h=>by obtain ⟨_,_,rfl,_⟩:=h;rfl) (zk8 ?_)
 intro f cdv A outer s H E hr
 have nd:=zz8.nd
 refine ⟨_,(dSeq (dSet 2 (cN (zq81 (za61 (zwq (dVar 1) dNil)) 1 [] (gN 0) (nF (dLst dNil)))))
   (dSeq (dFor (dIt (dVar 0)) (gN 3) (dSeq (dAsg (dOp fIx (za51 3) (dC (.int 0))) (gN 4))
   (dSeq (dIf (dNot (zd81 (zev fLe fLt (dC (.int 0)) (dVar 4) (dVar 1)))) zr51 zp51)
   (zd51 (cBM "list" mApp (pIx (pVar 2) (dVar 4)) (zwq (dVar 3) dNil))))))
   (dFrz 2 [] (zl41 2)))),(zc0 (zd4 (i:=2) (sc:=zg0 zf4) (N:=["plan", "until", "told", "letting", "moment"]) (own:=["moment"]) (ix:=[]) rfl rfl rfl (by exact ⟨rfl,by decide +kernel,by decide +kernel,by decide +kernel,by decide +kernel⟩) nd rfl rfl (zb1 rfl jJ (zb0 (pv 1) zh0)) (λ _ _ _ _=>⟨(pgn 0 (nds ["moment"])),zk3,(zo1 zh0)⟩))
   (zc0 (zw3 PassesOwn.never rfl (pi_W (K:=K) rfl (pv 0)) (pgn 3 nd) (zc0 (pset 4 nd (pix w K hr (pv 3) zf0))
   (zc0 (zr8 (zlr (zym zk41 zry zf0 (pv 4) (pv 1))) (zj0 zze) zi1)
   (zj0 (zk1 (zj4 (K:=K) rfl PySem.F.plainAttrs_list PySem.F.slot_list_append PySem.F.type_list_append zc1 (pix w K hr (pv 2) (pv 4)) (zb0 (pv 3) zh0)))))))
   (zj0 (zg1 (pv 2))))),(zk0 (zf2 (RfN.c (zxi (RfI.j (zt2 (zd0 (zi0 1) zn0))) (zw1 (i:=0) (n:=1) (by decide)) (RfF.new (zg3 zn0)))))
   (zk0 (zs3 (zuq (zi0 0)) (rgn 3) (zk0 (zz0 (zl0 r_ix (za0 3) rvi) (rgn 4))
   (zk0 (ze9 (zux (zs0 (zco r_le r_lt zq1 (zi0 4) (zi0 1)))) zte zj1)
   (zl1 (zjj zh7 (zkx (zm0 2) (zi0 4)) (zd0 (zi0 3) zn0))))))
   (znc 2 [] (zf8 (i:=2))))),?_⟩
 rintro ds Qd ⟨plan,n,rfl,hn,hp,hl,q⟩
 walk_at "ds"
 refine ze0 λ J hJ=>?_
 walk_at "dd"
 rw [vI]
 unfold rngD
 refine ⟨by lia,by lia,zxp (λ _=>.li []) (by rw [vP,sizeLine_eq];lia) (λ m _=>?_) ?_⟩
 ·walk_at "cs"
  walk_at "dd"
 refine hJ _ ?_
 clear hJ
 refine ze0 λ J hJ=>?_
 walk_at "dd"
 refine za2 (λ i U=>∃ s3 s4:Sl,U=[.sh (.list (plan.map Le.d)),.sh (.int (n:Int)),.ow (.ls ((u3 n).map λ m=>.li ((byM (plan.take i) m).map Le.d))),s3,s4]) ⟨_,_,rfl⟩ ?_ ?_
 ·rintro i l U hi ⟨s3,s4,rfl⟩
  have hlt:=hl l (v8 hi)
  have hil:=(vW.mp hi).1
  rw [show Le.d l=.tuple [.int (l.t:Int),.int (l.at_:Int),.int l.am] from rfl]
  walk_at "dd"
  refine ze0 λ J hJ=>?_
  walk_at "dd"
  refine ⟨_,rfl,hJ _ ?_⟩
  clear hJ
  refine ze0 λ J hJ=>?_
  walk_at "dd"
  rw [if_pos (by lia),if_neg (by lia)]
  refine hJ _ ?_
  clear hJ
  walk_at "dd"
  have hg:((u3 n).map λ m=>L4.T.li ((byM (plan.take i) m).map Le.d))[l.t]?=some (.li ((byM (plan.take i) l.t).map Le.d)):=by rw [u6,xL hlt];rfl
  have hb:=zft (plan.take i) l.t
  rw [wF] at hb
  refine ⟨l.t,_,zmj (by simpa using hlt),hg,rfl,by rw [u4];lia,.sh (.tuple [.int (l.t:Int),.int (l.at_:Int),.int l.am]),.sh (.int (l.t:Int)),?_⟩
  rw [hg]
  have e:(wW (λ m=>L4.T.li (wW Le.d (byM (List.take (i+1) plan) m))) (u3 n))=((u3 n).map λ m=>L4.T.li ((byM (plan.take i) m).map Le.d)).set l.t (.li ((byM (plan.take i) l.t).map Le.d++[.tuple [.int (l.t:Int),.int (l.at_:Int),.int l.am]])):=by
   rw [zdq]
   refine wK λ m _=>?_
   rw [zvx hi]
   by_cases z:m=l.t
   ·subst z;rw [if_pos rfl,if_pos rfl,vX];rfl
   ·rw [if_neg (λ y=>z y.symm),if_neg z,wI]
  rw [e]
 ·rintro U ⟨s3,s4,rfl⟩
  rw [xM]
  refine hJ _ ?_
  clear hJ
  walk_at "dd"
  refine ⟨_,_,rfl,(show Option.map _ (zho _)=_ by rw [zll];rfl),?_⟩
  dsimp only
  rw [wD]
  exact q
structure St where
 ly:List Int
 en:List Int
 kvs:List (List Key×D)
noncomputable def St.pipe (ps:List Pi) (l:Le):Pi:=(ps[l.at_]?).getD ⟨0,0,0,0,.st 0⟩
noncomputable def St.let_ (ps:List Pi) (m:Nat) (S:St) (l:Le):St :=
 ⟨S.ly.set (St.pipe ps l).u (S.ly.getD (St.pipe ps l).u 0 - l.am),S.en.set l.at_ (S.en.getD l.at_ 0+l.am),putD S.kvs (kTI ((m:Int)+((St.pipe ps l).len:Int)) l.at_) (.int (cm S.kvs ((m:Int)+((St.pipe ps l).len:Int)) l.at_+l.am))⟩
noncomputable def St.ok (ps:List Pi) (m:Nat) (S:St) (l:Le):Prop:=l.at_ < ps.length/\1<=l.am/\l.am<=(St.pipe ps l).g.at m - S.en.getD l.at_ 0/\l.am<=S.ly.getD (St.pipe ps l).u 0
noncomputable def St.go (ps:List Pi) (m:Nat) (S:St):St:=⟨arrL ps S.kvs ((m+1:Nat):Int) ps.length S.ly,u7 ps.length 0,arrK S.kvs ((m+1:Nat):Int) ps.length⟩
noncomputable def lets (ps:List Pi) (m:Nat):List Le->St->(St->Prop)->Prop
|[],S,Q=>Q S
|l :: r,S,Q=>St.ok ps m S l/\lets ps m r (St.let_ ps m S l) Q
noncomputable def runP (rooms:List Int) (ps:List Pi):List (List Le)->Nat->St->List (List Int)->(List (List Int)->Prop)->Prop
|[],_,S,acc,Q=>zji rooms S.ly/\Q (acc++[S.ly])
|ls :: r,m,S,acc,Q=>lets ps m ls S λ S'=>zji rooms S'.ly/\runP rooms ps r (m+1) (St.go ps m S') (acc++[S'.ly]) Q
noncomputable def dRow (l:List Int):D:=.list (l.map .int)
noncomputable def zko:DSp:=λ ds Q=>∃ (vs:List Va) (ps:List Pi) (plan:List Le) (n:Nat),ds=[.tuple [.list (vs.map Va.d),.list (ps.map Pi.d)],.list (plan.map Le.d),.int (n:Int)]/\vs.length<=12/\ps.length<=24/\n<=1000/\plan.length<=1000/\(∀ l∈plan,l.t < n) /\
 (∀ p∈ps,p.u < vs.length/\p.v < vs.length/\p.g.ok)/\runP (vs.map Va.room) ps ((u3 n).map (byM plan)) 0 ⟨vs.map Va.fill,u7 ps.length 0,[]⟩ [] λ rows=>Q (.list (rows.map dRow))
theorem zro {kvs:List (List Key×D)} (h:AllI kvs) (k:List Key) (c:Int):AllI (putD kvs k (.int c)):=λ k' d e=>by
 rw [zvk] at e
 split at e
 ·cases e;exact ⟨c,rfl⟩
 ·exact h k' d e
theorem zgo (kvs:List (List Key×D)) (t:Int):∀ n,(arrK kvs t n).length<=kvs.length
|0=>u8 _
|n+1=>wB (zZ _ _) (zgo kvs t n)
structure Fine (vs:List Va) (ps:List Pi) (S:St) (b:Nat):Prop where
 ly:S.ly.length=vs.length
 en:S.en.length=ps.length
 ai:AllI S.kvs
 kl:S.kvs.length<=b
theorem Fine.let_ {vs:List Va} {ps:List Pi} {S:St} {b:Nat} (h:Fine vs ps S b) (m:Nat) (l:Le):Fine vs ps (St.let_ ps m S l) (b+1):=by
 refine ⟨?_,?_,zro h.ai _ _,?_⟩
 ·show (zM _ _ _).length=_
  rw [vZ];exact h.ly
 ·show (zM _ _ _).length=_
  rw [vZ];exact h.en
 ·have:=zyt S.kvs (kTI ((m:Int)+((St.pipe ps l).len:Int)) l.at_) (.int (cm S.kvs ((m:Int)+((St.pipe ps l).len:Int)) l.at_+l.am))
  have:=h.kl
  show (putD _ _ _).length<=_
  lia
theorem Fine.go {vs:List Va} {ps:List Pi} {S:St} {b:Nat} (h:Fine vs ps S b) (m:Nat):Fine vs ps (St.go ps m S) b:=by
 refine ⟨?_,?_,zca h.ai _ _,wB (zgo _ _ _) h.kl⟩
 ·show (arrL _ _ _ _ _).length=_
  rw [zma];exact h.ly
 ·show (u7 _ _).length=_
  rw [xF]
theorem zou {α:Type} {l:List α} {i:Nat} {x:α} (h:l[i]?=some x):l.drop i=x :: l.drop (i+1):=by
 obtain ⟨h1,h2⟩:=vW.mp h
 rw [uaM h1,h2]
theorem zvm:FnScope ["yard", "plan", "until", "play", "told", "lettings", "letting"] ["yard", "plan", "until"] (zg0 zlk):=by exact ⟨rfl,rfl,rfl,by decide +kernel,rfl,by decide +kernel,by decide +kernel⟩
theorem zss (M:Md K mg) (T:TopDef K "played" zlk) (kC:Def P w K mg base "refuse_full" 2 ["play"] (spT K (zo3 jB jC jF jD))) (qR:Def P w K mg base "by_moments" 1 ["plan", "until"] (spD K zhc)) (jH:Cls K jB) (qS:MethD P w K mg base jB "go_on" 3 ["self"] (spT K (zua jB jC jF jD))) (qJ:MethD P w K mg base jB "holds" 1 ["self"] (spT K (zfa jB jC jF jD))) (uM:MethD P w K mg base jB "let" 3 ["self", "pipe", "amount"] (spT K (zai jB jC jF jD))) (vG:zzn P w K mg base "Play" jB 4 ["self", "yard"] (spT K (zs6 jB jC jF jD))):Def P w K mg base "played" 6 ["yard", "plan", "until"] (spD K zko):=by
 refine zg7 M T zvm (λ _ _ _ _ _ _ us hl=>by obtain ⟨_,_,_,rfl⟩:=ar3 hl;rfl) (zln λ ds Qd h=>by obtain ⟨_,_,_,_,rfl,_⟩:=h;rfl) (zk8 ?_)
 intro f cdv A outer s H E hr
 have nd:=zvm.nd
 refine ⟨_,_,(zc0 (pset 3 nd (zbb vG (rmn hr) rfl (zb0 (pv 0) zh0)))
   (zc0 (pset 4 nd (zo1 zh0))
   (zc0 (zw3 PassesOwn.never rfl (pi_W (K:=K) rfl (zx0 qR (rmn hr) rfl (zb0 (pv 1) (zb0 (pv 2) zh0)))) (pgn 5 nd) (zc0 (zw3 PassesOwn.never rfl (pi_W (K:=K) rfl (pv 5)) (pgn 6 nd) (zj0 (zk1 (zt3 uM (rmn hr) (pv 3) (zb0 (pix w K hr (pv 6) zf0) (zb0 (pix w K hr (pv 6) zf0) zh0))))))
   (zc0 (zk1 (zj4 (K:=K) rfl PySem.F.plainAttrs_list PySem.F.slot_list_append PySem.F.type_list_append zc1 (pv 4) (zb0 (za8 qJ (rmn hr) (pv 3)) zh0)))
   (zj0 (zk1 (za8 qS (rmn hr) (pv 3)))))))
   (zc0 (zk1 (zx0 kC (rmn hr) rfl (zb0 (pv 3) zh0)))
   (zc0 (zk1 (zj4 (K:=K) rfl PySem.F.plainAttrs_list PySem.F.slot_list_append PySem.F.type_list_append zc1 (pv 4) (zb0 (za8 qJ (rmn hr) (pv 3)) zh0)))
   (zj0 (zg1 (pv 4)))))))),(zk0 (zf2 (RfN.c (ztj (at_d (zi0 0) zw2))))
   (zk0 (zf2 (RfF.c (zg3 zn0)))
   (zk0 (zs3 (zuq (zr1 (zd0 (zi0 1) (zd0 (zi0 2) zn0)))) (rgn 5) (zk0 (zs3 (zuq (zi0 5)) (rgn 6) (zl1 (zv4 true (zm0 3) (at_d (zl0 r_ix (za0 6) rvi) (at_d (zl0 r_ix (za0 6) rvi) zw2)))))
   (zk0 (zl1 (zjj zh7 (zm0 4) (zd0 (RfN.ex (zzo (zm0 3) zw2)) zn0)))
   (zl1 (zv4 true (zm0 3) zw2)))))
   (zk0 (zl1 (zeo (at_b (zm0 3) zw2)))
   (zk0 (zl1 (zjj zh7 (zm0 4) (zd0 (RfN.ex (zzo (zm0 3) zw2)) zn0)))
   (zf8 (i:=4))))))),?_⟩
 rintro ds Qd ⟨vs,ps,plan,n,rfl,h12,h24,hn,hp,hl,hu,q⟩
 walk_at "ds"
 refine ze0 λ J hJ=>?_
 walk_at "dd"
 refine ⟨vs,ps,rfl,h12,h24,trivial,hJ _ ?_⟩
 clear hJ
 walk_at "dn"
 refine ze0 λ J hJ=>?_
 walk_at "dd"
 refine ⟨plan,n,rfl,hn,hp,hl,?_⟩
 walk_at "dd"
 refine za2 (λ i U=>∃ (S:St) (acc:List (List Int)) (s5 s6:Sl),Fine vs ps S (i * 1000)/\acc.length=i/\runP (vs.map Va.room) ps (((u3 n).map (byM plan)).drop i) i S acc (λ rows=>Qd (.list (rows.map dRow))) /\
  U=[.sh (.tuple [.list (vs.map Va.d),.list (ps.map Pi.d)]),.sh (.list (plan.map Le.d)),.sh (.int (n:Int)),.ow (pS jB jC jF jD (vs.map Va.room) S.ly ps i S.en S.kvs),.ow (.li (acc.map dRow)),s5,s6])
  ⟨⟨vs.map Va.fill,u7 ps.length 0,[]⟩,[],.un,.un,⟨by simp,by simp,λ k d e=>by simp [getA] at e,by simp⟩,rfl,q,rfl⟩ ?_ ?_
 ·rintro i m U hm ⟨S,acc,s5,s6,fi,ha,run,rfl⟩
  obtain ⟨hi,hi2⟩:=vW.mp hm
  simp at hi hi2
  subst hi2
  rw [zou (x:=byM plan i) (by rw [u6,xL hi];rfl)] at run
  have hbl:=zft plan i
  walk_at "dd"
  refine ze0 λ J hJ=>?_
  walk_at "dd"
  refine za2 (λ j U=>∃ (S:St) (s6:Sl),Fine vs ps S (i * 1000+j)/\lets ps i ((byM plan i).drop j) S (λ S'=>zji (vs.map Va.room) S'.ly/\runP (vs.map Va.room) ps (((u3 n).map (byM plan)).drop (i+1)) (i+1) (St.go ps i S') (acc++[S'.ly]) (λ rows=>Qd (.list (rows.map dRow)))) /\
   U=[.sh (.tuple [.list (vs.map Va.d),.list (ps.map Pi.d)]),.sh (.list (plan.map Le.d)),.sh (.int (n:Int)),.ow (pS jB jC jF jD (vs.map Va.room) S.ly ps i S.en S.kvs),.ow (.li (acc.map dRow)),.sh (.list ((byM plan i).map Le.d)),s6])
   ⟨S,s6,fi,run,rfl⟩ ?_ ?_
  ·rintro j l U hj ⟨S,s6,fi,run,rfl⟩
   rw [zou hj] at run
   have hjl:=(vW.mp hj).1
   obtain ⟨⟨k1,k2,k3,k4⟩,run⟩:=run
   have hp':ps[l.at_]?=some (St.pipe ps l):=by unfold St.pipe;rw [u5 k1];rfl
   obtain ⟨hu1,hu2,hok⟩:=hu _ (v8 hp')
   rw [show Le.d l=.tuple [.int (l.t:Int),.int (l.at_:Int),.int l.am] from rfl]
   unfold pS
   walk_at "dd"
   have he:S.en[l.at_]?=some (S.en.getD l.at_ 0):=by rw [vL,u5 (by rw [fi.en];exact k1)];rfl
   have hy:S.ly[(St.pipe ps l).u]?=some (S.ly.getD (St.pipe ps l).u 0):=by rw [vL,u5 (by rw [fi.ly];exact hu1)];rfl
   have hkl:=fi.kl
   refine ⟨_,rfl,_,rfl,vs.map Va.room,S.ly,ps,i,S.en,S.kvs,l.at_,l.am,St.pipe ps l,S.en.getD l.at_ 0,S.ly.getD (St.pipe ps l).u 0,cm S.kvs ((i:Int)+((St.pipe ps l).len:Int)) l.at_,rfl,hp',he,hy,hok,h24,by lia,k2,k3,k4,zz21 fi.ai _ _,?_⟩
   exact ⟨St.let_ ps i S l,_,fi.let_ i l,run,rfl⟩
  ·rintro U ⟨S,s6,fi,run,rfl⟩
   rw [List.drop_length] at run
   obtain ⟨no,run⟩:=run
   refine hJ _ ?_
   clear hJ
   refine ze0 λ J hJ=>?_
   unfold pS
   walk_at "dd"
   refine ⟨_,S.ly,ps,i,S.en,S.kvs,rfl,?_⟩
   walk_at "dd"
   refine ⟨by rw [u4];lia,hJ _ ?_⟩
   clear hJ
   walk_at "dd"
   refine ⟨_,S.ly,ps,i,S.en,S.kvs,rfl,no,h24,λ p hp'=>by rw [fi.ly];exact (hu p hp').2.1,fi.ai,?_⟩
   refine ⟨St.go ps i S,acc++[S.ly],.sh (.list ((byM plan i).map Le.d)),s6,?_,by simp [ha],run,?_⟩
   ·have f2:=fi.go i
    exact ⟨f2.ly,f2.en,f2.ai,wB f2.kl (by lia)⟩
   ·rw [vX];rfl
 ·rintro U ⟨S,acc,s5,s6,fi,ha,run,rfl⟩
  rw [vP,List.drop_of_length_le (by simp)] at run
  obtain ⟨no,run⟩:=run
  refine hJ _ ?_
  clear hJ
  refine ze0 λ J hJ=>?_
  unfold pS
  walk_at "dd"
  refine ⟨_,S.ly,ps,_,S.en,S.kvs,rfl,no,?_⟩
  refine hJ _ ?_
  clear hJ
  refine ze0 λ J hJ=>?_
  walk_at "dd"
  refine ⟨_,S.ly,ps,_,S.en,S.kvs,rfl,?_⟩
  walk_at "dd"
  rw [vP] at ha
  refine ⟨by rw [u4];lia,hJ _ ?_⟩
  clear hJ
  walk_at "dd"
  rw [vX] at run
  exact run
end
noncomputable def zb4:DSp:=λ ds Q=>∃ (ns:List Int) (k:Nat),ds=[.list (ns.map .int),.int (k:Int)]/\k<=1000/\∀ m:Int,0<=m->m < 999999000001->Q (.int m)
noncomputable def znf:DSp:=λ ds Q=>∃ (ns:List Int) (k e:Nat),ds=[.list (ns.map .int),.int (k:Int),.int (e:Int)]/\k<=24/\1<=e/\∀ m:Int,0<=m->m<=100000000000->Q (.int m)
noncomputable def Gt.okk (g:Gt):Prop:=g.ok/\∀ m,0<=g.at m
noncomputable def zth:DSp:=λ ds Q=>∃ (ns:List Int) (k n c:Nat),ds=[.list (ns.map .int),.int (k:Int),.int (n:Int),.int (c:Int)]/\k < 5/\2<=n/\n<=4/\1<=c/\∀ p:Pi,p.u < n->p.v < n->1<=p.len->p.len<=3->p.g.okk->Q p.d
theorem pick_map' {α β:Type} (f:α->β) (xs:List α) (lo hi st:Option Int):zzj (xs.map f) lo hi st=(zzj xs lo hi st).map f:=by
 unfold zzj
 rw [u4,uaN]
 congr 1
 funext j
 rw [u6]
noncomputable def zu8:DSp:=λ ds Q=>∃ (g:Gt) (m:Nat),ds=[g.d,.int (m:Int)]/\g.ok/\Q (.int (g.at m))
noncomputable def VaOk (v:Va):Prop:=0<=v.fill/\v.fill<=v.room/\v.room<=200000000000
noncomputable def PiOk (n:Nat) (p:Pi):Prop:=p.u < n/\p.v < n/\1<=p.len/\p.len<=3/\p.g.okk
noncomputable def dY (vs:List Va) (ps:List Pi):D:=.tuple [.list (vs.map Va.d),.list (ps.map Pi.d)]
noncomputable def zlj:DSp:=λ ds Q=>∃ (ns:List Int),ds=[.list (ns.map .int)]/\∀ (vs:List Va) (ps:List Pi),2<=vs.length->vs.length<=4->1<=ps.length->ps.length<=5->(∀ v∈vs,VaOk v)->(∀ p∈ps,PiOk vs.length p)->Q (dY vs ps)
noncomputable def zwe:DSp:=λ ds Q=>∃ (ns:List Int) (vs:List Va),ds=[.list (ns.map .int),.list (vs.map Va.d)]/\vs.length<=4/\(∀ v∈vs,VaOk v)/\∀ ws:List Int,ws.length=vs.length->(∀ (k:Nat) v y,vs[k]?=some v->ws[k]?=some y->0<=y/\y<=v.room)->Q (.list (ws.map .int))
section
variable {P:Program} {w:World} {K:Fg} {mg:Str->Option Value} {base:Heap}
theorem zec:FnScope ["script", "k", "step", "found", "cell"] ["script", "k"] (zg0 zp8):=by exact ⟨rfl,rfl,rfl,by decide +kernel,rfl,by decide +kernel,by decide +kernel⟩
theorem zpl (M:Md K mg) (T:TopDef K "_law_draw" zp8) (jS:mg "len"=none):Def P w K mg base "_law_draw" 1 ["script", "k"] (spD K zb4):=by
 refine zg7 M T zec (λ _ _ _ _ _ _ us hl=>by obtain ⟨_,_,rfl⟩:=ar2 hl;rfl) (zln λ ds Qd h=>by obtain ⟨_,_,rfl,_⟩:=h;rfl) (zk8 ?_)
 intro f cdv A outer s H E hr
 have nd:=zec.nd
 refine ⟨_,_,(zc0 (pset 2 nd (zr0 (zp0 (K:=K) rfl) zf0 (zr0 zr2 (zh1 (zf1 (K:=K) rfl) rfl jS ze7 (zb0 (pv 0) zh0)) zf0)))
   (zc0 (pset 3 nd (zr0 (zp0 (K:=K) rfl) (zr0 zv1 zf0 (pv 1)) zf0))
   (zc0 (zw3 PassesOwn.never rfl (pi_W (K:=K) rfl (zef (K:=K) rfl (pv 0) (za5 (zr0 zg2 (pv 1) (pv 2))) zio (za5 (pv 2)))) (pgn 4 nd) (zj0 (pset 3 nd (zr0 zg2 (zr0 (zp0 (K:=K) rfl) (zr0 zv1 (pv 3) (zr0 (zp0 (K:=K) rfl) (zr0 zv1 zf0 (pv 1)) zf0)) (pv 4)) zf0))))
   (zj0 (zg1 (zr0 zg2 (zr0 zv1 (pv 3) (zr0 (zp0 (K:=K) rfl) (zr0 (zp0 (K:=K) rfl) (zr0 zg2 (zr0 zr2 (pv 3) zf0) zf0) (zr0 zv1 zf0 (pv 1))) zf0)) zf0)))))),(zk0 (zz0 (zl0 zv2 rvi (RfE.v (zl0 zao (RfE.v (zij ztk (ze1 (za0 0) zj2))) rvi))) (rgn 2))
   (zk0 (zz0 (zl0 zv2 (RfE.v (zl0 zrl rvi (za0 1))) rvi) (rgn 3))
   (zk0 (zs3 (zuq (RfF.e (zwx (za0 0) (za9 (zl0 zi8 (za0 1) (za0 2))) zcp (za9 (zi0 2))))) (rgn 4) (zz0 (zl0 zi8 (RfE.v (zl0 zv2 (RfE.v (zl0 zrl (za0 3) (RfE.v (zl0 zv2 (RfE.v (zl0 zrl rvi (za0 1))) rvi)))) (za0 4))) rvi) (rgn 3)))
   (zb2 (RfE.c (zl0 zi8 (RfE.v (zl0 zrl (za0 3) (RfE.v (zl0 zv2 (RfE.v (zl0 zv2 (RfE.v (zl0 zi8 (RfE.v (zl0 zao (za0 3) rvi)) rvi)) (RfE.v (zl0 zrl rvi (za0 1))))) rvi)))) rvi)))))),?_⟩
 rintro ds Qd ⟨ns,k,rfl,hk,q⟩
 walk_at "ds"
 walk_at "dn"
 refine ze0 λ J hJ=>?_
 walk_at "dd"
 refine ⟨.inl ⟨by decide,by decide⟩,hJ _ ?_⟩
 clear hJ
 refine ze0 λ J hJ=>?_
 walk_at "dd"
 rw [pick_map',u4]
 have hst:0 < 1+(ns.length:Int) / 8:=by lia
 generalize 1+(ns.length:Int) / 8=st at hst ⊢
 refine ⟨by lia,by intro z;cases z;lia,?_⟩
 refine za2 (λ _ U=>∃ (f:Int) (s4:Sl),0<=f/\f < 999999000001/\U=[.sh (.list (ns.map .int)),.sh (.int (k:Int)),.sh (.int st),.sh (.int f),s4]) ⟨31 * (k:Int)+5,.un,by lia,by lia,rfl⟩ ?_ ?_
 ·rintro i x U hx ⟨f,s4,f0,f1,rfl⟩
  walk_at "dd"
  exact ⟨.inl ⟨by decide,by decide⟩,.inl ⟨by lia,by lia⟩,_,_,yY _ (by decide),yZ _ (by decide),rfl⟩
 ·rintro U ⟨f,s4,f0,f1,rfl⟩
  refine hJ _ ?_
  clear hJ
  walk_at "dd"
  exact ⟨.inl ⟨by decide,by decide⟩,.inl ⟨by lia,by lia⟩,q _ (yY _ (by decide)) (yZ _ (by decide))⟩
theorem zse:FnScope ["script", "k", "every", "found"] ["script", "k", "every"] (zg0 zqc):=by exact ⟨rfl,rfl,rfl,by decide +kernel,rfl,by decide +kernel,by decide +kernel⟩
theorem zun (M:Md K mg) (T:TopDef K "_law_sum" zqc) (vE:mg "sum"=none) (jK:Def P w K mg base "_law_draw" 1 ["script", "k"] (spD K zb4)):Def P w K mg base "_law_sum" 2 ["script", "k", "every"] (spD K znf):=by
 refine zg7 M T zse (λ _ _ _ _ _ _ us hl=>by obtain ⟨_,_,_,rfl⟩:=ar3 hl;rfl) (zln λ ds Qd h=>by obtain ⟨_,_,_,rfl,_⟩:=h;rfl) (zk8 ?_)
 intro f cdv A outer s H E hr
 have nd:=zse.nd
 refine ⟨_,_,(zc0 (pset 3 nd (zr0 (zp0 (K:=K) rfl) (zx0 jK (rmn hr) rfl (zb0 (pv 0) (zb0 (zr0 (zp0 (K:=K) rfl) zf0 (pv 1)) zh0))) (zh1 (zhr (K:=K) rfl rfl) rfl vE zn91 (zb0 (zef (K:=K) rfl (pv 0) (za5 (pv 1)) (za5 zf0) (za5 (pv 2))) zh0))))
   (zj0 (zg1 (zr0 zg2 (pv 3) (pix w K hr (zo1 (zb0 zf0 (zb0 (zr0 (zp0 (K:=K) rfl) (zr0 zs21 zf0 zf0) zf0) zh0))) (zr0 zg2 (zx0 jK (rmn hr) rfl (zb0 (pv 0) (zb0 zf0 zh0))) zf0)))))),(zk0 (zz0 (zl0 zv2 (RfE.v (zr1 (zd0 (zi0 0) (zd0 (zl0 zv2 rvi (za0 1)) zn0)))) (RfE.v (zij zyd1 (ze1 (RfE.v (RfF.e (zwx (za0 0) (za9 (zi0 1)) (za9 zq1) (za9 (zi0 2))))) zj2)))) (rgn 3))
   (zb2 (RfE.c (zl0 zi8 (za0 3) (RfE.v (zl0 r_ix (RfE.v (RfF.e (zg3 (zd0 zq1 (zd0 (zl0 zv2 (RfE.v (zl0 ztb1 rvi rvi)) rvi) zn0))))) (RfE.v (zl0 zi8 (RfE.v (zr1 (zd0 (zi0 0) (zd0 zq1 zn0)))) rvi)))))))),?_⟩
 rintro ds Qd ⟨ns,k,e,rfl,hk,he,q⟩
 walk_at "ds"
 refine ze0 λ J hJ=>?_
 walk_at "dd"
 refine ⟨ns,300+k,by congr 2,by lia,λ m m0 m1=>?_⟩
 walk_at "dd"
 rw [pick_map']
 refine ⟨by lia,_,ints_map _,hJ _ ?_⟩
 clear hJ
 generalize m+(zzj ns (some (k:Int)) (some 63) (some (e:Int))).sum=x
 walk_at "dd"
 refine ⟨by decide,ns,6,rfl,by lia,λ m' m0' m1'=>?_⟩
 have h2:m' % 2=0 \/ m' % 2=1:=by lia
 walk_at "dd"
 rcases h2 with h|h
 ·refine ⟨_,by rw [h];rfl,?_⟩
  walk_at "dd"
  exact q _ (by lia) (by lia)
 ·refine ⟨_,by rw [h];rfl,?_⟩
  walk_at "dd"
  exact q _ (by lia) (by lia)
theorem zwb:FnScope ["script", "k", "many", "count", "number", "start", "goal", "kind", "wide", "gate"] ["script", "k", "many", "count"] (zg0 zm8):=by exact ⟨rfl,rfl,rfl,by decide +kernel,rfl,by decide +kernel,by decide +kernel⟩
theorem zgl (M:Md K mg) (T:TopDef K "_law_pipe" zm8) (jK:Def P w K mg base "_law_draw" 1 ["script", "k"] (spD K zb4)) (kX:Def P w K mg base "_law_sum" 2 ["script", "k", "every"] (spD K znf)):Def P w K mg base "_law_pipe" 3 ["script", "k", "many", "count"] (spD K zth):=by
 refine zg7 M T zwb (λ _ _ _ _ _ _ us hl=>by obtain ⟨_,_,_,_,rfl⟩:=ar4 hl;rfl) (zln λ ds Qd h=>by obtain ⟨_,_,_,_,rfl,_⟩:=h;rfl) (zk8 ?_)
 intro f cdv A outer s H E hr
 have nd:=zwb.nd
 refine ⟨_,_,(zc0 (pset 4 nd (zx0 jK (rmn hr) rfl (zb0 (pv 0) (zb0 (zr0 (zp0 (K:=K) rfl) zf0 (zr0 zv1 zf0 (pv 1))) zh0))))
   (zc0 (pset 5 nd (zr0 zg2 (pv 4) (pv 2)))
   (zc0 (pset 6 nd (zr0 zg2 (zr0 (zp0 (K:=K) rfl) (zr0 (zp0 (K:=K) rfl) (pv 5) zf0) (zr0 zg2 (zr0 zr2 (pv 4) (pv 2)) (zr0 zjh (pv 2) zf0))) (pv 2)))
   (zc0 (pset 7 nd (zx0 jK (rmn hr) rfl (zb0 (pv 0) (zb0 (zr0 (zp0 (K:=K) rfl) zf0 (zr0 zv1 zf0 (pv 1))) zh0))))
   (zc0 (pset 8 nd (zr0 (zp0 (K:=K) rfl) zf0 (zx0 kX (rmn hr) rfl (zb0 (pv 0) (zb0 (pv 1) (zb0 (pv 3) zh0))))))
   (zc0 (pset 9 nd (zh2 (zb0 zhj (zb0 (pv 8) zh0))))
   (zc0 (zr8 (zt0 (zn9 (K:=K) rfl (Room.units hr)) (zr0 zg2 (pv 7) zf0) zf0 (zm1 _)) (zj0 (pset 9 nd (zh2 (zb0 zhj (zb0 (pv 8) (zb0 (zr0 zg2 (zr0 zr2 (pv 7) zf0) zf0) zh0)))))) zi1)
   (zc0 (zr8 (zt0 (zn9 (K:=K) rfl (Room.units hr)) (zr0 zg2 (pv 7) zf0) zf0 (zm1 _)) (zj0 (pset 9 nd (zh2 (zb0 zhj (zb0 (pv 8) (zb0 (zr0 (zp0 (K:=K) rfl) zf0 (zr0 zr2 (pv 8) zf0)) (zb0 (zr0 (zp0 (K:=K) rfl) zf0 (zr0 zg2 (zr0 zr2 (pv 7) zf0) zf0)) zh0))))))) zi1)
   (zj0 (zg1 (zh2 (zb0 (pv 5) (zb0 (pv 6) (zb0 (zr0 (zp0 (K:=K) rfl) zf0 (zr0 zg2 (zr0 zr2 (pv 4) zf0) zf0)) (zb0 (zr0 zg2 (zr0 zr2 (pv 7) zf0) zf0) (zb0 (pv 9) zh0)))))))))))))))),(zk0 (zz0 (zr1 (zd0 (zi0 0) (zd0 (zl0 zv2 rvi (RfE.v (zl0 zrl rvi (za0 1)))) zn0))) (rgn 4))
   (zk0 (zz0 (zl0 zi8 (za0 4) (za0 2)) (rgn 5))
   (zk0 (zz0 (zl0 zi8 (RfE.v (zl0 zv2 (RfE.v (zl0 zv2 (za0 5) rvi)) (RfE.v (zl0 zi8 (RfE.v (zl0 zao (za0 4) (za0 2))) (RfE.v (zl0 zst (za0 2) rvi)))))) (za0 2)) (rgn 6))
   (zk0 (zz0 (zr1 (zd0 (zi0 0) (zd0 (zl0 zv2 rvi (RfE.v (zl0 zrl rvi (za0 1)))) zn0))) (rgn 7))
   (zk0 (zz0 (zl0 zv2 rvi (RfE.v (zr1 (zd0 (zi0 0) (zd0 (zi0 1) (zd0 (zi0 3) zn0)))))) (rgn 8))
   (zk0 (zz0 (zx4 (zd0 zkj (zd0 (zi0 8) zn0))) (rgn 9))
   (zk0 (ze9 (zs0 (ze5 q_eq (RfV.h (RfE.v (zl0 zi8 (za0 7) rvi))) (RfV.h rvi))) (zz0 (zx4 (zd0 zkj (zd0 (zi0 8) (zd0 (zl0 zi8 (RfE.v (zl0 zao (za0 7) rvi)) rvi) zn0)))) (rgn 9)) zj1)
   (zk0 (ze9 (zs0 (ze5 q_eq (RfV.h (RfE.v (zl0 zi8 (za0 7) rvi))) (RfV.h rvi))) (zz0 (zx4 (zd0 zkj (zd0 (zi0 8) (zd0 (zl0 zv2 rvi (RfE.v (zl0 zao (za0 8) rvi))) (zd0 (zl0 zv2 rvi (RfE.v (zl0 zi8 (RfE.v (zl0 zao (za0 7) rvi)) rvi))) zn0))))) (rgn 9)) zj1)
   (zb2 (RfE.c (zx4 (zd0 (zi0 5) (zd0 (zi0 6) (zd0 (zl0 zv2 rvi (RfE.v (zl0 zi8 (RfE.v (zl0 zao (za0 4) rvi)) rvi))) (zd0 (zl0 zi8 (RfE.v (zl0 zao (za0 7) rvi)) rvi) (zd0 (zi0 9) zn0)))))))))))))))),?_⟩
 rintro ds Qd ⟨ns,k,n,c,rfl,hk,hn,hn2,hc,q⟩
 walk_at "ds"
 refine ze0 λ J hJ=>?_
 walk_at "dd"
 refine ⟨.inl ⟨by decide,by decide⟩,ns,40+2 * k,by congr 2,by lia,λ m m0 m1=>hJ _ ?_⟩
 clear hJ
 refine ze0 λ J hJ=>?_
 walk_at "dd"
 refine ⟨by lia,hJ _ ?_⟩
 clear hJ
 refine ze0 λ J hJ=>?_
 walk_at "dd"
 have u0:=yY m (b:=(n:Int)) (by lia)
 have u1:=yZ m (b:=(n:Int)) (by lia)
 have v1:=yZ (m % (n:Int)+1+m / (n:Int) % ((n:Int) - 1)) (b:=(n:Int)) (by lia)
 have v0:=yY (m % (n:Int)+1+m / (n:Int) % ((n:Int) - 1)) (b:=(n:Int)) (by lia)
 obtain ⟨u,hu⟩:=yA u0
 obtain ⟨v,hv⟩:=yA v0
 refine ⟨⟨by lia,by lia⟩,by lia,by lia,hJ _ ?_⟩
 rw [hv,hu]
 rw [hv] at v1
 rw [hu] at u1
 clear hJ hv hu v0 u0
 refine ze0 λ J hJ=>?_
 walk_at "dd"
 refine ⟨.inl ⟨by decide,by decide⟩,ns,41+2 * k,by congr 2,by lia,λ d d0 d1=>hJ _ ?_⟩
 clear hJ
 refine ze0 λ J hJ=>?_
 walk_at "dd"
 refine ⟨ns,k,c,rfl,by lia,hc,λ x x0 x1=>hJ _ ?_⟩
 clear hJ
 walk_at "dn"
 have l1:1<=(1+m / 144 % 3).toNat/\(1+m / 144 % 3).toNat<=3:=by lia
 have fin:∀ (g:Gt),g.okk->Qd (.tuple [.int (u:Int),.int (v:Int),.int (1+m / 144 % 3),.int (d / 24 % 1000001),g.d]):=λ g hg=>by
  have:=q ⟨u,v,(1+m / 144 % 3).toNat,d / 24 % 1000001,g⟩ (by show u < n;lia) (by show v < n;lia) l1.1 l1.2 hg
  unfold Pi.d at this
  rw [show ((1+m / 144 % 3).toNat:Int)=1+m / 144 % 3 by lia] at this
  exact this
 refine zuk (λ U=>∃ g:Gt,g.okk/\(d % 3=2 \/ True)/\U=[.sh (.list (ns.map .int)),.sh (.int (k:Int)),.sh (.int (n:Int)),.sh (.int (c:Int)),.sh (.int m),.sh (.int (u:Int)),.sh (.int (v:Int)),.sh (.int d),.sh (.int (1+x)),.sh g.d]) ?_ ?_
 ·walk_at "dd"
  refine two (λ _=>?_) λ _=>⟨.st (1+x),⟨trivial,λ _=>by show 0<=1+x;lia⟩,.inr trivial,rfl⟩
  obtain ⟨f,hf⟩:=yA (show 0<=d / 3 % 4 by lia)
  rw [hf]
  refine ⟨.la (1+x) f,⟨trivial,λ t=>?_⟩,.inr trivial,rfl⟩
  show 0<=if f<=t then 1+x else 0
  split <;> lia
 rintro U ⟨g,hg,_,rfl⟩
 refine zuk (λ U=>∃ g:Gt,g.okk/\U=[.sh (.list (ns.map .int)),.sh (.int (k:Int)),.sh (.int (n:Int)),.sh (.int (c:Int)),.sh (.int m),.sh (.int (u:Int)),.sh (.int (v:Int)),.sh (.int d),.sh (.int (1+x)),.sh g.d]) ?_ ?_
 ·walk_at "dd"
  refine two (λ _=>?_) λ _=>⟨g,hg,rfl⟩
  obtain ⟨f,hf⟩:=yA (show 0<=2+d / 3 % 3 by lia)
  rw [hf]
  refine ⟨.ti (1+x) (1+(1+x) / 3) f,⟨⟨by lia,by lia⟩,λ t=>?_⟩,rfl⟩
  show 0<=if t % f=0 then 1+x else 1+(1+x) / 3
  split <;> lia
 rintro U ⟨g,hg,rfl⟩
 walk_at "dd"
 exact fin g hg
theorem zb9:FnScope ["gate", "now"] ["gate", "now"] (zg0 zd7):=by exact ⟨rfl,rfl,rfl,by decide +kernel,rfl,by decide +kernel,by decide +kernel⟩
theorem zni (M:Md K mg) (T:TopDef K "_law_width" zd7) :Def P w K mg base "_law_width" 1 ["gate", "now"] (spD K zu8):=by
 refine zg7 M T zb9 (λ _ _ _ _ _ _ us hl=>by obtain ⟨_,_,rfl⟩:=ar2 hl;rfl) (zln λ ds Qd h=>by obtain ⟨_,_,rfl,_⟩:=h;rfl) (zk8 ?_)
 intro f cdv A outer s H E hr
 have nd:=zb9.nd
 refine ⟨_,_,(zc0 (zr8 (PW.pt (zbp (zt0 (zn9 (K:=K) rfl (Room.units hr)) (pix w K hr (pv 0) zf0) zhj (zm1 _)) (zmh (zt0 zry (pv 1) (pix w K hr (pv 0) zf0) (zm1 _))))) (zj0 (zg1 zf0)) zi1)
   (zc0 (zr8 (PW.pt (zbp (zt0 (zn9 (K:=K) rfl (Room.units hr)) (pix w K hr (pv 0) zf0) zhj (zm1 _)) (zmh (zt0 (zso (K:=K) rfl (Room.units hr)) (zr0 zg2 (pv 1) (pix w K hr (pv 0) zf0)) zf0 (zm1 _))))) (zj0 (zg1 (pix w K hr (pv 0) zf0))) zi1)
   (zj0 (zg1 (pix w K hr (pv 0) zf0))))),(zk0 (ze9 (zto (zs0 (ze5 q_eq (RfV.h (RfE.v (zl0 r_ix (za0 0) rvi))) (RfV.h (RfE.v zkj)))) (zs0 (zl0 r_lt (za0 1) (RfE.v (zl0 r_ix (za0 0) rvi))))) (zb2 (RfE.c zq1)) zj1)
   (zk0 (ze9 (zto (zs0 (ze5 q_eq (RfV.h (RfE.v (zl0 r_ix (za0 0) rvi))) (RfV.h (RfE.v zkj)))) (zs0 (ze5 q_ne (RfV.h (RfE.v (zl0 zi8 (za0 1) (RfE.v (zl0 r_ix (za0 0) rvi))))) (RfV.h rvi)))) (zb2 (RfE.c (zl0 r_ix (za0 0) rvi))) zj1)
   (zb2 (RfE.c (zl0 r_ix (za0 0) rvi))))),?_⟩
 rintro ds Qd ⟨g,m,rfl,ok,q⟩
 walk_at "ds"
 cases g with
|st x =>
  unfold Gt.d
  refine ze0 λ J hJ=>?_
  walk_at "dd"
  refine ⟨_,rfl,?_⟩
  walk_at "dd"
  rw [if_neg (by decide +kernel)]
  refine hJ _ ?_
  clear hJ
  refine ze0 λ J hJ=>?_
  walk_at "dd"
  refine ⟨_,rfl,?_⟩
  walk_at "dd"
  rw [if_neg (by decide +kernel)]
  refine hJ _ ?_
  clear hJ
  walk_at "dd"
  exact ⟨_,rfl,q⟩
|la x f =>
  unfold Gt.d
  refine ze0 λ J hJ=>?_
  walk_at "dd"
  refine ⟨_,rfl,?_⟩
  walk_at "dd"
  refine ⟨_,rfl,?_⟩
  walk_at "dd"
  refine two (λ h=>?_) λ h=>hJ _ ?_
  ·have e:Gt.at (.la x f) m=0:=if_neg (by lia)
   rw [e] at q;exact q
  clear hJ
  refine ze0 λ J hJ=>?_
  walk_at "dd"
  refine ⟨_,rfl,?_⟩
  walk_at "dd"
  rw [if_neg (by decide +kernel)]
  refine hJ _ ?_
  clear hJ
  walk_at "dd"
  have e:Gt.at (.la x f) m=x:=if_pos (by lia)
  rw [e] at q
  exact ⟨_,rfl,q⟩
|ti x y t =>
  obtain ⟨o1,o2⟩:=ok
  unfold Gt.d
  refine ze0 λ J hJ=>?_
  walk_at "dd"
  refine ⟨_,rfl,?_⟩
  walk_at "dd"
  rw [if_neg (by decide +kernel)]
  refine hJ _ ?_
  clear hJ
  refine ze0 λ J hJ=>?_
  walk_at "dd"
  refine ⟨_,rfl,?_⟩
  walk_at "dd"
  refine ⟨_,rfl,?_⟩
  walk_at "dd"
  refine ⟨by lia,two (λ h=>⟨_,rfl,?_⟩) λ h=>hJ _ ?_⟩
  ·have e:Gt.at (.ti x y t) m=y:=if_neg (by lia)
   rw [e] at q;exact q
  clear hJ
  walk_at "dd"
  have e:Gt.at (.ti x y t) m=x:=if_pos (by lia)
  rw [e] at q
  exact ⟨_,rfl,q⟩
end
theorem lett {i:Nat} (h:i < 4):∃ ch,atI (Str.cps "abcd").toList (i:Int)=some ch:=by
 rcases i with _|_|_|_|i
 ·exact ⟨_,rfl⟩
 ·exact ⟨_,rfl⟩
 ·exact ⟨_,rfl⟩
 ·exact ⟨_,rfl⟩
 ·lia
section
variable {P:Program} {w:World} {K:Fg} {mg:Str->Option Value} {base:Heap}
theorem zgc:FnScope ["script", "many", "count", "vats", "k", "fill", "slack", "room"] ["script"] (zg0 zc6):=by exact ⟨rfl,rfl,rfl,by decide +kernel,rfl,by decide +kernel,by decide +kernel⟩
theorem zik (M:Md K mg) (T:TopDef K "_law_yard" zc6) (jJ:mg "range"=none) (jK:Def P w K mg base "_law_draw" 1 ["script", "k"] (spD K zb4)) (kX:Def P w K mg base "_law_sum" 2 ["script", "k", "every"] (spD K znf)) (uB:Def P w K mg base "_law_pipe" 3 ["script", "k", "many", "count"] (spD K zth)):Def P w K mg base "_law_yard" 4 ["script"] (spD K zlj):=by
 refine zg7 M T zgc (λ _ _ _ _ _ _ us hl=>by obtain ⟨_,rfl⟩:=ar1 hl;rfl) (zln λ ds Qd h=>by obtain ⟨_,rfl,_⟩:=h;rfl) (zk8 ?_)
 intro f cdv A outer s H E hr
 have nd:=zgc.nd
 refine ⟨_,_,(zc0 (pset 1 nd (zr0 (zp0 (K:=K) rfl) zf0 (zr0 zg2 (zx0 jK (rmn hr) rfl (zb0 (pv 0) (zb0 zf0 zh0))) zf0)))
   (zc0 (pset 2 nd (zr0 (zp0 (K:=K) rfl) zf0 (zr0 zg2 (zx0 jK (rmn hr) rfl (zb0 (pv 0) (zb0 zf0 zh0))) zf0)))
   (zc0 (pset 3 nd (zo1 zh0))
   (zc0 (zw3 PassesOwn.never rfl (zb1 rfl jJ (zb0 (pv 1) zh0)) (pgn 4 nd) (zc0 (pset 5 nd (zx0 kX (rmn hr) rfl (zb0 (pv 0) (zb0 (pv 4) (zb0 (pv 1) zh0)))))
   (zc0 (pset 6 nd (zx0 jK (rmn hr) rfl (zb0 (pv 0) (zb0 (zr0 (zp0 (K:=K) rfl) zf0 (pv 4)) zh0))))
   (zc0 (pset 7 nd (pv 5))
   (zc0 (zr8 (zt0 zpo (zr0 zg2 (pv 6) zf0) zf0 (zm1 _)) (zj0 (pset 7 nd (zr0 (zp0 (K:=K) rfl) (pv 5) (zr0 zg2 (zr0 zr2 (pv 6) zf0) (pix w K hr (zo1 (zb0 zf0 (zb0 (zr0 zs21 zf0 zf0) zh0))) (zr0 zg2 (zx0 jK (rmn hr) rfl (zb0 (pv 0) (zb0 zf0 zh0))) zf0)))))) zi1)
   (zj0 (zk1 (zj4 (K:=K) rfl PySem.F.plainAttrs_list PySem.F.slot_list_append PySem.F.type_list_append zc1 (pv 3) (zb0 (zh2 (zb0 (pix w K hr zhj (pv 4)) (zb0 (pv 7) (zb0 (pv 5) zh0)))) zh0)))))))))
   (zj0 (zg1 (zh2 (zb0 (pv 3) (zb0 (zk4 (sc:=zg0 zc6) (N:=["script", "many", "count", "vats", "k", "fill", "slack", "room"]) (own:=["k"]) (ix:=[0,1,2]) rfl rfl rfl (by exact ⟨rfl,by decide +kernel,by decide +kernel,by decide +kernel,by decide +kernel⟩) (zb1 rfl jJ (zb0 (pv 2) zh0)) (λ _ _ _ _=>⟨(pgn 0 (nds ["k", "script", "many", "count"])),zk3,(zx0 uB (rmn hr) rfl (zb0 (pv 1) (zb0 (pv 0) (zb0 (pv 2) (zb0 (pv 3) zh0)))))⟩)) zh0))))))))),(zk0 (zz0 (zl0 zv2 rvi (RfE.v (zl0 zi8 (RfE.v (zr1 (zd0 (zi0 0) (zd0 zq1 zn0)))) rvi))) (rgn 1))
   (zk0 (zz0 (zl0 zv2 rvi (RfE.v (zl0 zi8 (RfE.v (zr1 (zd0 (zi0 0) (zd0 zq1 zn0)))) rvi))) (rgn 2))
   (zk0 (zf2 (RfF.c (zg3 zn0)))
   (zk0 (zs3 (zt2 (zd0 (zi0 1) zn0)) (rgn 4) (zk0 (zz0 (zr1 (zd0 (zi0 0) (zd0 (zi0 4) (zd0 (zi0 1) zn0)))) (rgn 5))
   (zk0 (zz0 (zr1 (zd0 (zi0 0) (zd0 (zl0 zv2 rvi (za0 4)) zn0))) (rgn 6))
   (zk0 (zz0 (zi0 5) (rgn 7))
   (zk0 (ze9 (zs0 (zl0 r_gt (RfE.v (zl0 zi8 (za0 6) rvi)) rvi)) (zz0 (zl0 zv2 (za0 5) (RfE.v (zl0 zi8 (RfE.v (zl0 zao (za0 6) rvi)) (RfE.v (zl0 r_ix (RfE.v (RfF.e (zg3 (zd0 zq1 (zd0 (zl0 ztb1 rvi rvi) zn0))))) (RfE.v (zl0 zi8 (RfE.v (zr1 (zd0 (zi0 0) (zd0 zq1 zn0)))) rvi))))))) (rgn 7)) zj1)
   (zl1 (zjj zh7 (zm0 3) (zd0 (zx4 (zd0 (zl0 r_ix (RfE.v zkj) (za0 4)) (zd0 (zi0 7) (zd0 (zi0 5) zn0)))) zn0))))))))
   (znc 3 [] (zb2 (RfE.c (zx4 (zd0 (zi0 3) (zd0 (RfF.e (ze4 (RfI.j (zt2 (zd0 (zi0 2) zn0))) (zw1 (i:=0) (n:=1) (by decide)) zh6 (zr1 (zd0 (zi0 1) (zd0 (zi0 0) (zd0 (zi0 2) (zd0 (zi0 3) zn0))))))) zn0)))))))))),?_⟩
 rintro ds Qd ⟨ns,rfl,q⟩
 walk_at "ds"
 refine ze0 λ J hJ=>?_
 walk_at "dd"
 refine ⟨ns,0,rfl,by lia,λ m m0 m1=>?_⟩
 walk_at "dd"
 obtain ⟨n,hn⟩:=yA (show 0<=2+m % 3 by lia)
 rw [hn]
 refine hJ _ ?_
 clear hJ
 refine ze0 λ J hJ=>?_
 walk_at "dd"
 refine ⟨ns,1,rfl,by lia,λ m2 m20 m21=>?_⟩
 walk_at "dd"
 obtain ⟨c,hc⟩:=yA (show 0<=1+m2 % 5 by lia)
 rw [hc]
 refine hJ _ ?_
 clear hJ
 refine ze0 λ J hJ=>?_
 walk_at "dd"
 refine hJ _ ?_
 clear hJ
 refine ze0 λ J hJ=>?_
 walk_at "dd"
 rw [vI]
 unfold rngD
 refine ⟨by lia,by lia,za2 (λ i U=>∃ (vs:List Va) (s4 s5 s6 s7:Sl),vs.length=i/\(∀ v∈vs,VaOk v)/\U=[.sh (.list (ns.map .int)),.sh (.int (n:Int)),.sh (.int (c:Int)),.ow (.li (vs.map Va.d)),s4,s5,s6,s7]) ⟨[],.un,.un,.un,.un,rfl,λ v hv=>by simp at hv,rfl⟩ ?_ ?_⟩
 ·rintro i x U hx ⟨vs,s4,s5,s6,s7,hl,ok,rfl⟩
  obtain ⟨hi,hi2⟩:=vW.mp hx
  simp at hi hi2
  subst hi2
  rw [show (0:Int)+(i:Int)=(i:Int) by lia]
  walk_at "dd"
  refine ze0 λ J hJ=>?_
  walk_at "dd"
  refine ⟨ns,i,n,rfl,by lia,by lia,λ f f0 f1=>hJ _ ?_⟩
  clear hJ
  refine ze0 λ J hJ=>?_
  walk_at "dd"
  refine ⟨ns,10+i,by congr 2,by lia,λ d d0 d1=>hJ _ ?_⟩
  clear hJ
  walk_at "dn"
  refine zuk (λ U=>∃ r:Int,f<=r/\r<=200000000000/\U=[.sh (.list (ns.map .int)),.sh (.int (n:Int)),.sh (.int (c:Int)),.ow (.li (vs.map Va.d)),.sh (.int (i:Int)),.sh (.int f),.sh (.int d),.sh (.int r)]) ?_ ?_
  ·walk_at "dd"
   refine two (λ _=>?_) λ _=>⟨f,by lia,by lia,rfl⟩
   refine ⟨by decide,ns,6,rfl,by lia,λ m' m0' m1'=>?_⟩
   have h2:m' % 2=0 \/ m' % 2=1:=by lia
   walk_at "dd"
   rcases h2 with h|h
   ·refine ⟨_,by rw [h];rfl,?_⟩
    walk_at "dd"
    exact ⟨_,by lia,by lia,rfl⟩
   ·refine ⟨_,by rw [h];rfl,?_⟩
    walk_at "dd"
    exact ⟨_,by lia,by lia,rfl⟩
  rintro U ⟨r,r1,r2,rfl⟩
  obtain ⟨ch,hch⟩:=lett (i:=i) (by lia)
  walk_at "dd"
  refine ⟨by decide +kernel,_,hch,by rw [u4];lia,vs++[⟨_,r,f⟩],_,_,_,_,by simp [hl],λ v hv=>?_,by rw [vX];rfl⟩
  rcases vK.mp hv with z|z
  ·exact ok v z
  ·simp at z;subst z;exact ⟨f0,r1,r2⟩
 ·rintro U ⟨vs,s4,s5,s6,s7,hl,ok,rfl⟩
  rw [vP] at hl
  refine hJ _ ?_
  clear hJ
  walk_at "dd"
  rw [vI]
  unfold rngD
  refine ⟨_,_,rfl,rfl,by lia,by lia,zrc1 (PiOk n) Pi.d (by rw [sizeLine_eq,vP];lia) (λ k hk=>?_) λ ps hps okp=>?_⟩
  ·have hk:=vM.mp hk
   rw [show (0:Int)+(k:Int)=(k:Int) by lia]
   walk_at "cs"
   walk_at "dd"
   exact ⟨ns,k,n,c,rfl,by lia,by lia,by lia,by lia,λ p h1 h2 h3 h4 h5=>⟨p,⟨h1,h2,h3,h4,h5⟩,rfl⟩⟩
  ·rw [vP] at hps
   exact q vs ps (by lia) (by lia) (by lia) (by lia) ok (by rw [hl];exact okp)
theorem zc9:FnScope ["script", "vats", "wants", "k", "number"] ["script", "vats"] (zg0 zf7):=by exact ⟨rfl,rfl,rfl,by decide +kernel,rfl,by decide +kernel,by decide +kernel⟩
theorem zph (M:Md K mg) (T:TopDef K "_law_wants" zf7) (jS:mg "len"=none) (jJ:mg "range"=none) (jK:Def P w K mg base "_law_draw" 1 ["script", "k"] (spD K zb4)):Def P w K mg base "_law_wants" 2 ["script", "vats"] (spD K zwe):=by
 refine zg7 M T zc9 (λ _ _ _ _ _ _ us hl=>by obtain ⟨_,_,rfl⟩:=ar2 hl;rfl) (zln λ ds Qd h=>by obtain ⟨_,_,rfl,_⟩:=h;rfl) (zk8 ?_)
 intro f cdv A outer s H E hr
 have nd:=zc9.nd
 refine ⟨_,_,(zc0 (pset 2 nd (zo1 zh0))
   (zc0 (zw3 PassesOwn.never rfl (zb1 rfl jJ (zb0 (zh1 (zf1 (K:=K) rfl) rfl jS ze7 (zb0 (pv 1) zh0)) zh0)) (pgn 3 nd) (zc0 (pset 4 nd (zx0 jK (rmn hr) rfl (zb0 (pv 0) (zb0 (zr0 (zp0 (K:=K) rfl) zf0 (pv 3)) zh0))))
   (zj0 (zk1 (zj4 (K:=K) rfl PySem.F.plainAttrs_list PySem.F.slot_list_append PySem.F.type_list_append zc1 (pv 2) (zb0 (pix w K hr (zo1 (zb0 zf0 (zb0 (pix w K hr (pix w K hr (pv 1) (pv 3)) zf0) (zb0 (pix w K hr (pix w K hr (pv 1) (pv 3)) zf0) (zb0 (zr0 zg2 (zr0 zr2 (pv 4) zf0) (zr0 (zp0 (K:=K) rfl) (pix w K hr (pix w K hr (pv 1) (pv 3)) zf0) zf0)) zh0))))) (zr0 zg2 (pv 4) zf0)) zh0))))))
   (zj0 (zg1 (pv 2))))),(zk0 (zf2 (RfF.c (zg3 zn0)))
   (zk0 (zs3 (zt2 (zd0 (zij ztk (ze1 (za0 1) zj2)) zn0)) (rgn 3) (zk0 (zz0 (zr1 (zd0 (zi0 0) (zd0 (zl0 zv2 rvi (za0 3)) zn0))) (rgn 4))
   (zl1 (zjj zh7 (zm0 2) (zd0 (zl0 r_ix (RfE.v (RfF.e (zg3 (zd0 zq1 (zd0 (zl0 r_ix (RfE.v (zl0 r_ix (za0 1) (za0 3))) rvi) (zd0 (zl0 r_ix (RfE.v (zl0 r_ix (za0 1) (za0 3))) rvi) (zd0 (zl0 zi8 (RfE.v (zl0 zao (za0 4) rvi)) (RfE.v (zl0 zv2 (RfE.v (zl0 r_ix (RfE.v (zl0 r_ix (za0 1) (za0 3))) rvi)) rvi))) zn0))))))) (RfE.v (zl0 zi8 (za0 4) rvi))) zn0)))))
   (zf8 (i:=2)))),?_⟩
 rintro ds Qd ⟨ns,vs,rfl,hv,ok,q⟩
 walk_at "ds"
 walk_at "dn"
 refine ze0 λ J hJ=>?_
 walk_at "dd"
 rw [u4,vI]
 unfold rngD
 refine ⟨by lia,by lia,za2 (λ i U=>∃ (ws:List Int) (s3 s4:Sl),ws.length=i/\(∀ (k:Nat) v y,vs[k]?=some v->ws[k]?=some y->0<=y/\y<=v.room)/\U=[.sh (.list (ns.map .int)),.sh (.list (vs.map Va.d)),.ow (.li (ws.map .int)),s3,s4]) ⟨[],.un,.un,rfl,λ k v y _ e=>by simp at e,rfl⟩ ?_ ?_⟩
 ·rintro i x U hx ⟨ws,s3,s4,hl,okw,rfl⟩
  obtain ⟨hi,hi2⟩:=vW.mp hx
  simp at hi hi2
  subst hi2
  rw [show (0:Int)+(i:Int)=(i:Int) by lia]
  have gv:atI (vs.map Va.d) (i:Int)=some (.tuple [.str vs[i].nm,.int vs[i].room,.int vs[i].fill]):=zk2 (by lia) (by rw [vI,u6,u5 hi];rfl)
  obtain ⟨k0,k1,k2⟩:=ok _ (w6 hi)
  walk_at "dd"
  refine ze0 λ J hJ=>?_
  walk_at "dd"
  refine ⟨ns,20+i,by congr 2,by lia,λ d d0 d1=>hJ _ ?_⟩
  clear hJ
  walk_at "dd"
  refine ⟨_,gv,?_⟩
  walk_at "dd"
  refine ⟨_,rfl,_,gv,?_⟩
  walk_at "dd"
  refine ⟨_,rfl,_,gv,?_⟩
  walk_at "dd"
  refine ⟨_,rfl,?_⟩
  walk_at "dd"
  refine ⟨by lia,?_⟩
  have m0:=yY (d / 4) (b:=vs[i].room+1) (by lia)
  have m1:=yZ (d / 4) (b:=vs[i].room+1) (by lia)
  have fin:∀ y:Int,0<=y->y<=vs[i].room->∃ (ws':List Int) (s3 s4:Sl),ws'.length=i+1/\(∀ (k:Nat) v y,vs[k]?=some v->ws'[k]?=some y->0<=y/\y<=v.room)/\([.sh (.list (ns.map .int)),.sh (.list (vs.map Va.d)),.ow (.li (ws.map .int++[.int y])),.sh (.int (i:Int)),.sh (.int d)]:List Sl)=[.sh (.list (ns.map .int)),.sh (.list (vs.map Va.d)),.ow (.li (ws'.map .int)),s3,s4]:=λ y y0 y1=>by
   refine ⟨ws++[y],_,_,by simp [hl],λ k v z e1 e2=>?_,by rw [vX];rfl⟩
   by_cases h:k < ws.length
   ·rw [wR h] at e2;exact okw k v z e1 e2
   ·rw [wM (by lia)] at e2
    have:k=i:=by
     rcases wS (k - ws.length) 1 with q1|q1
     ·lia
     ·rw [wH (by simpa using q1)] at e2;cases e2
    subst this
    rw [u5 hi] at e1
    rw [hl,Nat.sub_self] at e2
    cases e1
    cases e2
    exact ⟨y0,y1⟩
  have h4:d % 4=0 \/ d % 4=1 \/ d % 4=2 \/ d % 4=3:=by lia
  rcases h4 with h|h|h|h
  ·exact ⟨_,by rw [h];rfl,by rw [u4];lia,fin _ (by lia) (by lia)⟩
  ·exact ⟨_,by rw [h];rfl,by rw [u4];lia,fin _ (by lia) (by lia)⟩
  ·exact ⟨_,by rw [h];rfl,by rw [u4];lia,fin _ (by lia) (by lia)⟩
  ·exact ⟨_,by rw [h];rfl,by rw [u4];lia,fin _ (by lia) (by lia)⟩
 ·rintro U ⟨ws,s3,s4,hl,okw,rfl⟩
  rw [vP] at hl
  refine hJ _ ?_
  clear hJ
  walk_at "dd"
  exact q ws hl okw
end
noncomputable def sL (L:List Le) (f:Le->Int):Int:=(L.map f).sum
theorem zqf (f:Le->Int):sL [] f=0:=rfl
theorem zp1 (l:Le) (L:List Le) (f:Le->Int):sL (l :: L) f=f l+sL L f:=by unfold sL;simp
theorem zhs (L M:List Le) (f:Le->Int):sL (L++M) f=sL L f+sL M f:=by unfold sL;simp
theorem zyf {L:List Le} {f g:Le->Int} (h:∀ l∈L,f l=g l):sL L f=sL L g:=by
 unfold sL;rw [wK h]
theorem zsu {h:List Int} {v:Nat} (hv:v < h.length) (c:Int) (x:Nat):(inc h v c).getD x 0=h.getD x 0+if v=x then c else 0:=by
 unfold inc
 rw [vL,wV]
 by_cases e:v=x
 ·subst e
  rw [if_pos rfl,if_pos hv,if_pos rfl];rfl
 ·rw [if_neg e,if_neg e,<- vL];lia
noncomputable def zy4 (c:Le->Prop) [DecidablePred c] (g:Le->Nat):List Le->List Int->List Int
|[],h=>h
|l :: r,h=>zy4 c g r (if c l then inc h (g l) l.am else h)
theorem zrc (c:Le->Prop) [DecidablePred c] (g:Le->Nat):∀ (L:List Le) (h:List Int),(zy4 c g L h).length=h.length
|[],_=>rfl
|l :: r,h=>by
  show (zy4 c g r _).length=_
  rw [zrc c g r]
  split
  ·exact zrq _ _ _
  ·rfl
theorem zue (c:Le->Prop) [DecidablePred c] (g:Le->Nat):∀ (L:List Le) (l:Le) (h:List Int),zy4 c g (L++[l]) h=if c l then inc (zy4 c g L h) (g l) l.am else zy4 c g L h
|[],_,_=>rfl
|_ :: r,l,h=>zue c g r l _
theorem zcb (c:Le->Prop) [DecidablePred c] (g:Le->Nat):∀ (L:List Le) (h:List Int),(∀ l∈L,g l < h.length)->∀ x,(zy4 c g L h).getD x 0=h.getD x 0+sL L λ l=>if c l/\g l=x then l.am else 0
|[],h,_,x=>by show h.getD x 0=_;rw [zqf];lia
|l :: r,h,hg,x=>by
  show (zy4 c g r _).getD x 0=_
  have hl:=hg l v6
  rw [zp1]
  by_cases e:c l
  ·rw [if_pos e,zcb c g r _ (λ l' hl'=>by rw [zrq];exact hg l' (vU _ hl')) x,zsu hl]
   by_cases z:g l=x
   ·rw [if_pos z,if_pos ⟨e,z⟩];lia
   ·rw [if_neg z,if_neg (λ y=>z y.2)];lia
  ·rw [if_neg e,zcb c g r _ (λ l' hl'=>hg l' (vU _ hl')) x,if_neg (λ y=>e y.1)];lia
noncomputable def zc3 (ps:List Pi) (i:Nat):Nat:=(ps[i]?).map Pi.v |>.getD 0
theorem zxo {ps:List Pi} {kvs:List (List Key×D)} {t:Int} {l:List Int} (hv:∀ i,i < ps.length->zc3 ps i < l.length) (x:Nat):∀ n,n<=ps.length->(arrL ps kvs t n l).getD x 0=l.getD x 0+sm n λ i=>if zc3 ps i=x then cm kvs t i else 0
|0,_=>by show l.getD x 0=l.getD x 0+0;lia
|n+1,h=>by
  show (inc (arrL ps kvs t n l) (zc3 ps n) (cm kvs t n)).getD x 0=_
  rw [zsu (by rw [zma];exact hv n (by lia)),zxo hv x n (by lia),zs5];lia
theorem dbl {ps:List Pi} {c:Le->Prop} [DecidablePred c] {n x:Nat}:∀ {L:List Le},(∀ l∈L,l.at_ < n)->sm n (λ i=>if zc3 ps i=x then sL L (λ l=>if l.at_=i/\c l then l.am else 0) else 0)=sL L λ l=>if c l/\zc3 ps l.at_=x then l.am else 0
|[],_=>by
  rw [zqf,zn3 (h:=λ _=>0) λ k _=>by rw [zqf];split <;> rfl]
  exact zbf n
|l :: r,h=>by
  have ih:=dbl (ps:=ps) (c:=c) (n:=n) (x:=x) (L:=r) λ l' hl'=>h l' (vU _ hl')
  have hl:=h l v6
  rw [zp1,<- ih,<- zdy (j:=l.at_) (if c l/\zc3 ps l.at_=x then l.am else 0) hl,<- zew]
  refine zn3 λ k _=>?_
  rw [zp1]
  by_cases e:zc3 ps k=x
  ·rw [if_pos e,if_pos e]
   by_cases z:k=l.at_
   ·subst z
    by_cases y:c l
    ·rw [if_pos ⟨rfl,y⟩,if_pos rfl,if_pos ⟨y,e⟩]
    ·rw [if_neg (λ q=>y q.2),if_pos rfl,if_neg (λ q=>y q.1)]
   ·rw [if_neg (λ q=>z q.1.symm),if_neg z]
  ·rw [if_neg e,if_neg e]
   by_cases z:k=l.at_
   ·subst z
    rw [if_pos rfl,if_neg (λ q=>e q.2)];lia
   ·rw [if_neg z];lia
theorem ziq {a b:List Int} (hl:a.length=b.length) (h:∀ x,a.getD x 0=b.getD x 0):a=b:=by
 refine yV hl λ i h1 h2=>?_
 have:=h i
 rw [vL,vL,u5 h1,u5 h2] at this
 exact this
noncomputable def pl (ps:List Pi) (i:Nat):Nat:=((ps[i]?).map Pi.len).getD 0
noncomputable def zs1 (ps:List Pi) (i:Nat):Nat:=((ps[i]?).map Pi.u).getD 0
noncomputable def zq5 (ps:List Pi) (i t:Nat):Int:=((ps[i]?).map λ p=>p.g.at t).getD 0
noncomputable def outS (ps:List Pi) (L:List Le) (t x:Nat):Int:=sL L λ l=>if l.t=t/\zs1 ps l.at_=x then l.am else 0
noncomputable def inS (ps:List Pi) (L:List Le) (t x:Nat):Int:=sL L λ l=>if l.t+pl ps l.at_=t/\zc3 ps l.at_=x then l.am else 0
noncomputable def byS (L:List Le) (t i:Nat):Int:=sL L λ l=>if l.t=t/\l.at_=i then l.am else 0
theorem zru {L:List Le} {f:Le->Int} (h:∀ l∈L,f l=0):sL L f=0:=by
 induction L with
|nil=>rfl
|cons a r ih=>rw [zp1,h a v6,ih λ l hl=>h l (vU _ hl)];rfl
theorem zc2 (h:List Int) (v:Nat) (c:Int) (hv:v < h.length) (x:Nat):(h.set v c).getD x 0=if v=x then c else h.getD x 0:=by
 rw [vL,wV]
 by_cases e:v=x
 ·subst e;rw [if_pos rfl,if_pos hv,if_pos rfl];rfl
 ·rw [if_neg e,if_neg e,<- vL]
theorem zr31 {ps:List Pi} {m:Nat} (h:∀ p∈ps,p.v < m) {i:Nat} (hi:i < ps.length):zc3 ps i < m:=by
 unfold zc3
 rw [u5 hi]
 exact h _ (w6 _)
noncomputable def pb (ps:List Pi) (m n:Nat):List Nat:=(ps.mapIdx λ i p=>(i,p)).filterMap λ x=>if m+x.2.len<=n then some x.1 else none
noncomputable def zvi:DSp:=λ ds Q=>∃ (vs:List Va) (ps:List Pi) (m n:Nat),ds=[.tuple [.list (vs.map Va.d),.list (ps.map Pi.d)],.int (m:Int),.int (n:Int)]/\ps.length<=24/\Q (.list ((pb ps m n).map λ k:Nat=>u9 (k:Int)))
theorem zgn (ps:List Pi) (m n:Nat):(pb ps m n).length<=ps.length:=by
 unfold pb
 exact wB (yS _ _) (by simp)
noncomputable def blk (ps:List Pi) (n:Nat) (R:Nat->List Int) (G:Nat->Nat->Int) (m:Nat):List Int:=R m++(pb ps m n).map (G m)
noncomputable def zfc (ps:List Pi) (n:Nat) (A:List Int) (R:Nat->List Int) (G:Nat->Nat->Int) (k:Nat):List Int:=A++((u3 k).map (blk ps n R G)).flatten
theorem zq7 (ps:List Pi) (n:Nat) (A:List Int) (R:Nat->List Int) (G:Nat->Nat->Int) (k:Nat):zfc ps n A R G (k+1)=zfc ps n A R G k++blk ps n R G k:=by
 unfold zfc
 rw [w9,vX,uaO,<- wC]
 simp
theorem zem (ps:List Pi) (n:Nat) (A:List Int) (R:Nat->List Int) (G:Nat->Nat->Int) (k:Nat):∀ d,∃ post,zfc ps n A R G (k+d)=zfc ps n A R G k++post
|0=>⟨[],by simp⟩
|d+1=>by
  obtain ⟨post,h⟩:=zem ps n A R G k d
  exact ⟨post++blk ps n R G (k+d),by rw [<- j5,zq7,h,wC]⟩
theorem zvw {ps:List Pi} {n:Nat} {A T:List Int} {R:Nat->List Int} {G:Nat->Nat->Int} {m j i:Nat} (hm:m < n) (hj:(pb ps m n)[j]?=some i):(zfc ps n A R G n++T)[(zfc ps n A R G m).length+(R m).length+j]?=some (G m i):=by
 obtain ⟨post,h⟩:=zem ps n A R G (m+1) (n - (m+1))
 rw [show m+1+(n - (m+1))=n by lia,zq7] at h
 rw [h]
 unfold blk
 have hj2:=(vW.mp hj).1
 rw [show zfc ps n A R G m++(R m++(pb ps m n).map (G m))++post++T=(zfc ps n A R G m++R m)++((pb ps m n).map (G m)++(post++T)) by simp only [wC]]
 rw [wM (by rw [vJ];lia),vJ,show (zfc ps n A R G m).length+(R m).length+j - ((zfc ps n A R G m).length+(R m).length)=j by lia,wR (by simpa using hj2),u6,hj]
 rfl
noncomputable def pmL (G:Nat->Nat->Int) (m:Nat) (is:List Nat):List Le:=is.filterMap λ i=>if 0 < G m i then some ⟨m,i,G m i⟩ else none
noncomputable def zvc (ps:List Pi) (n:Nat) (G:Nat->Nat->Int) (k:Nat):List Le:=((u3 k).map λ m=>pmL G m (pb ps m n)).flatten
theorem zsc (ps:List Pi) (n:Nat) (G:Nat->Nat->Int) (k:Nat):zvc ps n G (k+1)=zvc ps n G k++pmL G k (pb ps k n):=by
 unfold zvc
 rw [w9,vX,uaO]
 simp
theorem zix {G:Nat->Nat->Int} {m i j:Nat} {is:List Nat} (h:is[j]?=some i):pmL G m (is.take (j+1))=pmL G m (is.take j)++(if 0 < G m i then [⟨m,i,G m i⟩] else []):=by
 unfold pmL
 rw [wZ,h,xI]
 congr 1
 by_cases z:0 < G m i
 ·simp [z]
 ·simp [z]
theorem zeu (G:Nat->Nat->Int) (m:Nat) (is:List Nat):(pmL G m is).length<=is.length:=yS _ _
theorem zlf (ps:List Pi) (n:Nat) (G:Nat->Nat->Int) (h:ps.length<=24):∀ k,(zvc ps n G k).length<=24 * k
|0=>by simp [zvc]
|k+1=>by
  have ih:=zlf ps n G h k
  have h1:=zeu G k (pb ps k n)
  have h2:=zgn ps k n
  rw [zsc,vJ]
  lia
noncomputable def zgm:DSp:=λ ds Q=>∃ (vs:List Va) (ps:List Pi) (n:Nat) (A T:List Int) (R:Nat->List Int) (G:Nat->Nat->Int),ds=[.tuple [.list (vs.map Va.d),.list (ps.map Pi.d)],.int (n:Int),.list ((zfc ps n A R G n++T).map .int)]/\vs.length<=12/\ps.length<=24/\n<=60/\A.length=vs.length/\(∀ m,m < n->(R m).length=vs.length) /\
 Q (.list ((zvc ps n G n).map Le.d))
section
variable {P:Program} {w:World} {K:Fg} {mg:Str->Option Value} {base:Heap}
theorem zke:FnScope ["yard", "moment", "until"] ["yard", "moment", "until"] (zg0 zc8):=by exact ⟨rfl,rfl,rfl,by decide +kernel,rfl,by decide +kernel,by decide +kernel⟩
theorem zjn (M:Md K mg) (T:TopDef K "pipes_by" zc8) (jR:mg "enumerate"=none):Def P w K mg base "pipes_by" 1 ["yard", "moment", "until"] (spD K zvi):=by
 refine zg7 M T zke (λ _ _ _ _ _ _ us hl=>by obtain ⟨_,_,_,rfl⟩:=ar3 hl;rfl) (zln λ ds Qd h=>by obtain ⟨_,_,_,_,rfl,_⟩:=h;rfl) (zk8 ?_)
 intro f cdv A outer s H E hr
 have nd:=zke.nd
 refine ⟨_,_,(zj0 (zg1 (zk4 (sc:=zg0 zc8) (N:=["yard", "moment", "until"]) (own:=["number", "pipe"]) (ix:=[2,1]) rfl rfl rfl (by exact ⟨rfl,by decide +kernel,by decide +kernel,by decide +kernel,by decide +kernel⟩) (zzm (K:=K) rfl rfl jR (zb0 (pix w K hr (pv 0) zf0) zh0)) (λ _ _ _ _=>⟨(zf6 (K:=K) (n:=2) rfl rfl (zv0 (pgn 0 (nds ["number", "pipe", "until", "moment"])) (zv0 (pgn 1 (nds ["number", "pipe", "until", "moment"])) zm6))),(zgp (zt0 zk41 (zr0 (zp0 (K:=K) rfl) (pv 3) (pix w K hr (pv 1) zf0)) (pv 2) (zm1 _))),(pv 0)⟩)))),(zb2 (RfF.c (ze4 (zav (ze1 (RfE.v (zl0 r_ix (za0 0) rvi)) zj2)) (zde (zu0 (zw1 (i:=0) (n:=2) (by decide)) (zu0 (zw1 (i:=1) (n:=2) (by decide)) zo6))) (zs0 (zl0 r_le (RfE.v (zl0 zv2 (za0 3) (RfE.v (zl0 r_ix (za0 1) rvi)))) (za0 2))) (zi0 0)))),?_⟩
 rintro ds Qd ⟨vs,ps,m,n,rfl,h24,q⟩
 walk_at "ds"
 walk_at "dd"
 refine ⟨_,rfl,?_⟩
 walk_at "dd"
 rw [zhf]
 refine zr41 (λ x=>if m+x.2.len<=n then some (.int (x.1:Int)) else none) (by rw [sizeLine_eq,j4];lia) (λ x hx=>?_) ?_
 ·obtain ⟨i,p⟩:=x
  unfold Pi.d
  walk_at "cs"
  walk_at "dd"
  refine ⟨_,rfl,?_⟩
  walk_at "dd"
  refine two (λ h=>?_) λ h=>?_
  ·rw [if_pos (by lia)]
  ·rw [if_neg (by lia)]
 ·unfold pb at q
  rw [uaN] at q
  refine (congrArg (λ l=>Qd (.list l)) ?_).mp q
  congr 1
  funext x
  split <;> rfl
theorem zuj:FnScope ["yard", "until", "flow", "plan", "place", "moment", "pipe"] ["yard", "until", "flow"] (zg0 zsf):=by exact ⟨rfl,rfl,rfl,by decide +kernel,rfl,by decide +kernel,by decide +kernel⟩
theorem zmq (M:Md K mg) (T:TopDef K "plan_of" zsf) (jS:mg "len"=none) (jJ:mg "range"=none) (uN:Def P w K mg base "pipes_by" 1 ["yard", "moment", "until"] (spD K zvi)):Def P w K mg base "plan_of" 2 ["yard", "until", "flow"] (spD K zgm):=by
 refine zg7 M T zuj (λ _ _ _ _ _ _ us hl=>by obtain ⟨_,_,_,rfl⟩:=ar3 hl;rfl) (zln λ ds Qd h=>by obtain ⟨_,_,_,_,_,_,_,rfl,_⟩:=h;rfl) (zk8 ?_)
 intro f cdv A outer s H E hr
 have nd:=zuj.nd
 refine ⟨_,_,(zc0 (pset 3 nd (zo1 zh0))
   (zc0 (pset 4 nd (zh1 (zf1 (K:=K) rfl) rfl jS ze7 (zb0 (pix w K hr (pv 0) zf0) zh0)))
   (zc0 (zw3 PassesOwn.never rfl (zb1 rfl jJ (zb0 (pv 1) zh0)) (pgn 5 nd) (zc0 (zg01 (i:=4) nd rfl (by first|exact Or.inl rfl|exact Or.inr rfl) (zh1 (zf1 (K:=K) rfl) rfl jS ze7 (zb0 (pix w K hr (pv 0) zf0) zh0)) zep)
   (zj0 (zw3 PassesOwn.never rfl (pi_W (K:=K) rfl (zx0 uN (rmn hr) rfl (zb0 (pv 0) (zb0 (pv 5) (zb0 (pv 1) zh0))))) (pgn 6 nd) (zc0 (zr8 (zt0 zpo (pix w K hr (pv 2) (pv 4)) zf0 (zm1 _)) (zj0 (zk1 (zj4 (K:=K) rfl PySem.F.plainAttrs_list PySem.F.slot_list_append PySem.F.type_list_append zc1 (pv 3) (zb0 (zh2 (zb0 (pv 5) (zb0 (pv 6) (zb0 (pix w K hr (pv 2) (pv 4)) zh0)))) zh0)))) zi1)
   (zj0 (zg01 (i:=4) nd rfl (by first|exact Or.inl rfl|exact Or.inr rfl) zf0 zep)))))))
   (zj0 (zg1 (pv 3)))))),(zk0 (zf2 (RfF.c (zg3 zn0)))
   (zk0 (zz0 (zij ztk (ze1 (RfE.v (zl0 r_ix (za0 0) rvi)) zj2)) (rgn 4))
   (zk0 (zs3 (zt2 (zd0 (zi0 1) zn0)) (rgn 5) (zk0 (zs01 (zij ztk (ze1 (RfE.v (zl0 r_ix (za0 0) rvi)) zj2)))
   (zs3 (zuq (zr1 (zd0 (zi0 0) (zd0 (zi0 5) (zd0 (zi0 1) zn0))))) (rgn 6) (zk0 (ze9 (zs0 (zl0 r_gt (RfE.v (zl0 r_ix (za0 2) (za0 4))) rvi)) (zl1 (zjj zh7 (zm0 3) (zd0 (zx4 (zd0 (zi0 5) (zd0 (zi0 6) (zd0 (zl0 r_ix (za0 2) (za0 4)) zn0)))) zn0))) zj1)
   (zs01 zq1)))))
   (zf8 (i:=3))))),?_⟩
 rintro ds Qd ⟨vs,ps,n,A,T,R,G,rfl,h12,h24,hn,hA,hR,q⟩
 generalize hF:zfc ps n A R G n++T=F
 walk_at "ds"
 refine ze0 λ J hJ=>?_
 walk_at "dd"
 refine hJ _ ?_
 clear hJ
 refine ze0 λ J hJ=>?_
 walk_at "dd"
 refine ⟨_,rfl,?_⟩
 walk_at "dd"
 rw [u4]
 refine hJ _ ?_
 clear hJ
 refine ze0 λ J hJ=>?_
 walk_at "dd"
 rw [vI]
 unfold rngD
 have flen:∀ k,k<=n->(zfc ps n A R G k).length<=12+36 * k:=λ k=>by
  induction k with
 |zero=>intro _;unfold zfc;simp;lia
 |succ k ih =>
   intro hk
   have i1:=ih (by lia)
   have i2:=hR k (by lia)
   have i3:=zgn ps k n
   rw [zq7,vJ]
   unfold blk
   rw [vJ,u4];lia
 refine ⟨by lia,by lia,za2 (λ i U=>∃ s5 s6:Sl,U=[.sh (.tuple [.list (vs.map Va.d),.list (ps.map Pi.d)]),.sh (.int (n:Int)),.sh (.list (F.map .int)),.ow (.li ((zvc ps n G i).map Le.d)),.sh (.int ((zfc ps n A R G i).length:Int)),s5,s6]) ⟨.un,.un,by unfold zfc;simp [zvc,hA]⟩ ?_ ?_⟩
 ·rintro i m U hm ⟨s5,s6,rfl⟩
  obtain ⟨hi,hi2⟩:=vW.mp hm
  simp at hi hi2
  subst hi2
  rw [show (0:Int)+(i:Int)=(i:Int) by lia]
  have hfl:=flen i (by lia)
  have hpl:=zlf ps n G h24 i
  have hpb:=zgn ps i n
  walk_at "dd"
  refine ze0 λ J hJ=>?_
  walk_at "dd"
  refine ⟨_,rfl,?_⟩
  walk_at "dd"
  rw [u4]
  refine hJ _ ?_
  clear hJ
  walk_at "dd"
  refine ⟨vs,ps,i,n,rfl,h24,?_⟩
  walk_at "dd"
  refine za2 (λ j U=>∃ s6:Sl,U=[.sh (.tuple [.list (vs.map Va.d),.list (ps.map Pi.d)]),.sh (.int (n:Int)),.sh (.list (F.map .int)),.ow (.li ((zvc ps n G i++pmL G i ((pb ps i n).take j)).map Le.d)),.sh (.int (((zfc ps n A R G i).length+(R i).length+j:Nat):Int)),.sh (.int (i:Int)),s6]) ⟨s6,?_⟩ ?_ ?_
  ·rw [hR i hi]
   simp [pmL]
  ·rintro j x U hj ⟨s6,rfl⟩
   have hjl:=(vW.mp hj).1
   have gx:=zvw (A:=A) (T:=T) (R:=R) (G:=G) hi hj
   rw [hF] at gx
   have hRi:=hR i hi
   have gf:atI (F.map u9) (((zfc ps n A R G i).length+(R i).length+j:Nat):Int)=some (.int (G i x)):=zk2 (by lia) (by rw [vI,u6,gx];rfl)
   have hpm:=zeu G i ((pb ps i n).take j)
   rw [wF] at hpm
   rw [zix hj]
   walk_at "dd"
   generalize hN:(zfc ps n A R G i).length+(R i).length+j=N at gf
   rw [show (zfc ps n A R G i).length+(R i).length+(j+1)=N+1 by lia]
   refine ze0 λ J hJ=>?_
   walk_at "dd"
   refine ⟨_,gf,?_⟩
   walk_at "dd"
   refine two (λ z=>?_) λ z=>?_
   ·refine ⟨_,gf,?_⟩
    refine ⟨by rw [u4,vJ];lia,hJ _ ?_⟩
    clear hJ
    walk_at "dd"
    rw [if_pos z]
    refine ⟨.sh (.int (x:Int)),?_⟩
    rw [<- wC,vX (l₂:=[_])]
    rfl
   ·refine hJ _ ?_
    clear hJ
    walk_at "dd"
    rw [if_neg z]
    refine ⟨.sh (.int (x:Int)),?_⟩
    rw [wI]
    rfl
  ·rintro U ⟨s6,rfl⟩
   rw [xM,zsc,zq7]
   refine ⟨.sh (.int (i:Int)),s6,?_⟩
   unfold blk
   rw [vJ,vJ,u4,<- j5]
 ·rintro U ⟨s5,s6,rfl⟩
  rw [vP]
  refine hJ _ ?_
  clear hJ
  walk_at "dd"
  exact q
end
theorem zhb1 {L:List Le} {f:Le->Int} (h:∀ l∈L,0<=f l):0<=sL L f:=by
 induction L with
|nil=>exact xC _
|cons a r ih =>
  have h1:=h a v6
  have h2:=ih λ l hl=>h l (vU _ hl)
  rw [zp1];lia
theorem zor (m:Nat) (f:Le->Int):∀ P:List Le,sL (byM P m) f=sL P λ l=>if l.t=m then f l else 0
|[]=>rfl
|l :: r=>by
  have ih:=zor m f r
  unfold byM at ih ⊢
  by_cases e:l.t=m
  ·rw [yE (by simpa using e),zp1,zp1,if_pos e,ih]
  ·rw [yT (by simpa using e),zp1,if_neg e,ih];lia
theorem zf01 (L:List Le) (f g:Le->Int):sL L f+sL L g=sL L λ l=>f l+g l:=by
 induction L with
|nil=>rfl
|cons a r ih=>rw [zp1,zp1,zp1,<- ih];lia
theorem zk71 {kvs:List (List Key×D)} (t t':Int) (i i':Nat) (c:Int):cm (putD kvs (kTI t i) (.int c)) t' i'=if t=t'/\i=i' then c else cm kvs t' i':=by
 unfold cm
 rw [zvk]
 by_cases e:t=t'/\i=i'
 ·obtain ⟨rfl,rfl⟩:=e
  rw [if_pos rfl,if_pos ⟨rfl,rfl⟩]
 ·rw [if_neg (λ z=>e (zpu z)),if_neg e]
variable {ps:List Pi} {fills:List Int} {n:Nat} {P:List Le} {rows:List (List Int)}
theorem zwu {now:Nat} {row:List Int} {C:Nat->Nat->Int} {Q:St->Prop} (hu:∀ p∈ps,p.u < row.length) (h0:∀ x,0<=row.getD x 0)
  (q:∀ S',S'.ly=row->AllI S'.kvs->(∀ t i,now < t->i < ps.length->cm S'.kvs (t:Nat) i=C t i)->Q S'):∀ (ls:List Le) (S:St),(∀ l∈ls,l.at_ < ps.length/\1<=l.am) ->
  S.ly.length=row.length->(∀ x,S.ly.getD x 0=row.getD x 0+sL ls λ l=>if zs1 ps l.at_=x then l.am else 0)->S.en.length=ps.length->(∀ i,i < ps.length->S.en.getD i 0+(sL ls λ l=>if l.at_=i then l.am else 0)<=zq5 ps i now)->AllI S.kvs ->
  (∀ t i,now < t->i < ps.length->cm S.kvs (t:Nat) i+(sL ls λ l=>if l.at_=i/\now+pl ps l.at_=t then l.am else 0)=C t i)->lets ps now ls S Q
|[],S,_,h1,h2,_,_,h5,h6=>q S (ziq h1 λ x=>by rw [h2,zqf];lia) h5 λ t i ht hi=>by have:=h6 t i ht hi;rw [zqf] at this;lia
|l :: r,S,ha,h1,h2,h3,h4,h5,h6=>by
  obtain ⟨a1,a2⟩:=ha l v6
  have hr:=λ l' hl'=>ha l' (vU l hl')
  have nn:∀ f:Le->Prop,∀ [DecidablePred f],0<=sL r λ l=>if f l then l.am else 0:=λ f _=>zhb1 λ l' hl'=>by
   have:=(hr l' hl').2
   split <;> lia
  obtain ⟨p,hp⟩:∃ p,ps[l.at_]?=some p:=⟨_,u5 a1⟩
  have epi:St.pipe ps l=p:=by unfold St.pipe;rw [hp];rfl
  have epl:pl ps l.at_=p.len:=by unfold pl;rw [hp];rfl
  have est:zs1 ps l.at_=p.u:=by unfold zs1;rw [hp];rfl
  have ew:zq5 ps l.at_ now=p.g.at now:=by unfold zq5;rw [hp];rfl
  have hpu:=hu p (v8 hp)
  refine ⟨⟨a1,a2,?_,?_⟩,zwu hu h0 q r (St.let_ ps now S l) hr ?_ (λ x=>?_) ?_ (λ i hi=>?_) (zro h5 _ _) λ t i ht hi=>?_⟩
  ·rw [epi,<- ew]
   have:=h4 l.at_ a1
   have:=nn λ l'=>l'.at_=l.at_
   rw [zp1,if_pos rfl] at *
   lia
  ·rw [epi,h2,zp1,if_pos est]
   have:=h0 p.u
   have:=nn λ l'=>zs1 ps l'.at_=p.u
   lia
  ·show (zM _ _ _).length=_
   rw [vZ];exact h1
  ·show (S.ly.set (St.pipe ps l).u (S.ly.getD (St.pipe ps l).u 0 - l.am)).getD x 0=_
   have e1:=h2 x
   rw [zp1,est] at e1
   rw [epi,zc2 _ _ _ (by rw [h1];exact hpu)]
   by_cases e:p.u=x
   ·subst e
    rw [if_pos rfl] at e1 ⊢;lia
   ·rw [if_neg e] at e1 ⊢;lia
  ·show (zM _ _ _).length=_
   rw [vZ];exact h3
  ·show (S.en.set l.at_ (S.en.getD l.at_ 0+l.am)).getD i 0+_<=_
   have e1:=h4 i hi
   rw [zp1] at e1
   rw [zc2 _ _ _ (by rw [h3];exact a1)]
   by_cases e:l.at_=i
   ·subst e
    rw [if_pos rfl] at e1 ⊢;lia
   ·rw [if_neg e] at e1 ⊢;lia
  ·show cm (putD S.kvs (kTI ((now:Int)+((St.pipe ps l).len:Int)) l.at_) (.int (cm S.kvs ((now:Int)+((St.pipe ps l).len:Int)) l.at_+l.am))) (t:Int) i+_=_
   have e1:=h6 t i ht hi
   rw [zp1,epl] at e1
   rw [epi,zk71]
   by_cases e:l.at_=i/\now+p.len=t
   ·obtain ⟨rfl,rfl⟩:=e
    rw [if_pos ⟨rfl,rfl⟩] at e1
    rw [if_pos ⟨by lia,rfl⟩,show (now:Int)+(p.len:Int)=((now+p.len:Nat):Int) by lia]
    lia
   ·rw [if_neg e] at e1
    rw [if_neg (λ z=>e ⟨z.2,by have:=z.1;lia⟩)]
    lia
structure Fits (fills:List Int) (ps:List Pi) (n:Nat) (P:List Le) (rows:List (List Int)):Prop where
 rl:rows.length=n+1
 rr:∀ r∈rows,r.length=fills.length/\∀ x∈r,0<=x
 pa:∀ l∈P,l.at_ < ps.length/\1<=l.am
 cap:∀ t i,t < n->i < ps.length->byS P t i<=zq5 ps i t
 c0:∀ x,fills.getD x 0=(rows.getD 0 []).getD x 0+outS ps P 0 x
 c1:∀ t,t < n->∀ x,(rows.getD t []).getD x 0+inS ps P (t+1) x=(rows.getD (t+1) []).getD x 0+outS ps P (t+1) x
 pp:∀ p∈ps,p.u < fills.length/\p.v < fills.length/\1<=p.len
noncomputable def cmB (ps:List Pi) (P:List Le) (now t i:Nat):Int:=sL P λ l=>if l.t < now/\l.at_=i/\l.t+pl ps l.at_=t then l.am else 0
theorem Fits.row (f:Fits fills ps n P rows) {m:Nat} (hm:m<=n):(rows.getD m []).length=fills.length/\∀ x,0<=(rows.getD m []).getD x 0:=by
 have hz:=f.rl
 have h1:rows.getD m []∈rows:=by rw [vL,u5 (by lia)];exact w6 _
 refine ⟨(f.rr _ h1).1,λ x=>?_⟩
 rw [vL]
 cases e:(rows.getD m [])[x]? with
|none=>exact xC _
|some y=>exact (f.rr _ h1).2 y (v8 e)
theorem Fits.moment (f:Fits fills ps n P rows) {now:Nat} (hn:now < n) {S:St} {Q:St->Prop} (h1:S.ly.length=fills.length) (h2:∀ x,S.ly.getD x 0=(rows.getD now []).getD x 0+outS ps P now x) (h3:S.en=u7 ps.length 0) (h5:AllI S.kvs) (h6:∀ t i,now < t->i < ps.length->cm S.kvs (t:Nat) i=cmB ps P now t i)
  (q:∀ S',S'.ly=rows.getD now []->AllI S'.kvs->(∀ t i,now < t->i < ps.length->cm S'.kvs (t:Nat) i=cmB ps P (now+1) t i)->Q S'):lets ps now (byM P now) S Q:=by
 obtain ⟨r1,r2⟩:=f.row (m:=now) (by lia)
 refine zwu (row:=rows.getD now []) (C:=λ t i=>cmB ps P (now+1) t i) (λ p hp=>by rw [r1];exact (f.pp p hp).1) r2 q _ S (λ l hl=>f.pa l (zR.mp hl).1) (by rw [r1];exact h1) (λ x=>?_) (by rw [h3];simp) (λ i hi=>?_) h5 λ t i ht hi=>?_
 ·rw [h2,zor]
  congr 1
  refine zyf λ l _=>?_
  by_cases e:l.t=now <;> simp [e]
 ·rw [h3,zor,vL,xB,if_pos hi]
  have:=f.cap now i hn hi
  unfold byS at this
  rw [zyf (g:=λ l=>if l.t=now/\l.at_=i then l.am else 0) λ l _=>?_]
  ·show (0:Int)+_<=_
   lia
  by_cases e:l.t=now <;> simp [e]
 ·rw [h6 t i ht hi,zor]
  unfold cmB
  rw [zf01]
  refine zyf λ l _=>?_
  by_cases e:l.t=now
  ·subst e
   by_cases z:l.at_=i/\l.t+pl ps l.at_=t
   ·rw [if_neg (λ y=>by have:=y.1;lia),if_pos rfl,if_pos z,if_pos ⟨by lia,z⟩];lia
   ·rw [if_neg (λ y=>z y.2),if_pos rfl,if_neg z,if_neg (λ y=>z y.2)];lia
  ·by_cases z:l.t < now/\l.at_=i/\l.t+pl ps l.at_=t
   ·rw [if_pos z,if_neg e,if_pos ⟨by lia,z.2⟩];lia
   ·rw [if_neg z,if_neg e,if_neg (λ y=>z ⟨by lia,y.2⟩)];lia
theorem Fits.plays (f:Fits fills ps n P rows) (rooms:List Int) (hro:∀ r∈rows,zji rooms r):∀ (d now:Nat) (S:St),now+d=n->S.ly.length=fills.length->(∀ x,S.ly.getD x 0=(rows.getD now []).getD x 0+outS ps P now x)->S.en=u7 ps.length 0->AllI S.kvs->(∀ t i,now < t->i < ps.length->cm S.kvs (t:Nat) i=cmB ps P now t i) ->
  (∀ x,outS ps P n x=0)->runP rooms ps ((List.range' now d).map (byM P)) now S (rows.take now) λ r=>r=rows
|0,now,S,hd,h1,h2,h3,h5,h6,hz=>by
  have hl:=f.rl
  obtain ⟨r1,r2⟩:=f.row (m:=now) (by lia)
  obtain rfl:now=n:=by lia
  have e:S.ly=rows.getD now []:=ziq (by rw [h1,r1]) λ x=>by rw [h2,hz x];lia
  have e2:rows[now]?=some (rows.getD now []):=by rw [vL,u5 (by lia)];rfl
  refine ⟨by rw [e];exact hro _ (v8 e2),?_⟩
  rw [e]
  have:=wZ (l:=rows) (i:=now)
  rw [e2,yP (by lia)] at this
  exact this.symm
|d+1,now,S,hd,h1,h2,h3,h5,h6,hz=>by
  have hl:=f.rl
  obtain ⟨r1,r2⟩:=f.row (m:=now) (by lia)
  have e2:rows[now]?=some (rows.getD now []):=by rw [vL,u5 (by lia)];rfl
  rw [List.range'_succ,vV]
  refine f.moment (by lia) h1 h2 h3 h5 h6 λ S' k1 k2 k3=>⟨by rw [k1];exact hro _ (v8 e2),?_⟩
  have et:rows.take now++[S'.ly]=rows.take (now+1):=by rw [wZ,e2,k1];rfl
  rw [et]
  refine f.plays rooms hro d (now+1) (St.go ps now S') (by lia) ?_ (λ x=>?_) rfl (zca k2 _ _) (λ t i ht hi=>?_) hz
  ·show (arrL _ _ _ _ _).length=_
   rw [zma,k1,r1]
  ·show (arrL ps S'.kvs ((now+1:Nat):Int) ps.length S'.ly).getD x 0=_
   rw [k1,zxo (λ i hi=>by rw [r1];exact zr31 (λ p hp=>(f.pp p hp).2.1) hi) x ps.length (u8 _),<- f.c1 now (by lia) x]
   congr 1
   rw [zn3 (h:=λ i=>if zc3 ps i=x then sL P (λ l=>if l.at_=i/\l.t+pl ps l.at_=now+1 then l.am else 0) else 0) λ i hi=>?_]
   ·exact dbl (c:=λ l=>l.t+pl ps l.at_=now+1) λ l hl=>(f.pa l hl).1
   rw [k3 (now+1) i (by lia) hi]
   unfold cmB
   split
   ·refine zyf λ l hl=>?_
    by_cases z:l.at_=i/\l.t+pl ps l.at_=now+1
    ·have h7:1<=pl ps l.at_:=by
      unfold pl
      rw [u5 (f.pa l hl).1]
      exact (f.pp _ (w6 _)).2.2
     rw [if_pos z,if_pos ⟨by lia,z⟩]
    ·rw [if_neg z,if_neg (λ y=>z y.2)]
   ·rfl
  ·show cm (arrK S'.kvs ((now+1:Nat):Int) ps.length) (t:Int) i=_
   rw [<- k3 t i (by lia) hi]
   unfold cm
   rw [zeg,if_neg (λ z=>by have:=z.1;lia)]
theorem zrm {ps:List Pi} {m:Nat} {Q Q':St->Prop} (h:∀ S,Q S->Q' S):∀ (l:List Le) (S:St),lets ps m l S Q->lets ps m l S Q'
|[],S,q=>h S q
|_ :: r,_,q=>⟨q.1,zrm h r _ q.2⟩
theorem zum {rooms:List Int} {ps:List Pi} {Q Q':List (List Int)->Prop} (h:∀ r,Q r->Q' r):∀ (ls:List (List Le)) (m:Nat) (S:St) (acc:List (List Int)),runP rooms ps ls m S acc Q->runP rooms ps ls m S acc Q'
|[],_,_,_,q=>⟨q.1,h _ q.2⟩
|l :: r,m,S,acc,q=>zrm (λ S' z=>⟨z.1,zum h r _ _ _ z.2⟩) l S q
end K25
namespace K25
open PySem PySem.Spec PyProof.Rows L2 L3 L4 L5
noncomputable def pbJ (ps:List Pi) (m n j:Nat):List Nat:=((ps.mapIdx λ i p=>(i,p)).take j).filterMap λ x=>if m+x.2.len<=n then some x.1 else none
theorem zki (ps:List Pi) (m n:Nat):pbJ ps m n ps.length=pb ps m n:=by
 unfold pbJ pb
 rw [yP (by simp)]
theorem zuo {ps:List Pi} {m n j:Nat} {p:Pi} (h:ps[j]?=some p):pbJ ps m n (j+1)=pbJ ps m n j++(if m+p.len<=n then [j] else []):=by
 unfold pbJ
 rw [wZ,yR,h,xI]
 congr 1
 by_cases e:m+p.len<=n <;> simp [e]
theorem zcq (ps:List Pi) (m n:Nat):∀ j,j<=ps.length->(pbJ ps m n j).Nodup/\∀ i∈pbJ ps m n j,i < j/\m+pl ps i<=n
|0,_=>⟨by simp [pbJ],λ i hi=>by simp [pbJ] at hi⟩
|j+1,h=>by
  obtain ⟨h1,h2⟩:=zcq ps m n j (by lia)
  have e:ps[j]?=some ps[j]:=u5 (by lia)
  rw [zuo e]
  by_cases c:m+ps[j].len<=n
  ·rw [if_pos c]
   refine ⟨?_,λ i hi=>?_⟩
   ·rw [wG]
    refine ⟨h1,by simp,λ a ha b hb z=>?_⟩
    simp at hb
    have:=(h2 a ha).1;lia
   ·rcases vK.mp hi with z|z
    ·exact ⟨by have:=(h2 i z).1;lia,(h2 i z).2⟩
    ·simp at z;subst z
     exact ⟨by lia,by unfold pl;rw [e];exact c⟩
  ·rw [if_neg c,wI]
   exact ⟨h1,λ i hi=>⟨by have:=(h2 i hi).1;lia,(h2 i hi).2⟩⟩
theorem zsz (ps:List Pi) (m n j:Nat):(pbJ ps m n j).length<=j:=by
 unfold pbJ
 exact wB (yS _ _) (by rw [wF];lia)
noncomputable def ntOf (vs:List Va) (ps:List Pi) (n:Nat):Nt:=⟨vs.length,n,λ k=>((vs[k]?).map Va.fill).getD 0,λ k=>((vs[k]?).map Va.room).getD 0,λ m=>pb ps m n,zs1 ps,zc3 ps,pl ps,λ i m=>zq5 ps i m⟩
theorem zfe {vs:List Va} {ps:List Pi} {n:Nat} (h:∀ p∈ps,PiOk vs.length p):(ntOf vs ps n).Ok:=by
 have a:∀ m,∀ i∈pb ps m n,i < ps.length/\m+pl ps i<=n:=λ m i hi=>by rw [<- zki] at hi;exact (zcq ps m n _ (u8 _)).2 i hi
 have b:∀ i,i < ps.length->zs1 ps i < vs.length/\zc3 ps i < vs.length/\1<=pl ps i:=λ i hi=>by
  unfold zs1 zc3 pl
  rw [u5 hi]
  obtain ⟨h1,h2,h3,_⟩:=h _ (w6 hi)
  exact ⟨h1,h2,h3⟩
 exact ⟨λ m=>by show (pb ps m n).Nodup;rw [<- zki];exact (zcq ps m n _ (u8 _)).1,λ m i hi=>(b i (a m i hi).1).1,λ m i hi=>(b i (a m i hi).1).2.1,λ m i hi=>⟨(b i (a m i hi).1).2.2,(a m i hi).2⟩⟩
noncomputable def zd6 (vs:List Va) (ps:List Pi) (n k:Nat):List Int:=u7 vs.length (-1)++(u3 k).flatMap λ m=>u7 vs.length (-1)++(pb ps m n).map λ i=>((m * 24+i:Nat):Int)
noncomputable def zeh (vs:List Va) (ps:List Pi) (n k:Nat):List Ar:=(u3 vs.length).map (λ j=>(0,(ntOf vs ps n).nd 0 j,(ntOf vs ps n).fl j))++(u3 k).flatMap λ m=>(u3 vs.length).map (λ j=>((ntOf vs ps n).nd m j,(ntOf vs ps n).nd (m+1) j,(ntOf vs ps n).rm j))++(pb ps m n).map λ i=>((ntOf vs ps n).nd m (zs1 ps i),(ntOf vs ps n).nd (m+pl ps i) (zc3 ps i),zq5 ps i m)
theorem zaf (vs:List Va) (ps:List Pi) (n k:Nat):zd6 vs ps n (k+1)=zd6 vs ps n k++u7 vs.length (-1)++(pb ps k n).map λ i=>((k * 24+i:Nat):Int):=by
 unfold zd6
 rw [w9,zI]
 simp
theorem zpa (vs:List Va) (ps:List Pi) (n k:Nat):zeh vs ps n (k+1)=zeh vs ps n k++(u3 vs.length).map (λ j=>((ntOf vs ps n).nd k j,(ntOf vs ps n).nd (k+1) j,(ntOf vs ps n).rm j))++(pb ps k n).map λ i=>((ntOf vs ps n).nd k (zs1 ps i),(ntOf vs ps n).nd (k+pl ps i) (zc3 ps i),zq5 ps i k):=by
 unfold zeh
 rw [w9,zI]
 simp
noncomputable def csOf (vs:List Va) (ws:List Int):List (Nat->Int):=[λ k=>ws.getD k 0,λ k=>((vs[k]?).map Va.room).getD 0 - ws.getD k 0]
theorem zog (vs:List Va) (ps:List Pi) (ws:List Int) (n:Nat):(ntOf vs ps n).arcs (csOf vs ws)=zeh vs ps n n++(u3 vs.length).map (λ k=>((ntOf vs ps n).nd n k,1,ws.getD k 0))++(u3 vs.length).map λ k=>((ntOf vs ps n).nd n k,1,((vs[k]?).map Va.room).getD 0 - ws.getD k 0):=by
 unfold Nt.arcs csOf zeh
 rw [wA,wA,List.flatMap_nil,wI,<- wC]
 rfl
noncomputable def zzh:DSp:=λ ds Q=>∃ (vs:List Va) (ps:List Pi) (ws:List Int) (n:Nat),ds=[dY vs ps,.list (ws.map .int),.int (n:Int)]/\vs.length<=4/\ps.length<=5/\(∀ p∈ps,PiOk vs.length p)/\ws.length=vs.length/\n<=5 /\
 Q (.tuple [.list (((ntOf vs ps n).arcs (csOf vs ws)).map dAr),.list ((zd6 vs ps n n++u7 (2 * vs.length) (-1)).map .int)])
section
variable {P:Program} {w:World} {K:Fg} {mg:Str->Option Value} {base:Heap}
theorem zzb:FnScope ["yard", "wants", "until", "many", "arcs", "marks", "now", "here", "k", "at", "start", "goal", "length", "price", "gate", "last"] ["yard", "wants", "until"] (zg0 zz2):=by exact ⟨rfl,rfl,rfl,by decide +kernel,rfl,by decide +kernel,by decide +kernel⟩
theorem zql (M:Md K mg) (T:TopDef K "_law_arcs" zz2) (jS:mg "len"=none) (jJ:mg "range"=none) (kF:Def P w K mg base "_law_width" 1 ["gate", "now"] (spD K zu8)):Def P w K mg base "_law_arcs" 2 ["yard", "wants", "until"] (spD K zzh):=by
 refine zg7 M T zzb (λ _ _ _ _ _ _ us hl=>by obtain ⟨_,_,_,rfl⟩:=ar3 hl;rfl) (zln λ ds Qd h=>by obtain ⟨_,_,_,_,rfl,_⟩:=h;rfl) (zk8 ?_)
 intro f cdv A outer s H E hr
 have nd:=zzb.nd
 refine ⟨_,_,(zc0 (pset 3 nd (zh1 (zf1 (K:=K) rfl) rfl jS ze7 (zb0 (pix w K hr (pv 0) zf0) zh0)))
   (zc0 (zd4 (i:=4) (sc:=zg0 zz2) (N:=["yard", "wants", "until", "many", "arcs", "marks", "now", "here", "k", "at", "start", "goal", "length", "price", "gate", "last"]) (own:=["k"]) (ix:=[0]) rfl rfl rfl (by exact ⟨rfl,by decide +kernel,by decide +kernel,by decide +kernel,by decide +kernel⟩) nd rfl rfl (zb1 rfl jJ (zb0 (pv 3) zh0)) (λ _ _ _ _=>⟨(pgn 0 (nds ["k", "yard"])),zk3,(zh2 (zb0 zf0 (zb0 (zr0 (zp0 (K:=K) rfl) zf0 (pv 0)) (zb0 (pix w K hr (pix w K hr (pix w K hr (pv 1) zf0) (pv 0)) zf0) zh0))))⟩))
   (zc0 (pset 5 nd (zr0 zv1 (zo1 (zb0 (zh81 ztv zf0) zh0)) (pv 3)))
   (zc0 (zw3 PassesOwn.never rfl (zb1 rfl jJ (zb0 (pv 2) zh0)) (pgn 6 nd) (zc0 (pset 7 nd (zr0 (zp0 (K:=K) rfl) zf0 (zr0 zv1 (pv 6) (pv 3))))
   (zc0 (zw3 PassesOwn.never rfl (zb1 rfl jJ (zb0 (pv 3) zh0)) (pgn 8 nd) (zc0 (zk1 (zj4 (K:=K) rfl PySem.F.plainAttrs_list PySem.F.slot_list_append PySem.F.type_list_append zc1 (pv 4) (zb0 (zh2 (zb0 (zr0 (zp0 (K:=K) rfl) (pv 7) (pv 8)) (zb0 (zr0 (zp0 (K:=K) rfl) (zr0 (zp0 (K:=K) rfl) (pv 7) (pv 3)) (pv 8)) (zb0 (pix w K hr (pix w K hr (pix w K hr (pv 0) zf0) (pv 8)) zf0) zh0)))) zh0)))
   (zj0 (zk1 (zj4 (K:=K) rfl PySem.F.plainAttrs_list PySem.F.slot_list_append PySem.F.type_list_append zc1 (pv 5) (zb0 (zh81 ztv zf0) zh0))))))
   (zj0 (zw3 PassesOwn.never rfl (zb1 rfl jJ (zb0 (zh1 (zf1 (K:=K) rfl) rfl jS ze7 (zb0 (pix w K hr (pv 0) zf0) zh0)) zh0)) (pgn 9 nd) (zc0 (zxd (pix w K hr (pix w K hr (pv 0) zf0) (pv 9)) (zf6 (K:=K) (n:=5) rfl rfl (zv0 (pgn 10 nd) (zv0 (pgn 11 nd) (zv0 (pgn 12 nd) (zv0 (pgn 13 nd) (zv0 (pgn 14 nd) zm6)))))))
   (zj0 (zr8 (zt0 zk41 (zr0 (zp0 (K:=K) rfl) (pv 6) (pv 12)) (pv 2) (zm1 _)) (zc0 (zk1 (zj4 (K:=K) rfl PySem.F.plainAttrs_list PySem.F.slot_list_append PySem.F.type_list_append zc1 (pv 4) (zb0 (zh2 (zb0 (zr0 (zp0 (K:=K) rfl) (pv 7) (pv 10)) (zb0 (zr0 (zp0 (K:=K) rfl) (zr0 (zp0 (K:=K) rfl) (pv 7) (zr0 zv1 (pv 12) (pv 3))) (pv 11)) (zb0 (zx0 kF (rmn hr) rfl (zb0 (pv 14) (zb0 (pv 6) zh0))) zh0)))) zh0)))
   (zj0 (zk1 (zj4 (K:=K) rfl PySem.F.plainAttrs_list PySem.F.slot_list_append PySem.F.type_list_append zc1 (pv 5) (zb0 (zr0 (zp0 (K:=K) rfl) (zr0 zv1 (pv 6) zf0) (pv 9)) zh0))))) zi1))))))))
   (zc0 (pset 15 nd (zr0 (zp0 (K:=K) rfl) zf0 (zr0 zv1 (pv 2) (pv 3))))
   (zc0 (pset 4 nd (zr0 (zp0 (K:=K) rfl) (pv 4) (zk4 (sc:=zg0 zz2) (N:=["yard", "wants", "until", "many", "arcs", "marks", "now", "here", "k", "at", "start", "goal", "length", "price", "gate", "last"]) (own:=["k"]) (ix:=[15,1]) rfl rfl rfl (by exact ⟨rfl,by decide +kernel,by decide +kernel,by decide +kernel,by decide +kernel⟩) (zb1 rfl jJ (zb0 (pv 3) zh0)) (λ _ _ _ _=>⟨(pgn 0 (nds ["k", "last", "wants"])),zk3,(zh2 (zb0 (zr0 (zp0 (K:=K) rfl) (pv 1) (pv 0)) (zb0 zf0 (zb0 (pix w K hr (pv 2) (pv 0)) zh0))))⟩))))
   (zc0 (pset 4 nd (zr0 (zp0 (K:=K) rfl) (pv 4) (zk4 (sc:=zg0 zz2) (N:=["yard", "wants", "until", "many", "arcs", "marks", "now", "here", "k", "at", "start", "goal", "length", "price", "gate", "last"]) (own:=["k"]) (ix:=[15,1,0]) rfl rfl rfl (by exact ⟨rfl,by decide +kernel,by decide +kernel,by decide +kernel,by decide +kernel⟩) (zb1 rfl jJ (zb0 (pv 3) zh0)) (λ _ _ _ _=>⟨(pgn 0 (nds ["k", "last", "wants", "yard"])),zk3,(zh2 (zb0 (zr0 (zp0 (K:=K) rfl) (pv 1) (pv 0)) (zb0 zf0 (zb0 (zr0 zjh (pix w K hr (pix w K hr (pix w K hr (pv 3) zf0) (pv 0)) zf0) (pix w K hr (pv 2) (pv 0))) zh0))))⟩))))
   (zj0 (zg1 (zh2 (zb0 (pv 4) (zb0 (zr0 (zp0 (K:=K) rfl) (pv 5) (zr0 zv1 (zo1 (zb0 (zh81 ztv zf0) zh0)) (zr0 zv1 zf0 (pv 3)))) zh0)))))))))))),(zk0 (zz0 (zij ztk (ze1 (RfE.v (zl0 r_ix (za0 0) rvi)) zj2)) (rgn 3))
   (zk0 (zf2 (RfF.c (ze4 (RfI.j (zt2 (zd0 (zi0 3) zn0))) (zw1 (i:=0) (n:=1) (by decide)) zh6 (zx4 (zd0 zq1 (zd0 (zl0 zv2 rvi (za0 0)) (zd0 (zl0 r_ix (RfE.v (zl0 r_ix (RfE.v (zl0 r_ix (za0 1) rvi)) (za0 0))) rvi) zn0)))))))
   (zk0 (zf2 (RfF.c (zmn (zg3 (zd0 (zcx zq1) zn0)) (zi0 3))))
   (zk0 (zs3 (zt2 (zd0 (zi0 2) zn0)) (rgn 6) (zk0 (zz0 (zl0 zv2 rvi (RfE.v (zl0 zrl (za0 6) (za0 3)))) (rgn 7))
   (zk0 (zs3 (zt2 (zd0 (zi0 3) zn0)) (rgn 8) (zk0 (zl1 (zjj zh7 (zm0 4) (zd0 (zx4 (zd0 (zl0 zv2 (za0 7) (za0 8)) (zd0 (zl0 zv2 (RfE.v (zl0 zv2 (za0 7) (za0 3))) (za0 8)) (zd0 (zl0 r_ix (RfE.v (zl0 r_ix (RfE.v (zl0 r_ix (za0 0) rvi)) (za0 8))) rvi) zn0)))) zn0)))
   (zl1 (zjj zh7 (zm0 5) (zd0 (zcx zq1) zn0)))))
   (zs3 (zt2 (zd0 (zij ztk (ze1 (RfE.v (zl0 r_ix (za0 0) rvi)) zj2)) zn0)) (rgn 9) (zk0 (zz0 (zl0 r_ix (RfE.v (zl0 r_ix (za0 0) rvi)) (za0 9)) (zde (zu0 (rgn 10) (zu0 (rgn 11) (zu0 (rgn 12) (zu0 (rgn 13) (zu0 (rgn 14) zo6)))))))
   (ze9 (zs0 (zl0 r_le (RfE.v (zl0 zv2 (za0 6) (za0 12))) (za0 2))) (zk0 (zl1 (zjj zh7 (zm0 4) (zd0 (zx4 (zd0 (zl0 zv2 (za0 7) (za0 10)) (zd0 (zl0 zv2 (RfE.v (zl0 zv2 (za0 7) (RfE.v (zl0 zrl (za0 12) (za0 3))))) (za0 11)) (zd0 (zr1 (zd0 (zi0 14) (zd0 (zi0 6) zn0))) zn0)))) zn0)))
   (zl1 (zjj zh7 (zm0 5) (zd0 (zl0 zv2 (RfE.v (zl0 zrl (za0 6) rvi)) (za0 9)) zn0)))) zj1))))))
   (zk0 (zz0 (zl0 zv2 rvi (RfE.v (zl0 zrl (za0 2) (za0 3)))) (rgn 15))
   (zk0 (zf2 (RfF.c (zyz zt61 (za0 4) (RfE.v (RfF.e (ze4 (RfI.j (zt2 (zd0 (zi0 3) zn0))) (zw1 (i:=0) (n:=1) (by decide)) zh6 (zx4 (zd0 (zl0 zv2 (za0 1) (za0 0)) (zd0 zq1 (zd0 (zl0 r_ix (za0 2) (za0 0)) zn0))))))))))
   (zk0 (zf2 (RfF.c (zyz zt61 (za0 4) (RfE.v (RfF.e (ze4 (RfI.j (zt2 (zd0 (zi0 3) zn0))) (zw1 (i:=0) (n:=1) (by decide)) zh6 (zx4 (zd0 (zl0 zv2 (za0 1) (za0 0)) (zd0 zq1 (zd0 (zl0 zst (RfE.v (zl0 r_ix (RfE.v (zl0 r_ix (RfE.v (zl0 r_ix (za0 3) rvi)) (za0 0))) rvi)) (RfE.v (zl0 r_ix (za0 2) (za0 0)))) zn0))))))))))
   (znc 4 [] (zb2 (RfE.c (zx4 (zd0 (zi0 4) (zd0 (zl0 zv2 (za0 5) (RfE.v (RfF.e (zmn (zg3 (zd0 (zcx zq1) zn0)) (zl0 zrl rvi (za0 3)))))) zn0))))))))))))),?_⟩
 rintro ds Qd ⟨vs,ps,ws,n,rfl,hv,hp,ok,hw,hn,q⟩
 have gv:∀ k:Nat,k < vs.length->∃ v:Va,vs[k]?=some v/\atI (vs.map Va.d) (k:Int)=some (.tuple [.str v.nm,.int v.room,.int v.fill]):=λ k hk=>⟨vs[k],u5 hk,zk2 (by lia) (by rw [vI,u6,u5 hk];rfl)⟩
 unfold dY
 walk_at "ds"
 refine ze0 λ J hJ=>?_
 walk_at "dd"
 refine ⟨_,rfl,?_⟩
 walk_at "dd"
 rw [u4]
 refine hJ _ ?_
 clear hJ
 refine ze0 λ J hJ=>?_
 walk_at "dd"
 rw [vI]
 unfold rngD
 refine ⟨by lia,by lia,zrs (λ k=>dAr (0,(ntOf vs ps n).nd 0 k,(ntOf vs ps n).fl k)) (by rw [sizeLine_eq,vP];lia) (λ k hk=>?_) ?_⟩
 ·obtain ⟨v,e1,e2⟩:=gv k (vM.mp hk)
  rw [show (0:Int)+(k:Int)=(k:Int) by lia]
  walk_at "cs"
  walk_at "dd"
  refine ⟨_,rfl,?_⟩
  walk_at "dd"
  refine ⟨_,e2,?_⟩
  walk_at "dd"
  refine ⟨_,rfl,?_⟩
  show _=yD [nI 0,nI (2+0 * vs.length+k),.int (((vs[k]?).map Va.fill).getD 0)]
  rw [e1]
  simp [nI]
 refine hJ _ ?_
 clear hJ
 refine ze0 λ J hJ=>?_
 walk_at "dd"
 refine ⟨by lia,by lia,by rw [vI];lia,hJ _ ?_⟩
 clear hJ
 rw [vI]
 have er:(u7 vs.length [u9 (-1)]).flatten=(u7 vs.length (-1:Int)).map .int:=by simp
 rw [er]
 have ea:(u3 vs.length).map (λ k=>dAr (0,(ntOf vs ps n).nd 0 k,(ntOf vs ps n).fl k))=(zeh vs ps n 0).map dAr:=by simp [zeh]
 rw [ea]
 have em:(u7 vs.length (-1:Int))=zd6 vs ps n 0:=by simp [zd6]
 rw [em]
 have la:∀ k,(zeh vs ps n k).length<=4+9 * k:=λ k=>by
  induction k with
 |zero=>simp [zeh];lia
 |succ k ih=>rw [zpa,vJ,vJ,u4,u4,vP];have:=zgn ps k n;lia
 have lm:∀ k,(zd6 vs ps n k).length<=4+9 * k:=λ k=>by
  induction k with
 |zero=>simp [zd6];lia
 |succ k ih=>rw [zaf,vJ,vJ,xF,u4];have:=zgn ps k n;lia
 refine ze0 λ J hJ=>?_
 walk_at "dd"
 rw [vI]
 unfold rngD
 refine ⟨by lia,by lia,za2 (λ i U=>∃ (s6 s7 s8 s9 s10 s11 s12 s13 s14:Sl),U=[.sh (.tuple [.list (vs.map Va.d),.list (ps.map Pi.d)]),.sh (.list (ws.map .int)),.sh (.int (n:Int)),.sh (.int (vs.length:Int)),.ow (.li ((zeh vs ps n i).map dAr)),.ow (.li ((zd6 vs ps n i).map .int)),s6,s7,s8,s9,s10,s11,s12,s13,s14,.un]) ⟨.un,.un,.un,.un,.un,.un,.un,.un,.un,rfl⟩ ?_ ?_⟩
 ·rintro i m U hm ⟨s6,s7,s8,s9,s10,s11,s12,s13,s14,rfl⟩
  obtain ⟨hi,hi2⟩:=vW.mp hm
  simp at hi hi2
  subst hi2
  rw [show (0:Int)+(i:Int)=(i:Int) by lia]
  have hla:=la i
  have hlm:=lm i
  walk_at "dd"
  refine ze0 λ J hJ=>?_
  walk_at "dd"
  refine ⟨.inl ⟨by lia,by lia⟩,?_⟩
  have eh:(2:Int)+(i:Int) * (vs.length:Int)=((2+i * vs.length:Nat):Int):=by simp
  rw [eh]
  refine hJ _ ?_
  clear hJ
  refine ze0 λ J hJ=>?_
  walk_at "dd"
  rw [vI]
  try unfold rngD
  refine ⟨by lia,by lia,za2 (λ j U=>∃ (s8:Sl),U=[.sh (.tuple [.list (vs.map Va.d),.list (ps.map Pi.d)]),.sh (.list (ws.map .int)),.sh (.int (n:Int)),.sh (.int (vs.length:Int)),.ow (.li ((zeh vs ps n i++(u3 j).map λ j=>((ntOf vs ps n).nd i j,(ntOf vs ps n).nd (i+1) j,(ntOf vs ps n).rm j)).map dAr)),.ow (.li ((zd6 vs ps n i++u7 j (-1)).map .int)),.sh (.int (i:Int)),.sh (.int ((2+i * vs.length:Nat):Int)),s8,s9,s10,s11,s12,s13,s14,.un]) ⟨s8,by simp⟩ ?_ ?_⟩
  ·rintro j x U hx ⟨s8,rfl⟩
   obtain ⟨hj,hj2⟩:=vW.mp hx
   simp at hj hj2
   subst hj2
   rw [show (0:Int)+(j:Int)=(j:Int) by lia]
   obtain ⟨v,e1,e2⟩:=gv j hj
   walk_at "dd"
   refine ze0 λ J hJ=>?_
   walk_at "dd"
   refine ⟨_,rfl,?_⟩
   walk_at "dd"
   refine ⟨_,e2,?_⟩
   walk_at "dd"
   refine ⟨_,rfl,?_⟩
   refine ⟨by rw [u4,vJ,u4,vP];lia,hJ _ ?_⟩
   clear hJ
   walk_at "dd"
   refine ⟨by rw [u4,vJ,xF];lia,.sh (.int (j:Int)),?_⟩
   have f1:(zeh vs ps n i++(u3 (j+1)).map λ j=>((ntOf vs ps n).nd i j,(ntOf vs ps n).nd (i+1) j,(ntOf vs ps n).rm j)).map dAr=(zeh vs ps n i++(u3 j).map λ j=>((ntOf vs ps n).nd i j,(ntOf vs ps n).nd (i+1) j,(ntOf vs ps n).rm j)).map dAr++[.tuple [.int (((2+i * vs.length:Nat):Int)+(j:Int)),.int (((2+i * vs.length:Nat):Int)+(vs.length:Int)+(j:Int)),.int v.room]]:=by
    rw [w9]
    simp only [vX,vV,xQ,<- wC]
    congr 1
    show [yD [nI (2+i * vs.length+j),nI (2+(i+1) * vs.length+j),.int (((vs[j]?).map Va.room).getD 0)]]=_
    rw [e1,xV]
    simp [nI]
    lia
   have f2:(zd6 vs ps n i++u7 (j+1) (-1)).map u9=(zd6 vs ps n i++u7 j (-1)).map u9++[.int (-1)]:=by
    rw [List.replicate_succ',<- wC,vX (l₂:=[-1])];rfl
   rw [f1,f2]
  rintro U ⟨s8,rfl⟩
  rw [vP]
  refine hJ _ ?_
  clear hJ
  walk_at "dd"
  refine ⟨_,rfl,?_⟩
  walk_at "dd"
  rw [u4,vI]
  try unfold rngD
  refine ⟨by lia,by lia,za2 (λ j U=>∃ (s8 s9 s10 s11 s12 s13 s14:Sl),U=[.sh (.tuple [.list (vs.map Va.d),.list (ps.map Pi.d)]),.sh (.list (ws.map .int)),.sh (.int (n:Int)),.sh (.int (vs.length:Int)),.ow (.li ((zeh vs ps n i++(u3 vs.length).map (λ j=>((ntOf vs ps n).nd i j,(ntOf vs ps n).nd (i+1) j,(ntOf vs ps n).rm j))++(pbJ ps i n j).map λ i'=>((ntOf vs ps n).nd i (zs1 ps i'),(ntOf vs ps n).nd (i+pl ps i') (zc3 ps i'),zq5 ps i' i)).map dAr)),.ow (.li ((zd6 vs ps n i++u7 vs.length (-1)++(pbJ ps i n j).map λ i'=>((i * 24+i':Nat):Int)).map .int)),.sh (.int (i:Int)),.sh (.int ((2+i * vs.length:Nat):Int)),s8,s9,s10,s11,s12,s13,s14,.un]) ⟨s8,s9,s10,s11,s12,s13,s14,by simp [pbJ]⟩ ?_ ?_⟩
  ·rintro j x U hx ⟨s8,s9,s10,s11,s12,s13,s14,rfl⟩
   obtain ⟨hj,hj2⟩:=vW.mp hx
   simp at hj hj2
   subst hj2
   rw [show (0:Int)+(j:Int)=(j:Int) by lia]
   have ep:ps[j]?=some ps[j]:=u5 hj
   obtain ⟨o1,o2,o3,o4,o5⟩:=ok _ (w6 hj)
   have gp:atI (ps.map Pi.d) (j:Int)=some (.tuple [.int (ps[j].u:Int),.int (ps[j].v:Int),.int (ps[j].len:Int),.int ps[j].pr,ps[j].g.d]):=zk2 (by lia) (by rw [vI,u6,ep];rfl)
   have hpj:=zsz ps i n j
   rw [zuo ep]
   generalize hpp:ps[j]=p at ep o1 o2 o3 o4 o5 gp
   walk_at "dd"
   refine ze0 λ J hJ=>?_
   walk_at "dd"
   refine ⟨_,rfl,?_⟩
   walk_at "dd"
   refine ⟨_,gp,?_⟩
   walk_at "dd"
   refine hJ _ ?_
   clear hJ
   walk_at "dd"
   refine two (λ h=>?_) λ h=>⟨_,_,_,_,_,_,_,by rw [if_neg (by lia),wI]⟩
   refine ze0 λ J hJ=>?_
   walk_at "dd"
   refine ⟨.inl ⟨by lia,by lia⟩,p.g,i,rfl,o5.1,?_⟩
   refine ⟨by rw [u4,vJ,vJ,u4,u4,vP];lia,hJ _ ?_⟩
   clear hJ
   walk_at "dd"
   refine ⟨.inl ⟨by lia,by lia⟩,by rw [u4,vJ,vJ,u4,xF];lia,s8,.sh (.int (j:Int)),.sh (.int (p.u:Int)),.sh (.int (p.v:Int)),.sh (.int (p.len:Int)),.sh (.int p.pr),.sh p.g.d,?_⟩
   rw [if_pos (by lia)]
   have f1:∀ (X:List Ar),(X++(pbJ ps i n j++[j]).map λ i'=>((ntOf vs ps n).nd i (zs1 ps i'),(ntOf vs ps n).nd (i+pl ps i') (zc3 ps i'),zq5 ps i' i)).map dAr=(X++(pbJ ps i n j).map λ i'=>((ntOf vs ps n).nd i (zs1 ps i'),(ntOf vs ps n).nd (i+pl ps i') (zc3 ps i'),zq5 ps i' i)).map dAr++[.tuple [.int (((2+i * vs.length:Nat):Int)+(p.u:Int)),.int (((2+i * vs.length:Nat):Int)+(p.len:Int) * (vs.length:Int)+(p.v:Int)),.int (p.g.at i)]]:=λ X=>by
    simp only [vX,vV,xQ,<- wC]
    congr 1
    have es:zs1 ps j=p.u:=by unfold zs1;rw [ep];rfl
    have eg:zc3 ps j=p.v:=by unfold zc3;rw [ep];rfl
    have el:pl ps j=p.len:=by unfold pl;rw [ep];rfl
    have ew:zq5 ps j i=p.g.at i:=by unfold zq5;rw [ep];rfl
    show [yD [nI (2+i * vs.length+zs1 ps j),nI (2+(i+pl ps j) * vs.length+zc3 ps j),.int (zq5 ps j i)]]=_
    rw [es,eg,el,ew,xV]
    simp [nI]
    lia
   have f2:∀ X:List Int,(X++(pbJ ps i n j++[j]).map λ i'=>((i * 24+i':Nat):Int)).map u9=(X++(pbJ ps i n j).map λ i'=>((i * 24+i':Nat):Int)).map u9++[.int ((i:Int) * 24+(j:Int))]:=λ X=>by
    simp only [vX,vV,xQ,<- wC]
    congr 1
   rw [f1,f2]
  rintro U ⟨s8,s9,s10,s11,s12,s13,s14,rfl⟩
  rw [vP,zki]
  exact ⟨_,_,_,_,_,_,_,_,_,by rw [zpa,zaf]⟩
 rintro U ⟨s6,s7,s8,s9,s10,s11,s12,s13,s14,rfl⟩
 rw [vP]
 refine hJ _ ?_
 clear hJ
 refine ze0 λ J hJ=>?_
 walk_at "dd"
 refine ⟨.inl ⟨by lia,by lia⟩,?_⟩
 have eh:(2:Int)+(n:Int) * (vs.length:Int)=((2+n * vs.length:Nat):Int):=by simp
 rw [eh]
 refine hJ _ ?_
 clear hJ
 refine ze0 λ J hJ=>?_
 walk_at "dd"
 rw [vI]
 unfold rngD
 have hla:=la n
 have hlm:=lm n
 have gw:∀ k:Nat,k < vs.length->atI (ws.map u9) (k:Int)=some (.int (ws.getD k 0)):=λ k hk=>zk2 (by lia) (by rw [vI,u6,vL,u5 (by lia)];rfl)
 refine ⟨by lia,by lia,zrs (λ k=>dAr ((ntOf vs ps n).nd n k,1,ws.getD k 0)) (by rw [sizeLine_eq,vP];lia) (λ k hk=>?_) ?_⟩
 ·have e2:=gw k (vM.mp hk)
  rw [show (0:Int)+(k:Int)=(k:Int) by lia]
  walk_at "cs"
  walk_at "dd"
  refine ⟨_,e2,?_⟩
  show _=yD [nI (2+n * vs.length+k),nI 1,.int (ws.getD k 0)]
  simp [nI]
 refine ⟨by rw [u4,u4,vP];lia,hJ _ ?_⟩
 clear hJ
 rw [show (u3 vs.length).map (λ k=>dAr ((ntOf vs ps n).nd n k,1,ws.getD k 0))=((u3 vs.length).map λ k=>((ntOf vs ps n).nd n k,1,ws.getD k 0)).map dAr by rw [wD];rfl,<- vX]
 refine ze0 λ J hJ=>?_
 walk_at "dd"
 rw [vI]
 unfold rngD
 refine ⟨by lia,by lia,zrs (λ k=>dAr ((ntOf vs ps n).nd n k,1,((vs[k]?).map Va.room).getD 0 - ws.getD k 0)) (by rw [sizeLine_eq,vP];lia) (λ k hk=>?_) ?_⟩
 ·have e2:=gw k (vM.mp hk)
  obtain ⟨v,e1,e3⟩:=gv k (vM.mp hk)
  rw [show (0:Int)+(k:Int)=(k:Int) by lia]
  walk_at "cs"
  walk_at "dd"
  refine ⟨_,rfl,?_⟩
  walk_at "dd"
  refine ⟨_,e3,?_⟩
  walk_at "dd"
  refine ⟨_,rfl,_,e2,?_⟩
  show _=yD [nI (2+n * vs.length+k),nI 1,.int (((vs[k]?).map Va.room).getD 0 - ws.getD k 0)]
  rw [e1]
  simp [nI]
 refine ⟨by rw [u4,u4,vJ,u4,vP];lia,hJ _ ?_⟩
 clear hJ
 rw [show (u3 vs.length).map (λ k=>dAr ((ntOf vs ps n).nd n k,1,((vs[k]?).map Va.room).getD 0 - ws.getD k 0))=((u3 vs.length).map λ k=>((ntOf vs ps n).nd n k,1,((vs[k]?).map Va.room).getD 0 - ws.getD k 0)).map dAr by rw [wD];rfl,<- vX,<- zog]
 walk_at "dd"
 refine ⟨_,_,rfl,rfl,.inl ⟨by lia,by lia⟩,by lia,by lia,by lia,?_⟩
 have e2:(2 * (vs.length:Int)).toNat=2 * vs.length:=by lia
 have er:(u7 (2 * vs.length) [u9 (-1)]).flatten=(u7 (2 * vs.length) (-1:Int)).map .int:=by simp
 rw [e2,er,<- vX]
 exact ⟨by rw [u4,u4,xF];lia,q⟩
end
theorem zdk {ps:List Pi} {n:Nat} {G:Nat->Nat->Int} (φ:Le->Int) (k:Nat) (h:∀ m i,m < k->i∈pb ps m n->¬ 0 < G m i->φ ⟨m,i,G m i⟩=0):sL (zvc ps n G k) φ=su (u3 k) λ m=>su (pb ps m n) λ i=>φ ⟨m,i,G m i⟩:=by
 induction k with
|zero=>rfl
|succ k ih =>
  rw [zsc,zhs,ih λ m i hm hi=>h m i (by lia) hi,w9,zhb,zm2,zas,zN]
  congr 1
  have:∀ is:List Nat,(∀ i∈is,i∈pb ps k n)->sL (pmL G k is) φ=su is λ i=>φ ⟨k,i,G k i⟩:=by
   intro is
   induction is with
  |nil=>intro _;rfl
  |cons i r ih =>
    intro hi
    have ih:=ih λ j hj=>hi j (vU _ hj)
    rw [zm2,<- ih]
    unfold pmL
    by_cases z:0 < G k i
    ·rw [wX,if_pos z,zp1]
    ·rw [wX,if_neg z,h k i (by lia) (hi i v6) z];simp
  exact this _ λ _ h=>h
theorem zhm {ps:List Pi} {n:Nat} {G:Nat->Nat->Int} {k:Nat} {l:Le} (h:l∈zvc ps n G k):l.t < k/\l.at_∈pb ps l.t n/\l.am=G l.t l.at_/\0 < l.am:=by
 unfold zvc at h
 obtain ⟨x,hx,hl⟩:=List.mem_flatten.mp h
 obtain ⟨m,hm,rfl⟩:=vR.mp hx
 unfold pmL at hl
 obtain ⟨i,hi,e⟩:=zT.mp hl
 split at e
 ·rename_i z
  cases e
  exact ⟨vM.mp hm,hi,rfl,z⟩
 ·cases e
theorem zow {ps:List Pi} {m n i:Nat} (h:i∈pb ps m n):i < ps.length/\m+pl ps i<=n:=by
 rw [<- zki] at h;exact (zcq ps m n _ (u8 _)).2 i h
noncomputable def znn (N n:Nat) (f:Fm):List (List Int):=(u3 (n+1)).map λ m=>(u3 N).map λ k=>if m < n then f.r m k else su f.t λ t=>t k
theorem zzl {N n:Nat} {f:Fm} {m:Nat} (hm:m<=n):(znn N n f).getD m []=(u3 N).map λ k=>if m < n then f.r m k else su f.t λ t=>t k:=by
 unfold znn
 rw [vL,u6,xL (by lia)];rfl
theorem zbk {N n:Nat} {f:Fm} {m k:Nat} (hm:m<=n) (hk:k < N):((znn N n f).getD m []).getD k 0=if m < n then f.r m k else su f.t λ t=>t k:=by
 rw [zzl hm,vL,u6,xL hk];rfl
theorem zxf {N n:Nat} {f:Fm} {m k:Nat} (hm:m<=n) (hk:¬ k < N):((znn N n f).getD m []).getD k 0=0:=by
 rw [zzl hm,vL,u6,wH (by simpa using hk)];rfl
section
variable {vs:List Va} {ps:List Pi} {n:Nat} {cs:List (Nat->Int)} {f:Fm}
theorem zcc (h:(ntOf vs ps n).Fl cs f) (t x:Nat):outS ps (zvc ps n f.g n) t x=(ntOf vs ps n).out f t x:=by
 unfold outS
 rw [zdk _ n λ m i hm hi z=>by
  have:=(h.g m i hm hi).1
  show (if m=t/\zs1 ps i=x then f.g m i else 0)=0
  split <;> lia]
 unfold Nt.out
 show (su (u3 n) λ m=>su (pb ps m n) λ i=>if m=t/\zs1 ps i=x then f.g m i else 0)=if t < n then su (pb ps t n) λ i=>if zs1 ps i=x then f.g t i else 0 else 0
 by_cases e:t < n
 ·rw [if_pos e,<- zul (λ m=>su (pb ps m n) λ i=>if zs1 ps i=x then f.g m i else 0) e]
  refine zd1 λ m _=>?_
  by_cases z:m=t
  ·subst z;rw [if_pos rfl];exact zd1 λ i _=>by simp
  ·rw [if_neg z];exact su_zero' λ i _=>if_neg λ y=>z y.1
 ·rw [if_neg e]
  exact su_zero' λ m hm=>su_zero' λ i _=>if_neg λ y=>by have:=vM.mp hm;lia
theorem zqm (h:(ntOf vs ps n).Fl cs f) (t x:Nat):inS ps (zvc ps n f.g n) t x=(ntOf vs ps n).inn f t x:=by
 unfold inS
 rw [zdk _ n λ m i hm hi z=>by
  have:=(h.g m i hm hi).1
  show (if m+pl ps i=t/\zc3 ps i=x then f.g m i else 0)=0
  split <;> lia]
 rfl
theorem zcs (h:(ntOf vs ps n).Fl cs f) (hw:∀ i t,i < ps.length->0<=zq5 ps i t) {t i:Nat} (hi:i < ps.length):byS (zvc ps n f.g n) t i<=zq5 ps i t:=by
 unfold byS
 rw [zdk _ n λ m j hm hj z=>by
  have:=(h.g m j hm hj).1
  show (if m=t/\j=i then f.g m j else 0)=0
  split <;> lia]
 show (su (u3 n) λ m=>su (pb ps m n) λ j=>if m=t/\j=i then f.g m j else 0)<=_
 have h0:=hw i t hi
 by_cases e:t < n
 ·have e1:(su (u3 n) λ m=>su (pb ps m n) λ j=>if m=t/\j=i then f.g m j else 0)=su (pb ps t n) λ j=>if j=i then f.g t j else 0:=by
   rw [<- zul (λ m=>su (pb ps m n) λ j=>if j=i then f.g m j else 0) e]
   refine zd1 λ m _=>?_
   by_cases z:m=t
   ·subst z;rw [if_pos rfl];exact zd1 λ i _=>by simp
   ·rw [if_neg z];exact su_zero' λ i _=>if_neg λ y=>z y.1
  rw [e1]
  have:∀ l:List Nat,l.Nodup->(∀ j∈l,j∈pb ps t n)->(su l λ j=>if j=i then f.g t j else 0)<=zq5 ps i t:=by
   intro l
   induction l with
  |nil=>intro _ _;rw [zas];exact h0
  |cons j r ih =>
    intro nd hj
    obtain ⟨n1,n2⟩:=vY.mp nd
    rw [zm2]
    by_cases z:j=i
    ·subst z
     rw [if_pos rfl,su_zero' λ k hk=>if_neg λ (y:k=j)=>n1 (y ▸ hk)]
     have:=(h.g t j e (hj j v6)).2
     have this:f.g t j<=zq5 ps j t:=this
     lia
    ·rw [if_neg z]
     have:=ih n2 λ k hk=>hj k (vU _ hk)
     lia
  refine this _ ?_ λ _ h=>h
  rw [<- zki];exact (zcq ps t n _ (u8 _)).1
 ·rw [su_zero' λ m hm=>su_zero' λ j _=>if_neg λ y=>by have:=vM.mp hm;lia];exact h0
theorem inn0 (ok:(ntOf vs ps n).Ok) (k:Nat):(ntOf vs ps n).inn f 0 k=0:=su_zero' λ m _=>su_zero' λ i hi=>if_neg λ y=>by
 have:=(ok.ln m i hi).1;lia
theorem zgc1 {k:Nat}:(ntOf vs ps n).out f n k=0:=by unfold Nt.out;exact if_neg (by show ¬ n < n;lia)
theorem zot (ok:(ntOf vs ps n).Ok) {m k:Nat} (hk:¬ k < vs.length):(ntOf vs ps n).out f m k=0:=by
 unfold Nt.out
 split
 ·exact su_zero' λ i hi=>if_neg λ y=>by have:=ok.ub m i hi;have this:zs1 ps i < vs.length:=this;have y:zs1 ps i=k:=y;lia
 ·rfl
theorem zgz (ok:(ntOf vs ps n).Ok) {m k:Nat} (hk:¬ k < vs.length):(ntOf vs ps n).inn f m k=0:=su_zero' λ m' _=>su_zero' λ i hi=>if_neg λ y=>by
 have:=ok.vb m' i hi;have this:zc3 ps i < vs.length:=this;have y:zc3 ps i=k:=y.2;lia
theorem zf11 (okp:∀ p∈ps,PiOk vs.length p) (h:(ntOf vs ps n).Fl cs f) (full:∀ k,k < vs.length->f.a k=(ntOf vs ps n).fl k):Fits (vs.map Va.fill) ps n (zvc ps n f.g n) (znn vs.length n f):=by
 have ok:=zfe (n:=n) okp
 have hw:∀ i t,i < ps.length->0<=zq5 ps i t:=λ i t hi=>by
  unfold zq5;rw [u5 hi]
  exact (okp _ (w6 hi)).2.2.2.2.2 t
 have rn:∀ m k,m<=n->k < vs.length->0<=if m < n then f.r m k else su f.t λ t=>t k:=λ m k hm hk=>by
  split
  ·rename_i z;exact (h.r m k z hk).1
  ·have e:f.t=(cs.zip f.t).map (·.2):=by rw [k9 (by have:=h.t;lia)]
   rw [e,zp5]
   have:=zva1 (l:=cs.zip f.t) (f:=λ _=>0) (g:=λ c=>c.2 k) λ c hc=>(h.s c hc k hk).1
   rw [zeb] at this;exact this
 refine ⟨by simp [znn],λ r hr=>?_,λ l hl=>?_,λ t i ht hi=>zcs h hw hi,λ x=>?_,λ t ht x=>?_,λ p hp=>?_⟩
 ·unfold znn at hr
  obtain ⟨m,hm,rfl⟩:=vR.mp hr
  have hm:=vM.mp hm
  refine ⟨by simp,λ x hx=>?_⟩
  obtain ⟨k,hk,rfl⟩:=vR.mp hx
  exact rn m k (by lia) (vM.mp hk)
 ·obtain ⟨h1,h2,h3,h4⟩:=zhm hl
  exact ⟨(zow h2).1,by lia⟩
 ·rw [zcc h]
  by_cases hx:x < vs.length
  ·rw [zbk (by lia) hx]
   have b:=h.b 0 x (by lia) hx
   rw [if_pos rfl,inn0 ok,full x hx] at b
   have e:(vs.map Va.fill).getD x 0=(ntOf vs ps n).fl x:=by
    rw [vL,u6];rfl
   rw [e]
   show _=(if 0 < (ntOf vs ps n).n then f.r 0 x else su f.t λ t=>t x)+_
   lia
  ·rw [zxf (by lia) hx,zot ok hx,vL,wH (by simpa using hx)];rfl
 ·rw [zcc h,zqm h]
  by_cases hx:x < vs.length
  ·rw [zbk (by lia) hx,zbk (by lia) hx,if_pos ht]
   have b:=h.b (t+1) x (by show t+1<=n;lia) hx
   rw [if_neg (by lia),yG] at b
   show _=(if t+1 < (ntOf vs ps n).n then f.r (t+1) x else su f.t λ t=>t x)+_
   lia
  ·rw [zxf (by lia) hx,zxf (by lia) hx,zot ok hx,zgz ok hx]
 ·obtain ⟨h1,h2,h3,_⟩:=okp p hp
  rw [u4];exact ⟨h1,h2,h3⟩
noncomputable def zut (vs:List Va) (ws:List Int):Fm:=⟨λ k=>((vs[k]?).map Va.fill).getD 0,λ _ k=>((vs[k]?).map Va.fill).getD 0,λ _ _=>0,[λ k=>min (((vs[k]?).map Va.fill).getD 0) (ws.getD k 0),λ k=>((vs[k]?).map Va.fill).getD 0 - min (((vs[k]?).map Va.fill).getD 0) (ws.getD k 0)]⟩
theorem zrt {ws:List Int} (okv:∀ v∈vs,VaOk v) (okp:∀ p∈ps,PiOk vs.length p) (hw:ws.length=vs.length) (okw:∀ (k:Nat) v y,vs[k]?=some v->ws[k]?=some y->0<=y/\y<=v.room):(ntOf vs ps n).Fl (csOf vs ws) (zut vs ws):=by
 have ok:=zfe (n:=n) okp
 have key:∀ k,k < vs.length->0<=((vs[k]?).map Va.fill).getD 0/\((vs[k]?).map Va.fill).getD 0<=((vs[k]?).map Va.room).getD 0/\0<=ws.getD k 0/\ws.getD k 0<=((vs[k]?).map Va.room).getD 0:=λ k hk=>by
  have e:vs[k]?=some vs[k]:=u5 hk
  have e2:ws[k]?=some ws[k]:=u5 (by lia)
  obtain ⟨a1,a2,_⟩:=okv _ (w6 hk)
  obtain ⟨b1,b2⟩:=okw k _ _ e e2
  rw [e,vL,e2]
  exact ⟨a1,a2,b1,b2⟩
 have hg:∀ m i,i∈pb ps m n->0<=zq5 ps i m:=λ m i hi=>by
  have:=(zow hi).1
  unfold zq5;rw [u5 this]
  exact (okp _ (w6 this)).2.2.2.2.2 m
 refine ⟨rfl,λ k hk=>⟨(key k hk).1,xC _⟩,λ m k _ hk=>⟨(key k hk).1,(key k hk).2.1⟩,λ m i _ hi=>⟨xC _,hg m i hi⟩,λ c hc k hk=>?_,λ m k hm hk=>?_⟩
 ·obtain ⟨k1,k2,k3,k4⟩:=key k hk
  have hc:c∈[((λ k=>ws.getD k 0:Nat->Int),(λ k=>min (((vs[k]?).map Va.fill).getD 0) (ws.getD k 0):Nat->Int)),(λ k=>((vs[k]?).map Va.room).getD 0 - ws.getD k 0,λ k=>((vs[k]?).map Va.fill).getD 0 - min (((vs[k]?).map Va.fill).getD 0) (ws.getD k 0))]:=hc
  rcases vN.mp hc with z|z
  ·subst z
   show 0<=min _ _/\min _ _<=ws.getD k 0
   lia
  ·have z:=List.mem_singleton.mp z
   subst z
   show 0<=_ - min _ _/\_ - min _ _<=_ - ws.getD k 0
   lia
 ·have i0:(ntOf vs ps n).inn (zut vs ws) m k=0:=su_zero' λ m' _=>su_zero' λ i _=>by show (if _ then (0:Int) else 0)=0;split <;> rfl
  have o0:(ntOf vs ps n).out (zut vs ws) m k=0:=by
   unfold Nt.out
   split
   ·exact su_zero' λ i _=>by show (if _ then (0:Int) else 0)=0;split <;> rfl
   ·rfl
  rw [i0,o0]
  have es:(su (zut vs ws).t λ t=>t k)=((vs[k]?).map Va.fill).getD 0:=by
   show su [_,_] _=_
   rw [zm2,zm2,zas]
   show min (((vs[k]?).map Va.fill).getD 0) (ws.getD k 0)+(((vs[k]?).map Va.fill).getD 0 - min (((vs[k]?).map Va.fill).getD 0) (ws.getD k 0)+0)=_
   lia
  rw [es]
  show (if m=0 then ((vs[k]?).map Va.fill).getD 0 else ((vs[k]?).map Va.fill).getD 0)+0=0+if m < (ntOf vs ps n).n then ((vs[k]?).map Va.fill).getD 0 else ((vs[k]?).map Va.fill).getD 0
  split <;> split <;> lia
theorem zw11 {ws:List Int} {f0 L:List Int} {side:List Nat} (okv:∀ v∈vs,VaOk v) (okp:∀ p∈ps,PiOk vs.length p) (hw:ws.length=vs.length) (okw:∀ (k:Nat) v y,vs[k]?=some v->ws[k]?=some y->0<=y/\y<=v.room)
  (b:Best ((ntOf vs ps n).nd (n+1) 0) ((ntOf vs ps n).arcs (csOf vs ws)) f0 0 1 L side) (h:(ntOf vs ps n).Fl (csOf vs ws) f) (e:(u3 ((ntOf vs ps n).arcs (csOf vs ws)).length).map (λ k=>lf L (2 * k+1))=(ntOf vs ps n).flow f):∀ k,k < vs.length->f.a k=(ntOf vs ps n).fl k:=by
 have m:=Nt.most (zfe okp) b h e (zrt okv okp hw okw)
 have le:su (u3 vs.length) f.a<=su (u3 vs.length) (ntOf vs ps n).fl:=zva1 λ k hk=>(h.a k (vM.mp hk)).2
 have eq:sm vs.length f.a=sm vs.length (ntOf vs ps n).fl:=Int.le_antisymm le m
 exact zme (λ k hk=>(h.a k hk).2) eq
end
noncomputable def mkA (M:List Int) (k:Nat):Int:=(M[k]?).getD 0
noncomputable def lieS (A:List Ar) (M F:List Int) (w k:Nat):Int:=sm k λ j=>if mkA M j < 0/\aU A j=w then fx F j else 0
section
variable {vs:List Va} {ps:List Pi} {n:Nat} {ws:List Int} {f:Fm}
noncomputable def zl2 (vs:List Va) (ps:List Pi) (n:Nat):List Int:=zd6 vs ps n n++u7 (2 * vs.length) (-1)
noncomputable def allL (vs:List Va) (ps:List Pi) (n:Nat) (ws:List Int) (f:Fm):List ((Ar×Int)×Int) :=
 (u3 vs.length).map (λ k=>(((0,(ntOf vs ps n).nd 0 k,(ntOf vs ps n).fl k),f.a k),-1))++((u3 n).flatMap λ m=>(u3 vs.length).map (λ k=>((((ntOf vs ps n).nd m k,(ntOf vs ps n).nd (m+1) k,(ntOf vs ps n).rm k),f.r m k),-1))++(pb ps m n).map λ i=>((((ntOf vs ps n).nd m (zs1 ps i),(ntOf vs ps n).nd (m+pl ps i) (zc3 ps i),zq5 ps i m),f.g m i),((m * 24+i:Nat):Int))) ++
  ((csOf vs ws).zip f.t).flatMap λ c=>(u3 vs.length).map λ k=>((((ntOf vs ps n).nd n k,1,c.1 k),c.2 k),-1)
theorem ztm (N:Nat) (c:Int):u7 N c=(u3 N).map λ _=>c:=by rw [List.map_const',vP]
noncomputable def znb1 (vs:List Va) (ps:List Pi) (n:Nat) (ws:List Int) (f:Fm):List (Ar×Int) :=
 (u3 vs.length).map (λ k=>((0,(ntOf vs ps n).nd 0 k,(ntOf vs ps n).fl k),f.a k))++((u3 n).flatMap λ m=>(u3 vs.length).map (λ k=>(((ntOf vs ps n).nd m k,(ntOf vs ps n).nd (m+1) k,(ntOf vs ps n).rm k),f.r m k))++(pb ps m n).map λ i=>(((ntOf vs ps n).nd m (zs1 ps i),(ntOf vs ps n).nd (m+pl ps i) (zc3 ps i),zq5 ps i m),f.g m i)) ++
  ((csOf vs ws).zip f.t).flatMap λ c=>(u3 vs.length).map λ k=>(((ntOf vs ps n).nd n k,1,c.1 k),c.2 k)
theorem zt91:(ntOf vs ps n).both (csOf vs ws) f=znb1 vs ps n ws f:=rfl
theorem zxt (h:(csOf vs ws).length=f.t.length):((ntOf vs ps n).both (csOf vs ws) f).zip (zl2 vs ps n)=allL vs ps n ws f:=by
 rw [zt91]
 unfold znb1 zl2 zd6 allL
 have l1:((u3 vs.length).map λ k=>(((0,(ntOf vs ps n).nd 0 k,(ntOf vs ps n).fl k):Ar),f.a k)).length=(u7 vs.length (-1:Int)).length:=by simp
 have l2:=zzg (p:=λ m=>(u3 vs.length).map (λ k=>((((ntOf vs ps n).nd m k,(ntOf vs ps n).nd (m+1) k,(ntOf vs ps n).rm k):Ar),f.r m k))++(pb ps m n).map λ i=>(((ntOf vs ps n).nd m (zs1 ps i),(ntOf vs ps n).nd (m+pl ps i) (zc3 ps i),zq5 ps i m),f.g m i)) (q:=λ m=>u7 vs.length (-1:Int)++(pb ps m n).map λ i=>((m * 24+i:Nat):Int)) (u3 n) λ m=>by simp
 have e2:u7 (2 * vs.length) (-1:Int)=((csOf vs ws).zip f.t).flatMap λ _=>u7 vs.length (-1):=by
  have hl:((csOf vs ws).zip f.t).length=2:=by rw [xT,<- h];rfl
  generalize (csOf vs ws).zip f.t=z at hl
  match z,hl with
 |[a,b],_=>simp [Nat.two_mul]
 rw [e2,xK (by rw [vJ,vJ];exact congr (congrArg _ l1) l2),xK l1]
 congr 1
 ·congr 1
  ·rw [ztm,xU]
  ·show List.zip (zL _ (u3 n)) _=_
   rw [zml (p:=λ m=>(u3 vs.length).map (λ k=>((((ntOf vs ps n).nd m k,(ntOf vs ps n).nd (m+1) k,(ntOf vs ps n).rm k):Ar),f.r m k))++(pb ps m n).map λ i=>(((ntOf vs ps n).nd m (zs1 ps i),(ntOf vs ps n).nd (m+pl ps i) (zc3 ps i),zq5 ps i m),f.g m i)) (q:=λ m=>u7 vs.length (-1:Int)++(pb ps m n).map λ i=>((m * 24+i:Nat):Int)) (u3 n) λ m=>by simp]
   refine congrArg (λ z=>zL z (u3 n)) (funext λ m=>?_)
   rw [xK (by simp),ztm,xU,xU]
 ·rw [zml _ λ c=>by simp]
  refine congrArg (λ z=>zL z ((csOf vs ws).zip f.t)) (funext λ c=>?_)
  rw [ztm]
  show List.zip (wW _ (u3 vs.length)) _=_
  rw [xU]
theorem ze8 (h:(csOf vs ws).length=f.t.length):(zl2 vs ps n).length=((ntOf vs ps n).arcs (csOf vs ws)).length:=by
 unfold zl2 zd6
 rw [zog]
 unfold zeh
 simp only [vJ,xF,u4,vP]
 rw [zzg (u3 n) (p:=λ m=>u7 vs.length (-1:Int)++(pb ps m n).map λ i=>((m * 24+i:Nat):Int)) (q:=λ m=>(u3 vs.length).map (λ j=>(((ntOf vs ps n).nd m j,(ntOf vs ps n).nd (m+1) j,(ntOf vs ps n).rm j):Ar))++(pb ps m n).map λ i=>((ntOf vs ps n).nd m (zs1 ps i),(ntOf vs ps n).nd (m+pl ps i) (zc3 ps i),zq5 ps i m)) λ m=>by simp]
 lia
theorem zzv (h:(csOf vs ws).length=f.t.length) (φ:Nat->Int->Int->Int):(sm ((ntOf vs ps n).arcs (csOf vs ws)).length λ j=>φ (aU ((ntOf vs ps n).arcs (csOf vs ws)) j) (mkA (zl2 vs ps n) j) (fx ((ntOf vs ps n).flow f) j))=su (allL vs ps n ws f) λ p=>φ p.1.1.1 p.2 p.1.2:=by
 rw [<- zxt h,<- Nt.zip h]
 have l1:=Nt.len (T:=ntOf vs ps n) h
 have l2:=ze8 (ps:=ps) (n:=n) h
 have e:(((ntOf vs ps n).arcs (csOf vs ws)).zip ((ntOf vs ps n).flow f)).zip (zl2 vs ps n)=(u3 ((ntOf vs ps n).arcs (csOf vs ws)).length).map λ k=>(((aU ((ntOf vs ps n).arcs (csOf vs ws)) k,aV ((ntOf vs ps n).arcs (csOf vs ws)) k,zwh ((ntOf vs ps n).arcs (csOf vs ws)) k),fx ((ntOf vs ps n).flow f) k),mkA (zl2 vs ps n) k):=by
  rw [zdm l1]
  generalize ((ntOf vs ps n).arcs (csOf vs ws)).length=L at l2
  refine yV (by rw [xT,u4,u4,vP];lia) λ j h1 h2=>?_
  rw [xT] at h1
  rw [zK,x8,x8,yW]
  unfold mkA
  rw [u5 (by lia)];rfl
 rw [e,zp5];rfl
theorem zn11 (ok:(ntOf vs ps n).Ok) (h:(csOf vs ws).length=f.t.length) {m k:Nat} (hm:m<=n) (hk:k < vs.length):lieS ((ntOf vs ps n).arcs (csOf vs ws)) (zl2 vs ps n) ((ntOf vs ps n).flow f) ((ntOf vs ps n).nd m k) ((ntOf vs ps n).arcs (csOf vs ws)).length=if m < n then f.r m k else su f.t λ t=>t k:=by
 unfold lieS
 rw [zzv h λ u c x=>if c < 0/\u=(ntOf vs ps n).nd m k then x else 0]
 unfold allL
 rw [zhb,zhb,zp5,zxe,zxe]
 have h2:=Nt.nd2 (T:=ntOf vs ps n) m k
 rw [su_zero' (l:=u3 vs.length) λ j _=>if_neg λ y=>by
  have y:0=(ntOf vs ps n).nd m k:=y.2
  lia]
 have e2:(su (u3 n) λ m'=>su ((u3 vs.length).map (λ j=>(((((ntOf vs ps n).nd m' j,(ntOf vs ps n).nd (m'+1) j,(ntOf vs ps n).rm j):Ar),f.r m' j),(-1:Int)))++(pb ps m' n).map λ i=>((((ntOf vs ps n).nd m' (zs1 ps i),(ntOf vs ps n).nd (m'+pl ps i) (zc3 ps i),zq5 ps i m'),f.g m' i),((m' * 24+i:Nat):Int))) λ p=>if p.2 < 0/\p.1.1.1=(ntOf vs ps n).nd m k then p.1.2 else 0)=if m < n then f.r m k else 0:=by
  have e1:∀ m'∈u3 n,(su ((u3 vs.length).map (λ j=>(((((ntOf vs ps n).nd m' j,(ntOf vs ps n).nd (m'+1) j,(ntOf vs ps n).rm j):Ar),f.r m' j),(-1:Int)))++(pb ps m' n).map λ i=>((((ntOf vs ps n).nd m' (zs1 ps i),(ntOf vs ps n).nd (m'+pl ps i) (zc3 ps i),zq5 ps i m'),f.g m' i),((m' * 24+i:Nat):Int))) λ p=>if p.2 < 0/\p.1.1.1=(ntOf vs ps n).nd m k then p.1.2 else 0)=if m'=m then f.r m' k else 0:=λ m' _=>by
   rw [zhb,zp5,zp5,su_zero' (l:=pb ps m' n) λ i _=>if_neg λ y=>by
    have y:((m' * 24+i:Nat):Int) < 0:=y.1
    lia]
   rw [<- zoe (c:=m'=m) (f.r m') hk,zN]
   refine zd1 λ j hj=>?_
   show (if (-1:Int) < 0/\(ntOf vs ps n).nd m' j=(ntOf vs ps n).nd m k then f.r m' j else 0)=_
   by_cases z:m'=m/\j=k
   ·obtain ⟨rfl,rfl⟩:=z;simp
   ·rw [if_neg z,if_neg λ y=>z (Nt.nd_inj (T:=ntOf vs ps n) (vM.mp hj) hk y.2)]
  rw [zd1 e1]
  by_cases e:m < n
  ·rw [if_pos e,<- zul (λ j=>f.r j k) e]
  ·rw [if_neg e];exact su_zero' λ j hj=>if_neg (by have:=vM.mp hj;lia)
 have e3:(su ((csOf vs ws).zip f.t) λ x=>su ((u3 vs.length).map λ j=>(((((ntOf vs ps n).nd n j,1,x.1 j):Ar),x.2 j),(-1:Int))) λ p=>if p.2 < 0/\p.1.1.1=(ntOf vs ps n).nd m k then p.1.2 else 0)=if m < n then 0 else su f.t λ t=>t k:=by
  have e1:∀ x∈(csOf vs ws).zip f.t,(su ((u3 vs.length).map λ j=>(((((ntOf vs ps n).nd n j,1,x.1 j):Ar),x.2 j),(-1:Int))) λ p=>if p.2 < 0/\p.1.1.1=(ntOf vs ps n).nd m k then p.1.2 else 0)=if m < n then 0 else x.2 k:=λ x _=>by
   rw [zp5]
   have:(if m < n then 0 else x.2 k)=if n=m then x.2 k else 0:=by
    by_cases e:m < n
    ·rw [if_pos e,if_neg (by lia)]
    ·rw [if_neg e,if_pos (by lia)]
   rw [this,<- zoe (c:=n=m) x.2 hk]
   refine zd1 λ j hj=>?_
   show (if (-1:Int) < 0/\(ntOf vs ps n).nd n j=(ntOf vs ps n).nd m k then x.2 j else 0)=_
   by_cases z:n=m/\j=k
   ·obtain ⟨rfl,rfl⟩:=z;simp
   ·rw [if_neg z,if_neg λ y=>z (Nt.nd_inj (T:=ntOf vs ps n) (vM.mp hj) hk y.2)]
  rw [zd1 e1]
  by_cases e:m < n
  ·simp only [if_pos e];exact zeb _
  ·simp only [if_neg e]
   have:f.t=((csOf vs ws).zip f.t).map (·.2):=by rw [k9 (by lia)]
   conv=>rhs;rw [this]
   rw [zp5]
 rw [e2,e3]
 by_cases e:m < n
 ·rw [if_pos e,if_pos e,if_pos e];lia
 ·rw [if_neg e,if_neg e,if_neg e];lia
theorem zy01 (m k:Nat) {F M:List Int}:lieS ((ntOf vs ps n).arcs (csOf vs ws)) M F ((ntOf vs ps n).nd m k) vs.length=0:=by
 unfold lieS
 rw [zn3 (h:=λ _=>0) λ j hj=>if_neg λ y=>?_,zbf]
 have h2:=Nt.nd2 (T:=ntOf vs ps n) m k
 have:aU ((ntOf vs ps n).arcs (csOf vs ws)) j=0:=by
  unfold aU Nt.arcs
  have hj':j < (ntOf vs ps n).N:=hj
  rw [wC,wR (by simpa using hj'),u6,xL hj'];rfl
 lia
theorem zsw (ok:(ntOf vs ps n).Ok) {j:Nat} (h1:vs.length<=j) (h2:j < ((ntOf vs ps n).arcs (csOf vs ws)).length):∃ m k,m<=n/\k < vs.length/\aU ((ntOf vs ps n).arcs (csOf vs ws)) j=(ntOf vs ps n).nd m k:=by
 have ea:((ntOf vs ps n).arcs (csOf vs ws))[j]?=some ((ntOf vs ps n).arcs (csOf vs ws))[j]:=u5 h2
 have eu:aU ((ntOf vs ps n).arcs (csOf vs ws)) j=(((ntOf vs ps n).arcs (csOf vs ws))[j]).1:=by unfold aU;rw [ea];rfl
 rw [eu]
 generalize ((ntOf vs ps n).arcs (csOf vs ws))[j]=a at ea
 unfold Nt.arcs at ea
 have h1':(ntOf vs ps n).N<=j:=h1
 rw [wC,wM (by simpa using h1')] at ea
 have hm:=v8 ea
 rcases vK.mp hm with z|z
 ·obtain ⟨m,h,z⟩:=x9.mp z
  have h:=vM.mp h
  have h:m < n:=h
  rcases vK.mp z with z|z
  ·obtain ⟨k,hk,rfl⟩:=vR.mp z
   exact ⟨m,k,by lia,vM.mp hk,rfl⟩
  ·obtain ⟨i,hi,rfl⟩:=vR.mp z
   exact ⟨m,_,by lia,ok.ub m i hi,rfl⟩
 ·obtain ⟨c,_,z⟩:=x9.mp z
  obtain ⟨k,hk,rfl⟩:=vR.mp z
  exact ⟨n,k,u8 _,vM.mp hk,rfl⟩
end
noncomputable def dRs (rows:List (List Int)):D:=.list (rows.map λ r=>.list (r.map .int))
noncomputable def lieR (vs:List Va) (ps:List Pi) (n:Nat) (ws:List Int) (F:List Int) (k:Nat):List (List Int):=(u3 (n+1)).map λ m=>(u3 vs.length).map λ v=>lieS ((ntOf vs ps n).arcs (csOf vs ws)) (zl2 vs ps n) F ((ntOf vs ps n).nd m v) k
noncomputable def zgi:DSp:=λ ds Q=>∃ (vs:List Va) (ps:List Pi) (ws:List Int) (n:Nat) (f:Fm),ds=[.list (((ntOf vs ps n).arcs (csOf vs ws)).map dAr),.list ((zl2 vs ps n).map .int),.list (((ntOf vs ps n).flow f).map .int),.int (vs.length:Int),.int (n:Int)]/\1<=vs.length/\vs.length<=4/\((ntOf vs ps n).arcs (csOf vs ws)).length<=100/\n<=5/\(∀ p∈ps,PiOk vs.length p)/\(csOf vs ws).length=f.t.length/\Q (dRs (znn vs.length n f))
section
variable {P:Program} {w:World} {K:Fg} {mg:Str->Option Value} {base:Heap}
theorem zra:FnScope ["arcs", "marks", "flow", "many", "until", "rows", "k", "here", "row"] ["arcs", "marks", "flow", "many", "until"] (zg0 zz5):=by exact ⟨rfl,rfl,rfl,by decide +kernel,rfl,by decide +kernel,by decide +kernel⟩
theorem zhk (M:Md K mg) (T:TopDef K "_law_lies" zz5) (jS:mg "len"=none) (jJ:mg "range"=none):Def P w K mg base "_law_lies" 1 ["arcs", "marks", "flow", "many", "until"] (spD K zgi):=by
 refine zg7 M T zra (λ _ _ _ _ _ _ us hl=>by obtain ⟨_,_,_,_,_,rfl⟩:=ar5 hl;rfl) (zln λ ds Qd h=>by obtain ⟨_,_,_,_,_,rfl,_⟩:=h;rfl) (zk8 ?_)
 intro f cdv A outer s H E hr
 have nd:=zra.nd
 refine ⟨_,_,(zc0 (zd4 (i:=5) (sc:=zg0 zz5) (N:=["arcs", "marks", "flow", "many", "until", "rows", "k", "here", "row"]) (own:=["now"]) (ix:=[3]) rfl rfl rfl (by exact ⟨rfl,by decide +kernel,by decide +kernel,by decide +kernel,by decide +kernel⟩) nd rfl rfl (zb1 rfl jJ (zb0 (zr0 (zp0 (K:=K) rfl) (pv 4) zf0) zh0)) (λ _ _ _ _=>⟨(pgn 0 (nds ["now", "many"])),zk3,(zr0 zv1 (zo1 (zb0 zf0 zh0)) (pv 1))⟩))
   (zc0 (zw3 PassesOwn.never rfl (zus rfl jJ (zb0 (pv 3) (zb0 (zh1 (zf1 (K:=K) rfl) rfl jS ze7 (zb0 (pv 0) zh0)) zh0))) (pgn 6 nd) (zj0 (zr8 (zt0 zry (pix w K hr (pv 1) (pv 6)) zf0 (zm1 _)) (zc0 (pset 7 nd (zr0 zjh (pix w K hr (pix w K hr (pv 0) (pv 6)) zf0) zf0))
   (zc0 (pset 8 nd (pix w K hr (pv 5) (zr0 zr2 (pv 7) (pv 3))))
   (zj0 (zxd (zr0 (zp0 (K:=K) rfl) (pix w K hr (pv 8) (zr0 zg2 (pv 7) (pv 3))) (pix w K hr (pv 2) (pv 6))) (zqn (pv 8) (zr0 zg2 (pv 7) (pv 3)) (zwp (Room.units hr))))))) zi1)))
   (zj0 (zg1 (pv 5))))),(zk0 (zf2 (RfN.c (zxi (RfI.j (zt2 (zd0 (zl0 zv2 (za0 4) rvi) zn0))) (zw1 (i:=0) (n:=1) (by decide)) (RfF.new (zmn (zg3 (zd0 zq1 zn0)) (zi0 1))))))
   (zk0 (zs3 (zg41 (zd0 (zi0 3) (zd0 (zij ztk (ze1 (za0 0) zj2)) zn0))) (rgn 6) (ze9 (zs0 (zl0 r_lt (RfE.v (zl0 r_ix (za0 1) (za0 6))) rvi)) (zk0 (zz0 (zl0 zst (RfE.v (zl0 r_ix (RfE.v (zl0 r_ix (za0 0) (za0 6))) rvi)) rvi) (rgn 7))
   (zw51 (r:=8) (zkx (zm0 5) (zl0 zao (za0 7) (za0 3))) (zl0 zi8 (za0 7) (za0 3)) (zl0 r_ix (za0 2) (za0 6)) (zl0 zi8 (za0 7) (za0 3)))) zj1))
   (znc 5 [] (zf8 (i:=5))))),?_⟩
 rintro ds Qd ⟨vs,ps,ws,n,f,rfl,hv1,hv,hA,hn,okp,ht,q⟩
 have ok:=zfe (n:=n) okp
 have lF:=Nt.len (T:=ntOf vs ps n) ht
 have lM:=ze8 (ps:=ps) (n:=n) ht
 have begE:lieR vs ps n ws ((ntOf vs ps n).flow f) vs.length=(u3 (n+1)).map λ _=>u7 vs.length 0:=by
  refine wK λ m _=>?_
  rw [ztm]
  exact wK λ v _=>zy01 m v
 have endE:lieR vs ps n ws ((ntOf vs ps n).flow f) ((ntOf vs ps n).arcs (csOf vs ws)).length=znn vs.length n f:=by
  refine wK λ m hm=>wK λ v hv=>zn11 ok ht (by have:=vM.mp hm;lia) (vM.mp hv)
 have spot:=λ (j:Nat) (h1:vs.length<=j) (h2:j < ((ntOf vs ps n).arcs (csOf vs ws)).length)=>zsw (ws:=ws) ok h1 h2
 have stepE:∀ k,lieR vs ps n ws ((ntOf vs ps n).flow f) (k+1)=(u3 (n+1)).map λ m=>(u3 vs.length).map λ v=>lieS ((ntOf vs ps n).arcs (csOf vs ws)) (zl2 vs ps n) ((ntOf vs ps n).flow f) ((ntOf vs ps n).nd m v) k+if mkA (zl2 vs ps n) k < 0/\aU ((ntOf vs ps n).arcs (csOf vs ws)) k=(ntOf vs ps n).nd m v then fx ((ntOf vs ps n).flow f) k else 0:=λ k=>by
  unfold lieR lieS
  simp only [zs5]
 have gA:∀ k,k < ((ntOf vs ps n).arcs (csOf vs ws)).length->∃ a:Ar,a.1=aU ((ntOf vs ps n).arcs (csOf vs ws)) k/\atI (((ntOf vs ps n).arcs (csOf vs ws)).map dAr) (k:Int)=some (.tuple [nI a.1,nI a.2.1,.int a.2.2]):=λ k hk=>⟨((ntOf vs ps n).arcs (csOf vs ws))[k],by unfold aU;rw [u5 hk];rfl,zk2 (by lia) (by rw [vI,u6,u5 hk];rfl)⟩
 have gM:∀ k,k < ((ntOf vs ps n).arcs (csOf vs ws)).length->atI ((zl2 vs ps n).map u9) (k:Int)=some (.int (mkA (zl2 vs ps n) k)):=λ k hk=>zk2 (by lia) (by rw [vI,u6];unfold mkA;rw [u5 (by lia)];rfl)
 have gF:∀ k,k < ((ntOf vs ps n).arcs (csOf vs ws)).length->atI (((ntOf vs ps n).flow f).map u9) (k:Int)=some (.int (fx ((ntOf vs ps n).flow f) k)):=λ k hk=>zk2 (by lia) (by rw [vI,u6];unfold fx;rw [u5 (by lia)];rfl)
 generalize hAA:(ntOf vs ps n).arcs (csOf vs ws)=A at *
 generalize hFF:(ntOf vs ps n).flow f=F at *
 generalize hMM:zl2 vs ps n=M at *
 have hAl:vs.length<=A.length:=by
  rw [<- hAA];unfold Nt.arcs
  have:(ntOf vs ps n).N=vs.length:=rfl
  simp [this]
 walk_at "ds"
 refine ze0 λ J hJ=>?_
 walk_at "dd"
 rw [show ((n:Int)+1).toNat=n+1 by lia]
 unfold rngD
 refine ⟨by lia,by lia,zxp (λ _=>.li ((u7 vs.length (0:Int)).map .int)) (by rw [vP,sizeLine_eq];lia) (λ m _=>?_) ?_⟩
 ·walk_at "cs"
  walk_at "dd"
  refine ⟨by lia,by lia,by rw [vI];lia,?_⟩
  rw [vI]
  simp
 refine hJ _ ?_
 clear hJ
 refine ze0 λ J hJ=>?_
 walk_at "dd"
 rw [u4,show ((A.length:Int) - (vs.length:Int)).toNat=A.length - vs.length by lia]
 unfold rngD
 have lR:∀ k,(lieR vs ps n ws F k).length=n+1:=λ k=>by simp [lieR]
 refine ⟨⟨by lia,by lia,by lia,by lia⟩,za2 (λ i U=>∃ (s6 s7 s8:Sl),U=[.sh (.list (A.map dAr)),.sh (.list (M.map .int)),.sh (.list (F.map .int)),.sh (.int (vs.length:Int)),.sh (.int (n:Int)),.ow (.ls ((lieR vs ps n ws F (vs.length+i)).map λ r=>.li (r.map .int))),s6,s7,s8]) ⟨.un,.un,.un,?_⟩ ?_ ?_⟩
 ·have:=congrArg (λ l=>wW (λ r=>L4.T.li (wW u9 r)) l) begE
  rw [Nat.add_zero]
  show _=[_,_,_,_,_,Sl.ow (L4.T.ls (wW (λ r=>L4.T.li (wW u9 r)) (lieR vs ps n ws F vs.length))),_,_,_]
  rw [this,wD];rfl
 ·rintro i x U hx ⟨s6,s7,s8,rfl⟩
  obtain ⟨hi,hi2⟩:=vW.mp hx
  simp at hi hi2
  subst hi2
  rw [show (vs.length:Int)+(i:Int)=((vs.length+i:Nat):Int) by lia,<- j5,stepE]
  have hk:vs.length+i < A.length:=by lia
  have hkk:vs.length<=vs.length+i:=by lia
  generalize vs.length+i=k at hk hkk
  obtain ⟨a,ea,ga⟩:=gA k hk
  obtain ⟨m,v,hm,hvv,eu⟩:=spot k hkk hk
  rw [eu] at ea
  walk_at "dd"
  refine ⟨_,gM k hk,?_⟩
  walk_at "dd"
  refine two (λ z=>?_) λ z=>?_
  ·refine ze0 λ J hJ=>?_
   walk_at "dd"
   refine ⟨_,ga,?_⟩
   walk_at "dd"
   refine ⟨_,rfl,?_⟩
   have eh:((a.1:Nat):Int) - 2=((m * vs.length+v:Nat):Int):=by
    rw [ea];show ((2+m * vs.length+v:Nat):Int) - 2=_;lia
   walk_at "dd"
   rw [eh]
   refine hJ _ ?_
   clear hJ
   have ed:((m * vs.length+v:Nat):Int) / (vs.length:Int)=(m:Int):=by
    rw [<- Int.natCast_ediv,yN,Nat.mul_add_div (by lia),Nat.div_eq_of_lt hvv];simp
   have em:((m * vs.length+v:Nat):Int) % (vs.length:Int)=(v:Int):=by
    rw [<- Int.natCast_emod,yN,Nat.mul_add_mod,Nat.mod_eq_of_lt hvv]
   walk_at "dd"
   rw [ed,em]
   have gr:((lieR vs ps n ws F k).map λ r=>L4.T.li (r.map u9))[m]?=some (.li (((u3 vs.length).map λ v=>lieS A M F ((ntOf vs ps n).nd m v) k).map .int)):=by
    unfold lieR
    rw [hAA,hMM,u6,u6,xL (by lia)];rfl
   refine ⟨⟨by lia,by lia⟩,m,_,by rw [u4,lR];exact zve (by lia),gr,by lia,?_⟩
   walk_at "dd"
   rw [gr]
   refine ⟨by lia,.int (lieS A M F ((ntOf vs ps n).nd m v) k),by rw [vI,u6,u6,xL hvv];rfl,_,gF k hk,?_⟩
   walk_at "dd"
   refine ⟨by lia,v,by rw [u4,u4,vP];exact zve (by lia),.sh (.int (k:Int)),.sh (.int ((m * vs.length+v:Nat):Int)),.un,?_⟩
   have eq:((lieR vs ps n ws F k).map λ r=>L4.T.li (r.map u9)).set m (L4.T.li ((((u3 vs.length).map λ v=>lieS A M F ((ntOf vs ps n).nd m v) k).map u9).set v (.int (lieS A M F ((ntOf vs ps n).nd m v) k+fx F k))))=((u3 (n+1)).map λ m=>(u3 vs.length).map λ v=>lieS A M F ((ntOf vs ps n).nd m v) k+if mkA M k < 0/\aU A k=(ntOf vs ps n).nd m v then fx F k else 0).map λ r=>L4.T.li (r.map u9):=by
    unfold lieR
    rw [hAA,hMM,wD,wD,wD,zdq,zdq]
    refine wK λ m' hm'=>?_
    by_cases e:m'=m
    ·subst e
     rw [if_pos rfl]
     show L4.T.li _=L4.T.li _
     congr 1
     show _=wW u9 (wW _ (u3 vs.length))
     rw [wD]
     refine wK λ v' hv'=>?_
     by_cases e2:v'=v
     ·subst e2
      rw [if_pos rfl]
      show _=u9 (_+if mkA M k < 0/\aU A k=(ntOf vs ps n).nd m' v' then fx F k else 0)
      rw [if_pos ⟨z,eu⟩]
     ·rw [if_neg e2]
      show _=u9 (_+if mkA M k < 0/\aU A k=(ntOf vs ps n).nd m' v' then fx F k else 0)
      rw [if_neg λ y=>e2 (Nt.nd_inj (T:=ntOf vs ps n) (vM.mp hv') hvv (y.2.symm.trans eu)).2,zN];rfl
    ·rw [if_neg e]
     show L4.T.li (wW u9 _)=L4.T.li (wW u9 _)
     congr 2
     refine wK λ v' hv'=>?_
     rw [if_neg λ (y:mkA M k < 0/\aU A k=(ntOf vs ps n).nd m' v')=>e (Nt.nd_inj (T:=ntOf vs ps n) (vM.mp hv') hvv (y.2.symm.trans eu)).1,zN]
   rw [eq]
  ·refine ⟨.sh (.int (k:Int)),s7,s8,?_⟩
   rw [show (λ m':Nat=>(u3 vs.length).map λ v=>lieS A M F ((ntOf vs ps n).nd m' v) k+if mkA M k < 0/\aU A k=(ntOf vs ps n).nd m' v then fx F k else 0)=λ m'=>(u3 vs.length).map λ v=>lieS A M F ((ntOf vs ps n).nd m' v) k from ?_]
   ·unfold lieR;rw [hAA,hMM]
   ·funext m'
    refine wK λ v' _=>?_
    rw [if_neg λ y=>z y.1];lia
 ·rintro U ⟨s6,s7,s8,rfl⟩
  rw [vP,show vs.length+(A.length - vs.length)=A.length by lia,endE]
  refine hJ _ ?_
  clear hJ
  walk_at "dd"
  refine ⟨_,dRs (znn vs.length n f),rfl,?_,q⟩
  unfold dRs
  show Option.map (λ dss=>xJ (wW xJ dss)) (zho _)=_
  rw [zll λ r:List Int=>r.map u9]
  simp
end
noncomputable def zia:DSpT:=λ as Q=>∃ (vs:List Va) (ps:List Pi) (n:Nat) (L:List Le) (rows:List (List Int)) (now:Nat) (held:List Int),as=[.d (dY vs ps),.d (.list (L.map Le.d)),.d (.int (now:Int)),.o (.li (held.map .int))]/\Fits (vs.map Va.fill) ps n L rows/\vs.length<=4/\ps.length<=5/\(∀ p∈ps,PiOk vs.length p)/\L.length<=1000/\now<=n/\n<=5/\(∀ i,i < ps.length->byS L now i<=zq5 ps i now)/\held.length=vs.length /\
 (∀ x,held.getD x 0+inS ps L now x=(rows.getD now []).getD x 0+outS ps L now x)/\zji (vs.map Va.room) (rows.getD now [])/\Q (.fz (.bool true)) (.li ((rows.getD now []).map .int))
theorem zd21 {α:Type} {l:List α} {i:Nat} {x:α} (h:l[i]?=some x):l.drop i=x :: l.drop (i+1):=by
 obtain ⟨h1,h2⟩:=vW.mp h
 rw [uaM h1,h2]
section
variable {P:Program} {w:World} {K:Fg} {mg:Str->Option Value} {base:Heap}
theorem zs7:FnScope ["yard", "plan", "now", "held", "left", "moment", "at", "amount", "start", "goal", "length", "price", "gate"] ["yard", "plan", "now", "held"] (zg0 zn2):=by exact ⟨rfl,rfl,rfl,by decide +kernel,rfl,by decide +kernel,by decide +kernel⟩
theorem zpf (M:Md K mg) (T:TopDef K "_law_moment" zn2) (jS:mg "len"=none) (jJ:mg "range"=none) (kF:Def P w K mg base "_law_width" 1 ["gate", "now"] (spD K zu8)):Def P w K mg base "_law_moment" 2 ["yard", "plan", "now", "held"] (spT K zia):=by
 refine zg7 M T zs7 (λ _ _ _ _ _ _ us hl=>by obtain ⟨_,_,_,_,rfl⟩:=ar4 hl;rfl) (zab λ as Qd h=>by obtain ⟨_,_,_,_,_,_,_,rfl,_⟩:=h;rfl) (zm3 ?_)
 intro f cdv A outer s H E hr
 have nd:=zs7.nd
 refine ⟨_,_,(zc0 (zd4 (i:=4) (sc:=zg0 zn2) (N:=["yard", "plan", "now", "held", "left", "moment", "at", "amount", "start", "goal", "length", "price", "gate"]) (own:=["pipe"]) (ix:=[2]) rfl rfl rfl (by exact ⟨rfl,by decide +kernel,by decide +kernel,by decide +kernel,by decide +kernel⟩) nd rfl rfl (pi_W (K:=K) rfl (pix w K hr (pv 0) zf0)) (λ _ _ _ _=>⟨(pgn 0 (nds ["pipe", "now"])),zk3,(zx0 kF (rmn hr) rfl (zb0 (pix w K hr (pv 0) zf0) (zb0 (pv 1) zh0)))⟩))
   (zc0 (zw3 PassesOwn.never rfl (pi_W (K:=K) rfl (pv 1)) (zf6 (K:=K) (n:=3) rfl rfl (zv0 (pgn 5 nd) (zv0 (pgn 6 nd) (zv0 (pgn 7 nd) zm6)))) (zc0 (zxd (pix w K hr (pix w K hr (pv 0) zf0) (pv 6)) (zf6 (K:=K) (n:=5) rfl rfl (zv0 (pgn 8 nd) (zv0 (pgn 9 nd) (zv0 (pgn 10 nd) (zv0 (pgn 11 nd) (zv0 (pgn 12 nd) zm6)))))))
   (zj0 (zr8 (zt0 (zn9 (K:=K) rfl (Room.units hr)) (zr0 (zp0 (K:=K) rfl) (pv 5) (pv 10)) (pv 2) (zm1 _)) (zj0 (zxd (zr0 (zp0 (K:=K) rfl) (pix w K hr (pv 3) (pv 9)) (pv 7)) (zqn (pv 3) (pv 9) (zwp (Room.units hr))))) zi1))))
   (zc0 (zw3 PassesOwn.never rfl (pi_W (K:=K) rfl (pv 1)) (zf6 (K:=K) (n:=3) rfl rfl (zv0 (pgn 5 nd) (zv0 (pgn 6 nd) (zv0 (pgn 7 nd) zm6)))) (zj0 (zr8 (zt0 (zn9 (K:=K) rfl (Room.units hr)) (pv 5) (pv 2) (zm1 _)) (zc0 (pset 8 nd (pix w K hr (pix w K hr (pix w K hr (pv 0) zf0) (pv 6)) zf0))
   (zc0 (zr8 (PW.pt (zz41 (zt0 zry (pv 7) zf0 (zm1 _)) (zz41 (zt0 zpo (pv 7) (pix w K hr (pv 4) (pv 6)) (zm1 _)) (zey (zt0 zpo (pv 7) (pix w K hr (pv 3) (pv 8)) (zm1 _)))))) (zj0 (zg1 zo41)) zi1)
   (zc0 (zxd (zr0 zjh (pix w K hr (pv 4) (pv 6)) (pv 7)) (zqn (pv 4) (pv 6) (zwp (Room.units hr))))
   (zj0 (zxd (zr0 zjh (pix w K hr (pv 3) (pv 8)) (pv 7)) (zqn (pv 3) (pv 8) (zwp (Room.units hr)))))))) zi1)))
   (zj0 (zg1 (zkt (zn9 (K:=K) rfl (Room.units hr)) (zk4 (sc:=zg0 zn2) (N:=["yard", "plan", "now", "held", "left", "moment", "at", "amount", "start", "goal", "length", "price", "gate"]) (own:=["k"]) (ix:=[3,0]) rfl rfl rfl (by exact ⟨rfl,by decide +kernel,by decide +kernel,by decide +kernel,by decide +kernel⟩) (zb1 rfl jJ (zb0 (zh1 (zf1 (K:=K) rfl) rfl jS ze7 (zb0 (pv 3) zh0)) zh0)) (λ _ _ _ _=>⟨(pgn 0 (nds ["k", "held", "yard"])),(zgp (zt0 zpo (pix w K hr (pv 1) (pv 0)) (pix w K hr (pix w K hr (pix w K hr (pv 2) zf0) (pv 0)) zf0) (zm1 _))),(pv 0)⟩)) (zo1 zh0) (zm1 _))))))),(zk0 (zf2 (RfF.c (ze4 (zau (RfE.v (zl0 r_ix (za0 0) rvi))) (zw1 (i:=0) (n:=1) (by decide)) zh6 (zr1 (zd0 (zl0 r_ix (za0 0) rvi) (zd0 (zi0 1) zn0))))))
   (zk0 (zs3 (zuq (zi0 1)) (zde (zu0 (rgn 5) (zu0 (rgn 6) (zu0 (rgn 7) zo6)))) (zk0 (zz0 (zl0 r_ix (RfE.v (zl0 r_ix (za0 0) rvi)) (za0 6)) (zde (zu0 (rgn 8) (zu0 (rgn 9) (zu0 (rgn 10) (zu0 (rgn 11) (zu0 (rgn 12) zo6)))))))
   (ze9 (zs0 (ze5 q_eq (RfV.h (RfE.v (zl0 zv2 (za0 5) (za0 10)))) (RfV.h (za0 2)))) (zmp (zl0 zv2 (RfE.v (zl0 r_ix (za0 3) (za0 9))) (za0 7)) (zm0 3) (zi0 9)) zj1)))
   (zk0 (zs3 (zuq (zi0 1)) (zde (zu0 (rgn 5) (zu0 (rgn 6) (zu0 (rgn 7) zo6)))) (ze9 (zs0 (ze5 q_eq (RfV.h (za0 5)) (RfV.h (za0 2)))) (zk0 (zz0 (zl0 r_ix (RfE.v (zl0 r_ix (RfE.v (zl0 r_ix (za0 0) rvi)) (za0 6))) rvi) (rgn 8))
   (zk0 (ze9 (zr61 (zs0 (zl0 r_lt (za0 7) rvi)) (zr61 (zs0 (zl0 r_gt (za0 7) (RfE.v (zl0 r_ix (za0 4) (za0 6))))) (zs0 (zl0 r_gt (za0 7) (RfE.v (zl0 r_ix (za0 3) (za0 8))))))) (zb2 (RfE.c zx41)) zj1)
   (zk0 (zmp (zl0 zst (RfE.v (zl0 r_ix (za0 4) (za0 6))) (za0 7)) (zm0 4) (zi0 6))
   (zmp (zl0 zst (RfE.v (zl0 r_ix (za0 3) (za0 8))) (za0 7)) (zm0 3) (zi0 8))))) zj1))
   (zb2 (RfE.c (ze5 q_eq (RfV.h (RfE.v (RfF.e (ze4 (RfI.j (zt2 (zd0 (zij ztk (ze1 (za0 3) zj2)) zn0))) (zw1 (i:=0) (n:=1) (by decide)) (zs0 (zl0 r_gt (RfE.v (zl0 r_ix (za0 1) (za0 0))) (RfE.v (zl0 r_ix (RfE.v (zl0 r_ix (RfE.v (zl0 r_ix (za0 2) rvi)) (za0 0))) rvi)))) (zi0 0))))) (ze71 zm81))))))),?_⟩
 rintro as Qd a ⟨vs,ps,n,L,rows,now,held,rfl,ft,hv,hp,okp,hL,hnow,hn,cap,hl,hb,no,q⟩
 obtain ⟨r1,r2⟩:=ft.row hnow
 rw [u4] at r1
 have pa:=ft.pa
 unfold dY
 have gp:∀ k:Nat,k < ps.length->∃ p:Pi,ps[k]?=some p/\PiOk vs.length p/\zs1 ps k=p.u/\zc3 ps k=p.v/\pl ps k=p.len/\atI (ps.map Pi.d) (k:Int)=some (.tuple [.int (p.u:Int),.int (p.v:Int),.int (p.len:Int),.int p.pr,p.g.d]):=λ k hk=>by
  have e:ps[k]?=some ps[k]:=u5 hk
  exact ⟨ps[k],e,okp _ (w6 hk),by unfold zs1;rw [e];rfl,by unfold zc3;rw [e];rfl,by unfold pl;rw [e];rfl,zk2 (by lia) (by rw [vI,u6,e];rfl)⟩
 walk_at "ds"
 refine ze0 λ J hJ=>?_
 walk_at "dd"
 refine ⟨_,rfl,?_⟩
 walk_at "dd"
 refine zrs (λ p=>.int (p.g.at now)) (by rw [sizeLine_eq];lia) (λ p hpp=>?_) ?_
 ·walk_at "cs"
  rw [show Pi.d p=.tuple [.int (p.u:Int),.int (p.v:Int),.int (p.len:Int),.int p.pr,p.g.d] from rfl]
  walk_at "dd"
  exact ⟨_,rfl,p.g,now,rfl,(okp p hpp).2.2.2.2.1,rfl⟩
 refine hJ _ ?_
 clear hJ
 refine ze0 λ J hJ=>?_
 walk_at "dd"
 refine za2 (λ i U=>∃ (s5 s6 s7 s8 s9 s10 s11 s12:Sl),U=[.sh (.tuple [.list (vs.map Va.d),.list (ps.map Pi.d)]),.sh (.list (L.map Le.d)),.sh (.int (now:Int)),.io a (.li ((zy4 (λ l=>l.t+pl ps l.at_=now) (λ l=>zc3 ps l.at_) (L.take i) held).map .int)),.ow (.li (ps.map λ p=>.int (p.g.at now))),s5,s6,s7,s8,s9,s10,s11,s12]) ⟨.un,.un,.un,.un,.un,.un,.un,.un,rfl⟩ ?_ ?_
 ·rintro i l U hi ⟨s5,s6,s7,s8,s9,s10,s11,s12,rfl⟩
  obtain ⟨p,ep,okq,es,eg,el,gq⟩:=gp l.at_ (pa l (v8 hi)).1
  have ln:(zy4 (λ l=>l.t+pl ps l.at_=now) (λ l=>zc3 ps l.at_) (L.take i) held).length=vs.length:=by rw [zrc];exact hl
  have enx:zy4 (λ l=>l.t+pl ps l.at_=now) (λ l=>zc3 ps l.at_) (L.take (i+1)) held=if l.t+p.len=now then inc (zy4 (λ l=>l.t+pl ps l.at_=now) (λ l=>zc3 ps l.at_) (L.take i) held) p.v l.am else zy4 (λ l=>l.t+pl ps l.at_=now) (λ l=>zc3 ps l.at_) (L.take i) held:=by
   rw [wZ,hi]
   show zy4 _ _ (List.take i L++[l]) held=_
   rw [zue,el,eg]
  rw [enx]
  generalize zy4 (λ l=>l.t+pl ps l.at_=now) (λ l=>zc3 ps l.at_) (L.take i) held=h at ln ⊢
  rw [show Le.d l=.tuple [.int (l.t:Int),.int (l.at_:Int),.int l.am] from rfl]
  walk_at "dd"
  refine ze0 λ J hJ=>?_
  walk_at "dd"
  refine ⟨_,rfl,?_⟩
  walk_at "dd"
  refine ⟨_,gq,?_⟩
  walk_at "dd"
  refine hJ _ ?_
  clear hJ
  have hv2:p.v < h.length:=by rw [ln];exact okq.2.1
  walk_at "dd"
  refine two (λ z=>?_) λ z=>⟨_,_,_,_,_,_,_,_,by rw [if_neg (by lia)]⟩
  refine ⟨_,zk2 (by lia) (by rw [vI,u6,u5 hv2];rfl),?_⟩
  walk_at "dd"
  refine ⟨p.v,zmj (by rw [u4];exact hv2),.sh (.int (l.t:Int)),.sh (.int (l.at_:Int)),.sh (.int l.am),.sh (.int (p.u:Int)),.sh (.int (p.v:Int)),.sh (.int (p.len:Int)),.sh (.int p.pr),.sh p.g.d,?_⟩
  rw [if_pos (by lia)]
  unfold inc
  rw [xN,vL,u5 hv2]
  rfl
 rintro U ⟨s5,s6,s7,s8,s9,s10,s11,s12,rfl⟩
 rw [xM]
 refine hJ _ ?_
 clear hJ
 have hg:∀ l∈L,zc3 ps l.at_ < held.length:=λ l hl'=>by
  obtain ⟨p,_,okq,_,eg,_⟩:=gp l.at_ (pa l hl').1
  rw [eg,hl];exact okq.2.1
 have g0:=zcb (λ l=>l.t+pl ps l.at_=now) (λ l=>zc3 ps l.at_) L held hg
 have g1:∀ x,(zy4 (λ l=>l.t+pl ps l.at_=now) (λ l=>zc3 ps l.at_) L held).getD x 0=(rows.getD now []).getD x 0+outS ps L now x:=λ x=>by
  rw [g0,<- hb x]
  rfl
 have g2:(zy4 (λ l=>l.t+pl ps l.at_=now) (λ l=>zc3 ps l.at_) L held).length=vs.length:=by rw [zrc];exact hl
 generalize zy4 (λ l=>l.t+pl ps l.at_=now) (λ l=>zc3 ps l.at_) L held=h0 at g1 g2
 refine ze0 λ J hJ=>?_
 walk_at "dd"
 refine za2 (λ i U=>∃ (h lf:List Int) (s5 s6 s7 s8:Sl),h.length=vs.length/\lf.length=ps.length/\(∀ x,h.getD x 0=(rows.getD now []).getD x 0+sL (L.drop i) λ l=>if l.t=now/\zs1 ps l.at_=x then l.am else 0)/\(∀ j,j < ps.length->lf.getD j 0=zq5 ps j now - sL (L.take i) λ l=>if l.t=now/\l.at_=j then l.am else 0) /\
  U=[.sh (.tuple [.list (vs.map Va.d),.list (ps.map Pi.d)]),.sh (.list (L.map Le.d)),.sh (.int (now:Int)),.io a (.li (h.map .int)),.ow (.li (lf.map .int)),s5,s6,s7,s8,s9,s10,s11,s12]) ⟨h0,ps.map λ p=>p.g.at now,s5,s6,s7,s8,g2,by simp,g1,λ j hj=>?_,by rw [wD];rfl⟩ ?_ ?_
 ·rw [k7,zqf,Int.sub_zero,vL,u6]
  unfold zq5
  rw [u5 hj]
 ·rintro i l U hi ⟨h,lf,s5,s6,s7,s8,k1,k2,k3,k4,rfl⟩
  have hm:=v8 hi
  obtain ⟨p,ep,okq,es,eg,el,gq⟩:=gp l.at_ (pa l hm).1
  have ha:=(pa l hm).1
  have h1:=(pa l hm).2
  have ed:=zd21 hi
  have et:L.take (i+1)=L.take i++[l]:=by rw [wZ,hi];rfl
  have nn:∀ (M:List Le) (c:Le->Prop) [DecidablePred c],(∀ l∈M,l∈L)->0<=sL M λ l=>if c l then l.am else 0:=λ M c _ hM=>zhb1 λ l' hl'=>by
   have:=(pa l' (hM l' hl')).2
   split <;> lia
  have hu:p.u < h.length:=by rw [k1];exact okq.1
  have haf:l.at_ < lf.length:=by lia
  rw [show Le.d l=.tuple [.int (l.t:Int),.int (l.at_:Int),.int l.am] from rfl]
  walk_at "dd"
  refine two (λ z=>?_) λ z=>?_
  ·have z:l.t=now:=by lia
   have a1:l.am<=h.getD p.u 0:=by
    rw [k3,ed,zp1,if_pos ⟨z,es⟩]
    have:=r2 p.u
    have:=nn (L.drop (i+1)) (λ l=>l.t=now/\zs1 ps l.at_=p.u) λ l' hl'=>uaP hl'
    lia
   have a2:l.am<=lf.getD l.at_ 0:=by
    rw [k4 _ ha]
    have c:=cap l.at_ ha
    unfold byS at c
    rw [<- yH i L,zhs,ed,zp1,if_pos ⟨z,rfl⟩] at c
    have:=nn (L.drop (i+1)) (λ l'=>l'.t=now/\l'.at_=l.at_) λ l' hl'=>uaP hl'
    lia
   have gh:atI (h.map u9) (p.u:Int)=some (.int (h.getD p.u 0)):=zk2 (by lia) (by rw [vI,u6,vL,u5 hu];rfl)
   have gl:atI (lf.map u9) (l.at_:Int)=some (.int (lf.getD l.at_ 0)):=zk2 (by lia) (by rw [vI,u6,vL,u5 haf];rfl)
   refine ze0 λ J hJ=>?_
   walk_at "dd"
   refine ⟨_,rfl,?_⟩
   walk_at "dd"
   refine ⟨_,gq,?_⟩
   walk_at "dd"
   refine ⟨_,rfl,hJ _ ?_⟩
   clear hJ
   refine ze0 λ J hJ=>?_
   walk_at "dd"
   rw [if_neg (by lia)]
   refine ⟨_,gl,?_⟩
   walk_at "dd"
   rw [if_neg (by lia)]
   refine ⟨_,gh,?_⟩
   walk_at "dd"
   rw [if_neg (by lia)]
   refine hJ _ ?_
   clear hJ
   refine ze0 λ J hJ=>?_
   walk_at "dd"
   refine ⟨_,gl,?_⟩
   walk_at "dd"
   refine ⟨l.at_,zmj (by rw [u4];exact haf),hJ _ ?_⟩
   clear hJ
   walk_at "dd"
   refine ⟨_,gh,?_⟩
   walk_at "dd"
   refine ⟨p.u,zmj (by rw [u4];exact hu),h.set p.u (h.getD p.u 0 - l.am),lf.set l.at_ (lf.getD l.at_ 0 - l.am),.sh (.int (l.t:Int)),.sh (.int (l.at_:Int)),.sh (.int l.am),.sh (.int (p.u:Int)),by rw [vZ];exact k1,by rw [vZ];exact k2,λ x=>?_,λ j hj=>?_,by rw [xN,xN]⟩
   ·have:=k3 x
    rw [ed,zp1,es] at this
    rw [zc2 _ _ _ hu]
    by_cases y:p.u=x
    ·subst y
     rw [if_pos ⟨z,rfl⟩] at this
     rw [if_pos rfl];lia
    ·rw [if_neg λ w=>y w.2] at this
     rw [if_neg y];lia
   ·have:=k4 j hj
    rw [et,zhs,zp1,zqf,zc2 _ _ _ haf]
    by_cases y:l.at_=j
    ·subst y
     rw [if_pos rfl,if_pos ⟨z,rfl⟩];lia
    ·rw [if_neg y,if_neg λ w=>y w.2];lia
  ·have z:¬ l.t=now:=by lia
   refine ⟨h,lf,_,_,_,_,k1,k2,λ x=>?_,λ j hj=>?_,rfl⟩
   ·have:=k3 x
    rw [ed,zp1,if_neg λ w=>z w.1] at this
    lia
   ·have:=k4 j hj
    rw [et,zhs,zp1,zqf,if_neg λ w=>z w.1]
    lia
 rintro U ⟨h,lf,s5,s6,s7,s8,k1,k2,k3,k4,rfl⟩
 refine hJ _ ?_
 clear hJ
 have eh:h=rows.getD now []:=ziq (by rw [k1,r1]) λ x=>by
  rw [k3,List.drop_length,zqf];lia
 subst eh
 walk_at "dd"
 rw [u4,vI]
 unfold rngD
 obtain ⟨n1,n2,n3⟩:=no
 refine ⟨by lia,by lia,zr41 (λ _=>none) (by rw [sizeLine_eq,vP];lia) (λ k hk=>?_) ?_⟩
 ·have hk:=vM.mp hk
  rw [show (0:Int)+(k:Int)=(k:Int) by lia]
  have hk2:k < vs.length:=by lia
  have gr:(rows.getD now [])[k]?=some ((rows.getD now [])[k]):=u5 hk
  have gvv:(vs.map Va.room)[k]?=some vs[k].room:=by rw [u6,u5 hk2];rfl
  have le:=n3 k _ _ gvv gr
  walk_at "cs"
  walk_at "dd"
  refine ⟨_,zk2 (by lia) (by rw [vI,u6,gr];rfl),?_⟩
  refine ⟨_,rfl,?_⟩
  walk_at "dd"
  refine ⟨_,zk2 (by lia) (by rw [vI,u6,u5 hk2];rfl),?_⟩
  unfold Va.d
  walk_at "dd"
  refine ⟨_,rfl,?_⟩
  walk_at "dd"
  rw [if_neg (by lia)]
  trivial
 ·rw [show (u3 (rows.getD now []).length).filterMap (λ _=>(none:Option D))=[] by simp]
  exact ⟨rfl,rfl,_,rfl,q⟩
end
section
variable {vs:List Va} {ps:List Pi} {n:Nat} {ws:List Int} {f:Fm}
theorem zvz (h:(csOf vs ws).length=f.t.length):allL vs ps n ws f=(u3 ((ntOf vs ps n).arcs (csOf vs ws)).length).map λ k=>(((aU ((ntOf vs ps n).arcs (csOf vs ws)) k,aV ((ntOf vs ps n).arcs (csOf vs ws)) k,zwh ((ntOf vs ps n).arcs (csOf vs ws)) k),fx ((ntOf vs ps n).flow f) k),mkA (zl2 vs ps n) k):=by
 rw [<- zxt h,<- Nt.zip h]
 have l1:=Nt.len (T:=ntOf vs ps n) h
 have l2:=ze8 (ps:=ps) (n:=n) h
 rw [zdm l1]
 generalize ((ntOf vs ps n).arcs (csOf vs ws)).length=L at l2
 refine yV (by rw [xT,u4,u4,vP];lia) λ j h1 h2=>?_
 rw [xT] at h1
 rw [zK,x8,x8,yW]
 unfold mkA
 rw [u5 (by lia)];rfl
noncomputable def dueF (c x:Int):Option Le:=if 0<=c/\0 < x then some ⟨(c / 24).toNat,(c % 24).toNat,x⟩ else none
noncomputable def dueL (M F:List Int) (k:Nat):List Le:=(u3 k).filterMap λ j=>dueF (mkA M j) (fx F j)
theorem zos (M F:List Int) (k:Nat):dueL M F (k+1)=dueL M F k++(dueF (mkA M k) (fx F k)).toList:=by
 unfold dueL
 rw [w9,xI]
 cases e:dueF (mkA M k) (fx F k) <;> simp [e]
theorem zqx (M F:List Int) (k:Nat):(dueL M F k).length<=k:=by
 unfold dueL
 exact wB (yS _ _) (by simp)
theorem zvt {α β γ:Type} (p:γ->List α) (ψ:α->Option β) (l:List γ):(l.flatMap p).filterMap ψ=l.flatMap λ x=>(p x).filterMap ψ:=by
 induction l with
|nil=>rfl
|cons x r ih=>rw [wA,xI,ih,wA]
theorem zh11 {α β:Type} {ψ:α->Option β} {l:List α} (h:∀ x∈l,ψ x=none):l.filterMap ψ=[]:=List.filterMap_eq_nil_iff.mpr h
theorem zyw {γ:Type} (l:List γ) (p:γ->Ar×Int):((l.map λ k=>(p k,(-1:Int))).filterMap λ q=>dueF q.2 q.1.2)=[]:=zh11 λ x hx=>by
 obtain ⟨k,_,rfl⟩:=vR.mp hx
 exact if_neg λ y=>by have:=y.1;lia
theorem zaz (h:(csOf vs ws).length=f.t.length) (h5:ps.length<=5):dueL (zl2 vs ps n) ((ntOf vs ps n).flow f) ((ntOf vs ps n).arcs (csOf vs ws)).length=zvc ps n f.g n:=by
 have e:dueL (zl2 vs ps n) ((ntOf vs ps n).flow f) ((ntOf vs ps n).arcs (csOf vs ws)).length=(allL vs ps n ws f).filterMap λ p=>dueF p.2 p.1.2:=by
  rw [zvz h,y9];rfl
 rw [e]
 unfold allL zvc
 rw [xI,xI,zyw (u3 vs.length) λ k=>(((0,(ntOf vs ps n).nd 0 k,(ntOf vs ps n).fl k):Ar),f.a k),zC,zvt,zvt]
 have e3:(((csOf vs ws).zip f.t).flatMap λ x=>((u3 vs.length).map λ k=>(((((ntOf vs ps n).nd n k,1,x.1 k):Ar),x.2 k),(-1:Int))).filterMap λ p=>dueF p.2 p.1.2)=[]:=by
  have:∀ l:List ((Nat->Int)×(Nat->Int)),(l.flatMap λ x=>((u3 vs.length).map λ k=>(((((ntOf vs ps n).nd n k,1,x.1 k):Ar),x.2 k),(-1:Int))).filterMap λ p=>dueF p.2 p.1.2)=[]:=by
   intro l
   induction l with
  |nil=>rfl
  |cons x r ih=>rw [wA,ih,wI];exact zyw _ λ k=>((((ntOf vs ps n).nd n k,1,x.1 k):Ar),x.2 k)
  exact this _
 rw [e3,wI,List.flatMap_def]
 congr 1
 refine wK λ m _=>?_
 rw [xI,zyw (u3 vs.length) λ k=>((((ntOf vs ps n).nd m k,(ntOf vs ps n).nd (m+1) k,(ntOf vs ps n).rm k):Ar),f.r m k),zC,y9]
 unfold pmL
 have:∀ l:List Nat,(∀ i∈l,i < 24)->(l.filterMap ((λ p:(Ar×Int)×Int=>dueF p.2 p.1.2) ∘ λ i=>((((ntOf vs ps n).nd m (zs1 ps i),(ntOf vs ps n).nd (m+pl ps i) (zc3 ps i),zq5 ps i m),f.g m i),((m * 24+i:Nat):Int))))=l.filterMap λ i=>if 0 < f.g m i then some ⟨m,i,f.g m i⟩ else none:=by
  intro l
  induction l with
 |nil=>intro _;rfl
 |cons i r ih =>
   intro hi
   have h24:=hi i v6
   have e1:((λ p:(Ar×Int)×Int=>dueF p.2 p.1.2) ∘ λ i=>((((ntOf vs ps n).nd m (zs1 ps i),(ntOf vs ps n).nd (m+pl ps i) (zc3 ps i),zq5 ps i m),f.g m i),((m * 24+i:Nat):Int))) i=if 0 < f.g m i then some ⟨m,i,f.g m i⟩ else none:=by
    show dueF ((m * 24+i:Nat):Int) (f.g m i)=_
    unfold dueF
    by_cases z:0 < f.g m i
    ·rw [if_pos ⟨by lia,z⟩,if_pos z]
     congr 2
     ·lia
     ·lia
    ·rw [if_neg λ y=>z y.2,if_neg z]
   rw [wX,wX,e1,ih λ j hj=>hi j (vU _ hj)]
 exact this _ λ i hi=>by have:=(zow hi).1;lia
theorem zi71:(ntOf vs ps n).flow f=zfc ps n ((u3 vs.length).map f.a) (λ m=>(u3 vs.length).map (f.r m)) f.g n++f.t.flatMap λ t=>(u3 vs.length).map t:=by
 unfold Nt.flow zfc blk
 rw [List.flatMap_def]
 rfl
theorem zys {cs:List (Nat->Int)} (h:(ntOf vs ps n).Fl (csOf vs ws) f) (h12:vs.length<=12):∀ r∈znn vs.length n f,zji (vs.map Va.room) r:=λ r hr=>by
 unfold znn at hr
 obtain ⟨m,hm,rfl⟩:=vR.mp hr
 have hm:=vM.mp hm
 refine ⟨by simp,by simpa using h12,λ i a y e1 e2=>?_⟩
 rw [u6] at e1 e2
 obtain ⟨v,e3,rfl⟩:=wJ.mp e1
 obtain ⟨k,e4,rfl⟩:=wJ.mp e2
 obtain ⟨hi,hk⟩:=vW.mp e4
 rw [yW] at hk
 subst hk
 rw [vP] at hi
 have er:(ntOf vs ps n).rm i=v.room:=by show ((vs[i]?).map Va.room).getD 0=_;rw [e3];rfl
 split
 ·rename_i z
  have:=(h.r m i z hi).2
  rw [er] at this;exact this
 ·have ht:=h.t
  have hs:=h.s
  match hft:f.t,ht with
 |[a,b],_ =>
   rw [hft] at hs
   have s1:=(hs (λ k=>ws.getD k 0,a) (by simp [csOf]) i hi).2
   have s2:=(hs (λ k=>((vs[k]?).map Va.room).getD 0 - ws.getD k 0,b) (by simp [csOf]) i hi).2
   have s2:b i<=((vs[i]?).map Va.room).getD 0 - ws.getD i 0:=s2
   have s1:a i<=ws.getD i 0:=s1
   rw [e3] at s2
   have s2:b i<=v.room - ws.getD i 0:=s2
   rw [zm2,zm2,zas]
   lia
theorem zl01 (okv:∀ v∈vs,VaOk v) (okp:∀ p∈ps,PiOk vs.length p) (hw:ws.length=vs.length) (okw:∀ (k:Nat) v y,vs[k]?=some v->ws[k]?=some y->0<=y/\y<=v.room):∀ a∈(ntOf vs ps n).arcs (csOf vs ws),a.1 < (ntOf vs ps n).nd (n+1) 0/\a.2.1 < (ntOf vs ps n).nd (n+1) 0/\0<=a.2.2:=by
 have ok:=zfe (n:=n) okp
 have st:=zrt (n:=n) okv okp hw okw
 have lt:∀ m k,m<=n->k < vs.length->(ntOf vs ps n).nd m k < (ntOf vs ps n).nd (n+1) 0:=λ m k hm hk=>by
  show 2+m * vs.length+k < 2+(n+1) * vs.length+0
  have:=yX vs.length (show m+1<=n+1 by lia)
  rw [xV] at this;lia
 have h2:=Nt.nd2 (T:=ntOf vs ps n) (n+1) 0
 have key:=(Nt.both_iff (T:=ntOf vs ps n) (cs:=csOf vs ws) (f:=zut vs ws) rfl λ u v c x=>u < (ntOf vs ps n).nd (n+1) 0/\v < (ntOf vs ps n).nd (n+1) 0/\0<=c).mpr ⟨λ k hk=>⟨by lia,lt 0 k (by lia) hk,?_⟩,λ m k hm hk=>⟨lt m k (xX hm) hk,lt (m+1) k hm hk,?_⟩,λ m i hm hi=>⟨lt m _ (xX hm) (ok.ub m i hi),lt _ _ (ok.ln m i hi).2 (ok.vb m i hi),?_⟩,λ c hc k hk=>⟨lt n k (u8 _) hk,by lia,?_⟩⟩
 ·intro a ha
  rw [<- Nt.zip (T:=ntOf vs ps n) (cs:=csOf vs ws) (f:=zut vs ws) rfl] at key
  have l:=Nt.len (T:=ntOf vs ps n) (cs:=csOf vs ws) (f:=zut vs ws) rfl
  obtain ⟨j,hj,rfl⟩:=uaH ha
  have hz:j < (((ntOf vs ps n).arcs (csOf vs ws)).zip ((ntOf vs ps n).flow (zut vs ws))).length:=by rw [xT];lia
  have:=key _ (w6 hz)
  rw [zK] at this
  exact this
 ·have:=st.a k hk;lia
 ·have:=st.r m k hm hk;lia
 ·have:=st.g m i hm hi;lia
 ·have:=st.s c hc k hk;lia
end
section
variable {P:Program} {w:World} {K:Fg} {mg:Str->Option Value} {base:Heap} {jC jF jD jB jA:Addr}
theorem za31:FnScope ["script", "yard", "many", "wants", "until", "arcs", "marks", "flow", "side", "due", "k", "plan", "rows", "held", "now"] ["script"] (zg0 zfy):=by exact ⟨rfl,rfl,rfl,by decide +kernel,rfl,by decide +kernel,by decide +kernel⟩
theorem zfx (kt:Kit K) (kL:mg "isinstance"=none) (jS:mg "len"=none) (kD:mg "list"=none) (jJ:mg "range"=none) (vA:Def P w K mg base "played" 6 ["yard", "plan", "until"] (spD K zko)) (uV:Def P w K mg base "plan_of" 2 ["yard", "until", "flow"] (spD K zgm)) (uO:DefN P w K mg base "greatest" 4 ["count", "arcs", "source", "sink", "flow"] (spD K zdi)) (jK:Def P w K mg base "_law_draw" 1 ["script", "k"] (spD K zb4)) (uD:Def P w K mg base "_law_yard" 4 ["script"] (spD K zlj)) (qT:Def P w K mg base "_law_wants" 2 ["script", "vats"] (spD K zwe)) (uE:Def P w K mg base "_law_arcs" 2 ["yard", "wants", "until"] (spD K zzh)) (uF:Def P w K mg base "_law_lies" 1 ["arcs", "marks", "flow", "many", "until"] (spD K zgi)) (qO:Def P w K mg base "_law_moment" 2 ["yard", "plan", "now", "held"] (spT K zia)) :
  ∀ (f:Addr) (cdv:Value) (A:Around) (outer:List Env) (s:Shared) (H:Hp) (E:XK),Room 6 (A.deeper (envOfC "law" (zg0 zfy) s.heap.objs.size f cdv)) ->
   ∃ t d,PSs (cxOf CX0 P w K mg base ["script", "yard", "many", "wants", "until", "arcs", "marks", "flow", "side", "due", "k", "plan", "rows", "held", "now"] "law" (zg0 zfy) f cdv A outer s H E).nox (zu2 zfy) t/\RfS K t d/\∀ (ns:List Int) (Qd:D->Prop),ns.length<=63->Qd (.bool true)->d { nx:=λ _=>Qd .none,rt:=rD Qd } (zbh ["script", "yard", "many", "wants", "until", "arcs", "marks", "flow", "side", "due", "k", "plan", "rows", "held", "now"] [.list (ns.map .int)]):=by
 intro f cdv A outer s H E hr
 have nd:=za31.nd
 refine ⟨_,_,(zc0 (pset 1 nd (zx0 uD (rmn hr) rfl (zb0 (pv 0) zh0)))
   (zc0 (pset 2 nd (zh1 (zf1 (K:=K) rfl) rfl jS ze7 (zb0 (pix w K hr (pv 1) zf0) zh0)))
   (zc0 (pset 3 nd (zx0 qT (rmn hr) rfl (zb0 (pv 0) (zb0 (pix w K hr (pv 1) zf0) zh0))))
   (zc0 (pset 4 nd (zr0 zg2 (zx0 jK (rmn hr) rfl (zb0 (pv 0) (zb0 zf0 zh0))) zf0))
   (zc0 (zxd (zx0 uE (rmn hr) rfl (zb0 (pv 1) (zb0 (pv 3) (zb0 (pv 4) zh0)))) (zf6 (K:=K) (n:=2) rfl rfl (zv0 (pgn 5 nd) (zv0 (pgn 6 nd) zm6))))
   (zc0 (zxd (zgx uO (rmn hr) rfl (zb0 (zr0 (zp0 (K:=K) rfl) zf0 (zr0 zv1 (zr0 (zp0 (K:=K) rfl) (pv 4) zf0) (pv 2))) (zb0 (zh4 (ze3 (K:=K) rfl) rfl kD zx8 (zb0 (pv 5) zh0)) (zb0 zf0 (zb0 zf0 zh0))))) (zf6 (K:=K) (n:=2) rfl rfl (zv0 (pgn 7 nd) (zv0 (pgn 8 nd) zm6))))
   (zc0 (zr8 (zt0 (zso (K:=K) rfl (Room.units hr)) (zhx (sl_W (K:=K) rfl) (pv 7) zio (za5 (pv 2))) (zk4 (sc:=zg0 zfy) (N:=["script", "yard", "many", "wants", "until", "arcs", "marks", "flow", "side", "due", "k", "plan", "rows", "held", "now"]) (own:=["vat"]) (ix:=[]) rfl rfl rfl (by exact ⟨rfl,by decide +kernel,by decide +kernel,by decide +kernel,by decide +kernel⟩) (pi_W (K:=K) rfl (pix w K hr (pv 1) zf0)) (λ _ _ _ _=>⟨(pgn 0 (nds ["vat"])),zk3,(pix w K hr (pv 0) zf0)⟩)) (zm1 _)) (zj0 (zg1 zo41)) zi1)
   (zc0 (pset 9 nd (zo1 zh0))
   (zc0 (zw3 PassesOwn.never rfl (zb1 rfl jJ (zb0 (zh1 (zf1 (K:=K) rfl) rfl jS ze7 (zb0 (pv 6) zh0)) zh0)) (pgn 10 nd) (zj0 (zr8 (PW.pt (zbp (zt0 zya1 (pix w K hr (pv 6) (pv 10)) zf0 (zm1 _)) (zmh (zt0 zpo (pix w K hr (pv 7) (pv 10)) zf0 (zm1 _))))) (zj0 (zk1 (zj4 (K:=K) rfl PySem.F.plainAttrs_list PySem.F.slot_list_append PySem.F.type_list_append zc1 (pv 9) (zb0 (zh2 (zb0 (zr0 zr2 (pix w K hr (pv 6) (pv 10)) zf0) (zb0 (zr0 zg2 (pix w K hr (pv 6) (pv 10)) zf0) (zb0 (pix w K hr (pv 7) (pv 10)) zh0)))) zh0)))) zi1)))
   (zc0 (pset 11 nd (zx0 uV (rmn hr) rfl (zb0 (zh2 (zb0 (zh4 (ze3 (K:=K) rfl) rfl kD zx8 (zb0 (pix w K hr (pv 1) zf0) zh0)) (zb0 (zh4 (ze3 (K:=K) rfl) rfl kD zx8 (zb0 (pix w K hr (pv 1) zf0) zh0)) zh0))) (zb0 (pv 4) (zb0 (zh4 (ze3 (K:=K) rfl) rfl kD zx8 (zb0 (pv 7) zh0)) zh0)))))
   (zc0 (zr8 (PW.pt (zz41 (zlr (zuc (K:=K) rfl (zh1 (zfv (K:=K) rfl) rfl kL zoh (zb0 (pv 11) (zb0 (ze41 (v:=.ty "list") rfl kD zx8 rfl) zh0))) (λ _=>rfl))) (zey (zt0 (zso (K:=K) rfl (Room.units hr)) (pv 11) (pv 9) (zm1 _))))) (zj0 (zg1 zo41)) zi1)
   (zc0 (pset 12 nd (zx0 uF (rmn hr) rfl (zb0 (pv 5) (zb0 (pv 6) (zb0 (pv 7) (zb0 (pv 2) (zb0 (pv 4) zh0)))))))
   (zc0 (zd4 (i:=13) (sc:=zg0 zfy) (N:=["script", "yard", "many", "wants", "until", "arcs", "marks", "flow", "side", "due", "k", "plan", "rows", "held", "now"]) (own:=["vat"]) (ix:=[]) rfl rfl rfl (by exact ⟨rfl,by decide +kernel,by decide +kernel,by decide +kernel,by decide +kernel⟩) nd rfl rfl (pi_W (K:=K) rfl (pix w K hr (pv 1) zf0)) (λ _ _ _ _=>⟨(pgn 0 (nds ["vat"])),zk3,(pix w K hr (pv 0) zf0)⟩))
   (zc0 (zw3 PassesOwn.never rfl (zb1 rfl jJ (zb0 (zr0 (zp0 (K:=K) rfl) (pv 4) zf0) zh0)) (pgn 14 nd) (zj0 (zr8 (PW.pt (zz41 (zlr (zuc (K:=K) rfl (zx0 qO (rmn hr) rfl (zb0 (pv 1) (zb0 (pv 9) (zb0 (pv 14) (zb0 (pv 13) zh0))))) (λ _=>rfl))) (zey (zt0 (zso (K:=K) rfl (Room.units hr)) (pv 13) (pix w K hr (pv 12) (pv 14)) (zm1 _))))) (zj0 (zg1 zo41)) zi1)))
   (zj0 (zg1 (zkt (zn9 (K:=K) rfl (Room.units hr)) (zx0 vA (rmn hr) rfl (zb0 (pv 1) (zb0 (pv 11) (zb0 (pv 4) zh0)))) (pv 12) (zm1 _)))))))))))))))))),(zk0 (zz0 (zr1 (zd0 (zi0 0) zn0)) (rgn 1))
   (zk0 (zz0 (zij ztk (ze1 (RfE.v (zl0 r_ix (za0 1) rvi)) zj2)) (rgn 2))
   (zk0 (zz0 (zr1 (zd0 (zi0 0) (zd0 (zl0 r_ix (za0 1) rvi) zn0))) (rgn 3))
   (zk0 (zz0 (zl0 zi8 (RfE.v (zr1 (zd0 (zi0 0) (zd0 zq1 zn0)))) rvi) (rgn 4))
   (zk0 (zz0 (zr1 (zd0 (zi0 1) (zd0 (zi0 3) (zd0 (zi0 4) zn0)))) (zde (zu0 (rgn 5) (zu0 (rgn 6) zo6))))
   (zk0 (zz0 (zlx (zd0 (zl0 zv2 rvi (RfE.v (zl0 zrl (RfE.v (zl0 zv2 (za0 4) rvi)) (za0 2)))) (zd0 (RfF.e (zmy zol (ze1 (za0 5) zj2))) (zd0 zq1 (zd0 zq1 zn0))))) (zde (zu0 (rgn 7) (zu0 (rgn 8) zo6))))
   (zk0 (ze9 (zs0 (ze5 q_ne (RfV.h (RfE.v (zlc1 (za0 7) zcp (za9 (zi0 2))))) (RfV.h (RfE.v (RfF.e (ze4 (zau (RfE.v (zl0 r_ix (za0 1) rvi))) (zw1 (i:=0) (n:=1) (by decide)) zh6 (zl0 r_ix (za0 0) rvi))))))) (zb2 (RfE.c zx41)) zj1)
   (zk0 (zf2 (RfF.c (zg3 zn0)))
   (zk0 (zs3 (zt2 (zd0 (zij ztk (ze1 (za0 6) zj2)) zn0)) (rgn 10) (ze9 (zto (zs0 (zl0 r_ge (RfE.v (zl0 r_ix (za0 6) (za0 10))) rvi)) (zs0 (zl0 r_gt (RfE.v (zl0 r_ix (za0 7) (za0 10))) rvi))) (zl1 (zjj zh7 (zm0 9) (zd0 (zx4 (zd0 (zl0 zao (RfE.v (zl0 r_ix (za0 6) (za0 10))) rvi) (zd0 (zl0 zi8 (RfE.v (zl0 r_ix (za0 6) (za0 10))) rvi) (zd0 (zl0 r_ix (za0 7) (za0 10)) zn0)))) zn0))) zj1))
   (zk0 (zz0 (zr1 (zd0 (zx4 (zd0 (RfF.e (zmy zol (ze1 (RfE.v (zl0 r_ix (za0 1) rvi)) zj2))) (zd0 (RfF.e (zmy zol (ze1 (RfE.v (zl0 r_ix (za0 1) rvi)) zj2))) zn0))) (zd0 (zi0 4) (zd0 (RfF.e (zmy zol (ze1 (za0 7) zj2))) zn0)))) (rgn 11))
   (zk0 (ze9 (zr61 (zux (zpn (RfE.v (zee1 kt (by simp) (za0 11))))) (zs0 (ze5 q_ne (RfV.h (za0 11)) (RfV.h (za0 9))))) (zb2 (RfE.c zx41)) zj1)
   (zk0 (znc 9 [] (zz0 (zr1 (zd0 (zi0 5) (zd0 (zi0 6) (zd0 (zi0 7) (zd0 (zi0 2) (zd0 (zi0 4) zn0)))))) (rgn 12)))
   (zk0 (zf2 (RfF.c (ze4 (zau (RfE.v (zl0 r_ix (za0 1) rvi))) (zw1 (i:=0) (n:=1) (by decide)) zh6 (zl0 r_ix (za0 0) rvi))))
   (zk0 (zs3 (zt2 (zd0 (zl0 zv2 (za0 4) rvi) zn0)) (rgn 14) (znc 9 [] (zt81 (zjd1 (zw71 (ru_c (zeo (at_d (zi0 1) (at_d (zi0 9) (at_d (zi0 14) (at_o (zm0 13) zw2))))))) (ru_t (zs0 (ze5 q_ne (RfV.h (za0 13)) (RfV.h (RfE.v (zl0 r_ix (za0 12) (za0 14)))))))) (zb2 (RfE.c zx41)) zj1)))
   (zb2 (RfE.c (ze5 q_eq (RfV.h (RfE.v (zr1 (zd0 (zi0 1) (zd0 (zi0 11) (zd0 (zi0 4) zn0)))))) (RfV.h (za0 12))))))))))))))))))),?_⟩
 intro ns Qd hl q
 walk_at "ds"
 refine ze0 λ J hJ=>?_
 walk_at "dd"
 refine ⟨ns,rfl,λ vs ps v2 v4 p1 p5 okv okp=>hJ _ ?_⟩
 clear hJ
 refine ze0 λ J hJ=>?_
 unfold dY
 walk_at "dd"
 refine ⟨_,rfl,?_⟩
 walk_at "dd"
 rw [u4]
 refine hJ _ ?_
 clear hJ
 refine ze0 λ J hJ=>?_
 walk_at "dd"
 refine ⟨_,rfl,ns,vs,rfl,v4,okv,λ ws hw okw=>hJ _ ?_⟩
 clear hJ
 refine ze0 λ J hJ=>?_
 walk_at "dd"
 refine ⟨ns,2,rfl,by lia,λ m m0 m1=>?_⟩
 walk_at "dd"
 obtain ⟨n,en⟩:=yA (show 0<=m % 6 by lia)
 rw [en]
 refine hJ _ ?_
 clear hJ
 have hn:n<=5:=by lia
 refine ze0 λ J hJ=>?_
 walk_at "dd"
 refine ⟨vs,ps,ws,n,rfl,v4,p5,okp,hw,hn,?_⟩
 walk_at "dd"
 refine hJ _ ?_
 clear hJ
 have ok:=zfe (n:=n) okp
 have hA:((ntOf vs ps n).arcs (csOf vs ws)).length<=57:=by
  rw [zog]
  have:∀ k,(zeh vs ps n k).length<=4+9 * k:=λ k=>by
   induction k with
  |zero=>simp [zeh];lia
  |succ k ih=>rw [zpa,vJ,vJ,u4,u4,vP];have:=zgn ps k n;lia
  have:=this n
  rw [vJ,vJ,u4,u4,vP];lia
 have hc:(ntOf vs ps n).nd (n+1) 0=2+(n+1) * vs.length:=rfl
 have hc2:(n+1) * vs.length<=24:=wB (Nat.mul_le_mul (show n+1<=6 by lia) v4) (by decide)
 have ar:=zl01 (n:=n) okv okp hw okw
 refine ze0 λ J hJ=>?_
 walk_at "dd"
 refine ⟨.inl ⟨by lia,by lia⟩,?_⟩
 rw [show (2:Int)+((n:Int)+1) * (vs.length:Int)=(((ntOf vs ps n).nd (n+1) 0:Nat):Int) by rw [hc];simp]
 refine ⟨(ntOf vs ps n).nd (n+1) 0,(ntOf vs ps n).arcs (csOf vs ws),0,1,.none,u7 ((ntOf vs ps n).arcs (csOf vs ws)).length 0,rfl,.inl ⟨rfl,rfl⟩,xF,by lia,by lia,λ a ha=>⟨(ar a ha).1,(ar a ha).2.1⟩,λ k a x h1 h2=>?_,by lia,by lia,by decide,λ L side b=>?_⟩
 ·rw [xB] at h2
  split at h2
  ·cases h2;exact ⟨by lia,(ar a (v8 h1)).2.2⟩
  ·cases h2
 walk_at "dd"
 have hbal:∀ v,v≠0->v≠1->L5.bal ((ntOf vs ps n).arcs (csOf vs ws)).length (zi5 ((ntOf vs ps n).arcs (csOf vs ws))) L v=0:=λ v h1 h2=>by rw [b.up.eqb v h1 h2];exact zhw v
 obtain ⟨f,fl,ef⟩:=Nt.best ok b hbal
 have full:=zw11 okv okp hw okw b fl ef
 have fits:=zf11 okp fl full
 have over:=zys (cs:=[]) fl (by lia)
 have edue:=zaz (ps:=ps) (n:=n) fl.t p5
 have lM:=ze8 (ps:=ps) (n:=n) fl.t
 have lF:=Nt.len (T:=ntOf vs ps n) fl.t
 have eG:=zi71 (vs:=vs) (ps:=ps) (n:=n) (f:=f)
 have eflow:(u3 ((ntOf vs ps n).arcs (csOf vs ws)).length).map (λ k=>u9 (lf L (2 * k+1)))=((ntOf vs ps n).flow f).map .int:=by rw [<- ef,wD];rfl
 have efill:((ntOf vs ps n).flow f).take vs.length=vs.map Va.fill:=by
  unfold Nt.flow
  rw [wC,List.take_append_of_le_length (by simp;exact u8 _)]
  have:(ntOf vs ps n).N=vs.length:=rfl
  rw [yP (by simp [this]),this]
  refine yV (by simp) λ j h1 h2=>?_
  simp at h1
  rw [x8,yW,full j h1,x8]
  show ((vs[j]?).map Va.fill).getD 0=_
  rw [u5 h1];rfl
 rw [eflow]
 show J [_,_,_,_,_,_,Sl.sh (.list ((zl2 vs ps n).map .int)),_,_,_,_,_,_,_,_]
 refine hJ _ ?_
 clear hJ b hbal ef eflow ar
 have hpl:=zlf ps n f.g (by lia) n
 refine ze0 λ J hJ=>?_
 walk_at "dd"
 refine ⟨_,rfl,?_⟩
 walk_at "dd"
 refine zrs (λ v=>.int v.fill) (by rw [sizeLine_eq];lia) (λ v hv=>?_) ?_
 ·unfold Va.d
  walk_at "cs"
  walk_at "dd"
  exact ⟨_,rfl,rfl⟩
 have ecut:L4.cutD (((ntOf vs ps n).flow f).map .int) none (some (vs.length:Int))=vs.map λ v=>.int v.fill:=by
  have e1:HT.sIx (((ntOf vs ps n).flow f).map u9).length (((ntOf vs ps n).flow f).map u9).length (some (vs.length:Int))=vs.length:=by
   have:vs.length<=((ntOf vs ps n).flow f).length:=by
    have:=congrArg y8 efill
    rw [wF,u4] at this;lia
   exact zuu (by rw [u4];exact this)
  have e0:HT.sIx (((ntOf vs ps n).flow f).map u9).length 0 none=0:=rfl
  unfold L4.cutD
  rw [e1,e0,List.drop_zero,Nat.sub_zero,<- List.map_take,efill,wD];rfl
 rw [ecut]
 have fl1:Fit 1 (.list (vs.map λ v=>u9 v.fill)):=zpq λ _ _=>Fit.int _
 rw [fl1.eqv]
 refine ⟨fl1.shaped (by decide),fl1.shaped (by decide),?_⟩
 rw [if_neg (by decide)]
 refine hJ _ ?_
 clear hJ ecut fl1
 walk_at "dn"
 refine ze0 λ J hJ=>?_
 walk_at "dd"
 rw [u4,lM,vI]
 unfold rngD
 have gM:∀ k,k < ((ntOf vs ps n).arcs (csOf vs ws)).length->atI ((zl2 vs ps n).map u9) (k:Int)=some (.int (mkA (zl2 vs ps n) k)):=λ k hk=>zk2 (by lia) (by rw [vI,u6];unfold mkA;rw [u5 (by lia)];rfl)
 have gF:∀ k,k < ((ntOf vs ps n).arcs (csOf vs ws)).length->atI (((ntOf vs ps n).flow f).map u9) (k:Int)=some (.int (fx ((ntOf vs ps n).flow f) k)):=λ k hk=>zk2 (by lia) (by rw [vI,u6];unfold fx;rw [u5 (by lia)];rfl)
 refine ⟨by lia,by lia,za2 (λ i U=>∃ (s10:Sl),U=[.sh (.list (ns.map .int)),.sh (.tuple [.list (vs.map Va.d),.list (ps.map Pi.d)]),.sh (.int (vs.length:Int)),.sh (.list (ws.map .int)),.sh (.int (n:Int)),.sh (.list (((ntOf vs ps n).arcs (csOf vs ws)).map dAr)),.sh (.list ((zl2 vs ps n).map .int)),.sh (.list (((ntOf vs ps n).flow f).map .int)),.sh (.list (side.map nI)),.ow (.li ((dueL (zl2 vs ps n) ((ntOf vs ps n).flow f) i).map Le.d)),s10,.un,.un,.un,.un]) ⟨.un,rfl⟩ ?_ ?_⟩
 ·rintro i x U hx ⟨s10,rfl⟩
  obtain ⟨hi,hi2⟩:=vW.mp hx
  simp at hi hi2
  subst hi2
  rw [show (0:Int)+(i:Int)=(i:Int) by lia,zos]
  have hdl:=zqx (zl2 vs ps n) ((ntOf vs ps n).flow f) i
  have gm:=gM i hi
  have gf:=gF i hi
  unfold dueF
  generalize mkA (zl2 vs ps n) i=c at gm
  generalize fx ((ntOf vs ps n).flow f) i=x at gf
  walk_at "dd"
  refine ⟨_,gm,?_⟩
  walk_at "dd"
  refine two (λ a1=>?_) λ a1=>⟨.sh (.int (i:Int)),by rw [if_neg λ y=>a1 y.1];simp⟩
  refine ⟨_,gf,?_⟩
  walk_at "dd"
  refine two (λ a2=>?_) λ a2=>⟨.sh (.int (i:Int)),by rw [if_neg λ y=>a2 y.2];simp⟩
  refine ⟨_,gm,?_⟩
  walk_at "dd"
  refine ⟨_,gm,?_⟩
  walk_at "dd"
  refine ⟨_,gf,by rw [u4];lia,.sh (.int (i:Int)),?_⟩
  rw [if_pos ⟨a1,a2⟩,vX]
  show _=[_,_,_,_,_,_,_,_,_,Sl.ow (.li (wW Le.d _++[.tuple [.int (((c / 24).toNat:Nat):Int),.int (((c % 24).toNat:Nat):Int),.int x]])),_,_,_,_,_]
  rw [show (((c / 24).toNat:Nat):Int)=c / 24 by lia,show (((c % 24).toNat:Nat):Int)=c % 24 by lia]
 rintro U ⟨s10,rfl⟩
 rw [vP,edue]
 refine hJ _ ?_
 clear hJ gM gF edue
 refine ze0 λ J hJ=>?_
 walk_at "dd"
 refine ⟨_,rfl,?_⟩
 walk_at "dd"
 refine ⟨_,rfl,?_⟩
 walk_at "dd"
 refine ⟨vs,ps,n,(u3 vs.length).map f.a,f.t.flatMap λ t=>(u3 vs.length).map t,λ m=>(u3 vs.length).map (f.r m),f.g,by rw [eG],by lia,by lia,by lia,by simp,λ m _=>by simp,hJ _ ?_⟩
 clear hJ
 have hlp:(zvc ps n f.g n).length<=1000:=by lia
 have hlt:∀ l∈zvc ps n f.g n,l.t < n:=λ l hl=>(zhm hl).1
 have hout:∀ x,outS ps (zvc ps n f.g n) n x=0:=λ x=>by rw [zcc fl];exact zgc1
 have hin0:∀ x,inS ps (zvc ps n f.g n) 0 x=0:=λ x=>by rw [zqm fl];exact inn0 ok x
 generalize zvc ps n f.g n=L0 at fits hlp hlt hout hin0
 have fl2:Fit 2 (.list (L0.map Le.d)):=zpq λ l _=>by
  show Fit 1 (.tuple [.int (l.t:Int),.int (l.at_:Int),.int l.am])
  refine Fit.tup λ d hd=>?_
  simp at hd
  rcases hd with z|z|z <;> subst z <;> exact Fit.int _
 refine ze0 λ J hJ=>?_
 walk_at "dd"
 rw [fl2.eqv]
 refine ⟨λ _=>trivial,fl2.shaped (by decide),fl2.shaped (by decide),?_⟩
 rw [if_neg (by decide)]
 refine hJ _ ?_
 clear hJ fl2
 refine ze0 λ J hJ=>?_
 walk_at "dd"
 refine ⟨_,_,rfl,rfl,?_⟩
 refine ⟨vs,ps,ws,n,f,rfl,by lia,by lia,by lia,by lia,okp,fl.t,hJ _ ?_⟩
 clear hJ
 have er:=fits.rl
 have rr:=fits.rr
 have hplay:=fits.plays (vs.map Va.room) over n 0 ⟨vs.map Va.fill,u7 ps.length 0,[]⟩ (by lia) rfl fits.c0 rfl (λ k d e=>by simp [getA] at e) (λ t i _ _=>by
  have:cmB ps L0 0 t i=0:=zru λ l _=>if_neg λ y=>by have:=y.1;lia
  rw [this];rfl) hout
 generalize znn vs.length n f=rows at fits over er rr hplay
 refine ze0 λ J hJ=>?_
 walk_at "dd"
 refine ⟨_,rfl,?_⟩
 walk_at "dd"
 refine zrs (λ v=>.int v.fill) (by rw [sizeLine_eq];lia) (λ v hv=>?_) (hJ _ ?_)
 ·unfold Va.d
  walk_at "cs"
  walk_at "dd"
  exact ⟨_,rfl,rfl⟩
 clear hJ
 refine ze0 λ J hJ=>?_
 walk_at "dd"
 rw [show ((n:Int)+1).toNat=n+1 by lia]
 unfold rngD
 have gR:∀ k,k<=n->atI (rows.map λ r=>xJ (r.map u9)) (k:Int)=some (.list ((rows.getD k []).map .int)):=λ k hk=>zk2 (by lia) (by rw [vI,u6,vL,u5 (by lia)];rfl)
 unfold dRs
 refine ⟨by lia,by lia,za2 (λ i U=>∃ (s14:Sl),U=[.sh (.list (ns.map .int)),.sh (.tuple [.list (vs.map Va.d),.list (ps.map Pi.d)]),.sh (.int (vs.length:Int)),.sh (.list (ws.map .int)),.sh (.int (n:Int)),.sh (.list (((ntOf vs ps n).arcs (csOf vs ws)).map dAr)),.sh (.list ((zl2 vs ps n).map .int)),.sh (.list (((ntOf vs ps n).flow f).map .int)),.sh (.list (side.map nI)),.sh (.list (L0.map Le.d)),s10,.sh (.list (L0.map Le.d)),.sh (.list (rows.map λ r=>.list (r.map .int))),.ow (.li ((if i=0 then vs.map Va.fill else rows.getD (i - 1) []).map .int)),s14]) ⟨.un,by rw [if_pos rfl,wD];rfl⟩ ?_ ?_⟩
 ·rintro i x U hx ⟨s14,rfl⟩
  obtain ⟨hi,hi2⟩:=vW.mp hx
  simp at hi hi2
  subst hi2
  rw [show (0:Int)+(i:Int)=(i:Int) by lia]
  have hm:rows.getD i []∈rows:=by rw [vL,u5 (by lia)];exact w6 _
  have fr:Fit 1 (.list ((rows.getD i []).map u9)):=zeq _
  have gr:=gR i (by lia)
  have hcap:∀ j,j < ps.length->byS L0 i j<=zq5 ps j i:=λ j hj=>by
   by_cases z:i < n
   ·exact fits.cap i j z hj
   ·have:byS L0 i j=0:=zru λ l hl=>if_neg λ y=>by have:=hlt l hl;lia
    rw [this]
    unfold zq5;rw [u5 hj]
    exact (okp _ (w6 hj)).2.2.2.2.2 i
  walk_at "dd"
  refine ⟨vs,ps,n,L0,rows,i,if i=0 then vs.map Va.fill else rows.getD (i - 1) [],rfl,fits,by lia,by lia,okp,hlp,by lia,hn,hcap,?_,λ x=>?_,over _ hm,?_⟩
  ·split
   ·simp
   ·rw [(fits.row (m:=i - 1) (by lia)).1];simp
  ·by_cases z:i=0
   ·subst z
    rw [if_pos rfl,hin0]
    have:=fits.c0 x
    lia
   ·rw [if_neg z]
    have:=fits.c1 (i - 1) (by lia) x
    rw [show i - 1+1=i by lia] at this
    exact this
  walk_at "dd"
  refine ⟨true,rfl,?_⟩
  rw [if_neg (by decide)]
  refine ⟨_,gr,fr.shaped (by decide),fr.shaped (by decide),?_⟩
  rw [fr.eqv,if_neg (by decide)]
  exact ⟨.sh (.int (i:Int)),rfl⟩
 rintro U ⟨s14,rfl⟩
 refine hJ _ ?_
 clear hJ
 walk_at "dd"
 refine ⟨vs,ps,L0,n,rfl,by lia,by lia,by lia,hlp,hlt,λ p hp=>⟨(okp p hp).1,(okp p hp).2.1,(okp p hp).2.2.2.2.1⟩,?_⟩
 rw [List.range_eq_range']
 refine zum (λ r hr=>?_) _ _ _ _ hplay
 subst hr
 have frr:Fit 2 (.list (r.map dRow)):=zpq λ x _=>zeq x
 refine ⟨frr.shaped (by decide),frr.shaped (by decide),?_⟩
 show Qd (.bool ((xJ (r.map dRow)).eqv (.list (r.map dRow))))
 rw [frr.eqv]
 exact q
end
theorem all_mk {l:PySem.W.OpenLaw} {w:World} {K:Fg} {h:Heap} {mg:Str->Option Value} {fa:Addr} {jB jC jF jD jA:Addr} (X:K.In h) (G:h.Ns mainGlobals mg) (hfa:mg "law"=some (.ref fa))
  (jH:TopCls K "Play" jB)
  (kE:TopCls K "Steady" jC)
  (kU:TopCls K "Late" jF)
  (kB:TopCls K "Tidal" jD)
  (jE:TopCls K "Stream" jA)
  (jY:PySem.W.findIn K (.ref jB) "rooms"=some none)
  (jI:PySem.W.findIn K (.ref jB) "lying"=some none)
  (jM:PySem.W.findIn K (.ref jB) "moment"=some none)
  (jO:PySem.W.findIn K (.ref jB) "entered"=some none)
  (jN:PySem.W.findIn K (.ref jB) "pipes"=some none)
  (jQ:PySem.W.findIn K (.ref jB) "coming"=some none)
  (jT:PySem.W.findIn K (.ref jC) "wide"=some none)
  (kA:PySem.W.findIn K (.ref jF) "wide"=some none)
  (jV:PySem.W.findIn K (.ref jF) "since"=some none)
  (jW:PySem.W.findIn K (.ref jD) "wide"=some none)
  (jU:PySem.W.findIn K (.ref jD) "other"=some none)
  (jX:PySem.W.findIn K (.ref jD) "turn"=some none)
  (jZ:PySem.W.findIn K (.ref jB) "gates"=some none)
  (jP:PySem.W.findIn K (.ref jA) "steps"=some none)
  (jL:PySem.W.findIn K (.ref jA) "ends"=some none)
  (jG:PySem.W.findIn K (.ref jA) "left"=some none)
  (uG:TopMeth K jB "full" "Play.full" zb6)
  (qP:TopDef K "refuse_full" zt5)
  (qU:TopDef K "by_moments" zf4)
  (qV:TopMeth K jB "go_on" "Play.go_on" za7)
  (qW:TopMeth K jB "holds" "Play.holds" zb7)
  (kM:TopMeth K jC "width_at" "Steady.width_at" zs2)
  (qE:TopMeth K jF "width_at" "Late.width_at" zr3)
  (kY:TopMeth K jD "width_at" "Tidal.width_at" zj3)
  (qM:TopMeth K jB "room_in" "Play.room_in" zg4)
  (uP:TopMeth K jB "let" "Play.let" zdb)
  (kZ:TopMeth K jD "__init__" "Tidal.__init__" zf3)
  (kO:TopMeth K jC "__init__" "Steady.__init__" zo2)
  (qF:TopMeth K jF "__init__" "Late.__init__" zv3)
  (uW:TopDef K "gate_of" zsg)
  (qG:TopMeth K jB "__init__" "Play.__init__" zn1)
  (vB:TopDef K "played" zlk)
  (uQ:TopDef K "pipes_by" zc8)
  (uX:TopDef K "plan_of" zsf)
  (kH:TopMeth K jA "row_behind" "Stream.row_behind" ze2)
  (qH:TopMeth K jA "levels" "Stream.levels" zq3)
  (qA:TopMeth K jA "step_up" "Stream.step_up" zd3)
  (qI:TopMeth K jA "way_up" "Stream.way_up" zx3)
  (qN:TopMeth K jA "carry" "Stream.carry" zy2)
  (qB:TopMeth K jA "push_up" "Stream.push_up" zd2)
  (qC:TopMeth K jA "amounts" "Stream.amounts" zb3)
  (kQ:TopMeth K jA "__init__" "Stream.__init__" zx1)
  (uR:TopDefN K "greatest" zdc)
  (uH:TopDef K "_law_draw" zp8)
  (uS:TopDef K "_law_sum" zqc)
  (uI:TopDef K "_law_pipe" zm8)
  (uJ:TopDef K "_law_yard" zc6)
  (qX:TopDef K "_law_wants" zf7)
  (qY:TopDef K "_law_width" zd7)
  (uK:TopDef K "_law_arcs" zz2)
  (uL:TopDef K "_law_lies" zz5)
  (qQ:TopDef K "_law_moment" zn2)
  (vH:TopDef K "law" zfy)
  (jR:PySem.W.nsIn K mainGlobals "enumerate"=some none)
  (kL:PySem.W.nsIn K mainGlobals "isinstance"=some none)
  (jS:PySem.W.nsIn K mainGlobals "len"=some none)
  (kD:PySem.W.nsIn K mainGlobals "list"=some none)
  (vD:PySem.W.nsIn K mainGlobals "min"=some none)
  (jJ:PySem.W.nsIn K mainGlobals "range"=some none)
  (qZ:PySem.W.nsIn K mainGlobals "sorted"=some none)
  (vE:PySem.W.nsIn K mainGlobals "sum"=some none) (kt:Kit K)
 :∃ fd:FuncData,(∀ (s:Shared) (v:Value),BindsTo s fd ⟨[v],[]⟩ [("script",v)])/\∀ base:Heap,K.In base->base.Ns mainGlobals mg->FnOk l.prog w K mg base CX0 7 fa fd ["script"] (zw41 K):=by
 have M:Md K mg:=⟨⟨h,X,G⟩⟩
 refine zpc1 M vH hfa za31 (λ _ _ _ _ _ _ us hl=>by obtain ⟨_,rfl⟩:=ar1 hl;rfl) λ base kb nb=>?_
 have uA:=zxj (P:=l.prog) (w:=w) (K:=K) (mg:=mg) (base:=base) (jF:=jF) (jB:=jB) (jC:=jC) (jD:=jD) jH.cls uG (M.not jR) jY jI
 have kC:=zcg (P:=l.prog) (w:=w) (K:=K) (mg:=mg) (base:=base) (jF:=jF) (jB:=jB) (jC:=jC) (jD:=jD) M qP jH.cls uA
 have qR:=zwi (P:=l.prog) (w:=w) (K:=K) (mg:=mg) (base:=base) M qU (M.not jJ)
 have qS:=zfh (P:=l.prog) (w:=w) (K:=K) (mg:=mg) (base:=base) (jF:=jF) (jB:=jB) (jC:=jC) (jD:=jD) jH.cls qV (M.not jR) (M.not jS) kC jM jO jN jI jQ
 have qJ:=zyh (P:=l.prog) (w:=w) (K:=K) (mg:=mg) (base:=base) (jF:=jF) (jB:=jB) (jC:=jC) (jD:=jD) jH.cls qW (M.not kD) jI
 have kK:=zv8 (P:=l.prog) (w:=w) (K:=K) (mg:=mg) (base:=base) kE.cls kM jT
 have qD:=zoc (P:=l.prog) (w:=w) (K:=K) (mg:=mg) (base:=base) kU.cls qE kA jV
 have kW:=zv9 (P:=l.prog) (w:=w) (K:=K) (mg:=mg) (base:=base) kB.cls kY jW jU jX
 have qL:=zid (P:=l.prog) (w:=w) (K:=K) (mg:=mg) (base:=base) (jF:=jF) (jB:=jB) (jC:=jC) (jD:=jD) jH.cls qM (M.not jS) kU.cls kE.cls kB.cls jM jO jN jZ kK qD kW
 have uM:=zin (P:=l.prog) (w:=w) (K:=K) (mg:=mg) (base:=base) (jF:=jF) (jB:=jB) (jC:=jC) (jD:=jD) jH.cls uP jO jI jQ jN jM qL
 have vC:=zp9 (P:=l.prog) (w:=w) (K:=K) (mg:=mg) (base:=base) M kB kZ jW jU jX
 have uZ:=zn8 (P:=l.prog) (w:=w) (K:=K) (mg:=mg) (base:=base) M kE kO jT
 have vF:=zob (P:=l.prog) (w:=w) (K:=K) (mg:=mg) (base:=base) M kU qF kA jV
 have uU:=zup (P:=l.prog) (w:=w) (K:=K) (mg:=mg) (base:=base) (jF:=jF) (jC:=jC) (jD:=jD) M uW vC uZ vF
 have vG:=zva (P:=l.prog) (w:=w) (K:=K) (mg:=mg) (base:=base) (jF:=jF) (jB:=jB) (jC:=jC) (jD:=jD) M jH qG (M.not jS) (M.not kD) uU jY jI jN jZ jM jO jQ
 have vA:=zss (P:=l.prog) (w:=w) (K:=K) (mg:=mg) (base:=base) M vB kC qR jH.cls qS qJ uM vG
 have uN:=zjn (P:=l.prog) (w:=w) (K:=K) (mg:=mg) (base:=base) M uQ (M.not jR)
 have uV:=zmq (P:=l.prog) (w:=w) (K:=K) (mg:=mg) (base:=base) M uX (M.not jS) (M.not jJ) uN
 have kG:=zc7 (P:=l.prog) (w:=w) (K:=K) (mg:=mg) (base:=base) jE.cls kH jP jL jG
 have kJ:=zka (P:=l.prog) (w:=w) (K:=K) (mg:=mg) (base:=base) jE.cls qH kG
 have kR:=zu9 (P:=l.prog) (w:=w) (K:=K) (mg:=mg) (base:=base) jE.cls qA (M.not jS) jG jL
 have kI:=zgb (P:=l.prog) (w:=w) (K:=K) (mg:=mg) (base:=base) jE.cls qI jL kR
 have qK:=zld (P:=l.prog) (w:=w) (K:=K) (mg:=mg) (base:=base) jE.cls qN (M.not vD) jG
 have kS:=zy9 (P:=l.prog) (w:=w) (K:=K) (mg:=mg) (base:=base) jE.cls qB (M.not kD) jP kI qK
 have kT:=zo9 (P:=l.prog) (w:=w) (K:=K) (mg:=mg) (base:=base) jE.cls qC jG
 have uY:=zw8 (P:=l.prog) (w:=w) (K:=K) (mg:=mg) (base:=base) M jE kQ (M.not jR) (M.not jJ) jL jG jP
 have uO:=zkn (P:=l.prog) (w:=w) (K:=K) (mg:=mg) (base:=base) M uR (M.not jS) (M.not qZ) jE.cls kJ kS kT uY
 have jK:=zpl (P:=l.prog) (w:=w) (K:=K) (mg:=mg) (base:=base) M uH (M.not jS)
 have kX:=zun (P:=l.prog) (w:=w) (K:=K) (mg:=mg) (base:=base) M uS (M.not vE) jK
 have uB:=zgl (P:=l.prog) (w:=w) (K:=K) (mg:=mg) (base:=base) M uI jK kX
 have uD:=zik (P:=l.prog) (w:=w) (K:=K) (mg:=mg) (base:=base) M uJ (M.not jJ) jK kX uB
 have qT:=zph (P:=l.prog) (w:=w) (K:=K) (mg:=mg) (base:=base) M qX (M.not jS) (M.not jJ) jK
 have kF:=zni (P:=l.prog) (w:=w) (K:=K) (mg:=mg) (base:=base) M qY
 have uE:=zql (P:=l.prog) (w:=w) (K:=K) (mg:=mg) (base:=base) M uK (M.not jS) (M.not jJ) kF
 have uF:=zhk (P:=l.prog) (w:=w) (K:=K) (mg:=mg) (base:=base) M uL (M.not jS) (M.not jJ)
 have qO:=zpf (P:=l.prog) (w:=w) (K:=K) (mg:=mg) (base:=base) M qQ (M.not jS) (M.not jJ) kF
 exact zfx kt (M.not kL) (M.not jS) (M.not kD) (M.not jJ) vA uV uO jK uD qT uE uF qO
end K25
namespace PySem.W.Fast
def tw15312139389850873372:=0
def tw12377794523348517416:=0
def tw5788248133990729932:=0
def tw1344124319399522399:=0
def tw16320926516404171899:=0
def tw14393572587022795949:=0
def tw17226519751790663611:=0
def tw5091722751415824937:=0
def tw809449038667136995:=0
def tw6191637830549513230:=0
def tw13338384370235638194:=0
def tw5049519468515224116:=0
def tw8108273029895710233:=0
def tw5923457835494918795:=0
def tw14775575975056909958:=0
def tw4106684705466835143:=0
def tw2878345989925983637:=0
def tw14016541321203163261:=0
def tw11891744614190117693:=0
def tw9152754245288000822:=0
def tw6250651418559124956:=0
def tw7827928567319445065:=0
def tw4661073055988240622:=0
def tw2733385856570800120:=0
def tw18167653633127357576:=0
def tw17787418074263719976:=0
def tw11948491777503633942:=0
def tw14222023400259329285:=0
def tw8480679900401454764:=0
def tw18366389110047602863:=0
def tw3301993902948735549:=0
def tw13055786901019167940:=0
def tw9091728776178334129:=0
def tw14720853585056847760:=0
def tw12412605226846802742:=0
def tw16677547526999676280:=0
def tw17865859054822129702:=0
def tw11361686803014323208:=0
def tw398150757942417369:=0
def tw4344111024243039928:=0
def tw14365493198711882876:=0
def tw16966523721731471531:=0
def tw733049231750743653:=0
def tw5178267099713354484:=0
def tw6091147343800611135:=0
def tw8381983499951146726:=0
def tw323357323859960028:=0
def tw8946673256843478592:=0
def tw9547209373264188554:=0
def tw646564704432792420:=0
def tw13488925744219624387:=0
def tw3713336216112518829:=0
def tw8212973527777829538:=0
def tw3547096021022045409:=0
def tw9090624531980774296:=0
def tw5633037423465210658:=0
def tw8324687398360803835:=0
def tw5121840167730475601:=0
def tw16441201821008376458:=0
def tw3822439716374692159:=0
def tw463449757331514869:=0
def tw15364293263183081594:=0
def tw2474868767467736962:=0
def tw18411536158688762789:=0
def tw1323569231793169116:=0
def tw13415649696187085425:=0
def tw8011238878951220607:=0
def tw11566746810663007715:=0
def tw14496001903267299187:=0
def tw14319987365691733154:=0
def tw11070867890830688637:=0
def tw7474041876527047658:=0
def tw13719937043591426461:=0
def tw6993605680887538381:=0
def tw10526518905822740817:=0
def tw7365774767616062694:=0
def tw16752965004072463366:=0
def tw1404652008900489482:=0
def tw14387613659579177627:=0
def tw14759040940197897724:=0
def tw725707892879622459:=0
def tw9856291063908696776:=0
def tw14602278029406964189:=0
def tw3107434580551724477:=0
def tw14641184034616011865:=0
def tw3903045865713092292:=0
def tw4510728625395957246:=0
def tw10529931065933959627:=0
def tw18276164781709970381:=0
def tw10380082062484419033:=0
def tw11434128475009751915:=0
def tw311575536088368776:=0
def tw691526302674179221:=0
def tw14551900840500171311:=0
def tw16558562347778363034:=0
def tw2084287942206487371:=0
def tw17449608722123374156:=0
def tw16078543652691590293:=0
def tw17565238637824575418:=0
def tw12317506706195730336:=0
def tw12519355437974094988:=0
def tw1421048349405359829:=0
def tw7152848686449718047:=0
def tw249445811626740598:=0
def tw17569802379637105491:=0
def tw5263688593315922193:=0
def tw807971821694807397:=0
def tw15345290170699106477:=0
def tw5970992374097321574:=0
def tw10359664281615609816:=0
def tw12353184897058410730:=0
def tw967700314688177140:=0
def tw11015492959093388096:=0
def tw12130125424065593980:=0
def tw5147259863884805760:=0
def tw14860873352426164659:=0
def tw8939940567836044939:=0
def tw12489727452539738301:=0
def tw14015676545523450557:=0
def tw10944218567285285886:=0
def tw3917000842117136794:=0
def tw1048086588719765415:=0
def tw7389819599355911387:=0
def tw8599833366897149125:=0
def tw15921019903649314683:=0
def tw16714725172006897511:=0
def tw8357034459174212354:=0
def tw12259991778088097793:=0
def tw13219479949967490161:=0
def tw17056220248558198254:=0
def tw18094967171218960792:=0
def tw6380477054300808935:=0
def tw17700337841629450374:=0
def tw5382514161815963599:=0
def tw14916195377870915223:=0
def tw6246840839594150205:=0
def tw15105430728199665116:=0
def tw6853304046493839880:=0
def tw4732134983762074436:=0
def tw12202997907857272412:=0
def tw6070950944033608846:=0
def tw1443001514113459691:=0
def tw11138894436378513608:=0
def tw9244208484756611656:=0
def tw17481016040412173636:=0
def tw966935938715451867:=0
def tw5520270439655234641:=0
def tw5845041529356834094:=0
def tw1471686388900280154:=0
def tw18286671506187530316:=0
def tw5024496398313575892:=0
def tw16735303680793194444:=0
def tw11234090107166168723:=0
def tw8707355540232821541:=0
def tw5064502328313408388:=0
def tw6068182252278037919:=0
def tw16009240094814871182:=0
def tw9613082529583313265:=0
def tw2875574924098282993:=0
def tw293089580012164529:=0
def tw14179758672191757303:=0
def tw10798021127745394745:=0
def tw13874980000871490961:=0
def tw8965054054157730383:=0
def tw18124111427176611664:=0
def tw9606022243528396178:=0
def tw126967410165132669:=0
def tw2624931895931284821:=0
def tw17275760245437536830:=0
def tw16421529398484954577:=0
def tw2730816110135647517:=0
def tw2519858534529562020:=0
def tw8008389563859075989:=0
def tw17762417672282653344:=0
def tw15471163606880322541:=0
def tw13223345230898086602:=0
def tw1329021742502511813:=0
def tw5697059977620079289:=0
def tw5677452164369995408:=0
def tw16310101541958395814:=0
def tw11193230908930741271:=0
def tw16315389201811728907:=0
def tw14381921887795789629:=0
def tw4494922013589009765:=0
def tw4416914605477402683:=0
def tw17596657182296923549:=0
def tw6258414079552565787:=0
def tw14676421754045335825:=0
def tw7464528163731649770:=0
def tw7336750219165277594:=0
def tw16775289503744444748:=0
def tw13478519220584553884:=0
def tw5926795920999645119:=0
def tw16182369850876652568:=0
def tw5565226236204564234:=0
def tw11508859203444907707:=0
def tw11804251809701200077:=0
def tw15965960655274043032:=0
def tw1590773250591343125:=0
def tw10609645130877749421:=0
def tw1494071001711548924:=0
def tw10889328632474692870:=0
def tw11802436590106114165:=0
def tw6781655106632618357:=0
def tw1146730563143036391:=0
def tw1011848320176389923:=0
def tw17102157695814552090:=0
def tw1731510303261488047:=0
def tw10666831049293589449:=0
def tw8614470149087389133:=0
def tw1644340142644688134:=0
def tw8733171065225312602:=0
def tw1297912823772282304:=0
def tw7352119649574919310:=0
def tw9779871652904564655:=0
def tw5918302268671623330:=0
def tw2516881879277152358:=0
def tw15174398858823267645:=0
def tw16454778693975418611:=0
def tw6581196157252575187:=0
def tw4296370023541586466:=0
def tw18197405442172766016:=0
def tw14171585480367470874:=0
def tw13029431041640700293:=0
def tw13859747460663426968:=0
def tw5643298998124198754:=0
def tw13022972754444598767:=0
def tw1913479990544298449:=0
def tw5010991737859254539:=0
def tw1079673993779273866:=0
def tw8850103545794300086:=0
def tw15956881796944981909:=0
def tw2987425437219313508:=0
def tw11635024862372353443:=0
def tw18047594959180962657:=0
def tw7483468222269424889:=0
def tw4213945369119589520:=0
def tw18438265146379042092:=0
def tw12797926443836715845:=0
def tw11406871055998845032:=0
def tw8179808408587767312:=0
def tw12312876358626408333:=0
def tw5835922619847019232:=0
def tw13330317780663560361:=0
def tw8831412762367153233:=0
def tw2997731517232727444:=0
def tw809589276908215207:=0
def tw2241430322695979668:=0
def tw8652878642500815499:=0
def tw6705421575864214440:=0
def tw5207546454485232331:=0
def tw15669781329227033513:=0
def tw8877011325551065776:=0
def tw12844034064316943904:=0
def tw468779763707931549:=0
def tw17163390591226744264:=0
def tw9042517543084539212:=0
def tw11454547648826953611:=0
def tw17217977666768291646:=0
def tw17010572669845846756:=0
def tw7881207920226096092:=0
def tw2500344268473188861:=0
def tw15936695901349658462:=0
def tw16606456112236465227:=0
def tw5395492741206445088:=0
def tw12456027480698218593:=0
def tw16335065353001830717:=0
def tw4872107370334102029:=0
def tw16779871763095238084:=0
def tw6788888376297530117:=0
def tw4221401276760125660:=0
def tw9099875538753707356:=0
def tw8371374509289096021:=0
def tw14361539003612954065:=0
def tw3513063790641325176:=0
def tw5227469821523944596:=0
def tw8696154669579617334:=0
def tw12750052581806562595:=0
def tw10260540270474918952:=0
def tw12825939447904100018:=0
def tw8770625382796010642:=0
def tw2262937416036741817:=0
def tw12715133422140340195:=0
def tw10656025201130378617:=0
def tw6122104643446581129:=0
def tw6463318282641601206:=0
def tw8276118909592974076:=0
def tw9971710285684266338:=0
def tw15832197354665935518:=0
def tw8167331657878918110:=0
def tw1495348907073180603:=0
def tw5626262987059932324:=0
def tw3721156898519212379:=0
def tw16702213786671904226:=0
def tw18409354034679843233:=0
def tw17261394880749458262:=0
def tw1056158495941585922:=0
def tw6436149194284063295:=0
def tw18138063633070943315:=0
def tw12628748466434569527:=0
def tw429095200772710855:=0
def tw10650285590577913557:=0
def tw8936006769095904413:=0
def tw866711023596485898:=0
def tw3728822122380005457:=0
def tw388204650714270511:=0
def tw2626317314559031992:=0
def tw1690719858959999812:=0
def tw8744824748046511899:=0
def tw12636848087791664552:=0
def tw7415337522107806304:=0
def tw16180184918408530076:=0
def tw3084726897238944578:=0
def tw4377404655653580783:=0
def tw15056056118246505295:=0
def tw1565721527133717739:=0
def tw14499570377229949557:=0
def tw3736976982420414918:=0
def tw10102070230517453303:=0
def tw3182826968475511485:=0
def tw12945316523529139655:=0
def tw16941223915263707252:=0
def tw12728737968726315373:=0
def tw2158677285896700018:=0
def tw6326805432198807771:=0
def tw5019738727265478742:=0
def tw9261174004836676287:=0
def tw18104595740889504297:=0
def tw9025057521802803986:=0
def tw8162351018203253044:=0
def tw7021476422150822473:=0
def tw11882535556281506237:=0
def tw11655179633475869151:=0
def tw15008826350161627416:=0
def tw3460142046103951311:=0
def tw7212624408733911032:=0
def tw10820468732675888324:=0
def tw17754240261644551651:=0
def tw11237154494611576686:=0
def tw2326996133687229652:=0
def tw4247326124383486978:=0
def tw1118219590265713524:=0
def tw5396335660821605753:=0
def tw1014406926434719312:=0
def tw9118199859982026315:=0
def tw1852935758765213025:=0
def tw11620331042781146656:=0
def tw12806708290734980716:=0
def tw13425945527289097208:=0
def tw8106021700644997434:=0
def tw2771347657141081141:=0
def tw1496242104087204324:=0
def tw17821318966215286000:=0
def tw10265752750819627019:=0
def tw17037674308988185960:=0
def tw13384867484545310441:=0
def tw9860817209492866970:=0
def tw3594081503125115295:=0
def tw16538996275731354627:=0
def tw8972852536982128053:=0
def tw11889822834640660756:=0
def tw17214078164535738738:=0
def tw10984131638803097021:=0
def tw13649956168039475239:=0
def tw8149164065165679498:=0
def tw315453488438862320:=0
def tw5976117008497316944:=0
def tw8446681432474151658:=0
def tw15161453231100561830:=0
def tw8476176318648374210:=0
def tw7002341703078870501:=0
def tw6070017509727650734:=0
def tw886154115849278010:=0
def tw718191621179241827:=0
def tw2874124025190704560:=0
def tw13526279597941422701:=0
def tw1826956083434217164:=0
def tw5452432899831914476:=0
def tw14093921699381841795:=0
def tw12094330854256202308:=0
def tw11184761463763296230:=0
def tw12869754516701168520:=0
def tw11925995064289686621:=0
def tw5114705430783479028:=0
def tw13532818032839221677:=0
def tw12920948240087442408:=0
def tw4366791899150964006:=0
def tw9339759905816430048:=0
def tw6624706183738226184:=0
def tw9561183968556018182:=0
def tw3429999101340092190:=0
def tw5271992503183376404:=0
def tw2620270796647155880:=0
def tw8304967830249457164:=0
def tw6982887230934146728:=0
def tw16206912487605655198:=0
def tw16263516131402717009:=0
def tw1100665300164197972:=0
def tw3566345013807462243:=0
def tw8973500823386503877:=0
def tw10359463091990647108:=0
def tw14859619905570854488:=0
def tw12781455182998412695:=0
def tw14466109887833674321:=0
def tw1291982423579241408:=0
def tw5044830831143041971:=0
def tw16289401166684988175:=0
def tw2305957480015192445:=0
def tw8127197640313211911:=0
def tw9204741544035745487:=0
def tw11733885118475094871:=0
def tw11179501507549941:=0
def tw8525006388819109123:=0
def tw14360473584070108491:=0
def tw12732617345427497166:=0
def tw11175182490539726730:=0
def tw16795860940150265534:=0
def tw4893321837797896029:=0
def tw6842201053051688029:=0
def tw1949340400535140189:=0
def tw6568533605055424342:=0
def tw7711092888665233214:=0
def tw18419688484318206078:=0
def tw6225299585256983947:=0
def tw2332675667070702260:=0
def tw15867710857236209308:=0
def tw8904179323778513001:=0
def tw9080183226265417516:=0
def tw7316297421445718475:=0
def tw11370005753044829122:=0
def tw12973397427669884136:=0
def tw4820661741145797951:=0
def tw11823877417512392093:=0
def tw9163501341277830629:=0
end PySem.W.Fast
open PySem PySem.W PyProof.Rows L3 L4
set_option maxRecDepth 100000 in
set_option maxHeartbeats 0 in
theorem PySem.Challenge.cw_vatyard_k25_a_greatest_flow_is_played_holds : PySem.Challenge.rw_vatyard_k25_a_greatest_flow_is_played.Holds := by
  w_on; o_law; k_head; (case hw => w_witness2)
  k_fill
  refine L3.law_walk (k := 7) (l := PySem.Challenge.rw_vatyard_k25_a_greatest_flow_is_played) ⟨rfl, by decide, rfl, by decide⟩ rfl rfl (fun w h Yv => PySem.W.kIn_of Yv) ?F
  case F =>
    intro w mg fa h KX G hmg
    refine' K25.all_mk KX G hmg ?jH ?kE ?kU ?kB ?jE ?jY ?jI ?jM ?jO ?jN ?jQ ?jT ?kA ?jV ?jW ?jU ?jX ?jZ ?jP ?jL ?jG ?uG ?qP ?qU ?qV ?qW ?kM ?qE ?kY ?qM ?uP ?kZ ?kO ?qF ?uW ?qG ?vB ?uQ ?uX ?kH ?qH ?qA ?qI ?qN ?qB ?qC ?kQ ?uR ?uH ?uS ?uI ?uJ ?qX ?qY ?uK ?uL ?qQ ?vH ?jR ?kL ?jS ?kD ?vD ?jJ ?qZ ?vE ?kt
    (case jH => (refine' zvs ?a56 ?pg56 ?hd56 ?po56 ?sa56 ?mk56 ?kc56;(case a56=>k_is);(case pg56=>k_is);(case hd56=>k_is);(case po56=>k_is);(case sa56=>k_is);(case mk56=>k_is);(case kc56=>k_is)))
    (case kE => (refine' zvs ?a57 ?pg57 ?hd57 ?po57 ?sa57 ?mk57 ?kc57;(case a57=>k_is);(case pg57=>k_is);(case hd57=>k_is);(case po57=>k_is);(case sa57=>k_is);(case mk57=>k_is);(case kc57=>k_is)))
    (case kU => (refine' zvs ?a58 ?pg58 ?hd58 ?po58 ?sa58 ?mk58 ?kc58;(case a58=>k_is);(case pg58=>k_is);(case hd58=>k_is);(case po58=>k_is);(case sa58=>k_is);(case mk58=>k_is);(case kc58=>k_is)))
    (case kB => (refine' zvs ?a59 ?pg59 ?hd59 ?po59 ?sa59 ?mk59 ?kc59;(case a59=>k_is);(case pg59=>k_is);(case hd59=>k_is);(case po59=>k_is);(case sa59=>k_is);(case mk59=>k_is);(case kc59=>k_is)))
    (case jE => (refine' zvs ?a60 ?pg60 ?hd60 ?po60 ?sa60 ?mk60 ?kc60;(case a60=>k_is);(case pg60=>k_is);(case hd60=>k_is);(case po60=>k_is);(case sa60=>k_is);(case mk60=>k_is);(case kc60=>k_is)))
    (case jY => k_is)
    (case jI => k_is)
    (case jM => k_is)
    (case jO => k_is)
    (case jN => k_is)
    (case jQ => k_is)
    (case jT => k_is)
    (case kA => k_is)
    (case jV => k_is)
    (case jW => k_is)
    (case jU => k_is)
    (case jX => k_is)
    (case jZ => k_is)
    (case jP => k_is)
    (case jL => k_is)
    (case jG => k_is)
    (case uG => (refine' zsp ?a61 ?i61 ?l61 ?c61 ?k61;(case a61=>k_is);(case i61=>k_is);(case l61=>k_is);(case c61=>k_is);(case k61=>k_is)))
    (case qP => (refine' zvr ?a62 ?l62 ?c62 ?k62;(case a62=>k_is);(case l62=>k_is);(case c62=>k_is);(case k62=>k_is)))
    (case qU => (refine' zvr ?a63 ?l63 ?c63 ?k63;(case a63=>k_is);(case l63=>k_is);(case c63=>k_is);(case k63=>k_is)))
    (case qV => (refine' zsp ?a64 ?i64 ?l64 ?c64 ?k64;(case a64=>k_is);(case i64=>k_is);(case l64=>k_is);(case c64=>k_is);(case k64=>k_is)))
    (case qW => (refine' zsp ?a65 ?i65 ?l65 ?c65 ?k65;(case a65=>k_is);(case i65=>k_is);(case l65=>k_is);(case c65=>k_is);(case k65=>k_is)))
    (case kM => (refine' zsp ?a66 ?i66 ?l66 ?c66 ?k66;(case a66=>k_is);(case i66=>k_is);(case l66=>k_is);(case c66=>k_is);(case k66=>k_is)))
    (case qE => (refine' zsp ?a67 ?i67 ?l67 ?c67 ?k67;(case a67=>k_is);(case i67=>k_is);(case l67=>k_is);(case c67=>k_is);(case k67=>k_is)))
    (case kY => (refine' zsp ?a68 ?i68 ?l68 ?c68 ?k68;(case a68=>k_is);(case i68=>k_is);(case l68=>k_is);(case c68=>k_is);(case k68=>k_is)))
    (case qM => (refine' zsp ?a69 ?i69 ?l69 ?c69 ?k69;(case a69=>k_is);(case i69=>k_is);(case l69=>k_is);(case c69=>k_is);(case k69=>k_is)))
    (case uP => (refine' zsp ?a70 ?i70 ?l70 ?c70 ?k70;(case a70=>k_is);(case i70=>k_is);(case l70=>k_is);(case c70=>k_is);(case k70=>k_is)))
    (case kZ => (refine' zsp ?a71 ?i71 ?l71 ?c71 ?k71;(case a71=>k_is);(case i71=>k_is);(case l71=>k_is);(case c71=>k_is);(case k71=>k_is)))
    (case kO => (refine' zsp ?a72 ?i72 ?l72 ?c72 ?k72;(case a72=>k_is);(case i72=>k_is);(case l72=>k_is);(case c72=>k_is);(case k72=>k_is)))
    (case qF => (refine' zsp ?a73 ?i73 ?l73 ?c73 ?k73;(case a73=>k_is);(case i73=>k_is);(case l73=>k_is);(case c73=>k_is);(case k73=>k_is)))
    (case uW => (refine' zvr ?a74 ?l74 ?c74 ?k74;(case a74=>k_is);(case l74=>k_is);(case c74=>k_is);(case k74=>k_is)))
    (case qG => (refine' zsp ?a75 ?i75 ?l75 ?c75 ?k75;(case a75=>k_is);(case i75=>k_is);(case l75=>k_is);(case c75=>k_is);(case k75=>k_is)))
    (case vB => (refine' zvr ?a76 ?l76 ?c76 ?k76;(case a76=>k_is);(case l76=>k_is);(case c76=>k_is);(case k76=>k_is)))
    (case uQ => (refine' zvr ?a77 ?l77 ?c77 ?k77;(case a77=>k_is);(case l77=>k_is);(case c77=>k_is);(case k77=>k_is)))
    (case uX => (refine' zvr ?a78 ?l78 ?c78 ?k78;(case a78=>k_is);(case l78=>k_is);(case c78=>k_is);(case k78=>k_is)))
    (case kH => (refine' zsp ?a79 ?i79 ?l79 ?c79 ?k79;(case a79=>k_is);(case i79=>k_is);(case l79=>k_is);(case c79=>k_is);(case k79=>k_is)))
    (case qH => (refine' zsp ?a80 ?i80 ?l80 ?c80 ?k80;(case a80=>k_is);(case i80=>k_is);(case l80=>k_is);(case c80=>k_is);(case k80=>k_is)))
    (case qA => (refine' zsp ?a81 ?i81 ?l81 ?c81 ?k81;(case a81=>k_is);(case i81=>k_is);(case l81=>k_is);(case c81=>k_is);(case k81=>k_is)))
    (case qI => (refine' zsp ?a82 ?i82 ?l82 ?c82 ?k82;(case a82=>k_is);(case i82=>k_is);(case l82=>k_is);(case c82=>k_is);(case k82=>k_is)))
    (case qN => (refine' zsp ?a83 ?i83 ?l83 ?c83 ?k83;(case a83=>k_is);(case i83=>k_is);(case l83=>k_is);(case c83=>k_is);(case k83=>k_is)))
    (case qB => (refine' zsp ?a84 ?i84 ?l84 ?c84 ?k84;(case a84=>k_is);(case i84=>k_is);(case l84=>k_is);(case c84=>k_is);(case k84=>k_is)))
    (case qC => (refine' zsp ?a85 ?i85 ?l85 ?c85 ?k85;(case a85=>k_is);(case i85=>k_is);(case l85=>k_is);(case c85=>k_is);(case k85=>k_is)))
    (case kQ => (refine' zsp ?a86 ?i86 ?l86 ?c86 ?k86;(case a86=>k_is);(case i86=>k_is);(case l86=>k_is);(case c86=>k_is);(case k86=>k_is)))
    (case uR => (refine' zjo ?a87 ?l87 ?c87 ?k87 ?t87 ?d87;(case a87=>k_is);(case l87=>k_is);(case c87=>k_is);(case k87=>k_is);(case t87=>k_is);(case d87=>rfl)))
    (case uH => (refine' zvr ?a88 ?l88 ?c88 ?k88;(case a88=>k_is);(case l88=>k_is);(case c88=>k_is);(case k88=>k_is)))
    (case uS => (refine' zvr ?a89 ?l89 ?c89 ?k89;(case a89=>k_is);(case l89=>k_is);(case c89=>k_is);(case k89=>k_is)))
    (case uI => (refine' zvr ?a90 ?l90 ?c90 ?k90;(case a90=>k_is);(case l90=>k_is);(case c90=>k_is);(case k90=>k_is)))
    (case uJ => (refine' zvr ?a91 ?l91 ?c91 ?k91;(case a91=>k_is);(case l91=>k_is);(case c91=>k_is);(case k91=>k_is)))
    (case qX => (refine' zvr ?a92 ?l92 ?c92 ?k92;(case a92=>k_is);(case l92=>k_is);(case c92=>k_is);(case k92=>k_is)))
    (case qY => (refine' zvr ?a93 ?l93 ?c93 ?k93;(case a93=>k_is);(case l93=>k_is);(case c93=>k_is);(case k93=>k_is)))
    (case uK => (refine' zvr ?a94 ?l94 ?c94 ?k94;(case a94=>k_is);(case l94=>k_is);(case c94=>k_is);(case k94=>k_is)))
    (case uL => (refine' zvr ?a95 ?l95 ?c95 ?k95;(case a95=>k_is);(case l95=>k_is);(case c95=>k_is);(case k95=>k_is)))
    (case qQ => (refine' zvr ?a96 ?l96 ?c96 ?k96;(case a96=>k_is);(case l96=>k_is);(case c96=>k_is);(case k96=>k_is)))
    (case vH => (refine' zvr ?a97 ?l97 ?c97 ?k97;(case a97=>k_is);(case l97=>k_is);(case c97=>k_is);(case k97=>k_is)))
    (case jR => k_is)
    (case kL => k_is)
    (case jS => k_is)
    (case kD => k_is)
    (case vD => k_is)
    (case jJ => k_is)
    (case qZ => k_is)
    (case vE => k_is)
    (case kt => exact ⟨fun t ht T hT => by simp only [List.mem_cons, List.not_mem_nil, or_false] at ht hT; rcases ht with rfl | rfl | rfl | rfl | rfl | rfl <;> rcases hT with rfl | rfl | rfl | rfl | rfl <;> rfl⟩)
