import PyProof.Rows.All
import Wide.All
import OpenK.AllK
import Wide.FinOn
import Lean
import PyProof.EqAt
import PyProof.EqKinds
import PyProof.TupleCall
import PyProof.StrLawsIn
import PyProof.StrLawsJoin
import PyProof.ZipIter
import PyProof.EnumFor
import PyProof.EnumMake
import PyProof.EnumStmt
import PyProof.DictItems
import KE.KPairComp
import KE.KSortTup
import PyProof.DictWalks
import PyProof.Rows.SortWalk
import PyProof.ReprRoads
import PyProof.ReprLen
import PyProof.NsDelKeeps
import PyProof.RulesAs
import PyProof.AttrMissHeap
import KE.KDictOf
import PyProof.MinMaxWalk
import PyProof.ConsumeWalk
import PyProof.ListRange
import KE.KDictLaws
import KE.KRevIter
import PyProof.Rows.RuleM_int
import PySem.Challenge.RW_vatyard_k39_cheapest_keeps
set_option Elab.async false
set_option genSizeOf false
set_option genInjectivity false
set_option bootstrap.genMatcherCode false
set_option compiler.extract_closed false
set_option linter.all false
set_option maxRecDepth 100000
set_option maxHeartbeats 4000000
noncomputable section
open List renaming length_map → uA, getElem?_eq_getElem → uC, mem_cons → uD, mem_append → uF, getElem?_map → uI, map_append → uJ, map_cons → uK, mem_map → uL, range → uM, replicate → uN, nodup_cons → uQ, getD_eq_getElem?_getD → uR, length_set → uU, size_toArray → uV, nodup_append → uW, getElem?_eq_some_iff → uZ, lookup_cons → u4, getElem?_append_left → u6, getElem?_append_right → u7, mem_cons_of_mem → u9, length → vA, length_append → vB, getElem?_eq_none → vC, map_map → vD, length_range → vG, getElem?_set_ne → vK, append_nil → vL, mem_of_getElem? → vM, mem_cons_self → vN, getElem?_set_self → vO, getElem_mem → vR, length_cons → vS, getElem?_replicate → vT, getElem?_set → vU, mem_iff_getElem → vV, mem_append_right → vW, lookup → vX, length_take → vZ, length_zip → wA, mem_range → wC, filterMap_cons → wD, getElem_range → wE, append_assoc → wI, length_replicate → wL, find?_cons → wN, take_succ → wO, take_length → wP, any_cons → wS, replicate_succ → wT, sum_append → wU, sum_cons → wV, length_mapIdx → wW, map_nil → wZ, flatten_cons → w8, map_congr_left → xB, find?_cons_of_neg → xC, length_reverse → xD, map_set → xE, of_mem_zip → xK, length_singleton → xM, forIn_cons → xN, forIn_nil → xP, length_nil → xQ, getElem?_mapIdx → xS, mem_append_left → xV, getElem_inj → xW, all_cons → xZ, zipIdx_cons → x9, zipIdx_nil → yA, set_set → yD, ext_getElem? → yE, map_eq_nil_iff → yF, mem_map_of_mem → yG, ext_getElem → yH, getElem_map → yI, map → yL, getElem_zip → yM, find?_cons_of_pos → yO, getElem?_eq_none_iff → yQ, mem_filter → yR, filterMap_map → yU, filterMap → yY, dropLast_eq_take → yZ, range_succ → y9, length_pos_iff → zA, any_eq_true → zD, mem_filterMap → zG, getElem?_take_of_lt → zI, take_of_length_le → zM, length_filter_le → zN, length_eq_zero_iff → zP, filterMap_append → zQ, eq_nil_of_length_eq_zero → zS, mem_of_find?_eq_some → zT, pairwise_cons → zU, filter_cons_of_neg → zV, getElem?_cons_succ → zW, getLast?_cons → zX, getLast?_eq_some_iff → zY, dropLast_concat → zZ, flatten_replicate_singleton → z6, map_replicate → z7, append_of_mem → z8
open PySem.PyData renaming int → uB, list → vF, tuple → v7, eqv → x8, canLayAll0 → yB, depthAll → yC
open PySem.Str renaming ofString → uE
open Nat renaming le_refl → uG, ne_of_lt → u3, lt_of_lt_of_le → vH, lt_or_ge → vI, lt_irrefl → vP, le_trans → vQ, zero_le → vY, lt_succ_of_lt → xA, min → xF, le_of_lt → xH, lt_succ_self → xI, le_succ → xJ, le_of_succ_le → xO, add_sub_cancel → xT, ne_of_gt → xX, min_self → yN, le_of_eq → yT, log2_lt → yW, min_eq_left → yX, mul_le_mul_right → zC, eq_zero_or_pos → zR
open PySem.Heap renaming get?_push_of_some → uH, lt_size → uO, get?_push_size → uT, size_push → vE, get?_update_other → wR, get?_update_self → xL, get?_some_iff → zO
open Sum renaming inl → uP, inr → wK
open PySem.Value renaming ref → uS, none → wB, isStrOf → wH, int → wX, str → wY, isInt → xG, bool → xU, float → yP
open Bool renaming false_ne_true → uX, false_eq_true → wM, and_eq_true → wQ, eq_iff_iff → xY, not_eq_true → yV, and_eq_true_iff → zK
open Int renaming toNat_natCast → uY, le_refl → vJ, mul_le_mul_of_nonneg_right → wG, le_trans → wJ, mul_nonneg → yJ, add_mul → yK, lt_or_eq_of_le → zB, pow_pos → zE, fdiv_eq_ediv_of_nonneg → zH, le_ediv_iff_mul_le → zL, mul_le_mul_of_nonneg_left → z9, emod_lt_of_pos → kP
open Option renaming map_eq_some_iff → u5, some → u8, isSome_iff_exists → v9, isSome_map → xR, bind_eq_some_iff → y0, isSome_some → zJ
open Array renaming length_toList → v8, getElem?_toList → x6, toList → yS, append_assoc → zF
open Or renaming inr → w9
noncomputable abbrev Fg:=PySem.W.Frag
namespace _2
open PySem PySem.Spec PyProof.Rows
noncomputable abbrev Key:=Sum Int Str
noncomputable def zpq:Key->Value->Bool
|.inl k,v=>xG k v
|.inr x,v=>wH x v
noncomputable def keyH (w:World):Key->Int
|.inl k=>hashInt k
|.inr x=>hashStr w x
theorem ze1:∀ {k:Key} {v:Value},zpq k v=true->(∃ i t,k=uP i/\v=wX i t) \/ (∃ x t,k=wK x/\v=wY x t)
|.inl i,v,h=>by
  obtain ⟨t,e⟩:=Value.isInt_shape (k:=i) (v:=v) h
  exact .inl ⟨i,t,rfl,e⟩
|.inr x,v,h=>by
  obtain ⟨t,e⟩:=Value.isStrOf_shape (x:=x) (v:=v) h
  exact .inr ⟨x,t,rfl,e⟩
theorem zaa (i:Int) (t:Tok):zpq (.inl i) (.int i t)=true:=by simp [zpq,xG]
theorem zuk (x:Str) (t:Tok):zpq (.inr x) (.str x t)=true:=by simp [zpq,wH]
theorem zk11 (a b:Int):decide ((uP a:Key)=uP b)=(a == b):=by
 by_cases e:a=b
 ·subst e;simp
 ·have h:¬ (uP a:Key)=uP b:=λ q=>e (uP.inj q)
  rw [decide_eq_false h]
  exact (beq_eq_false_iff_ne.mpr e).symm
theorem zi11 (a b:Str):decide ((wK a:Key)=wK b)=decide (a=b):=by
 by_cases e:a=b
 ·subst e;simp
 ·have h:¬ (wK a:Key)=wK b:=λ q=>e (wK.inj q)
  rw [decide_eq_false h,decide_eq_false e]
theorem zqz (a:Int) (b:Str):decide ((uP a:Key)=wK b)=false:=decide_eq_false (λ q=>nomatch q)
theorem zx21 (a:Str) (b:Int):decide ((wK a:Key)=uP b)=false:=decide_eq_false (λ q=>nomatch q)
noncomputable def zx0 (prog:Program) (w:World):PySem.KeyKind prog w Key where
 is:=zpq
 hash:=keyH w
 inj:=λ v a b ha hb=>by
  rcases ze1 ha with ⟨i,t,rfl,rfl⟩|⟨x,t,rfl,rfl⟩
  ·rcases ze1 hb with ⟨j,u,rfl,e⟩|⟨y,u,rfl,e⟩
   ·injection e with e1 _;rw [e1]
   ·exact nomatch e
  ·rcases ze1 hb with ⟨j,u,rfl,e⟩|⟨y,u,rfl,e⟩
   ·exact nomatch e
   ·injection e with e1 _;rw [e1]
 byValue:=λ k v h=>by
  rcases ze1 h with ⟨i,t,rfl,rfl⟩|⟨x,t,rfl,rfl⟩ <;> rfl
 pyHash:=λ hv h=>by
  rcases ze1 hv with ⟨i,t,rfl,rfl⟩|⟨x,t,rfl,rfl⟩
  ·exact wpAny_pyHash_int h
  ·exact wpAny_pyHash_str h
 eqBool:=λ hu hv h=>by
  rcases ze1 hu with ⟨i,t,rfl,rfl⟩|⟨x,t,rfl,rfl⟩
  ·rcases ze1 hv with ⟨j,u,rfl,rfl⟩|⟨y,u,rfl,rfl⟩
   ·rw [zk11] at h;exact wpAny_eqBool_int h
   ·rw [zqz] at h;exact SeqAt.EqAt.int_str i t y u _ _ _ _ h
  ·rcases ze1 hv with ⟨j,u,rfl,rfl⟩|⟨y,u,rfl,rfl⟩
   ·rw [zx21] at h;exact SeqAt.EqAt.str_int x t j u _ _ _ _ h
   ·rw [zi11] at h;exact wpAny_eqBool_str h
 «strs»:=λ k x t v h=>by
  rcases ze1 h with ⟨i,u,rfl,e⟩|⟨y,u,rfl,e⟩
  ·exact nomatch e
  ·injection e with e1 _
   subst e1
   cases v <;> rfl
theorem zxf (prog:Program) (w:World) (i:Int) (t:Tok):(zx0 prog w).is (.inl i) (.int i t)=true:=zaa i t
theorem zyf (prog:Program) (w:World) (x:Str) (t:Tok):(zx0 prog w).is (.inr x) (.str x t)=true:=zuk x t
set_option genInjectivity true in
inductive V where
|non|bl (b:Bool)|int (i:Int)|str (x:Str)|byt (b:Array UInt8)|flt (b:UInt64)|ref (a:Addr)|ty (n:String)
 deriving DecidableEq
noncomputable def RelV:V->Value->Prop
|.non,u=>u=wB
|.bl b,u=>u=xU b
|.int i,u=>∃ t,u=wX i t
|.str x,u=>∃ t,u=wY x t
|.byt b,u=>∃ t,u=Value.bytes b t
|.flt b,u=>∃ t,u=yP b t
|.ref a,u=>u=uS a
|.ty n,u=>u=Value.type n
noncomputable abbrev Vals:List V->List Value->Prop:=Paired RelV
theorem Vals.length {xs:List V} {us:List Value} (r:Vals xs us):xs.length=us.length:=Paired.length r
theorem Vals.get:∀ {xs:List V} {us:List Value} {i:Nat} {x:V},Vals xs us->xs[i]?=some x->∃ u,us[i]?=some u/\RelV x u
|_,_,_,_,.nil,e=>by simp at e
|_,_,0,_,.cons r _,e=>by simp at e;subst e;exact ⟨_,rfl,r⟩
|_,_,i+1,x,.cons _ t,e=>by
  obtain ⟨u,h1,h2⟩:=Vals.get (i:=i) (x:=x) t (by simpa using e)
  exact ⟨u,by simpa using h1,h2⟩
theorem Vals.set {x:V} {u:Value} (r:RelV x u):∀ {xs:List V} {us:List Value} (i:Nat),Vals xs us->Vals (xs.set i x) (us.set i u)
|_,_,_,.nil=>.nil
|_,_,0,.cons _ t=>.cons r t
|_,_,i+1,.cons q t=>.cons q (Vals.set r i t)
theorem Vals.append:∀ {xs ys:List V} {us ws:List Value},Vals xs us->Vals ys ws->Vals (xs++ys) (us++ws)
|_,_,_,_,.nil,s=>s
|_,_,_,_,.cons r t,s=>.cons r (Vals.append t s)
theorem Vals.take:∀ {xs:List V} {us:List Value} (n:Nat),Vals xs us->Vals (xs.take n) (us.take n)
|_,_,0,_=>.nil
|_,_,_+1,.nil=>.nil
|_,_,n+1,.cons r t=>.cons r (Vals.take n t)
theorem Vals.drop:∀ {xs:List V} {us:List Value} (n:Nat),Vals xs us->Vals (xs.drop n) (us.drop n)
|_,_,0,r=>r
|_,_,_+1,.nil=>.nil
|_,_,n+1,.cons _ t=>Vals.drop n t
theorem Vals.none_of:∀ {xs:List V} {us:List Value} {i:Nat},Vals xs us->xs[i]?=none->us[i]?=none:=λ {xs us i} r e=>by
 have h1:=r.length
 have h2:xs.length<=i:=yQ.mp e
 exact yQ.mpr (by lia)
noncomputable def RelO:Option V->Option Value->Prop
|some v,some u=>RelV v u
|none,none=>True
|_,_=>False
noncomputable def KV {κ:Type}:List (κ×V)->List (κ×Value)->Prop:=Paired λ (p:κ×V) (q:κ×Value)=>p.1=q.1/\RelV p.2 q.2
noncomputable def kV:Key->V
|.inl i=>.int i
|.inr x=>.str x
set_option genInjectivity true in
inductive HO where
 /-- a list -/
|lst (xs:List V)
 /-- a tuple (never changes) -/
|tup (xs:List V)
 /-- a dict whose keys are ints and texts;one whose keys are tuples of ints and texts (the empty one is both) -/
|dK (kvs:List (Key×V))|dT (kvs:List (List Key×V))
 /-- a set of ints: its members,its size -/
|set (S:Int->Bool) (n:Nat)
 /-- an instance of the class at C,its dict at dx,its attributes -/
|ins (C dx:Addr) (fs:List (Str×V))
 /-- the dict of the instance at x -/
|own (x:Addr)
 /-- the dict of an exception -/
|xd (fs:List (Str×V))
 /-- a bound method,f of x -/
|met (f x:Addr)
 /-- a range object lo,lo+1,.. below hi -/
|rng (lo hi:Int)
 /-- a thing that is known to the object (the script;a dict while a loop walks it): read,never written while it is so -/
|frz (o:Obj) (u:HO)
 /-- a code object's table -/
|tbl (ps:Array Value)
 /-- any other thing,by what is true of its one object (a def of one's own: SetO a S n:=HO.ext λ h=>..) -/
|ext (φ:Heap->Prop)
noncomputable abbrev Hp:=Addr->Option HO
noncomputable def upd (H:Hp) (a:Addr) (o:HO):Hp:=λ b=>if b=a then some o else H b
theorem zi0 {H:Hp} {a:Addr} {o:HO}:upd H a o a=some o:=by unfold upd;rw [if_pos rfl]
theorem zn0 {H:Hp} {a b:Addr} {o:HO} (h:b≠a):upd H a o b=H b:=by unfold upd;rw [if_neg h]
theorem zw91 {H:Hp} {a b:Addr} {o u:HO} (h:H a=some o) (h':H b=some u) (d:o≠u):a≠b:=by
 intro e;subst e;rw [h] at h';exact d (u8.inj h')
theorem zd3 {H:Hp} {a b:Addr} {o:HO} (h:H a=some o) (h':H b=none):a≠b:=by
 intro e;subst e;rw [h] at h';cases h'
section
variable (P:Program) (w:World)
noncomputable def ObjOk (H:Hp) (h:Heap) (a:Addr):HO->Prop
|.lst xs=>xs.length<=sizeLine/\∃ (its:List Value) (n:Nat),Vals xs its/\h.get? a=some { cls:=.type "list",data:=.seq its.toArray n }
|.tup xs=>xs.length<=sizeLine/\∃ its:List Value,Vals xs its/\IsTup h a its.toArray
|.dK kvs=>kvs.length<=sizeLine/\(a == sysModules)=false/\∃ vs,KV kvs vs/\h.DictOf (zx0 P w) a vs
|.dT kvs=>kvs.length<=sizeLine/\(a == sysModules)=false/\∃ xs:List (List Key×Addr×Value),
   Paired (λ (p:List Key×V) (q:List Key×Addr×Value)=>p.1=q.1/\H q.2.1=some (.tup (p.1.map kV))/\RelV p.2 q.2.2) kvs xs /\
   ∃ o es ep,h.get? a=some o/\o.ExactDict/\o.data=.dict es ep/\es.toList=xs.map (entryOfKey (tupleKind (zx0 P w)))/\(xs.map (·.1)).Nodup
|.set S n=>h.SetOf (intKind P w) a S n
|.ins C dx fs=>H dx=some (.own a)/\fs.length<=1000/\dx≠a/\h.get? a=some (PySem.W.instObj C dx) /\
   ∃ mA,h.Ns1 dx mA/\(∀ f,RelO (fs.lookup f) (mA f))/\PySem.Within mA (fs.map (·.1))
|.own _=>∃ o,h.get? a=some o
|.xd fs=>∃ mA,h.Ns1 a mA/\∀ f,RelO (fs.lookup f) (mA f)
|.rng lo hi=>∃ t u v,h.get? a=some { cls:=.type "range",data:=.fields #[.int lo t,.int hi u,.int 1 v] }
|.frz o u=>h.get? a=some o/\ObjOk H h a u
|.tbl ps=>h.get? a=some { cls:=.none,data:=.fields ps }
|.met f x=>h.get? a=some (PySem.W.methodObj (.ref f) (.ref x))
|.ext φ=>φ h/\(∃ o,h.get? a=some o)/\∀ h1 h2:Heap,φ h1->(∀ o,h1.get? a=some o->h2.get? a=some o)->φ h2
noncomputable def HOk (H:Hp) (h:Heap):Prop:=∀ a o,H a=some o->ObjOk P w H h a o
end
section
variable {P:Program} {w:World} {H H':Hp} {h h':Heap} {a:Addr} {o:HO}
theorem ObjOk.lt (x:ObjOk P w H h a o):a < h.objs.size:=by
 cases o with
|lst xs=>obtain ⟨_,_,_,_,e⟩:=x;exact uO e
|tup xs=>obtain ⟨_,_,_,p⟩:=x;exact p.lt
|dK kvs=>obtain ⟨_,_,_,_,o,_,_,e,_⟩:=x;exact uO e
|dT kvs=>obtain ⟨_,_,_,_,o,_,_,e,_⟩:=x;exact uO e
|set S n=>obtain ⟨o,_,_,_,e,_⟩:=x;exact uO e
|ins C dx fs=>obtain ⟨_,_,_,e,_⟩:=x;exact uO e
|own y=>obtain ⟨_,e⟩:=x;exact uO e
|xd fs=>obtain ⟨_,⟨_,_,_,e,_⟩,_⟩:=x;exact uO e
|rng lo hi=>obtain ⟨_,_,_,e⟩:=x;exact uO e
|frz ob u=>obtain ⟨e,_⟩:=x;exact uO e
|tbl ps=>exact uO (show h.get? a=some _ from x)
|met f y=>exact uO (show h.get? a=some _ from x)
|ext φ=>obtain ⟨_,⟨_,e⟩,_⟩:=x;exact uO e
theorem Paired.mapP {α β:Type} {F G:α->β->Prop}:∀ {l₁:List α} {l₂:List β},Paired F l₁ l₂->(∀ a b,F a b->G a b)->Paired G l₁ l₂
|_,_,.nil,_=>.nil
|_,_,.cons r t,f=>.cons (f _ _ r) (Paired.mapP t f)
theorem ObjOk.stay (x:ObjOk P w H h a o) (k:∀ b u,(b=a \/ H b=some (.own a))->h.get? b=some u->h'.get? b=some u)
  (ho:∀ b,H b=some (.own a)->H' b=some (.own a)) (ht:∀ b xs,H b=some (.tup xs)->H' b=some (.tup xs)):ObjOk P w H' h' a o:=by
 induction o with
|lst xs=>obtain ⟨z,its,n,r,e⟩:=x;exact ⟨z,its,n,r,k _ _ (.inl rfl) e⟩
|tup xs=>obtain ⟨z,its,r,ob,e,c⟩:=x;exact ⟨z,its,r,ob,k _ _ (.inl rfl) e,c⟩
|dK kvs=>obtain ⟨z,y,vs,r,ob,es,ep,e,c⟩:=x;exact ⟨z,y,vs,r,ob,es,ep,k _ _ (.inl rfl) e,c⟩
|dT kvs =>
  obtain ⟨z,y,xs,r,ob,es,ep,e,c⟩:=x
  exact ⟨z,y,xs,Paired.mapP r λ p q z=>⟨z.1,ht _ _ z.2.1,z.2.2⟩,ob,es,ep,k _ _ (.inl rfl) e,c⟩
|set S n=>obtain ⟨ob,es,ep,t,e,c⟩:=x;exact ⟨ob,es,ep,t,k _ _ (.inl rfl) e,c⟩
|ins C dx fs =>
  obtain ⟨d,z,ne,e,mA,⟨od,es,ep,e2,c⟩,r⟩:=x
  exact ⟨ho _ d,z,ne,k _ _ (.inl rfl) e,mA,⟨od,es,ep,k _ _ (.inr d) e2,c⟩,r⟩
|own y=>obtain ⟨ob,e⟩:=x;exact ⟨ob,k _ _ (.inl rfl) e⟩
|xd fs=>obtain ⟨mA,⟨od,es,ep,e,c⟩,r⟩:=x;exact ⟨mA,⟨od,es,ep,k _ _ (.inl rfl) e,c⟩,r⟩
|rng lo hi=>obtain ⟨t,u,v,e⟩:=x;exact ⟨t,u,v,k _ _ (.inl rfl) e⟩
|frz ob u ih=>obtain ⟨e,q⟩:=x;exact ⟨k _ _ (.inl rfl) e,ih q⟩
|tbl ps =>
  have e:h.get? a=some { cls:=.none,data:=.fields ps }:=x
  show h'.get? a=some { cls:=.none,data:=.fields ps }
  exact k a _ (.inl rfl) e
|met f y =>
  have e:h.get? a=some (PySem.W.methodObj (.ref f) (.ref y)):=x
  show h'.get? a=some (PySem.W.methodObj (.ref f) (.ref y))
  exact k a _ (.inl rfl) e
|ext φ=>obtain ⟨p,⟨o,e⟩,st⟩:=x;exact ⟨st _ _ p λ o q=>k _ _ (.inl rfl) q,⟨o,k _ _ (.inl rfl) e⟩,st⟩
theorem HOk.lt (x:HOk P w H h) (e:H a=some o):a < h.objs.size:=(x a o e).lt
theorem HOk.fresh (x:HOk P w H h) (e:h.objs.size<=a):H a=none:=by
 cases q:H a with
|none=>rfl
|some u=>exact absurd (vH (x.lt q) e) (vP _)
theorem HOk.kept (x:HOk P w H h) (k:∀ b u,h.get? b=some u->h'.get? b=some u):HOk P w H h':=λ a o e =>
 (x a o e).stay (λ b u _ q=>k b u q) (λ _ q=>q) λ _ _ q=>q
theorem HOk.laid (x:HOk P w H h) (k:∀ b u,h.get? b=some u->h'.get? b=some u) (hp:h.objs.size<=a) (new:ObjOk P w (upd H a o) h' a o):HOk P w (upd H a o) h':=λ b u e=>by
 have hn:=x.fresh hp
 by_cases hb:b=a
 ·subst hb;rw [zi0] at e;cases e;exact new
 ·rw [zn0 hb] at e
  exact (x b u e).stay (λ c v _ q=>k c v q) (λ c q=>by rw [zn0 (zd3 q hn)];exact q) λ c xs q=>by rw [zn0 (zd3 q hn)];exact q
end
noncomputable def Rd (H:Hp) (a:Addr) (u:HO):Prop:=H a=some u \/ ∃ o,H a=some (.frz o u)
theorem Rd.ok {P:Program} {w:World} {H:Hp} {h:Heap} {a:Addr} {u:HO} (r:Rd H a u) (x:HOk P w H h):ObjOk P w H h a u:=by
 rcases r with r|⟨o,r⟩
 ·exact x a u r
 ·obtain ⟨_,q⟩:=x a _ r
  exact q
noncomputable def Mut:Option HO->Prop
|some (.lst _)=>True
|some (.dK _)=>True
|some (.dT _)=>True
|some (.set _ _)=>True
|some (.ins _ _ _)=>True
|some (.ext _)=>True
|_=>False
section
variable {P:Program} {w:World} {H:Hp} {h h':Heap} {x e:Addr} {o':HO}
theorem HOk.write (ok:HOk P w H h) (mu:Mut (H x)) (he:e=x \/ H e=some (.own x)) (k:∀ b u,b≠e->h.get? b=some u->h'.get? b=some u) (heo:∃ u,h'.get? e=some u)
  (new:ObjOk P w (upd H x o') h' x o'):HOk P w (upd H x o') h':=λ b u q=>by
 have nown:∀ c y,H c=some (.own y)->c≠x:=λ c y r z=>by subst z;rw [r] at mu;exact mu
 have ntup:∀ c xs,H c=some (.tup xs)->c≠x:=λ c xs r z=>by subst z;rw [r] at mu;exact mu
 by_cases hb:b=x
 ·subst hb;rw [zi0] at q;cases q;exact new
 ·rw [zn0 hb] at q
  by_cases hbe:b=e
  ·have q':H b=some (.own x):=by
    rcases he with z|z
    ·exact absurd (hbe.trans z) hb
    ·rw [hbe];exact z
   rw [q] at q';cases q'
   obtain ⟨v,hv⟩:=heo
   exact ⟨v,by rw [hbe];exact hv⟩
  ·refine (ok b u q).stay (λ c v hc r=>k c v ?_ r) (λ c r=>by rw [zn0 (nown c b r)];exact r) λ c xs r=>by rw [zn0 (ntup c xs r)];exact r
   rcases hc with rfl|hc
   ·exact hbe
   ·rintro rfl
    rcases he with z|z
    ·exact nown c b hc z
    ·rw [hc] at z;cases z;exact hb rfl
end
structure Un (fs ex:List Addr) (H H':Hp) (h h':Heap):Prop where
 keep:∀ b o,h.get? b=some o->H b=none->b ∉ fs->b ∉ ex->h'.get? b=some o
 slot:∀ b o,h.get? b=some o->H b=none->b∈fs->b ∉ ex->∃ sl,h'.get? b=some { o with slots:=sl }
 free:∀ b o,h.get? b=some o->H b=none->b ∉ ex->H' b=none
 there:∀ b o,h.get? b=some o->b ∉ ex->∃ o',h'.get? b=some o'
 tups:∀ b xs,H b=some (.tup xs)->H' b=some (.tup xs)
 frzs:∀ b o u,H b=some (.frz o u)->H' b=some (.frz o u)
 tbls:∀ b ps,H b=some (.tbl ps)->∃ more,H' b=some (.tbl (ps++more))
section
variable {fs fs' ex ex':List Addr} {H H1 H2:Hp} {h h1 h2 h':Heap} {a x e:Addr} {o:HO}
theorem Un.any (u:Un fs ex H H1 h h1) {b:Addr} {ob:Obj} (q:h.get? b=some ob) (n:H b=none) (hx:b ∉ ex):∃ sl,h1.get? b=some { ob with slots:=sl }:=by
 by_cases hb:b∈fs
 ·exact u.slot b ob q n hb hx
 ·exact ⟨ob.slots,u.keep b ob q n hb hx⟩
theorem Un.kept (k:∀ b u,h.get? b=some u->h'.get? b=some u):Un fs ex H H h h' :=
 ⟨λ b ob q _ _ _=>k b ob q,λ b ob q _ _ _=>⟨ob.slots,k b ob q⟩,λ _ _ _ n _=>n,λ b ob q _=>⟨ob,k b ob q⟩,λ _ _ q=>q,λ _ _ _ q=>q,λ _ ps q=>⟨#[],by rw [q];simp⟩⟩
theorem Un.refl:Un fs ex H H h h:=Un.kept λ _ _ q=>q
theorem Un.laid (k:∀ b u,h.get? b=some u->h'.get? b=some u) (hp:h.objs.size<=a) (hn:H a=none):Un fs ex H (upd H a o) h h' where
 keep:=λ b u q _ _ _=>k b u q
 slot:=λ b u q _ _ _=>⟨u.slots,k b u q⟩
 free:=λ b u q n _=>by rw [zn0 (u3 (vH (uO q) hp))];exact n
 there:=λ b u q _=>⟨u,k b u q⟩
 tups:=λ b xs q=>by rw [zn0 (zd3 q hn)];exact q
 frzs:=λ b u xs q=>by rw [zn0 (zd3 q hn)];exact q
 tbls:=λ b ps q=>⟨#[],by rw [zn0 (zd3 q hn),q];simp⟩
theorem Un.write (mu:Mut (H x)) (he:e=x \/ H e=some (.own x)) (k:∀ b u,b≠e->h.get? b=some u->h'.get? b=some u) (heo:∃ u,h'.get? e=some u):Un fs ex H (upd H x o) h h':=by
 have hx:∀ b,H b=none->b≠x:=λ b n z=>by subst z;rw [n] at mu;exact mu
 have hb:∀ b,H b=none->b≠e:=λ b n z=>by
  subst z
  rcases he with r|r
  ·exact hx b n r
  ·rw [n] at r;cases r
 have hm:∀ b u,H b=some u->¬ Mut (some u)->b≠x:=λ b u q nm z=>by subst z;rw [q] at mu;exact nm mu
 refine ⟨λ b u q n _ _=>k b u (hb b n) q,λ b u q n _ _=>⟨u.slots,k b u (hb b n) q⟩,λ b u q n _=>by rw [zn0 (hx b n)];exact n,λ b u q _=>?_,
  λ b xs q=>by rw [zn0 (hm b _ q λ z=>z)];exact q,λ b u xs q=>by rw [zn0 (hm b _ q λ z=>z)];exact q,λ b ps q=>⟨#[],by rw [zn0 (hm b _ q λ z=>z),q];simp⟩⟩
 by_cases hbe:b=e
 ·subst hbe;exact heo
 ·exact ⟨u,k b u hbe q⟩
end
noncomputable def trk (h:Heap) (H:Hp):List Addr:=(uM h.objs.size).filter λ a=>(H a).isSome
noncomputable def hidT (h:Heap) (H:Hp):Heap:=PySem.W.hideAll h (trk h H)
theorem zkj (h:Heap) (H:Hp):(hidT h H).objs.size=h.objs.size:=PySem.W.hideAll_size _ _
theorem zlo {h:Heap} {H:Hp} {b:Addr} {o:Obj} (e:h.get? b=some o) (n:H b=none):(hidT h H).get? b=some o :=
 PySem.W.hideAll_get _ e λ hm=>by
  have q:(H b).isSome=true:=(yR.mp hm).2
  rw [n] at q;simp at q
theorem zmx {h:Heap} {H:Hp} {b:Addr} {o:Obj} (e:(hidT h H).get? b=some o):h.get? b=some o/\H b=none:=by
 have e':h.get? b=some o:=PySem.W.of_hideAll (trk h H) e
 refine ⟨e',?_⟩
 cases q:H b with
|none=>rfl
|some x =>
  have hm:b∈trk h H:=yR.mpr ⟨wC.mpr (uO e'),by simp [q]⟩
  have z:(hidT h H).get? b=none:=PySem.W.hideAll_none (trk h H) hm
  rw [z] at e;cases e
noncomputable def zov (g h:Heap) (L:Addr):List (Addr×Obj):=(uM h.objs.size).filterMap λ a=>if a=L \/ (g.get? a).isSome=true then none else (h.get? a).map λ o=>(a,o)
noncomputable def rest (g h:Heap) (L d:Addr):List (Addr×Obj):=(zov g h L).filter λ p=>decide (p.1≠d)
structure Mod (K:Fg) (mg:Str->Option Value) (base:Heap):Prop where
 kin:K.In base
 glob:base.Ns mainGlobals mg
 blt:∃ mb,base.Ns builtinsNs mb/\∀ x:Str,x ≠ "__name__"->mb x=bootBuiltins x
 nolimit:base.NoLimit
structure Cx where
 prog:Program
 w:World
 K:Fg
 mg:Str->Option Value
 base:Heap
 A:Around
 N:List Str
 s₀:Shared
 H₀:Hp
 env:Env
 outer:List Env
 stack:List Env
 ex:List Addr
 fn:Str->Bool
 calm:Bool
 pn:List (Addr×Obj)
 xe:Value->Shared->Prop
noncomputable def frs (l:List Env):List Addr:=l.filterMap (·.frame)
noncomputable abbrev Cx.fs (X:Cx):List Addr:=frs X.outer
noncomputable def Vis (sc:Scope) (x:Str):Prop:=sc.names.lookup x=some .local \/ sc.names.lookup x=some .cell \/ sc.names.lookup x=some .free
noncomputable def Loc (sc:Scope) (x:Str):Prop:=sc.names.lookup x=some .local \/ sc.names.lookup x=some .cell
noncomputable def Look (env:Env) (h:Heap) (m:Str->Option Value) (x:Str) (u:Value):Prop :=
 (env.kindOf x=some .local/\m x=some u) \/ ((env.kindOf x=some .cell \/ env.kindOf x=some .free)/\∃ c,env.cells.lookup x=some c/\h.IsCell c (some u))
structure Cx.Ok (X:Cx):Prop where
 mod:Mod X.K X.mg X.base
 kind:X.env.scope.kind=.function
 glob:X.env.globals=mainGlobals
 blt:X.env.builtins=builtinsNs
 above:X.s₀.heap.objs.size<=X.env.locals
 inj:∀ x y c,X.env.cells.lookup x=some c->X.env.cells.lookup y=some c->x=y
 has:∀ x,(X.env.kindOf x=some .cell \/ X.env.kindOf x=some .free)->∃ c,X.env.cells.lookup x=some c
 cab:∀ x c,X.fn x=true->X.env.cells.lookup x=some c->X.s₀.heap.objs.size<=c
 hd:X.calm=true->X.A.handled=none
 frames:X.A.frames=some X.stack
 stk:X.stack=X.outer \/ (X.stack=X.env :: X.outer/\X.env.frame=some X.env.locals)
 exf:∀ b∈X.ex,b≠X.env.locals/\∀ x c,X.env.cells.lookup x=some c->c≠b
 bs:∀ b o,X.base.get? b=some o->X.s₀.heap.get? b=some o/\X.H₀ b=none
 bsz:X.base.objs.size<=X.s₀.heap.objs.size
 noex:∀ b o,X.base.get? b=some o->b ∉ X.ex
 exfs:∀ b∈X.ex,b ∉ X.fs
 funs:X.s₀.heap.FunFrames X.base X.outer
 frf:∀ b∈X.fs,X.H₀ b=none
structure Inv (X:Cx) (pins:List (Addr×Obj)) (Y:List (Option V)) (H:Hp) (s:Shared):Prop where
 ok:X.Ok
 os:s.os=X.s₀.os
 bare:AllBare s.gens
 base:Un X.fs X.ex X.H₀ H X.s₀.heap s.heap
 loc:∃ m,s.heap.Ns X.env.locals m/\∀ (i:Nat) (x:Str) (v:V),X.N[i]?=some x->Y[i]?=some (some v)->Vis X.env.scope x->∃ u,RelV v u/\Look X.env s.heap m x u
 cell:∀ x c,X.env.cells.lookup x=some c->∃ v,s.heap.IsCell c v
 free:H X.env.locals=none
 freeC:∀ x c,X.env.cells.lookup x=some c->H c=none
 pin:∀ p∈X.pn++pins,s.heap.get? p.1=some p.2/\H p.1=none/\p.1≠X.env.locals/\p.1 ∉ X.fs/\∀ v,p.2.data≠.cell v
 hok:HOk X.prog X.w H s.heap
 len:Y.length=X.N.length
section
variable {X:Cx} {pins:List (Addr×Obj)} {Y:List (Option V)} {H H':Hp} {s:Shared} {h':Heap}
theorem Cx.Ok.nofr (ok:X.Ok) {b:Addr} {o:Obj} (e:X.base.get? b=some o):b ∉ X.fs:=λ hb=>by
 have:=(ok.funs.mem hb).1
 rw [e] at this;cases this
theorem Inv.bs (I:Inv X pins Y H s):∀ b o,X.base.get? b=some o->s.heap.get? b=some o/\H b=none:=λ b o e =>
 ⟨I.base.keep b o (I.ok.bs b o e).1 (I.ok.bs b o e).2 (I.ok.nofr e) (I.ok.noex b o e),I.base.free b o (I.ok.bs b o e).1 (I.ok.bs b o e).2 (I.ok.noex b o e)⟩
theorem Inv.bk (I:Inv X pins Y H s):∀ b o,X.base.get? b=some o->s.heap.get? b=some o:=λ b o e=>(I.bs b o e).1
theorem Inv.mod (I:Inv X pins Y H s):Mod X.K X.mg X.base:=I.ok.mod
theorem Inv.kIn (I:Inv X pins Y H s):X.K.In s.heap:=I.ok.mod.kin.keeps I.bk
theorem Inv.lt (I:Inv X pins Y H s):X.env.locals < s.heap.objs.size:=let ⟨_,hn,_⟩:=I.loc;hn.lt
theorem Inv.sz (I:Inv X pins Y H s):X.s₀.heap.objs.size<=s.heap.objs.size:=vQ I.ok.above (xH I.lt)
theorem Inv.nofs (I:Inv X pins Y H s) {a:Addr} (h:s.heap.objs.size<=a):a ∉ X.fs:=λ hb=>by
 obtain ⟨_,o,ho,_⟩:=I.ok.funs.mem hb
 exact absurd (vH (uO ho) (vQ I.sz h)) (vP _)
theorem Inv.cne (I:Inv X pins Y H s):∀ x c,X.env.cells.lookup x=some c->c≠X.env.locals:=λ x c e z=>by
 obtain ⟨v,o,ho,hd⟩:=I.cell x c e
 obtain ⟨m,⟨o',es,ep,ho',hd',_⟩,_⟩:=I.loc
 rw [z,ho'] at ho;cases ho;rw [hd'] at hd;cases hd
theorem Inv.funs (I:Inv X pins Y H s):s.heap.FunFrames X.base X.outer:=by
 have all:∀ (l:List Env),(∀ b∈frs l,b∈X.fs)->X.s₀.heap.FunFrames X.base l->s.heap.FunFrames X.base l:=by
  intro l
  induction l with
 |nil=>intro _ _;trivial
 |cons env r ih =>
   intro hs hl
   obtain ⟨hk,⟨L,o,hf,hn,ho,hd⟩,hr⟩:=hl
   have hL:L∈X.fs:=hs L (by unfold frs;rw [wD,hf];exact vN)
   obtain ⟨sl,e⟩:=I.base.slot L o ho (I.ok.frf L hL) hL λ z=>I.ok.exfs L z hL
   exact ⟨hk,⟨L,_,hf,hn,e,hd⟩,ih (λ b hb=>hs b (by unfold frs;rw [wD,hf];exact u9 _ hb)) hr⟩
 exact all X.outer (λ _ hb=>hb) I.ok.funs
theorem Inv.stack (I:Inv X pins Y H s):s.heap.FunFrames X.base X.stack:=by
 rcases I.ok.stk with e|⟨e,hf⟩
 ·rw [e];exact I.funs
 ·rw [e]
  obtain ⟨m,hn,_⟩:=I.loc
  refine .cons (by rw [I.ok.kind];decide) hf hn ?_ I.funs
  exact Heap.get?_none_of_le (vQ I.ok.bsz I.ok.above)
theorem Inv.stkSub (I:Inv X pins Y H s):∀ b∈frs X.stack,b∈X.env.locals :: X.fs:=λ b hb=>by
 rcases I.ok.stk with e|⟨e,hf⟩
 ·rw [e] at hb;exact u9 _ hb
 ·rw [e] at hb
  unfold frs at hb
  rw [wD,hf] at hb
  exact hb
theorem Inv.stkFree (I:Inv X pins Y H s):∀ b∈frs X.stack,H b=none:=λ b hb=>by
 rcases uD.mp (I.stkSub b hb) with e|hb
 ·rw [e];exact I.free
 ·obtain ⟨_,o,ho,_⟩:=I.ok.funs.mem hb
  exact I.base.free b o ho (I.ok.frf b hb) λ z=>I.ok.exfs b z hb
theorem Inv.step {g':Array GenState} {t':Nat} {d':Drawn} {ch:List Addr} (I:Inv X pins Y H s)
  (hch:∀ b∈ch,(b∈X.ex \/ X.s₀.heap.objs.size<=b)/\b≠X.env.locals/\(∀ x c,X.env.cells.lookup x=some c->c≠b)/\∀ p∈X.pn++pins,p.1≠b)
  (keep:∀ b o,b≠X.env.locals->b ∉ X.fs->b ∉ ch->s.heap.get? b=some o->H b=none->h'.get? b=some o)
  (slot:∀ b o,b≠X.env.locals->b∈X.fs->b ∉ ch->s.heap.get? b=some o->H b=none->∃ sl,h'.get? b=some { o with slots:=sl }) (free:∀ b o,b ∉ ch->s.heap.get? b=some o->H b=none->H' b=none)
  (there:∀ b o,b ∉ ch->s.heap.get? b=some o->∃ o',h'.get? b=some o')
  (tups:∀ b xs,H b=some (.tup xs)->H' b=some (.tup xs)) (frzs:∀ b o u,H b=some (.frz o u)->H' b=some (.frz o u)) (tbls:∀ b ps,H b=some (.tbl ps)->∃ more,H' b=some (.tbl (ps++more)))
  (ns:∀ m,s.heap.Ns X.env.locals m->h'.Ns X.env.locals m) (hok:HOk X.prog X.w H' h') (hg:AllBare g') :
  Inv X pins Y H' { s with heap:=h',gens:=g',drawn:=d',toks:=t' }:=by
 have neL:∀ b o,X.s₀.heap.get? b=some o->b≠X.env.locals:=λ b o e=>u3 (vH (uO e) I.ok.above)
 have neC:∀ b o,X.s₀.heap.get? b=some o->b ∉ X.ex->b ∉ ch:=λ b o e hx hb=>by
  rcases (hch b hb).1 with z|z
  ·exact hx z
  ·exact absurd (vH (uO e) z) (vP _)
 have cellK:∀ x c,X.env.cells.lookup x=some c->∀ v,s.heap.IsCell c v->h'.IsCell c v:=λ x c e v ⟨o,ho,hd⟩=>by
  have nch:c ∉ ch:=λ z=>(hch c z).2.2.1 x c e rfl
  by_cases hc:c∈X.fs
  ·obtain ⟨sl,q⟩:=slot c o (I.cne x c e) hc nch ho (I.freeC x c e)
   exact ⟨_,q,hd⟩
  ·exact ⟨o,keep c o (I.cne x c e) hc nch ho (I.freeC x c e),hd⟩
 refine ⟨I.ok,I.os,hg,⟨λ b o e n hb hx=>?_,λ b o e n hb hx=>?_,λ b o e n hx=>?_,λ b o e hx=>?_,λ b xs e=>tups b xs (I.base.tups b xs e),λ b o xs e=>frzs b o xs (I.base.frzs b o xs e),λ b ps e=>?_⟩,?_,λ x c e=>?_,?_,λ x c e=>?_,λ p hp=>?_,hok,I.len⟩
 ·exact keep b o (neL b o e) hb (neC b o e hx) (I.base.keep b o e n hb hx) (I.base.free b o e n hx)
 ·obtain ⟨sl,e1⟩:=I.base.slot b o e n hb hx
  obtain ⟨sl',e2⟩:=slot b _ (neL b o e) hb (neC b o e hx) e1 (I.base.free b o e n hx)
  exact ⟨sl',e2⟩
 ·obtain ⟨o',e1⟩:=I.base.there b o e hx
  exact free b o' (neC b o e hx) e1 (I.base.free b o e n hx)
 ·obtain ⟨o',e1⟩:=I.base.there b o e hx
  exact there b o' (neC b o e hx) e1
 ·obtain ⟨m1,e1⟩:=I.base.tbls b ps e
  obtain ⟨m2,e2⟩:=tbls b _ e1
  exact ⟨m1++m2,by rw [e2,zF]⟩
 ·obtain ⟨m,hn,hl⟩:=I.loc
  refine ⟨m,ns m hn,λ i x v e1 e2 e3=>?_⟩
  obtain ⟨u,r,l⟩:=hl i x v e1 e2 e3
  refine ⟨u,r,?_⟩
  rcases l with l|⟨k,c,e,z⟩
  ·exact .inl l
  ·exact .inr ⟨k,c,e,cellK x c e _ z⟩
 ·obtain ⟨v,z⟩:=I.cell x c e
  exact ⟨v,cellK x c e v z⟩
 ·obtain ⟨m,⟨o,_,_,ho,_⟩,_⟩:=I.loc
  exact free _ o (λ z=>(hch _ z).2.1 rfl) ho I.free
 ·obtain ⟨v,o,ho,hd⟩:=I.cell x c e
  exact free c o (λ z=>(hch c z).2.2.1 x c e rfl) ho (I.freeC x c e)
 ·obtain ⟨e,n,ne,nf,d⟩:=I.pin p hp
  have nch:p.1 ∉ ch:=λ z=>(hch p.1 z).2.2.2 p hp rfl
  exact ⟨keep p.1 p.2 ne nf nch e n,free p.1 p.2 nch e n,ne,nf,d⟩
theorem Inv.un {t':Nat} (I:Inv X pins Y H s) (u:Un X.fs [] H H' s.heap h') (hok:HOk X.prog X.w H' h'):Inv X pins Y H' { s with heap:=h',toks:=t' }:=by
 obtain ⟨m,⟨o,es,ep,ho,r⟩,_⟩:=id I.loc
 obtain ⟨sl,hL⟩:=u.any ho I.free (by simp)
 exact I.step (g':=s.gens) (d':=s.drawn) (ch:=[]) (λ _ z=>nomatch z) (λ b o _ hb _ e n=>u.keep b o e n hb (by simp)) (λ b o _ hb _ e n=>u.slot b o e n hb (by simp)) (λ b o _ e n=>u.free b o e n (by simp)) (λ b o _ e=>u.there b o e (by simp)) u.tups u.frzs u.tbls (λ m' hm=>by
  obtain ⟨o',es',ep',ho',r'⟩:=hm
  rw [ho] at ho';cases ho'
  exact ⟨_,es',ep',hL,r'⟩) hok I.bare
theorem Inv.call {g':Array GenState} {t':Nat} {d':Drawn} {ch:List Addr} (I:Inv X pins Y H s) (u:Un (frs X.stack) ch H H' s.heap h') (hok:HOk X.prog X.w H' h') (hg:AllBare g')
  (hch:∀ b∈ch,(b∈X.ex \/ X.s₀.heap.objs.size<=b)/\b≠X.env.locals/\(∀ x c,X.env.cells.lookup x=some c->c≠b)/\∀ p∈X.pn++pins,p.1≠b) :
  Inv X pins Y H' { s with heap:=h',gens:=g',drawn:=d',toks:=t' }:=by
 obtain ⟨m,⟨o,es,ep,ho,r⟩,_⟩:=id I.loc
 obtain ⟨sl,hL⟩:=u.any ho I.free λ z=>(hch _ z).2.1 rfl
 exact I.step (ch:=ch) hch (λ b o hL hb hc e n=>u.keep b o e n (λ z=>(uD.mp (I.stkSub b z)).elim hL hb) hc) (λ b o _ _ hc e n=>u.any e n hc) (λ b o hc e n=>u.free b o e n hc) (λ b o hc e=>u.there b o e hc) u.tups u.frzs u.tbls (λ m' hm=>by
  obtain ⟨o',es',ep',ho',r'⟩:=hm
  rw [ho] at ho';cases ho'
  exact ⟨_,es',ep',hL,r'⟩) hok hg
theorem Inv.turned {t':Nat} {it:Addr} (I:Inv X pins Y H s) (k:∀ b o,b≠it->s.heap.get? b=some o->h'.get? b=some o) (hn:H it=none) (hL:it≠X.env.locals)
  (h1:it∈X.ex \/ X.s₀.heap.objs.size<=it) (h2:∀ x c,X.env.cells.lookup x=some c->c≠it) (h3:∀ p∈X.pn++pins,p.1≠it):Inv X pins Y H { s with heap:=h',toks:=t' }:=by
 have nit:∀ b u,H b=some u->b≠it:=λ b u e z=>by rw [z,hn] at e;cases e
 refine I.step (g':=s.gens) (d':=s.drawn) (ch:=[it]) (λ b hb=>?_) (λ b o _ _ hc e _=>k b o (λ z=>hc (by simp [z])) e) (λ b o _ _ hc e _=>⟨o.slots,k b o (λ z=>hc (by simp [z])) e⟩) (λ _ _ _ _ n=>n)
  (λ b o hc e=>⟨o,k b o (λ z=>hc (by simp [z])) e⟩) (λ _ _ e=>e) (λ _ _ _ e=>e) (λ b ps e=>⟨#[],by rw [e];simp⟩) (λ m hm=>?_) (λ b u e=>?_) I.bare
 ·have e:b=it:=by simpa using hb
  subst e
  exact ⟨h1,hL,h2,h3⟩
 ·obtain ⟨o,es,ep,ho,r⟩:=hm
  exact ⟨o,es,ep,k _ o (Ne.symm hL) ho,r⟩
 ·refine (I.hok b u e).stay (λ c v hc q=>k c v ?_ q) (λ _ q=>q) λ _ _ q=>q
  rcases hc with z|z
  ·rw [z];exact nit b u e
  ·exact nit c _ z
theorem Inv.tok (I:Inv X pins Y H s) (t:Nat):Inv X pins Y H { s with toks:=t }:=I.un (h':=s.heap) (t':=t) Un.refl I.hok
theorem Inv.kept {t':Nat} (I:Inv X pins Y H s) (k:∀ b u,s.heap.get? b=some u->h'.get? b=some u):Inv X pins Y H { s with heap:=h',toks:=t' }:=I.un (Un.kept k) (I.hok.kept k)
theorem Inv.laid {a:Addr} {o:HO} {t':Nat} (I:Inv X pins Y H s) (k:∀ b u,s.heap.get? b=some u->h'.get? b=some u) (hp:s.heap.objs.size<=a) (new:ObjOk X.prog X.w (upd H a o) h' a o) :
  Inv X pins Y (upd H a o) { s with heap:=h',toks:=t' }:=I.un (Un.laid k hp (I.hok.fresh hp)) (I.hok.laid k hp new)
theorem Inv.write {x e:Addr} {o:HO} {t':Nat} (I:Inv X pins Y H s) (mu:Mut (H x)) (he:e=x \/ H e=some (.own x)) (k:∀ b u,b≠e->s.heap.get? b=some u->h'.get? b=some u) (heo:∃ u,h'.get? e=some u)
  (new:ObjOk X.prog X.w (upd H x o) h' x o):Inv X pins Y (upd H x o) { s with heap:=h',toks:=t' }:=I.un (Un.write mu he k heo) (I.hok.write mu he k heo new)
theorem Inv.pins_of {pins':List (Addr×Obj)} (I:Inv X pins Y H s) (h:∀ p∈pins',s.heap.get? p.1=some p.2/\H p.1=none/\p.1≠X.env.locals/\p.1 ∉ X.fs/\∀ v,p.2.data≠.cell v):Inv X pins' Y H s :=
 ⟨I.ok,I.os,I.bare,I.base,I.loc,I.cell,I.free,I.freeC,λ p hp=>(uF.mp hp).elim (λ z=>I.pin p (xV _ z)) (h p),I.hok,I.len⟩
theorem zxg {N:List Str} (hN:N.Nodup) {i j:Nat} {x:Str} (a:N[i]?=some x) (b:N[j]?=some x):i=j:=by
 obtain ⟨h1,e1⟩:=uZ.mp a
 obtain ⟨h2,e2⟩:=uZ.mp b
 exact (xW hN).mp (e1.trans e2.symm)
theorem zhf {M:Model} {A:Around} {E:Value->Shared->Prop} {i:Nat} {x:Str} {v:V} {u:Value} {Q:Unit->Shared->Prop} (I:Inv X pins Y H s) (hN:X.N.Nodup) (hi:X.N[i]?=some x) (hx:Loc X.env.scope x) (r:RelV v u)
  (h:∀ s',Inv X pins (Y.set i (some v)) H s'->(∃ a,Heap.SameBut a s.heap s'.heap/\(a=X.env.locals \/ X.env.cells.lookup x=some a))->Q () s') (hf:X.fn x=true \/ X.env.scope.names.lookup x=some .local:=by first|exact .inl rfl|exact .inr rfl|assumption):wpAny M A (storeName X.env x u) Q E s:=by
 obtain ⟨m,hn,hl⟩:=id I.loc
 have hcls:(X.env.scope.kind == .class || (X.env.scope.kind == .module && X.env.locals != X.env.globals))=false:=by rw [I.ok.kind];rfl
 have hiY:i < Y.length:=by rw [I.len];exact (uZ.mp hi).1
 have cne:=I.cne
 have tracked:∀ {a:Addr} {h':Heap},(∃ o,s.heap.get? a=some o/\H a=none)->Heap.SameBut a s.heap h'->HOk X.prog X.w H h':=λ {a h'} ha hs b ob e=>by
  obtain ⟨_,_,hfree⟩:=ha
  refine (I.hok b ob e).stay (λ c w' hc q=>(hs.2 c ?_).trans q) (λ _ q=>q) λ _ _ q=>q
  rintro rfl
  rcases hc with rfl|hc
  ·rw [hfree] at e;cases e
  ·rw [hfree] at hc;cases hc
 rcases hx with hk|hk
 ·refine wpAny_storeName_local hk hn (λ h' hn' hs=>?_) hcls
  obtain ⟨oL,_,_,hoL,_⟩:=id hn
  refine h _ ⟨I.ok,I.os,I.bare,⟨λ b o e n hb hx=>?_,λ b o e n hb hx=>?_,I.base.free,λ b o e hx=>?_,I.base.tups,I.base.frzs,I.base.tbls⟩,⟨_,hn',λ j y v' e1 e2 e3=>?_⟩,λ y c e=>?_,I.free,I.freeC,λ p hp=>?_,tracked ⟨oL,hoL,I.free⟩ hs,by simpa using I.len⟩ ⟨_,hs,.inl rfl⟩
  ·exact (hs.2 b (u3 (vH (uO e) I.ok.above))).trans (I.base.keep b o e n hb hx)
  ·obtain ⟨sl,e1⟩:=I.base.slot b o e n hb hx
   exact ⟨sl,(hs.2 b (u3 (vH (uO e) I.ok.above))).trans e1⟩
  ·obtain ⟨o',e1⟩:=I.base.there b o e hx
   exact ⟨o',(hs.2 b (u3 (vH (uO e) I.ok.above))).trans e1⟩
  ·by_cases hj:j=i
   ·subst hj
    rw [hi] at e1;cases e1
    rw [vO hiY] at e2
    cases e2
    exact ⟨u,r,.inl ⟨hk,by simp⟩⟩
   ·rw [vK (Ne.symm hj)] at e2
    obtain ⟨u',r',q⟩:=hl j y v' e1 e2 e3
    refine ⟨u',r',?_⟩
    rcases q with ⟨k,e⟩|⟨k,c,e,z⟩
    ·refine .inl ⟨k,?_⟩
     have:y≠x:=λ e=>hj (zxg hN e1 (e ▸ hi))
     simp [this,e]
    ·exact .inr ⟨k,c,e,z.sameBut hs (cne y c e)⟩
  ·obtain ⟨w',z⟩:=I.cell y c e
   exact ⟨w',z.sameBut hs (cne y c e)⟩
  ·obtain ⟨e,n,ne,nf,d⟩:=I.pin p hp
   exact ⟨(hs.2 p.1 ne).trans e,n,ne,nf,d⟩
 ·have hfn:X.fn x=true:=by
   rcases hf with z|z
   ·exact z
   ·rw [z] at hk;cases hk
  obtain ⟨c,hc⟩:=I.ok.has x (.inl hk)
  obtain ⟨w',z⟩:=I.cell x c hc
  refine wpAny_storeName_cell I.ok.kind hk hc z (λ h' hc' hs=>?_)
  obtain ⟨oc,hoc,hocd⟩:=id z
  refine h { s with heap:=h' } ⟨I.ok,I.os,I.bare,⟨λ b o e n hb hx=>?_,λ b o e n hb hx=>?_,I.base.free,λ b o e hx=>?_,I.base.tups,I.base.frzs,I.base.tbls⟩,⟨m,hn.sameBut hs (Ne.symm (cne x c hc)),λ j y v' e1 e2 e3=>?_⟩,λ y c' e=>?_,I.free,I.freeC,λ p hp=>?_,tracked ⟨oc,hoc,I.freeC x c hc⟩ hs,by simpa using I.len⟩ ⟨c,hs,.inr hc⟩
  ·exact (hs.2 b (u3 (vH (uO e) (I.ok.cab x c hfn hc)))).trans (I.base.keep b o e n hb hx)
  ·obtain ⟨sl,e1⟩:=I.base.slot b o e n hb hx
   exact ⟨sl,(hs.2 b (u3 (vH (uO e) (I.ok.cab x c hfn hc)))).trans e1⟩
  ·obtain ⟨o',e1⟩:=I.base.there b o e hx
   exact ⟨o',(hs.2 b (u3 (vH (uO e) (I.ok.cab x c hfn hc)))).trans e1⟩
  ·by_cases hj:j=i
   ·subst hj
    rw [hi] at e1;cases e1
    rw [vO hiY] at e2
    cases e2
    exact ⟨u,r,.inr ⟨.inl hk,c,hc,hc'⟩⟩
   ·rw [vK (Ne.symm hj)] at e2
    obtain ⟨u',r',q⟩:=hl j y v' e1 e2 e3
    refine ⟨u',r',?_⟩
    rcases q with q|⟨k,c',e,z'⟩
    ·exact .inl q
    ·refine .inr ⟨k,c',e,z'.sameBut hs ?_⟩
     rintro rfl
     exact hj (zxg hN e1 (I.ok.inj _ _ _ e hc ▸ hi))
  ·by_cases hcc:c'=c
   ·subst hcc;exact ⟨_,hc'⟩
   ·obtain ⟨w2,z2⟩:=I.cell y c' e
    exact ⟨w2,z2.sameBut hs hcc⟩
  ·obtain ⟨e,n,ne,nf,d⟩:=I.pin p hp
   refine ⟨(hs.2 p.1 ?_).trans e,n,ne,nf,d⟩
   intro q
   rw [q,hoc] at e
   have q':oc=p.2:=u8.inj e
   exact d w' (by rw [<- q'];exact hocd)
theorem zyc {M:Model} {A:Around} {E:Value->Shared->Prop} {i:Nat} {x:Str} {v:V} {u:Value} {Q:Unit->Shared->Prop} (I:Inv X pins Y H s) (hN:X.N.Nodup) (hi:X.N[i]?=some x) (hx:Loc X.env.scope x) (r:RelV v u)
  (h:∀ s',Inv X pins (Y.set i (some v)) H s'->Q () s') (hf:X.fn x=true \/ X.env.scope.names.lookup x=some .local:=by first|exact .inl rfl|exact .inr rfl|assumption):wpAny M A (storeName X.env x u) Q E s :=
 zhf I hN hi hx r (λ s' I' _=>h s' I') hf
theorem Inv.call' {s':Shared} {ch:List Addr} (I:Inv X pins Y H s) (ho:s'.os=s.os) (u:Un (frs X.stack) ch H H' s.heap s'.heap) (hok:HOk X.prog X.w H' s'.heap) (hg:AllBare s'.gens)
  (hch:∀ b∈ch,(b∈X.ex \/ X.s₀.heap.objs.size<=b)/\b≠X.env.locals/\(∀ x c,X.env.cells.lookup x=some c->c≠b)/\∀ p∈X.pn++pins,p.1≠b):Inv X pins Y H' s':=by
 obtain ⟨h',g',d',t',o'⟩:=s'
 have e:o'=s.os:=ho
 subst e
 exact I.call (g':=g') (t':=t') (d':=d') u hok hg hch
end
noncomputable abbrev XK:=Value->Option Addr->Hp->Prop
noncomputable abbrev St:=List (Option V)
noncomputable abbrev VK:=V->Hp->Prop
noncomputable abbrev TE:=St->Hp->VK->Prop
noncomputable abbrev TT:=St->Hp->(Bool->Hp->Prop)->Prop
noncomputable abbrev TA:=St->Hp->(List V->Hp->Prop)->Prop
structure Ends where
 nx:St->Hp->Prop
 rt:VK
 bk:St->Hp->Prop:=λ _ _=>False
 ct:St->Hp->Prop:=λ _ _=>False
noncomputable abbrev TS:=Ends->St->Hp->Prop
noncomputable def EP (X:Cx) (pins:List (Addr×Obj)) (Y:St) (Q:VK) (u:Value) (s':Shared):Prop:=∃ v H',Inv X pins Y H' s'/\RelV v u/\Q v H'
noncomputable def TP (X:Cx) (pins:List (Addr×Obj)) (Y:St) (Q:Bool->Hp->Prop) (b:Bool) (s':Shared):Prop:=∃ H',Inv X pins Y H' s'/\Q b H'
noncomputable def AP (X:Cx) (pins:List (Addr×Obj)) (Y:St) (Q:List V->Hp->Prop) (us:List Value) (s':Shared):Prop:=∃ vs H',Inv X pins Y H' s'/\Vals vs us/\Q vs H'
noncomputable def SP (X:Cx) (pins:List (Addr×Obj)) (D:Ends) (f:Flow) (s':Shared):Prop :=
 match f with
|.next=>∃ Y' H',Inv X pins Y' H' s'/\D.nx Y' H'
|.brk=>∃ Y' H',Inv X pins Y' H' s'/\D.bk Y' H'
|.cont=>∃ Y' H',Inv X pins Y' H' s'/\D.ct Y' H'
|.ret u=>∃ v Y' H',Inv X pins Y' H' s'/\RelV v u/\D.rt v H'
noncomputable def PE (X:Cx) (e:Expr) (t:TE):Prop :=
 ∀ (pins:List (Addr×Obj)) (s:Shared) (Y:St) (H:Hp) (Q:VK),Inv X pins Y H s->t Y H Q->wpAny (model X.prog X.w) X.A (eval e X.env) (EP X pins Y Q) X.xe s
noncomputable def PT (X:Cx) (e:Expr) (t:TT):Prop :=
 ∀ (pins:List (Addr×Obj)) (s:Shared) (Y:St) (H:Hp) (Q:Bool->Hp->Prop),Inv X pins Y H s->t Y H Q->wpAny (model X.prog X.w) X.A (isTrue e X.env (eval e X.env)) (TP X pins Y Q) X.xe s
noncomputable def PW (X:Cx) (e:Expr) (t:TT):Prop :=
 ∀ (whole:Sem Value) (pins:List (Addr×Obj)) (s:Shared) (Y:St) (H:Hp) (Q:Bool->Hp->Prop),Inv X pins Y H s->t Y H Q->wpAny (model X.prog X.w) X.A (isTrue e X.env whole) (TP X pins Y Q) X.xe s
theorem PW.pt {X:Cx} {e:Expr} {t:TT} (h:PW X e t):PT X e t:=h _
noncomputable def PA (X:Cx) (es:List Expr) (t:TA):Prop :=
 ∀ (pos:Pos) (pins:List (Addr×Obj)) (s:Shared) (Y:St) (H:Hp) (Q:List V->Hp->Prop),Inv X pins Y H s->t Y H Q->wpAny (model X.prog X.w) X.A (spliced (backTo pos (starEach es X.env))) (AP X pins Y Q) X.xe s
noncomputable def PS (X:Cx) (st:Stmt) (t:TS):Prop :=
 ∀ (pins:List (Addr×Obj)) (s:Shared) (Y:St) (H:Hp) (D:Ends),Inv X pins Y H s->t D Y H->wpAny (model X.prog X.w) X.A (exec st X.env) (SP X pins D) X.xe s
noncomputable def PSs (X:Cx) (st:List Stmt) (t:TS):Prop :=
 ∀ (pins:List (Addr×Obj)) (s:Shared) (Y:St) (H:Hp) (D:Ends),Inv X pins Y H s->t D Y H->wpAny (model X.prog X.w) X.A (execs st X.env) (SP X pins D) X.xe s
theorem thn {α:Type} {t:Sem α} {Q Q':α->Shared->Prop} {M:Model} {A:Around} {E:Value->Shared->Prop} {s:Shared} (h:wpAny M A t Q E s) (hQ:∀ a s,Q a s->Q' a s):wpAny M A t Q' E s:=wpAny_mono h hQ λ _ _ x=>x
section
variable {X:Cx}
noncomputable def tVar (i:Nat):TE:=λ Y H Q=>∃ v,Y[i]?=some (some v)/\Q v H
noncomputable def tC (v:V):TE:=λ _ H Q=>Q v H
theorem za01 {i:Nat} {x:Str} {pos:Pos} (hN:X.N[i]?=some x) (hv:Vis X.env.scope x) (hd:(x == ("__debug__":Str))=false:=by decide) (hcd:(x == ("__classdict__":Str))=false:=by decide):PE X (.Name x pos) (tVar i):=by
 intro pins s Y H Q I h
 obtain ⟨v,e,h⟩:=h
 obtain ⟨m,hn,hl⟩:=I.loc
 obtain ⟨u,r,l⟩:=hl i x v hN e hv
 have fin:EP X pins Y Q u s:=⟨v,H,I,r,h⟩
 rcases l with ⟨hk,hm⟩|⟨hk,c,hc,hcell⟩
 ·exact wpAny_Name (wpAny_loadName_local I.ok.kind hk hn hm fin) hd
 ·rcases hk with hk|hk
  ·exact wpAny_Name (wpAny_loadName_cell I.ok.kind hk hc hcell fin) hd
  ·exact wpAny_Name (wpAny_loadName_free I.ok.kind hk hc hcell fin hcd) hd
theorem zl0 {i j pos}:PE X (.Constant (.int i) j pos) (tC (.int i)):=λ _ _ _ H _ I h=>wpAny_Constant_int ⟨.int i,H,I.tok _,⟨_,rfl⟩,h⟩
theorem zlr {b j pos}:PE X (.Constant (.bool b) j pos) (tC (.bl b)):=λ _ _ _ H _ I h=>Constant_bool ⟨.bl b,H,I,rfl,h⟩
theorem zxo {j pos}:PE X (.Constant .none j pos) (tC .non):=λ _ _ _ H _ I h=>Constant_none ⟨.non,H,I,rfl,h⟩
noncomputable def Gl (X:Cx) (x:Str):Prop:=X.env.kindOf x=some .globalImplicit
theorem zkh {E:Value->Shared->Prop} {pins:List (Addr×Obj)} {s:Shared} {Y:St} {H:Hp} {x:Str} {u:Value} {pos:Pos} {Q:Value->Shared->Prop} (I:Inv X pins Y H s) (hg:Gl X x) (hm:X.mg x=some u) (h:Q u s)
  (hd:(x == ("__debug__":Str))=false:=by decide):wpAny (model X.prog X.w) X.A (eval (.Name x pos) X.env) Q E s :=
 Calls.Name_function_global I.ok.kind hg (Calls.loadGlobal_global (by rw [I.ok.glob];exact I.mod.glob.keeps I.bk) hm h) hd
theorem zia {E:Value->Shared->Prop} {pins:List (Addr×Obj)} {s:Shared} {Y:St} {H:Hp} {x:Str} {u:Value} {pos:Pos} {Q:Value->Shared->Prop} (I:Inv X pins Y H s) (hg:Gl X x) (hm:X.mg x=none) (hv:bootBuiltins x=some u) (h:Q u s)
  (hn:x ≠ "__name__":=by decide) (hd:(x == ("__debug__":Str))=false:=by decide):wpAny (model X.prog X.w) X.A (eval (.Name x pos) X.env) Q E s:=by
 obtain ⟨mb,h1,h2⟩:=I.mod.blt
 exact Calls.Name_function_global I.ok.kind hg (Calls.loadGlobal_builtin (by rw [I.ok.glob];exact I.mod.glob.keeps I.bk) hm (by rw [I.ok.blt];exact h1.keeps I.bk) ((h2 x hn).trans hv) h) hd
theorem zuh {x:Str} {v:V} {u:Value} {pos:Pos} (hg:Gl X x) (hm:X.mg x=some u) (r:RelV v u) (hd:(x == ("__debug__":Str))=false:=by decide):PE X (.Name x pos) (tC v) :=
 λ _ _ _ H _ I h=>zkh I hg hm ⟨v,H,I,r,h⟩ hd
theorem zgc {x:Str} {v:V} {u:Value} {pos:Pos} (hg:Gl X x) (hm:X.mg x=none) (hv:bootBuiltins x=some u) (r:RelV v u) (hn:x ≠ "__name__":=by decide) (hd:(x == ("__debug__":Str))=false:=by decide):PE X (.Name x pos) (tC v) :=
 λ _ _ _ H _ I h=>zia I hg hm hv ⟨v,H,I,r,h⟩ hn hd
variable {a b:Expr} {ta tb:TE} {pos:Pos}
variable {tA tB':TT} {rest:List Expr}
noncomputable def tAnd (t u:TT):TT:=λ Y H Q=>t Y H λ c H1=>if c=true then u Y H1 Q else Q false H1
noncomputable def tOr (t u:TT):TT:=λ Y H Q=>t Y H λ c H1=>if c=true then Q true H1 else u Y H1 Q
noncomputable def tNot (t:TT):TT:=λ Y H Q=>t Y H λ c H1=>Q (!c) H1
theorem zpm (ha:PT X a tA):PW X (.BoolOp .And [a] pos) tA:=by
 intro wh pins s Y H Q I h
 refine isTrue_and (thn (ha pins s Y H Q I h) λ c s1 e=>?_)
 cases c with
|true=>exact isTrue_and_nil e
|false=>exact e
theorem zzk (ha:PT X a tA):PW X (.BoolOp .Or [a] pos) tA:=by
 intro wh pins s Y H Q I h
 refine isTrue_or (thn (ha pins s Y H Q I h) λ c s1 e=>?_)
 cases c with
|false=>exact isTrue_or_nil e
|true=>exact e
theorem zmt (ha:PT X a tA) (hb:PW X (.BoolOp .And (b :: rest) pos) tB'):PW X (.BoolOp .And (a :: b :: rest) pos) (tAnd tA tB'):=by
 intro wh pins s Y H Q I h
 refine isTrue_and (thn (ha pins s Y H _ I h) λ c s1 ⟨H1,I1,q1⟩=>?_)
 cases c with
|true=>exact hb wh pins s1 Y H1 Q I1 q1
|false=>exact ⟨H1,I1,q1⟩
theorem zjr (ha:PT X a tA) (hb:PW X (.BoolOp .Or (b :: rest) pos) tB'):PW X (.BoolOp .Or (a :: b :: rest) pos) (tOr tA tB'):=by
 intro wh pins s Y H Q I h
 refine isTrue_or (thn (ha pins s Y H _ I h) λ c s1 ⟨H1,I1,q1⟩=>?_)
 cases c with
|true=>exact ⟨H1,I1,q1⟩
|false=>exact hb wh pins s1 Y H1 Q I1 q1
theorem zlk (ha:PT X a tA):PT X (.UnaryOp .Not a pos) (tNot tA):=by
 intro pins s Y H Q I h
 exact isTrue_not (ha pins s Y H (λ c H1=>Q (!c) H1) I h)
noncomputable def zm71 (ta tb:TE):TE:=λ Y H Q=>ta Y H λ x H1=>∃ c,x=.bl c/\if c=true then tb Y H1 Q else Q (.bl false) H1
noncomputable def zu51 (ta:TE):TE:=λ Y H Q=>ta Y H λ x H1=>∃ c,x=.bl c/\Q (.bl (!c)) H1
theorem zzz {op} {t:TE} (h:PE X a t):PE X (.BoolOp op [a] pos) t:=λ pins s Y H Q I hw=>BoolOp_one (h pins s Y H Q I hw)
theorem zt21 (ha:PE X a ta) (hb:PE X (.BoolOp .And (b :: rest) pos) tb):PE X (.BoolOp .And (a :: b :: rest) pos) (zm71 ta tb):=by
 intro pins s Y H Q I h
 refine BoolOp_and (thn (ha pins s Y H _ I h) λ v s1 ⟨x,H1,I1,r1,q1⟩=>?_)
 obtain ⟨c,rfl,q1⟩:=q1
 cases r1
 refine wpAny_truthy_bool ?_
 cases c with
|true=>exact hb pins s1 Y H1 Q I1 q1
|false=>exact ⟨.bl false,H1,I1,rfl,q1⟩
theorem zi31 (ha:PE X a ta):PE X (.UnaryOp .Not a pos) (zu51 ta):=by
 intro pins s Y H Q I h
 refine UnaryOp_ (thn (ha pins s Y H _ I h) λ v s1 ⟨x,H1,I1,r1,q1⟩=>?_)
 obtain ⟨c,rfl,q1⟩:=q1
 cases r1
 exact not_of (wpAny_truthy_bool ⟨.bl (!c),H1,I1,rfl,q1⟩)
noncomputable def tIf (t:TT) (ta tb:TE):TE:=λ Y H Q=>t Y H λ c H1=>if c=true then ta Y H1 Q else tb Y H1 Q
theorem zpi {c:Expr} (hc:PT X c tA) (ha:PE X a ta) (hb:PE X b tb):PE X (.IfExp c a b pos) (tIf tA ta tb):=by
 intro pins s Y H Q I h
 refine wpAny_IfExp (thn (hc pins s Y H _ I h) λ d s1 ⟨H1,I1,q1⟩=>?_)
 cases d with
|true=>exact ha pins s1 Y H1 Q I1 q1
|false=>exact hb pins s1 Y H1 Q I1 q1
end
noncomputable def SqL (K:Fg) (H:Hp) (a:Addr) (xs:List V):Prop :=
 Rd H a (.lst xs) \/
  ∃ (o:Obj) (its:Array Value) (n:Nat),K.lookup a=some o/\o.cls=.type "list"/\o.dict=none/\o.data=.seq its n/\its.size<=sizeLine/\Vals xs its.toList
noncomputable def SqT (K:Fg) (H:Hp) (a:Addr) (xs:List V):Prop :=
 Rd H a (.tup xs) \/
  ∃ (o:Obj) (its:Array Value) (n:Nat),K.lookup a=some o/\o.cls=.type "tuple"/\o.data=.seq its n/\its.size<=sizeLine/\Vals xs its.toList
noncomputable def absV:Value->Option V
|.none=>some .non
|.bool b=>some (.bl b)
|.int i _=>some (.int i)
|.str x _=>some (.str x)
|.bytes b _=>some (.byt b)
|.float b _=>some (.flt b)
|.ref a=>some (.ref a)
|.type n=>some (.ty n)
|_=>none
theorem RelV.abs {x:V} {u:Value} (r:RelV x u):absV u=some x:=by
 cases x with
|non=>cases r;rfl
|bl _=>cases r;rfl
|int _=>obtain ⟨t,rfl⟩:=r;rfl
|str _=>obtain ⟨t,rfl⟩:=r;rfl
|byt _=>obtain ⟨t,rfl⟩:=r;rfl
|flt _=>obtain ⟨t,rfl⟩:=r;rfl
|ref _=>cases r;rfl
|ty _=>cases r;rfl
theorem RelV.inj {x y:V} {u:Value} (r:RelV x u) (q:RelV y u):x=y:=u8.inj (r.abs.symm.trans q.abs)
theorem Vals.inj:∀ {xs ys:List V} {us:List Value},Vals xs us->Vals ys us->xs=ys
|_,_,_,.nil,.nil=>rfl
|_,_,_,.cons r t,.cons r' t'=>by rw [r.inj r',Vals.inj t t']
section
variable {X:Cx} {pins:List (Addr×Obj)} {Y:St} {H:Hp} {s:Shared} {a:Addr} {xs ys:List V}
theorem SqL.of {K:Fg} (h:H a=some (.lst xs)):SqL K H a xs:=.inl (.inl h)
theorem SqT.of {K:Fg} (h:H a=some (.tup xs)):SqT K H a xs:=.inl (.inl h)
theorem Inv.list (I:Inv X pins Y H s) (h:SqL X.K H a xs):∃ its:List Value,Vals xs its/\PlainL s.heap a its.toArray/\xs.length<=sizeLine:=by
 rcases h with h|⟨o,its,n,hk,hc,hd,hs,hz,r⟩
 ·obtain ⟨z,its,n,r,e⟩:=h.ok I.hok
  exact ⟨its,r,⟨_,n,e,rfl,rfl,rfl⟩,z⟩
 ·refine ⟨its.toList,r,⟨o,n,I.kIn a o hk,hc,hd,by simpa using hs⟩,?_⟩
  have e:=r.length
  simp only [v8] at e
  lia
theorem Inv.tuple (I:Inv X pins Y H s) (h:SqT X.K H a xs):∃ its:List Value,Vals xs its/\IsTup s.heap a its.toArray/\xs.length<=sizeLine:=by
 rcases h with h|⟨o,its,n,hk,hc,hs,hz,r⟩
 ·obtain ⟨z,its,r,p⟩:=h.ok I.hok
  exact ⟨its,r,p,z⟩
 ·refine ⟨its.toList,r,⟨o,I.kIn a o hk,hc,n,by simpa using hs⟩,?_⟩
  have e:=r.length
  simp only [v8] at e
  lia
theorem Inv.list_inj (I:Inv X pins Y H s) (h:SqL X.K H a xs) (h':SqL X.K H a ys):xs=ys:=by
 obtain ⟨its,r,⟨o,n,e,_,_,d⟩,_⟩:=I.list h
 obtain ⟨its',r',⟨o',n',e',_,_,d'⟩,_⟩:=I.list h'
 rw [e] at e';cases e'
 rw [d] at d'
 injection d' with d1 _
 have:its=its':=by simpa using congrArg yS d1
 subst this
 exact r.inj r'
theorem Inv.tuple_inj (I:Inv X pins Y H s) (h:SqT X.K H a xs) (h':SqT X.K H a ys):xs=ys:=by
 obtain ⟨its,r,⟨o,e,_,n,d⟩,_⟩:=I.tuple h
 obtain ⟨its',r',⟨o',e',_,n',d'⟩,_⟩:=I.tuple h'
 rw [e] at e';cases e'
 rw [d] at d'
 injection d' with d1 _
 have:its=its':=by simpa using congrArg yS d1
 subst this
 exact r.inj r'
end
noncomputable abbrev Cx.wish (X:Cx) (E:Value->Shared->Prop):Cx:={ X with xe:=E }
noncomputable abbrev Cx.nox (X:Cx):Cx:=X.wish λ _ _=>False
theorem Cx.Ok.wish {X:Cx} (ok:X.Ok) (E:Value->Shared->Prop):(X.wish E).Ok :=
 ⟨ok.mod,ok.kind,ok.glob,ok.blt,ok.above,ok.inj,ok.has,ok.cab,ok.hd,ok.frames,ok.stk,ok.exf,ok.bs,ok.bsz,ok.noex,ok.exfs,ok.funs,ok.frf⟩
theorem Cx.Ok.unwish {X:Cx} {E:Value->Shared->Prop} (ok:(X.wish E).Ok):X.Ok :=
 ⟨ok.mod,ok.kind,ok.glob,ok.blt,ok.above,ok.inj,ok.has,ok.cab,ok.hd,ok.frames,ok.stk,ok.exf,ok.bs,ok.bsz,ok.noex,ok.exfs,ok.funs,ok.frf⟩
section
variable {X:Cx} {pins:List (Addr×Obj)} {Y:St} {H:Hp} {s:Shared} {E:Value->Shared->Prop}
theorem Inv.wish (I:Inv X pins Y H s) (E:Value->Shared->Prop):Inv (X.wish E) pins Y H s:=⟨I.ok.wish E,I.os,I.bare,I.base,I.loc,I.cell,I.free,I.freeC,I.pin,I.hok,I.len⟩
theorem Inv.unwish (I:Inv (X.wish E) pins Y H s):Inv X pins Y H s:=⟨I.ok.unwish,I.os,I.bare,I.base,I.loc,I.cell,I.free,I.freeC,I.pin,I.hok,I.len⟩
theorem SP.unwish {D:Ends} {f:Flow} {s':Shared} (h:SP (X.wish E) pins D f s'):SP X pins D f s':=by
 cases f with
|next=>obtain ⟨Y',H',I,q⟩:=h;exact ⟨Y',H',I.unwish,q⟩
|brk=>obtain ⟨Y',H',I,q⟩:=h;exact ⟨Y',H',I.unwish,q⟩
|cont=>obtain ⟨Y',H',I,q⟩:=h;exact ⟨Y',H',I.unwish,q⟩
|ret u=>obtain ⟨v,Y',H',I,r,q⟩:=h;exact ⟨v,Y',H',I.unwish,r,q⟩
theorem PSs.nox {st:List Stmt} {t:TS} (h:PSs X.nox st t):PSs X st t:=λ pins s Y H D I hw =>
 wpAny_mono (h pins s Y H D (I.wish _) hw) (λ _ _ q=>q.unwish) λ _ _ z=>False.elim z
end
section
variable {X:Cx} {st:Stmt} {rest:List Stmt} {t u:TS} {e:Expr} {te:TE} {pos:Pos}
noncomputable def zw61:TS:=λ D Y H=>D.nx Y H
noncomputable def tSeq (t u:TS):TS:=λ D Y H=>t { D with nx:=u D } Y H
theorem zs2:PSs X [] zw61:=λ _ _ Y H _ I h=>wpAny_execs_nil ⟨Y,H,I,h⟩
theorem zc0 (h1:PS X st t) (h2:PSs X rest u):PSs X (st :: rest) (tSeq t u):=by
 intro pins s Y H D I h
 refine wpAny_execs_cons (thn (h1 pins s Y H { D with nx:=u D } I h) λ f s1 q=>?_)
 cases f with
|next =>
  obtain ⟨Y',H',I',q⟩:=q
  exact h2 pins s1 Y' H' D I' q
|ret v=>exact q
|brk=>exact q
|cont=>exact q
theorem zj0 (h1:PS X st t):PSs X [st] t:=by
 intro pins s Y H D I h
 refine wpAny_execs_cons (thn (h1 pins s Y H D I h) λ f s1 q=>?_)
 cases f with
|next=>exact wpAny_execs_nil q
|ret v=>exact q
|brk=>exact q
|cont=>exact q
theorem Inv.quiet {pins:List (Addr×Obj)} {Y:St} {H:Hp} {s:Shared} (I:Inv X pins Y H s):interactive X.env=false:=by simp [interactive,I.ok.kind]
noncomputable def zr01 (te:TE):TS:=λ D Y H=>te Y H λ _ H1=>D.nx Y H1
theorem zo1 (he:PE X e te) (hs:swapsWith e none pos.line X.env=pure false:=by rfl):PS X (.Expr e pos) (zr01 te):=by
 intro pins s Y H D I h
 exact wpAny_Expr_any (thn (he pins s Y H _ I h) λ v s1 ⟨x,H1,I1,r1,q1⟩=>⟨Y,H1,I1,q1⟩) I.quiet hs
noncomputable def tRet (te:TE):TS:=λ D Y H=>te Y H D.rt
theorem zl1 (he:PE X e te):PS X (.Return (some e) pos) (tRet te):=by
 intro pins s Y H D I h
 exact wpAny_Return_some (thn (he pins s Y H _ I h) λ v s1 ⟨x,H1,I1,r1,q1⟩=>⟨x,Y,H1,I1,r1,q1⟩)
noncomputable def tIfS (c:TT) (t u:TS):TS:=λ D Y H=>c Y H λ b H1=>if b=true then t D Y H1 else u D Y H1
theorem zqb {c:Expr} {a b:List Stmt} {tc:TT} (hc:PT X c tc) (ha:PSs X a t) (hb:PSs X b u):PS X (.If c a b pos) (tIfS tc t u):=by
 intro pins s Y H D I h
 refine wpAny_If (thn (hc pins s Y H _ I h) λ d s1 ⟨H1,I1,q1⟩=>?_)
 cases d with
|true=>exact ha pins s1 Y H1 D I1 q1
|false=>exact hb pins s1 Y H1 D I1 q1
end
noncomputable abbrev TG:=V->St->Hp->(St->Hp->Prop)->Prop
noncomputable abbrev TGs:=List V->St->Hp->(St->Hp->Prop)->Prop
noncomputable def PG (X:Cx) (target:Expr) (t:TG):Prop :=
 ∀ (pins:List (Addr×Obj)) (s:Shared) (Y:St) (H:Hp) (v:V) (u:Value) (Q:St->Hp->Prop),Inv X pins Y H s->RelV v u->t v Y H Q ->
  wpAny (model X.prog X.w) X.A (assign target X.env u) (λ _ s'=>∃ Y' H',Inv X pins Y' H' s'/\Q Y' H') X.xe s
noncomputable def PGs (X:Cx) (ts:List Expr) (t:TGs):Prop :=
 ∀ (pins:List (Addr×Obj)) (s:Shared) (Y:St) (H:Hp) (vs:List V) (us:List Value) (Q:St->Hp->Prop),Inv X pins Y H s->Vals vs us->t vs Y H Q ->
  wpAny (model X.prog X.w) X.A (assignInOrder ((assignEach ts X.env).map (·.2)) us) (λ _ s'=>∃ Y' H',Inv X pins Y' H' s'/\Q Y' H') X.xe s
noncomputable abbrev TSet:=V->V->V->Hp->(Hp->Prop)->Prop
noncomputable def PSet (X:Cx) (t:TSet):Prop :=
 ∀ (pins:List (Addr×Obj)) (s:Shared) (Y:St) (H:Hp) (o i v:V) (ov iv u:Value) (Q:Hp->Prop),Inv X pins Y H s->RelV o ov->RelV i iv->RelV v u->t o i v H Q ->
  wpAny (model X.prog X.w) X.A (setItem ov iv u) (λ _ s'=>∃ H',Inv X pins Y H' s'/\Q H') X.xe s
noncomputable abbrev TIp:=V->V->Hp->VK->Prop
noncomputable def PIp (X:Cx) (op:Operator) (t:TIp):Prop :=
 ∀ (pins:List (Addr×Obj)) (s:Shared) (Y:St) (H:Hp) (x y:V) (v u:Value) (Q:VK),Inv X pins Y H s->RelV x v->RelV y u->t x y H Q ->
  wpAny (model X.prog X.w) X.A (inplaceOp op v u) (EP X pins Y Q) X.xe s
section
variable {X:Cx} {pos:Pos}
noncomputable def zfj (i:Nat):TG:=λ v Y H Q=>Q (Y.set i (some v)) H
theorem zwv {i:Nat} {x:Str} (hN:X.N.Nodup) (hi:X.N[i]?=some x) (hx:Loc X.env.scope x) (hf:X.fn x=true \/ X.env.scope.names.lookup x=some .local:=by first|exact .inl rfl|exact .inr rfl|assumption):PG X (.Name x pos) (zfj i):=by
 intro pins s Y H v u Q I r h
 exact wpAny_assign_Name (zyc I hN hi hx r (λ s' I'=>⟨_,H,I',h⟩) hf)
noncomputable def gNil:TGs:=λ vs Y H Q=>vs=[]/\Q Y H
noncomputable def ze61 (t:TG) (u:TGs):TGs:=λ vs Y H Q=>∃ v r,vs=v :: r/\t v Y H λ Y' H'=>u r Y' H' Q
theorem zm2:PGs X [] gNil:=by
 intro pins s Y H vs us Q I r h
 obtain ⟨e,h⟩:=h
 subst e
 cases r
 exact assignInOrder_nil ⟨Y,H,I,h⟩
theorem zp0 {e:Expr} {es:List Expr} {t:TG} {u:TGs} (h1:PG X e t) (h2:PGs X es u)
  (hs:(assignEach (e :: es) X.env).map (·.2)=assign e X.env :: (assignEach es X.env).map (·.2):=by rfl):PGs X (e :: es) (ze61 t u):=by
 intro pins s Y H vs us Q I r h
 obtain ⟨v,vr,e1,h⟩:=h
 subst e1
 cases r with
|cons r rr =>
  rw [hs]
  refine assignInOrder_cons (thn (h1 pins s Y H _ _ _ I r h) λ _ s1 ⟨Y1,H1,I1,q1⟩=>?_)
  exact h2 pins s1 Y1 H1 _ _ Q I1 rr q1
noncomputable def gTup (K:Fg) (n:Nat) (t:TGs):TG:=λ v Y H Q=>∃ a xs,v=.ref a/\SqT K H a xs/\xs.length=n/\t xs Y H Q
theorem zq41 {es:List Expr} {k:Nat} {t:TGs} {n:Nat} (hc:X.calm=true) (h:PGs X es t)
  (hn:(assignEach es X.env).length=n:=by rfl) (hst:(assignEach es X.env).findIdx? (·.1)=none:=by rfl):PG X (.Tuple es k pos) (gTup X.K n t):=by
 intro pins s Y H v u Q I r hw
 obtain ⟨a,xs,e1,hq,hl,hw⟩:=hw
 subst e1
 cases r
 obtain ⟨its,rv,ht,hz⟩:=I.tuple hq
 refine assign_Tuple_tuple (I.ok.hd hc) ht (by simp [hn,<- hl,rv.length]) hst λ h' hx=>?_
 have I1:Inv X pins Y H { s with heap:=h' }:=I.kept (t':=s.toks) λ b o e=>hx b o (u3 (uO e)) e
 exact h pins _ Y H xs _ Q I1 (by simpa using rv) hw
noncomputable def gSub (to ti:TE) (t:TSet):TG:=λ v Y H Q=>to Y H λ o H1=>ti Y H1 λ i H2=>t o i v H2 λ H3=>Q Y H3
theorem ztl {o i:Expr} {to ti:TE} {t:TSet} (ho:PE X o to) (hi:PE X i ti) (hs:PSet X t)
  (ha:∀ v,assign (.Subscript o i pos) X.env v=(do
   let ov <- holding [v] (eval o X.env)
   let iv <- holding [v,ov] (eval i X.env)
   standAt pos
   holding [v,ov,iv] (setItem ov iv v)
   release [v,ov,iv] []):=by intro _;rfl):PG X (.Subscript o i pos) (gSub to ti t):=by
 intro pins s Y H v u Q I r h
 rw [ha]
 refine wpAny_bind (wpAny_holding (thn (ho pins s Y H _ I h) λ ov s1 ⟨x,H1,I1,r1,q1⟩=>?_))
 refine wpAny_bind (wpAny_holding (thn (hi pins s1 Y H1 _ I1 q1) λ iv s2 ⟨y,H2,I2,r2,q2⟩=>?_))
 refine wpAny_bind (wpAny_standAt (wpAny_bind (wpAny_holding (thn (hs pins s2 Y H2 x y v ov iv u _ I2 r1 r2 r q2) λ _ s3 ⟨H3,I3,q3⟩=>?_))))
 exact wpAny_release ⟨Y,H3,I3,q3⟩
noncomputable def tAsg (te:TE) (g:TG):TS:=λ D Y H=>te Y H λ x H1=>g x Y H1 D.nx
theorem zzi {tg e:Expr} {te:TE} {g:TG} (he:PE X e te) (hg:PG X tg g) (hs:swapsWithSole [tg] e pos.line X.env=pure false:=by rfl) (hw:swappedStores [tg] e X.env=pure none:=by rfl)
  (h1:(assignEach [tg] X.env).map (·.2)=[assign tg X.env]:=by rfl):PS X (.Assign [tg] e pos) (tAsg te g):=by
 intro pins s Y H D I h
 refine wpAny_Assign_stores (thn (he pins s Y H _ I h) λ v s1 ⟨x,H1,I1,r1,q1⟩=>?_) hs hw
 rw [h1]
 exact thn (hg pins s1 Y H1 x v _ I1 r1 q1) λ _ s2 q=>q
theorem zr11 {i:Nat} {x:Str} {e:Expr} {te:TE} {pos':Pos} (hN:X.N.Nodup) (hi:X.N[i]?=some x) (hx:Loc X.env.scope x) (he:PE X e te) (hs:swapsWith e (some (.Name x pos')) pos.line X.env=pure false:=by rfl) (hf:X.fn x=true \/ X.env.scope.names.lookup x=some .local:=by first|exact .inl rfl|exact .inr rfl|assumption) :
  PS X (.Assign [.Name x pos'] e pos) (tAsg te (zfj i)):=by
 intro pins s Y H D I h
 refine wpAny_Assign_Name (thn (he pins s Y H _ I h) λ v s1 ⟨y,H1,I1,r1,q1⟩=>?_) hs
 exact zyc I1 hN hi hx r1 (λ s2 I2=>⟨_,H1,I2,q1⟩) hf
noncomputable def tAug (i:Nat) (te:TE) (ti:TIp):TS:=λ D Y H=>∃ x,Y[i]?=some (some x)/\te Y H λ y H1=>ti x y H1 λ z H2=>D.nx (Y.set i (some z)) H2
theorem zu31 {i:Nat} {x:Str} {e:Expr} {te:TE} {op:Operator} {ti:TIp} {pos':Pos} (hN:X.N.Nodup) (hi:X.N[i]?=some x) (hx:Loc X.env.scope x) (he:PE X e te) (ho:PIp X op ti) (hf:X.fn x=true \/ X.env.scope.names.lookup x=some .local:=by first|exact .inl rfl|exact .inr rfl|assumption) :
  PS X (.AugAssign (.Name x pos') op e pos) (tAug i te ti):=by
 intro pins s Y H D I h
 obtain ⟨v,e1,h⟩:=h
 obtain ⟨m,hn,hl⟩:=I.loc
 have vis:Vis X.env.scope x:=by rcases hx with k|k;exact .inl k;exact .inr (.inl k)
 obtain ⟨u,r,l⟩:=hl i x v hi e1 vis
 refine wpAny_AugAssign_Name ?_
 have go:wpAny (model X.prog X.w) X.A (eval e X.env) (λ w s₂=>wpAny (model X.prog X.w) X.A (inplaceOp op u w) (λ r s₃=>wpAny (model X.prog X.w) X.A (storeName X.env x r) (λ _=>SP X pins D .next) X.xe s₃) X.xe s₂) X.xe s:=by
  refine thn (he pins s Y H _ I h) λ w s1 ⟨y,H1,I1,r1,q1⟩=>?_
  refine thn (ho pins s1 Y H1 v y u w _ I1 r r1 q1) λ z s2 ⟨zv,H2,I2,r2,q2⟩=>?_
  exact zyc I2 hN hi hx r2 (λ s3 I3=>⟨_,H2,I3,q2⟩) hf
 rcases l with ⟨hk,hm⟩|⟨hk,c,hc,hcell⟩
 ·exact wpAny_loadName_local I.ok.kind hk hn hm go
 ·rcases hk with hk|hk
  ·exact wpAny_loadName_cell I.ok.kind hk hc hcell go
  ·rcases hx with k|k
   ·have:X.env.scope.names.lookup x=some .free:=hk
    rw [k] at this;cases this
   ·have:X.env.scope.names.lookup x=some .free:=hk
    rw [k] at this;cases this
noncomputable def zn71 (to ti te:TE) (tget:V->V->Hp->VK->Prop) (tip:TIp) (tset:TSet):TS:=λ D Y H=>to Y H λ o H1=>ti Y H1 λ i H2=>tget o i H2 λ x H3=>te Y H3 λ y H4=>tip x y H4 λ z H5=>tset o i z H5 λ H6=>D.nx Y H6
noncomputable def PGet (X:Cx) (t:V->V->Hp->VK->Prop):Prop :=
 ∀ (pins:List (Addr×Obj)) (s:Shared) (Y:St) (H:Hp) (o i:V) (ov iv:Value) (Q:VK),Inv X pins Y H s->RelV o ov->RelV i iv->t o i H Q ->
  wpAny (model X.prog X.w) X.A (getItem ov iv) (EP X pins Y Q) X.xe s
theorem zf9 {o i e:Expr} {to ti te:TE} {tget:V->V->Hp->VK->Prop} {tip:TIp} {tset:TSet} {op:Operator} {tpos:Pos} (ho:PE X o to) (hi:PE X i ti) (hg:PGet X tget) (he:PE X e te) (hp:PIp X op tip) (hs:PSet X tset)
  (ha:∀ ov iv new,augStore i ov iv new=(do holding [new,ov,iv] (setItem ov iv new);release [new,ov,iv] [];pure .next):=by intros;rfl):PS X (.AugAssign (.Subscript o i tpos) op e pos) (zn71 to ti te tget tip tset):=by
 intro pins s Y H D I h
 refine wpAny_AugAssign_SubscriptAny (thn (ho pins s Y H _ I h) λ ov s1 ⟨x1,H1,I1,r1,q1⟩=>?_) ha
 refine thn (hi pins s1 Y H1 _ I1 q1) λ iv s2 ⟨x2,H2,I2,r2,q2⟩=>?_
 refine thn (hg pins s2 Y H2 x1 x2 ov iv _ I2 r1 r2 q2) λ old s3 ⟨x3,H3,I3,r3,q3⟩=>?_
 refine thn (he pins s3 Y H3 _ I3 q3) λ v s4 ⟨x4,H4,I4,r4,q4⟩=>?_
 refine thn (hp pins s4 Y H4 x3 x4 old v _ I4 r3 r4 q4) λ new s5 ⟨x5,H5,I5,r5,q5⟩=>?_
 exact thn (hs pins s5 Y H5 x1 x2 x5 ov iv new _ I5 r1 r2 r5 q5) λ _ s6 ⟨H6,I6,q6⟩=>⟨Y,H6,I6,q6⟩
noncomputable def ipI (f:Int->Int->Int):TIp:=λ x y H Q=>∃ i j,x=.int i/\y=.int j/\Q (.int (f i j)) H
theorem zjl:PIp X .Add (ipI λ i j=>i+j):=by
 intro pins s Y H x y v u Q I r1 r2 h
 obtain ⟨i,j,e1,e2,q⟩:=h
 subst e1;subst e2
 obtain ⟨t,rfl⟩:=r1
 obtain ⟨t',rfl⟩:=r2
 exact iadd_int ⟨.int _,H,I.tok _,⟨_,rfl⟩,q⟩
theorem zgq:PIp X .Sub (ipI λ i j=>i - j):=by
 intro pins s Y H x y v u Q I r1 r2 h
 obtain ⟨i,j,e1,e2,q⟩:=h
 subst e1;subst e2
 obtain ⟨t,rfl⟩:=r1
 obtain ⟨t',rfl⟩:=r2
 exact isub_int ⟨.int _,H,I.tok _,⟨_,rfl⟩,q⟩
noncomputable def zaw (c:TT) (tb:TS):TS:=λ D Y H=>∃ W:Nat->St->Hp->Prop,(∃ m,W m Y H)/\∀ m Y H,W m Y H ->
 c Y H λ b H1=>if b=true then ∃ N:St->Hp->Prop,(∀ Y' H',N Y' H'->∃ m',m' < m/\W m' Y' H')/\tb { D with nx:=N,ct:=N,bk:=D.nx } Y H1 else D.nx Y H1
theorem ze5 {c:Expr} {body:List Stmt} {tc:TT} {tb:TS} (hp:PassesOwn (model X.prog X.w) X.A X.env X.xe) (hc:PT X c tc) (hb:PSs X body tb):PS X (.While c body [] pos) (zaw tc tb):=by
 intro pins s Y H D I h
 obtain ⟨W,⟨m0,w0⟩,turn⟩:=h
 refine wpAny_While (codeAny_whileLoop (λ n s'=>∃ Y' H',Inv X pins Y' H' s'/\W n Y' H') ?_ m0 ⟨Y,H,I,w0⟩)
 rintro n s1 ⟨Y1,H1,I1,w1⟩
 refine wpAny_passesOwn hp (thn (hc pins s1 Y1 H1 _ I1 (turn n Y1 H1 w1)) λ b s2 ⟨H2,I2,q2⟩=>?_)
 cases b with
|true =>
  obtain ⟨N,hN,q2⟩:=q2
  rw [if_pos rfl]
  refine wpAny_passesOwn hp (thn (hb pins s2 Y1 H2 _ I2 q2) λ f s3 q3=>?_)
  cases f with
 |next =>
   obtain ⟨Y3,H3,I3,n3⟩:=q3
   obtain ⟨m',hm,w3⟩:=hN Y3 H3 n3
   exact ⟨m',hm,Y3,H3,I3,w3⟩
 |cont =>
   obtain ⟨Y3,H3,I3,n3⟩:=q3
   obtain ⟨m',hm,w3⟩:=hN Y3 H3 n3
   exact ⟨m',hm,Y3,H3,I3,w3⟩
 |brk=>exact q3
 |ret v=>exact q3
|false =>
  rw [if_neg uX]
  exact wpAny_execs_nil ⟨Y1,H2,I2,q2⟩
end
structure It where
 go:Nat->Hp->Prop
 yld:Nat->Hp->V->Hp->Prop
 stop:Nat->Hp->Prop
noncomputable def FpOk (X:Cx) (pins:List (Addr×Obj)) (H:Hp) (b:Addr):Prop :=
 H b=none/\b≠X.env.locals/\b ∉ X.fs/\(b∈X.ex \/ X.s₀.heap.objs.size<=b)/\(∀ x c,X.env.cells.lookup x=some c->c≠b)/\∀ p∈X.pn++pins,p.1≠b
theorem Inv.fpOk {X:Cx} {pins:List (Addr×Obj)} {Y:St} {H H':Hp} {s:Shared} {b:Addr} (I:Inv X pins Y H s) (hb:s.heap.objs.size<=b) (hn:H' b=none):FpOk X pins H' b:=by
 refine ⟨hn,xX (vH I.lt hb),I.nofs hb,.inr (vQ I.sz hb),λ x c e z=>?_,λ p hp z=>?_⟩
 ·obtain ⟨v,q⟩:=I.cell x c e
  exact absurd (vH q.lt (by rw [z];exact hb)) (vP _)
 ·exact absurd (vH (uO (I.pin p hp).1) (by rw [z];exact hb)) (vP _)
structure Turn (P:Program) (w:World) (K:Fg) (tg:Expr) (J:It) (fp:List Addr) (it:Addr) (tn:Nat->Heap->Prop):Prop where
 mem:it∈fp
 obj:∀ i h,tn i h->∀ b∈fp,∃ o,h.get? b=some o/\∀ v,o.data≠.cell v
 keep:∀ i h h',tn i h->(∀ b∈fp,∀ o,h.get? b=some o->h'.get? b=some o)->tn i h'
 item:∀ (X:Cx),X.prog=P->X.w=w->X.K=K->X.calm=true->∀ (i:Nat) (pins:List (Addr×Obj)) (s:Shared) (Y:St) (H:Hp) (E:Value->Shared->Prop),Inv X pins Y H s->(∀ b∈fp,FpOk X pins H b)->tn i s.heap->J.go i H ->
  wpAny (model P w) X.A (pyNext (.ref it)) (λ r s1=>∃ u,r=some u /\
   wpAny (model P w) X.A (letOwnedTupleGo tg (.ref it) u) (λ _ s2=>∃ x H',Inv X pins Y H' s2/\RelV x u/\J.yld i H x H'/\tn (i+1) s2.heap/\∀ b∈fp,H' b=none) E s1) E s
 done:∀ (X:Cx),X.prog=P->X.w=w->X.K=K->X.calm=true->∀ (i:Nat) (pins:List (Addr×Obj)) (s:Shared) (Y:St) (H:Hp) (E:Value->Shared->Prop),Inv X pins Y H s->(∀ b∈fp,FpOk X pins H b)->tn i s.heap->J.stop i H ->
  wpAny (model P w) X.A (pyNext (.ref it)) (λ r s1=>r=none/\Inv X pins Y H s1) E s
 self:∀ (A:Around) (i:Nat) (s:Shared) (Q:Value->Shared->Prop) (E:Value->Shared->Prop),tn i s.heap->Q (.ref it) s->wpAny (model P w) A (pyIter (.ref it)) Q E s
noncomputable abbrev TI:=St->Hp->(It->Hp->Prop)->Prop
noncomputable def PIE (X:Cx) (pins:List (Addr×Obj)) (Y:St) (tg:Expr) (R:It->Hp->Prop) (itv:Value) (s2:Shared):Prop :=
 ∃ (it:Addr) (fp:List Addr) (tn:Nat->Heap->Prop) (J:It) (H':Hp),itv=.ref it/\Inv X pins Y H' s2/\Turn X.prog X.w X.K tg J fp it tn/\tn 0 s2.heap/\(∀ b∈fp,FpOk X pins H' b)/\R J H'
noncomputable def PI (X:Cx) (tg iter:Expr) (wi:TI):Prop :=
 ∀ (pins:List (Addr×Obj)) (s:Shared) (Y:St) (H:Hp) (R:It->Hp->Prop),Inv X pins Y H s->wi Y H R ->
  wpAny (model X.prog X.w) X.A (eval iter X.env) (λ v s1=>wpAny (model X.prog X.w) X.A (pyIter v) (PIE X pins Y tg R) X.xe s1) X.xe s
theorem ztu {M : Model} {A : Around} {E : Value → Shared → Prop} {s : Shared} {tg : Expr} {it : Addr} {u : Value} {o : Obj} {n : String} {vs : Array Value} {Q : Unit → Shared → Prop} (ho : s.heap.get? it = some o) (hc : o.cls = .type n) (hd : o.data = .fields vs)
    (hn : ["enumerate", "zip", "dict_itemiterator", "dict_reverseitemiterator", "odict_iterator", "itertools.zip_longest", "itertools.pairwise"].contains n = false) (hQ : Q () s) : wpAny M A (letOwnedTupleGo tg (.ref it) u) Q E s := by
  unfold letOwnedTupleGo
  cases tg <;> first
    | exact wpAny_pure hQ
    | (cases u <;> first
        | exact wpAny_pure hQ
        | (refine wpAny_bind (wpAny_load ho ?_)
           rw [hc, hd]
           show wpAny M A (if (["enumerate", "zip", "dict_itemiterator", "dict_reverseitemiterator", "odict_iterator", "itertools.zip_longest", "itertools.pairwise"].contains n && vs[0]? == some (rawInt _)) = true then _ else _) Q E s
           rw [if_neg (by intro h; rw [hn, Bool.false_and] at h; cases h)]
           exact wpAny_pure hQ))
noncomputable def Itl (K:Fg) (a:Addr):It :=
 ⟨λ i H=>∃ xs x,SqL K H a xs/\xs[i]?=some x,λ i H x H'=>H'=H/\∀ xs,SqL K H a xs->xs[i]?=some x,λ i H=>∃ xs,SqL K H a xs/\xs.length<=i⟩
noncomputable def Itt (K:Fg) (a:Addr):It :=
 ⟨λ i H=>∃ xs x,SqT K H a xs/\xs[i]?=some x,λ i H x H'=>H'=H/\∀ xs,SqT K H a xs->xs[i]?=some x,λ i H=>∃ xs,SqT K H a xs/\xs.length<=i⟩
noncomputable def Itr (lo:Int) (n:Nat):It:=⟨λ i _=>i < n,λ i H x H'=>H'=H/\x=.int (lo+i),λ i _=>n<=i⟩
theorem zfl {P:Program} {w:World} {K:Fg} {tg:Expr} (a it:Addr):Turn P w K tg (Itl K a) [it] it (λ i h=>h.IsListIter it a i) where
 mem:=by simp
 obj:=λ i h st b hb=>by
  have e:b=it:=by simpa using hb
  subst e
  obtain ⟨o,e,c,d⟩:=st
  exact ⟨o,e,λ v z=>by rw [d] at z;cases z⟩
 keep:=λ i h h' st k=>st.at λ o e=>k it (by simp) o e
 item:=by
  intro X hP hw hK hc i pins s Y H E I hf st hg
  subst hP hw hK
  obtain ⟨xs,x,hq,hx⟩:=hg
  obtain ⟨its,rv,p,hz⟩:=I.list hq
  obtain ⟨u,hu,ru⟩:=rv.get hx
  obtain ⟨f0,f1,f2,f3,f4,f5⟩:=hf it (by simp)
  refine wpAny_pyNext_list_item st p.isList (x:=u) (by simpa using hu) λ h' st' sb=>?_
  have I1:Inv X pins Y H { s with heap:=h' }:=I.turned (t':=s.toks) (λ b o hb e=>(sb.2 b hb).trans e) f0 f1 f3 f4 f5
  obtain ⟨o,e,c,d⟩:=id st'
  exact ⟨u,rfl,ztu (s:={ s with heap:=h' }) e c d (by decide) ⟨x,H,I1,ru,⟨rfl,λ ys hy=>by rw [I.list_inj hy hq];exact hx⟩,st',λ b hb=>(hf b hb).1⟩⟩
 done:=by
  intro X hP hw hK hc i pins s Y H E I hf st hg
  subst hP hw hK
  obtain ⟨xs,hq,hx⟩:=hg
  obtain ⟨its,rv,p,hz⟩:=I.list hq
  obtain ⟨f0,f1,f2,f3,f4,f5⟩:=hf it (by simp)
  have hl:=rv.length
  exact wpAny_pyNext_list_end (I.ok.hd hc) st p.isList (by simp;lia) λ h' eb=>⟨rfl,I.turned (t':=s.toks) (λ b o hb e=>eb b o hb e) f0 f1 f3 f4 f5⟩
 self:=λ _ _ _ _ _ st h=>wpAny_pyIter_listiter st h
theorem zfh {P:Program} {w:World} {K:Fg} {tg:Expr} (a it:Addr):Turn P w K tg (Itt K a) [it] it (λ i h=>h.IsTupleIter it a i) where
 mem:=by simp
 obj:=λ i h st b hb=>by
  have e:b=it:=by simpa using hb
  subst e
  obtain ⟨o,e,c,d⟩:=st
  exact ⟨o,e,λ v z=>by rw [d] at z;cases z⟩
 keep:=λ i h h' st k=>st.at λ o e=>k it (by simp) o e
 item:=by
  intro X hP hw hK hc i pins s Y H E I hf st hg
  subst hP hw hK
  obtain ⟨xs,x,hq,hx⟩:=hg
  obtain ⟨its,rv,p,hz⟩:=I.tuple hq
  obtain ⟨u,hu,ru⟩:=rv.get hx
  obtain ⟨f0,f1,f2,f3,f4,f5⟩:=hf it (by simp)
  refine wpAny_pyNext_tuple_item st (show s.heap.IsTuple a its.toArray from p) (x:=u) (by simpa using hu) λ h' st' sb=>?_
  have I1:Inv X pins Y H { s with heap:=h' }:=I.turned (t':=s.toks) (λ b o hb e=>(sb.2 b hb).trans e) f0 f1 f3 f4 f5
  obtain ⟨o,e,c,d⟩:=id st'
  exact ⟨u,rfl,ztu (s:={ s with heap:=h' }) e c d (by decide) ⟨x,H,I1,ru,⟨rfl,λ ys hy=>by rw [I.tuple_inj hy hq];exact hx⟩,st',λ b hb=>(hf b hb).1⟩⟩
 done:=by
  intro X hP hw hK hc i pins s Y H E I hf st hg
  subst hP hw hK
  obtain ⟨xs,hq,hx⟩:=hg
  obtain ⟨its,rv,p,hz⟩:=I.tuple hq
  obtain ⟨f0,f1,f2,f3,f4,f5⟩:=hf it (by simp)
  have hl:=rv.length
  exact wpAny_pyNext_tuple_end (I.ok.hd hc) st (show s.heap.IsTuple a its.toArray from p) (by simp;lia) λ h' eb=>⟨rfl,I.turned (t':=s.toks) (λ b o hb e=>eb b o hb e) f0 f1 f3 f4 f5⟩
 self:=λ _ _ _ _ _ st h=>wpAny_pyIter_tupleiter st h
theorem zmg {P:Program} {w:World} {K:Fg} {tg:Expr} (it:Addr) (lo:Int) (n:Nat):Turn P w K tg (Itr lo n) [it] it (λ i h=>IsRangeIter h it (lo+(i:Nat) * 1) ((n:Int) - (i:Nat)) 1) where
 mem:=by simp
 obj:=λ i h st b hb=>by
  have e:b=it:=by simpa using hb
  subst e
  exact ⟨_,st,λ v z=>by
   have z':Data.fields _=Data.cell v:=z
   cases z'⟩
 keep:=λ i h h' st k=>k it (by simp) _ st
 item:=by
  intro X hP hw hK hc i pins s Y H E I hf st hg
  subst hP hw hK
  obtain ⟨f0,f1,f2,f3,f4,f5⟩:=hf it (by simp)
  have W:=Walks.range (prog:=X.prog) (w:=X.w) (I.ok.hd hc) it lo 1 n
  refine W.item i s _ _ hg st λ v h' tk hv st' kk=>?_
  obtain ⟨t,rfl⟩:=hv
  have I1:Inv X pins Y H { s with heap:=h',toks:=tk }:=I.turned (λ b o hb e=>kk b o (by simpa using hb) e) f0 f1 f3 f4 f5
  refine ⟨_,rfl,ztu (s:={ s with heap:=h',toks:=tk }) (n := "range_iterator") st' rfl rfl (by decide) ⟨.int (lo+i),H,I1,⟨t,?_⟩,⟨rfl,rfl⟩,st',λ b hb=>(hf b hb).1⟩⟩
  rw [Int.mul_one]
 done:=by
  intro X hP hw hK hc i pins s Y H E I hf st hg
  subst hP hw hK
  obtain ⟨f0,f1,f2,f3,f4,f5⟩:=hf it (by simp)
  exact wpAny_pyNext_range_end (I.ok.hd hc) st (by have:n<=i:=hg;lia) λ h' eb=>⟨rfl,I.turned (t':=s.toks) (λ b o hb e=>eb b o hb e) f0 f1 f3 f4 f5⟩
 self:=λ _ _ _ _ _ st h=>wpAny_pyIter_rangeiter st h
section
variable {X:Cx} {tg:Expr}
theorem zyq {pins:List (Addr×Obj)} {Y:St} {H:Hp} {s:Shared} {R:It->Hp->Prop} {E:Value->Shared->Prop} {lo hi:Int} {t u v:Tok} {tk:Nat} (I:Inv X pins Y H s) (h1:-(2 ^ 62)<=lo) (h2:lo < 2 ^ 62) (h3:-(2 ^ 62)<=hi) (h4:hi < 2 ^ 62)
  (q:R (Itr lo (hi - lo).toNat) H):wpAny (model X.prog X.w) X.A (pyIter (.ref s.heap.objs.size)) (PIE X pins Y tg R) E { s with heap:=s.heap.push { cls:=.type "range",data:=.fields #[.int lo t,.int hi u,.int 1 v] },toks:=tk }:=by
 refine wpAny_pyIter_range (IsRange.new ..) (small_one h1 h2 h3 h4) ?_
 have I1:Inv X pins Y H { s with heap:=s.heap.push { cls:=.type "range",data:=.fields #[.int lo t,.int hi u,.int 1 v] },toks:=tk }:=I.kept λ b o e=>uH _ e
 refine ⟨(s.heap.push { cls:=.type "range",data:=.fields #[.int lo t,.int hi u,.int 1 v] }).objs.size,[(s.heap.push { cls:=.type "range",data:=.fields #[.int lo t,.int hi u,.int 1 v] }).objs.size],_,_,H,rfl,
  I1.kept (t':=tk) λ b o e=>uH _ e,zmg _ lo (hi - lo).toNat,?_,λ b hb=>?_,q⟩
 ·have e1:lo+((0:Nat):Int) * 1=lo:=by simp
  have e2:(((hi - lo).toNat:Nat):Int) - ((0:Nat):Int)=Builtin.Range.rangeSize lo hi 1:=by rw [rangeSize_one];split <;> lia
  show IsRangeIter _ _ (lo+((0:Nat):Int) * 1) ((((hi - lo).toNat:Nat):Int) - ((0:Nat):Int)) 1
  rw [e1,e2]
  exact uT _ rfl
 ·have e:b=(s.heap.push { cls:=.type "range",data:=.fields #[.int lo t,.int hi u,.int 1 v] }).objs.size:=by simpa using hb
  subst e
  exact I1.fpOk (uG _) (I1.hok.fresh (uG _))
noncomputable def zk71 (ta:TA):TI:=λ Y H R=>ta Y H λ vs H1=>∃ j:Int,vs=[.int j]/\-(2 ^ 62)<=j/\j < 2 ^ 62/\R (Itr 0 j.toNat) H1
theorem zj5 {a:Expr} {ta:TA} {p pos:Pos} (hg:Gl X "range") (hm:X.mg "range"=none) (ha:PA X [a] ta) (hs:starEach [a] X.env=[(false,eval a X.env)]:=by rfl):PI X tg (.Call (.Name "range" p) [a] [] pos) (zk71 ta):=by
 intro pins s Y H R I h
 refine Call_ (zia I hg hm boot_range (PyProof.Rows.callWith_type1 (thn (ha pos pins s Y H _ I h) λ us s1 ⟨vs,H1,I1,r1,q1⟩=>?_) hs rfl))
 obtain ⟨j,e,q1,q2,q⟩:=q1
 subst e
 cases r1 with
|cons r rr =>
  cases rr
  obtain ⟨t,rfl⟩:=r
  exact call_range_1 (zyq I1 (by lia) (by lia) q1 q2 (by simpa using q))
noncomputable def tFor (wi:TI) (g:TG) (tb:TS):TS:=λ D Y H=>wi Y H λ J H1=>∃ W:Nat->Nat->St->Hp->Prop,(∃ m,W 0 m Y H1)/\∀ i m Y H,W i m Y H ->
 (J.stop i H/\D.nx Y H) \/ (J.go i H/\∃ N:St->Hp->Prop,(∀ Y' H',N Y' H'->∃ m',m' < m/\W (i+1) m' Y' H')/\∀ x H',J.yld i H x H'->g x Y H' λ Y2 H2=>tb { D with nx:=N,ct:=N,bk:=D.nx } Y2 H2)
noncomputable def zih (fp:List Addr) (h:Heap):List (Addr×Obj):=fp.filterMap λ b=>(h.get? b).map λ o=>(b,o)
theorem zt5 {fp:List Addr} {h:Heap} {b:Addr} {o:Obj} (hb:b∈fp) (e:h.get? b=some o):(b,o)∈zih fp h:=zG.mpr ⟨b,hb,by rw [e];rfl⟩
theorem zil {fp:List Addr} {h:Heap} {p:Addr×Obj} (hp:p∈zih fp h):p.1∈fp/\h.get? p.1=some p.2:=by
 obtain ⟨b,hb,e⟩:=zG.mp hp
 cases q:h.get? b with
|none=>rw [q] at e;cases e
|some o =>
  rw [q] at e
  have e':(b,o)=p:=u8.inj e
  subst e'
  exact ⟨hb,q⟩
theorem Inv.pinned {pins:List (Addr×Obj)} {Y:St} {H:Hp} {s:Shared} {fp:List Addr} (I:Inv X pins Y H s) (hf:∀ b∈fp,FpOk X pins H b) (ho:∀ b∈fp,∃ o,s.heap.get? b=some o/\∀ v,o.data≠.cell v):Inv X (pins++zih fp s.heap) Y H s :=
 I.pins_of λ p hp=>(uF.mp hp).elim (λ z=>I.pin p (vW _ z)) λ z=>by
  obtain ⟨hb,e⟩:=zil z
  obtain ⟨f0,f1,f2,_⟩:=hf p.1 hb
  obtain ⟨o,e',d⟩:=ho p.1 hb
  rw [e] at e';cases e'
  exact ⟨e,f0,f1,f2,d⟩
theorem Inv.unpinned {pins pl:List (Addr×Obj)} {Y:St} {H:Hp} {s:Shared} (I:Inv X (pins++pl) Y H s):Inv X pins Y H s:=I.pins_of λ p hp=>I.pin p (vW _ (xV _ hp))
theorem zz4 {iter:Expr} {body:List Stmt} {wi:TI} {g:TG} {tb:TS} {pos:Pos} (hp:PassesOwn (model X.prog X.w) X.A X.env X.xe) (hc:X.calm=true) (hi:PI X tg iter wi) (hg:PG X tg g) (hb:PSs X body tb)
  (hs:∀ x,foldedSetIterable iter X.env x=pure x:=by intro _;rfl):PS X (.For tg iter body [] pos) (tFor wi g tb):=by
 intro pins s Y H D I h
 refine wpAny_For (thn (hi pins s Y H _ I h) λ v s1 h1=>thn h1 λ itv s2 h2=>?_) hs
 obtain ⟨it,fp,tn,J,H2,e,I2,T,st2,f2,W,⟨m0,w0⟩,turn⟩:=h2
 subst e
 -- what stays true of the iterator's objects through the loop
 have stat:∀ {H':Hp},(∀ b∈fp,H' b=none)->∀ b∈fp,FpOk X pins H' b:=λ hn b hb=>⟨hn b hb,(f2 b hb).2⟩
 refine codeAny_forLoop_any (λ n s'=>∃ i Y' H',Inv X pins Y' H' s'/\tn i s'.heap/\(∀ b∈fp,H' b=none)/\W i n Y' H') ?_ m0 ⟨0,Y,H2,I2,st2,λ b hb=>(f2 b hb).1,w0⟩
 rintro n s3 ⟨i,Y3,H3,I3,st3,fr3,w3⟩
 rcases turn i n Y3 H3 w3 with ⟨stop,qn⟩|⟨go,N,hN,step⟩
 ·refine wpAny_passesOwn hp (thn (T.done X rfl rfl rfl hc i pins s3 Y3 H3 X.xe I3 (stat fr3) st3 stop) λ r s4 ⟨hr,I4⟩=>?_)
  subst hr
  exact wpAny_execs_nil ⟨Y3,H3,I4,qn⟩
 ·refine wpAny_passesOwn hp (thn (T.item X rfl rfl rfl hc i pins s3 Y3 H3 X.xe I3 (stat fr3) st3 go) λ r s4 ⟨u,hr,h4⟩=>?_)
  subst hr
  refine wpAny_passesOwn hp (thn h4 λ _ s5 ⟨x,H5,I5,r5,y5,st5,fr5⟩=>?_)
  have I5':=I5.pinned (stat fr5) (T.obj _ _ st5)
  refine wpAny_passesOwn hp (thn (hg _ s5 Y3 H5 x u _ I5' r5 (step x H5 y5)) λ _ s6 ⟨Y6,H6,I6,q6⟩=>?_)
  refine wpAny_passesOwn hp (thn (hb _ s6 Y6 H6 _ I6 q6) λ f s7 q7=>?_)
  have again:∀ {Y7:St} {H7:Hp},Inv X (pins++zih fp s5.heap) Y7 H7 s7->N Y7 H7->∃ m,m < n/\∃ i Y' H',Inv X pins Y' H' s7/\tn i s7.heap/\(∀ b∈fp,H' b=none)/\W i m Y' H':=λ {Y7 H7} I7 n7=>by
   obtain ⟨m',hm,w7⟩:=hN Y7 H7 n7
   refine ⟨m',hm,i+1,Y7,H7,I7.unpinned,T.keep _ _ _ st5 λ b hb o e=>(I7.pin (b,o) (vW _ (vW _ (zt5 hb e)))).1,λ b hb=>?_,w7⟩
   obtain ⟨o,e,d⟩:=T.obj _ _ st5 b hb
   exact (I7.pin (b,o) (vW _ (vW _ (zt5 hb e)))).2.1
  cases f with
 |next=>obtain ⟨Y7,H7,I7,n7⟩:=q7;exact again I7 n7
 |cont=>obtain ⟨Y7,H7,I7,n7⟩:=q7;exact again I7 n7
 |brk=>obtain ⟨Y7,H7,I7,q7⟩:=q7;exact ⟨Y7,H7,I7.unpinned,q7⟩
 |ret v=>obtain ⟨x7,Y7,H7,I7,r7,q7⟩:=q7;exact ⟨x7,Y7,H7,I7.unpinned,r7,q7⟩
end
noncomputable abbrev R2:=V->V->Hp->VK->Prop
noncomputable def OpR (X:Cx) (f:Value->Value->Sem Value) (r:R2):Prop :=
 ∀ (pins:List (Addr×Obj)) (s:Shared) (Y:St) (H:Hp) (x y:V) (v u:Value) (Q:VK),Inv X pins Y H s->RelV x v->RelV y u->r x y H Q ->
  wpAny (model X.prog X.w) X.A (f v u) (EP X pins Y Q) X.xe s
noncomputable def UnR (X:Cx) (f:Value->Sem Value) (r:V->Hp->VK->Prop):Prop :=
 ∀ (pins:List (Addr×Obj)) (s:Shared) (Y:St) (H:Hp) (x:V) (v:Value) (Q:VK),Inv X pins Y H s->RelV x v->r x H Q ->
  wpAny (model X.prog X.w) X.A (f v) (EP X pins Y Q) X.xe s
noncomputable def CallR (X:Cx) (f:Value) (r:List V->Hp->VK->Prop):Prop :=
 ∀ (pins:List (Addr×Obj)) (s:Shared) (Y:St) (H:Hp) (xs:List V) (us:List Value) (Q:VK),Inv X pins Y H s->Vals xs us->r xs H Q ->
  wpAny (model X.prog X.w) X.A (call f us) (EP X pins Y Q) X.xe s
noncomputable def TruR (X:Cx) (r:V->Hp->(Bool->Hp->Prop)->Prop):Prop :=
 ∀ (pins:List (Addr×Obj)) (s:Shared) (Y:St) (H:Hp) (x:V) (v:Value) (Q:Bool->Hp->Prop),Inv X pins Y H s->RelV x v->r x H Q ->
  wpAny (model X.prog X.w) X.A (truthy v) (TP X pins Y Q) X.xe s
noncomputable def tOp (r:R2) (ta tb:TE):TE:=λ Y H Q=>ta Y H λ x H1=>tb Y H1 λ y H2=>r x y H2 Q
noncomputable def tUn (r:V->Hp->VK->Prop) (ta:TE):TE:=λ Y H Q=>ta Y H λ x H1=>r x H1 Q
noncomputable def rI (C:Int->Int->Prop) (g:Int->Int->V):R2:=λ x y H Q=>∃ i j,x=.int i/\y=.int j/\C i j/\Q (g i j) H
noncomputable def rI0 (g:Int->Int->V):R2:=λ x y H Q=>∃ i j,x=.int i/\y=.int j/\Q (g i j) H
noncomputable def rU (g:Int->V):V->Hp->VK->Prop:=λ x H Q=>∃ i,x=.int i/\Q (g i) H
section
variable {X:Cx} {a b c:Expr} {ta tb tc:TE} {pos:Pos}
theorem binT (ha:PE X a ta) (hb:PE X b tb) {pins:List (Addr×Obj)} {s:Shared} {Y:St} {H:Hp} {R:V->V->Hp->Prop} (I:Inv X pins Y H s)
  (h:ta Y H λ x H1=>tb Y H1 λ y H2=>R x y H2) {Q:Value->Shared->Prop} {f:Value->Value->Sem Value}
  (hf:∀ v u s2 x y H2,Inv X pins Y H2 s2->RelV x v->RelV y u->R x y H2->wpAny (model X.prog X.w) X.A (f v u) Q X.xe s2) :
  wpAny (model X.prog X.w) X.A (eval a X.env) (λ v s₁=>wpAny (model X.prog X.w) X.A (eval b X.env) (λ u s₂=>wpAny (model X.prog X.w) X.A (f v u) Q X.xe s₂) X.xe s₁) X.xe s:=by
 refine thn (ha pins s Y H _ I h) λ v s1 ⟨x,H1,I1,r1,q1⟩=>?_
 refine thn (hb pins s1 Y H1 _ I1 q1) λ u s2 ⟨y,H2,I2,r2,q2⟩=>?_
 exact hf v u s2 x y H2 I2 r1 r2 q2
theorem zp1 {op:Operator} {r:R2} (ho:OpR X (binaryOp op) r) (ha:PE X a ta) (hb:PE X b tb):PE X (.BinOp a op b pos) (tOp r ta tb):=by
 intro pins s Y H Q I h
 exact wpAny_BinOp (binT ha hb I h λ v u s2 x y H2 I2 rx ry q=>ho pins s2 Y H2 x y v u Q I2 rx ry q)
theorem zi61 {op:UnaryOp} {r:V->Hp->VK->Prop} (ho:UnR X (unaryOp op) r) (ha:PE X a ta):PE X (.UnaryOp op a pos) (tUn r ta):=by
 intro pins s Y H Q I h
 exact UnaryOp_ (thn (ha pins s Y H _ I h) λ v s1 ⟨x,H1,I1,r1,q1⟩=>ho pins s1 Y H1 x v Q I1 r1 q1)
theorem opI {f:Value->Value->Sem Value} {C:Int->Int->Prop} {g:Int->Int->Int}
  (rule:∀ (i j:Int) (t u:Tok) (s:Shared) (Q:Value->Shared->Prop) (E:Value->Shared->Prop),C i j->Q (.int (g i j) s.toks) { s with toks:=s.toks+1 }->wpAny (model X.prog X.w) X.A (f (.int i t) (.int j u)) Q E s) :
  OpR X f (rI C λ i j=>.int (g i j)):=by
 intro pins s Y H x y v u Q I rx ry h
 obtain ⟨i,j,rfl,rfl,hc,q⟩:=h
 obtain ⟨t,rfl⟩:=rx
 obtain ⟨t',rfl⟩:=ry
 exact rule i j t t' s _ _ hc ⟨.int (g i j),H,I.tok _,⟨_,rfl⟩,q⟩
theorem opI0 {f:Value->Value->Sem Value} {g:Int->Int->Int}
  (rule:∀ (i j:Int) (t u:Tok) (s:Shared) (Q:Value->Shared->Prop) (E:Value->Shared->Prop),Q (.int (g i j) s.toks) { s with toks:=s.toks+1 }->wpAny (model X.prog X.w) X.A (f (.int i t) (.int j u)) Q E s) :
  OpR X f (rI0 λ i j=>.int (g i j)):=by
 intro pins s Y H x y v u Q I rx ry h
 obtain ⟨i,j,rfl,rfl,q⟩:=h
 obtain ⟨t,rfl⟩:=rx
 obtain ⟨t',rfl⟩:=ry
 exact rule i j t t' s _ _ ⟨.int (g i j),H,I.tok _,⟨_,rfl⟩,q⟩
theorem opB0 {f:Value->Value->Sem Value} {g:Int->Int->Bool}
  (rule:∀ (i j:Int) (t u:Tok) (s:Shared) (Q:Value->Shared->Prop) (E:Value->Shared->Prop),Q (.bool (g i j)) s->wpAny (model X.prog X.w) X.A (f (.int i t) (.int j u)) Q E s) :
  OpR X f (rI0 λ i j=>.bl (g i j)):=by
 intro pins s Y H x y v u Q I rx ry h
 obtain ⟨i,j,rfl,rfl,q⟩:=h
 obtain ⟨t,rfl⟩:=rx
 obtain ⟨t',rfl⟩:=ry
 exact rule i j t t' s _ _ ⟨.bl (g i j),H,I,rfl,q⟩
noncomputable def CPow (i j:Int):Prop:=0<=j/\j<=1000000/\i.natAbs < 2 ^ 64
noncomputable def CMul (i j:Int):Prop:=(-(2 ^ 64) < i/\i < 2 ^ 64) \/ (-(2 ^ 64) < j/\j < 2 ^ 64)
theorem CMul.ok {i j:Int} (h:CMul i j):IntMulOk i j:=by
 rcases h with ⟨h1,h2⟩|⟨h1,h2⟩
 ·exact .of_left (intBits_le_64 h1 h2)
 ·exact .of_right (intBits_le_64 h1 h2)
theorem zyg (k:Nat):(0:Int)<=2 ^ k:=by
 rw [two_pow_cast]
 exact Int.natCast_nonneg _
theorem zl11:OpR X (binaryOp .Add) (rI0 λ i j=>.int (i+j)):=opI0 λ _ _ _ _ _ _ _ q=>add_int q
theorem zyb:OpR X (binaryOp .Sub) (rI0 λ i j=>.int (i - j)):=opI0 λ _ _ _ _ _ _ _ q=>sub_int q
theorem zr21:OpR X (binaryOp .Mult) (rI CMul λ i j=>.int (i * j)):=opI λ _ _ _ _ _ _ _ hc q=>mul_int q hc.ok
theorem zy8:OpR X (binaryOp .Mod) (rI (λ _ j=>0 < j) λ i j=>.int (i % j)):=opI λ i j _ _ _ _ _ hc q=>by
 have h1:(0:Int) < j:=hc
 exact mod_int' (by lia) (by rw [Int.fmod_eq_emod_of_nonneg i (by lia)];exact q)
theorem zo31:OpR X (binaryOp .Pow) (rI CPow λ i j=>.int (i ^ j.toNat)):=opI λ _ _ _ _ _ _ _ hc q=>pow_int_small hc.1 hc.2.1 hc.2.2 q
theorem zjv:OpR X (binaryOp .LShift) (rI CPow λ i j=>.int (i * 2 ^ j.toNat)):=opI λ _ _ _ _ _ _ _ hc q=>lshift_int_small hc.1 hc.2.1 hc.2.2 q
theorem za31:OpR X (binaryOp .RShift) (rI (λ _ j=>0<=j) λ i j=>.int (i / 2 ^ j.toNat)):=opI λ i j _ _ _ _ _ hc q =>
 rshift_int hc (by rw [zH i (zyg _)];exact q)
theorem zju:OpR X (binaryOp .BitXor) (rI0 λ i j=>.int (Builtin.bitXor i j)):=opI0 λ _ _ _ _ _ _ _ q=>xor_int q
theorem unI {f:Value->Sem Value} {g:Int->Int}
  (rule:∀ (i:Int) (t:Tok) (s:Shared) (Q:Value->Shared->Prop) (E:Value->Shared->Prop),Q (.int (g i) s.toks) { s with toks:=s.toks+1 }->wpAny (model X.prog X.w) X.A (f (.int i t)) Q E s) :
  UnR X f (rU λ i=>.int (g i)):=by
 intro pins s Y H x v Q I rx h
 obtain ⟨i,rfl,q⟩:=h
 obtain ⟨t,rfl⟩:=rx
 exact rule i t s _ _ ⟨.int (g i),H,I.tok _,⟨_,rfl⟩,q⟩
theorem zds:UnR X (unaryOp .USub) (rU λ i=>.int (-i)):=unI λ _ _ _ _ _ q=>neg_int q
end
noncomputable def scal:V->V->Bool
|.non,.non=>true|.non,.int _=>true|.int _,.non=>true|.non,.bl _=>true|.bl _,.non=>true|.non,.str _=>true|.str _,.non=>true
|.int _,.int _=>true|.bl _,.bl _=>true|.str _,.str _=>true|.byt _,.byt _=>true
|.int _,.str _=>true|.str _,.int _=>true|.bl _,.str _=>true|.str _,.bl _=>true
|_,_=>false
noncomputable def rEq:R2:=λ x y H Q=>scal x y=true/\Q (.bl (decide (x=y))) H
noncomputable def rNe:R2:=λ x y H Q=>scal x y=true/\Q (.bl (!decide (x=y))) H
theorem zlc {i j:Int}:decide (V.int i=V.int j)=(i == j):=by
 rw [xY]
 simp
theorem zwg {i j:Bool}:decide (V.bl i=V.bl j)=(i == j):=by
 rw [xY]
 simp
theorem zgb {i j:Str}:decide (V.str i=V.str j)=(i == j):=by
 rw [xY]
 simp
theorem zvm {i j:Array UInt8}:decide (V.byt i=V.byt j)=(i.toList == j.toList):=by
 rw [xY]
 cases i
 cases j
 simp
section
variable {X:Cx} {a b c:Expr} {ta tb tc:TE} {pos:Pos}
theorem zj1 {pins:List (Addr×Obj)} {Y:St} {H:Hp} {s:Shared} {Q:VK} {k k':Bool} (I:Inv X pins Y H s) (q:Q (.bl k) H) (e:k=k'):EP X pins Y Q (.bool k') s:=by
 subst e
 exact ⟨.bl k,H,I,rfl,q⟩
theorem zv71:OpR X (compareOp .Eq) rEq:=by
 intro pins s Y H x y v u Q I rx ry h
 obtain ⟨hs,q⟩:=h
 cases x with
|non =>
  cases rx
  cases y with
 |non=>cases ry;exact PySem.EqNone.eq_none_none (zj1 I q (by simp))
 |bl j=>cases ry;exact PySem.EqNone.eq_none_bool (zj1 I q (by simp))
 |int j=>obtain ⟨t',rfl⟩:=ry;exact PySem.EqNone.eq_none_int (zj1 I q (by simp))
 |str j=>obtain ⟨t',rfl⟩:=ry;exact PySem.EqNone.eq_none_str (zj1 I q (by simp))
 |_=>exact absurd (show false=true from hs) uX
|bl i =>
  cases rx
  cases y with
 |non=>cases ry;exact PySem.EqNone.eq_bool_none (zj1 I q (by simp))
 |bl j=>cases ry;exact eq_bool (zj1 I q zwg)
 |str j=>obtain ⟨t',rfl⟩:=ry;exact PySem.EqMixed.eq_bool_str (zj1 I q (by simp))
 |_=>exact absurd (show false=true from hs) uX
|int i =>
  obtain ⟨t,rfl⟩:=rx
  cases y with
 |non=>cases ry;exact PySem.EqNone.eq_int_none (zj1 I q (by simp))
 |int j=>obtain ⟨t',rfl⟩:=ry;exact eq_int (zj1 I q zlc)
 |str j=>obtain ⟨t',rfl⟩:=ry;exact PySem.EqMixed.eq_int_str (zj1 I q (by simp))
 |_=>exact absurd (show false=true from hs) uX
|str i =>
  obtain ⟨t,rfl⟩:=rx
  cases y with
 |non=>cases ry;exact PySem.EqNone.eq_str_none (zj1 I q (by simp))
 |bl j=>cases ry;exact PySem.EqMixed.eq_str_bool (zj1 I q (by simp))
 |int j=>obtain ⟨t',rfl⟩:=ry;exact PySem.EqMixed.eq_str_int (zj1 I q (by simp))
 |str j=>obtain ⟨t',rfl⟩:=ry;exact eq_str (zj1 I q zgb)
 |_=>exact absurd (show false=true from hs) uX
|byt i =>
  obtain ⟨t,rfl⟩:=rx
  cases y with
 |byt j=>obtain ⟨t',rfl⟩:=ry;exact PySem.W.eq_bytes (zj1 I q zvm)
 |_=>exact absurd (show false=true from hs) uX
|_=>cases y <;> exact absurd (show false=true from hs) uX
theorem zr91:OpR X (compareOp .NotEq) rNe:=by
 intro pins s Y H x y v u Q I rx ry h
 obtain ⟨hs,q⟩:=h
 cases x with
|non =>
  cases rx
  cases y with
 |non=>cases ry;exact PySem.EqNone.ne_none_none (zj1 I q (by simp))
 |bl j=>cases ry;exact PySem.EqNone.ne_none_bool (zj1 I q (by simp))
 |int j=>obtain ⟨t',rfl⟩:=ry;exact PySem.EqNone.ne_none_int (zj1 I q (by simp))
 |str j=>obtain ⟨t',rfl⟩:=ry;exact PySem.EqNone.ne_none_str (zj1 I q (by simp))
 |_=>exact absurd (show false=true from hs) uX
|bl i =>
  cases rx
  cases y with
 |non=>cases ry;exact PySem.EqNone.ne_bool_none (zj1 I q (by simp))
 |bl j=>cases ry;exact ne_bool (zj1 I q (congrArg not zwg))
 |str j=>obtain ⟨t',rfl⟩:=ry;exact PySem.EqMixed.ne_bool_str (zj1 I q (by simp))
 |_=>exact absurd (show false=true from hs) uX
|int i =>
  obtain ⟨t,rfl⟩:=rx
  cases y with
 |non=>cases ry;exact PySem.EqNone.ne_int_none (zj1 I q (by simp))
 |int j=>obtain ⟨t',rfl⟩:=ry;exact ne_int (zj1 I q (congrArg not zlc))
 |str j=>obtain ⟨t',rfl⟩:=ry;exact PySem.EqMixed.ne_int_str (zj1 I q (by simp))
 |_=>exact absurd (show false=true from hs) uX
|str i =>
  obtain ⟨t,rfl⟩:=rx
  cases y with
 |non=>cases ry;exact PySem.EqNone.ne_str_none (zj1 I q (by simp))
 |bl j=>cases ry;exact PySem.EqMixed.ne_str_bool (zj1 I q (by simp))
 |int j=>obtain ⟨t',rfl⟩:=ry;exact PySem.EqMixed.ne_str_int (zj1 I q (by simp))
 |str j=>obtain ⟨t',rfl⟩:=ry;exact ne_str (zj1 I q (congrArg not zgb))
 |_=>exact absurd (show false=true from hs) uX
|byt i =>
  obtain ⟨t,rfl⟩:=rx
  cases y with
 |byt j=>obtain ⟨t',rfl⟩:=ry;exact PySem.W.ne_bytes (zj1 I q (congrArg not zvm))
 |_=>exact absurd (show false=true from hs) uX
|_=>cases y <;> exact absurd (show false=true from hs) uX
theorem zmr:OpR X (compareOp .Lt) (rI0 λ i j=>.bl (decide (i < j))):=opB0 λ _ _ _ _ _ _ _ q=>lt_int q
theorem zuo:OpR X (compareOp .Gt) (rI0 λ i j=>.bl (decide (j < i))):=opB0 λ _ _ _ _ _ _ _ q=>gt_int q
theorem zsj:OpR X (compareOp .In) (λ x y H Q=>∃ i j,x=.str i/\y=.str j/\Q (.bl (!(Builtin.Str.occurrences j i 0 j.length 1).isEmpty)) H):=by
 intro pins s Y H x y v u Q I rx ry h
 obtain ⟨i,j,rfl,rfl,q⟩:=h
 obtain ⟨t,rfl⟩:=rx
 obtain ⟨t',rfl⟩:=ry
 exact in_str (zj1 I q rfl)
theorem zy41:OpR X (compareOp .Is) (λ x y H Q=>y=.non/\Q (.bl (decide (x=.non))) H):=by
 intro pins s Y H x y v u Q I rx ry h
 obtain ⟨rfl,q⟩:=h
 cases ry
 refine is_none_gen (zj1 I q ?_)
 cases x <;> first
 |(cases rx;rfl)
 |(obtain ⟨t,rfl⟩:=rx;rfl)
theorem zkv:OpR X (compareOp .IsNot) (λ x y H Q=>y=.non/\Q (.bl (!decide (x=.non))) H):=by
 intro pins s Y H x y v u Q I rx ry h
 obtain ⟨rfl,q⟩:=h
 cases ry
 refine isnot_none_gen (zj1 I q ?_)
 cases x <;> first
 |(cases rx;rfl)
 |(obtain ⟨t,rfl⟩:=rx;rfl)
theorem OpR.or {f:Value->Value->Sem Value} {r r':R2} (h:OpR X f r) (h':OpR X f r'):OpR X f (λ x y H Q=>r x y H Q \/ r' x y H Q):=by
 intro pins s Y H x y v u Q I rx ry q
 rcases q with q|q
 ·exact h pins s Y H x y v u Q I rx ry q
 ·exact h' pins s Y H x y v u Q I rx ry q
theorem za2 (b:Expr) {op:CmpOp} (h:op≠.In:=by decide) (h2:op≠.NotIn:=by decide):behindInMarks op b=false:=by
 have e1:(op == CmpOp.In)=false:=by cases op <;> first|rfl|exact absurd rfl h
 have e2:(op == CmpOp.NotIn)=false:=by cases op <;> first|rfl|exact absurd rfl h2
 cases b <;> simp [behindInMarks,e1,e2]
theorem zot {op:CmpOp} {r:R2} (ho:OpR X (compareOp op) r) (ha:PE X a ta) (hb:PE X b tb) (hm:behindInMarks op b=false):PE X (.Compare a [op] [b] pos) (tOp r ta tb):=by
 intro pins s Y H Q I h
 exact wpAny_Compare1 (binT ha hb I h λ v u s2 x y H2 I2 rx ry q=>ho pins s2 Y H2 x y v u Q I2 rx ry q) hm
noncomputable def zi91 (t:TE):TT:=λ Y H Q=>t Y H λ x H'=>∃ k,x=.bl k/\Q k H'
theorem znw {op:CmpOp} {r:R2} (ho:OpR X (compareOp op) r) (ha:PE X a ta) (hb:PE X b tb) (hm:behindInMarks op b=false):PT X (.Compare a [op] [b] pos) (zi91 (tOp r ta tb)):=by
 intro pins s Y H Q I h
 refine wpAny_isTrue_Compare1 (thn (ha pins s Y H _ I h) λ v s1 ⟨x,H1,I1,r1,q1⟩=>thn (hb pins s1 Y H1 _ I1 q1) λ u s2 ⟨y,H2,I2,r2,q2⟩ =>
  thn (ho pins s2 Y H2 x y v u _ I2 r1 r2 q2) λ c s3 ⟨z,H3,I3,r3,k,e,q3⟩=>?_) hm
 subst e
 cases r3
 exact wpAny_truthy_bool ⟨H3,I3,q3⟩
noncomputable def TruV (K:Fg) (x:V) (H:Hp) (k:Bool):Prop :=
 match x with
|.non=>k=false
|.bl b=>k=b
|.int i=>k=(i != 0)
|.str y=>y.length<=sizeLine/\k=((y.length:Int) != 0)
|.byt y=>y.size<=sizeLine/\k=((y.size:Int) != 0)
|.ref p=>(∃ xs,SqL K H p xs/\k=!xs.isEmpty) \/ (∃ xs,SqT K H p xs/\k=!xs.isEmpty) \/ ∃ kvs,H p=some (.dK kvs)/\k=!kvs.isEmpty
|_=>False
theorem zmi {κ:Type} {kvs:List (κ×V)} {vs:List (κ×Value)} (r:KV kvs vs):(!vs.isEmpty)=!kvs.isEmpty:=by
 cases r <;> rfl
theorem zhb {xs:List V} {its:List Value} (r:Vals xs its):(!its.toArray.isEmpty)=!xs.isEmpty:=by
 cases r <;> simp
theorem zjd:(sizeLine:Nat) < 2 ^ 63:=by rw [sizeLine_eq];decide
theorem zv01:TruR X (λ x H Q=>∃ k,TruV X.K x H k/\Q k H):=by
 intro pins s Y H x v Q I rx h
 obtain ⟨k,e,q⟩:=h
 have hl:=zjd
 have hs:sizeLine=16777216:=sizeLine_eq
 cases x with
|non =>
  cases rx
  have e':k=false:=e
  subst e'
  exact truthy_none ⟨H,I,q⟩
|bl b =>
  cases rx
  have e':k=b:=e
  subst e'
  exact wpAny_truthy_bool ⟨H,I,q⟩
|int i =>
  obtain ⟨t,rfl⟩:=rx
  have e':k=(i != 0):=e
  subst e'
  exact PySem.P.truthy_int ⟨H,I,q⟩
|str y =>
  obtain ⟨t,rfl⟩:=rx
  obtain ⟨hy,e'⟩:y.length<=sizeLine/\k=((y.length:Int) != 0):=e
  subst e'
  exact PySem.P.truthy_str (by lia) ⟨H,I.tok _,q⟩
|byt y =>
  obtain ⟨t,rfl⟩:=rx
  obtain ⟨hy,e'⟩:y.size<=sizeLine/\k=((y.size:Int) != 0):=e
  subst e'
  exact PySem.W.truthy_bytes (by lia) ⟨H,I.tok _,q⟩
|ref p =>
  cases rx
  have e':(∃ xs,SqL X.K H p xs/\k=!xs.isEmpty) \/ (∃ xs,SqT X.K H p xs/\k=!xs.isEmpty) \/ ∃ kvs,H p=some (.dK kvs)/\k=!kvs.isEmpty:=e
  rcases e' with ⟨xs,hx,e'⟩|⟨xs,hx,e'⟩|⟨kvs,hx,e'⟩
  ·subst e'
   obtain ⟨its,r,pl,hz⟩:=I.list hx
   have hlen:=r.length
   exact wpAny_truthy_list pl.isList (by simp only [uV];lia) ⟨H,I.tok _,by rw [zhb r];exact q⟩
  ·subst e'
   obtain ⟨its,r,pl,hz⟩:=I.tuple hx
   have hlen:=r.length
   exact truthy_tuple pl (by simp only [uV];lia) ⟨H,I.tok _,by rw [zhb r];exact q⟩
  ·subst e'
   obtain ⟨hz,hS,vs,r,m⟩:kvs.length<=sizeLine/\(p == sysModules)=false/\∃ vs,KV kvs vs/\s.heap.DictOf (zx0 X.prog X.w) p vs:=I.hok p _ hx
   have hlen:kvs.length=vs.length:=Paired.length r
   exact wpAny_truthy_dict hS m (by lia) ⟨H,I.tok _,by rw [zmi r];exact q⟩
|_=>exact (show False from e).elim
theorem zpp (ha:PE X a ta) (he:∀ whole,isTrue a X.env whole=(do let v <- whole;standAt a.pos;holding [v] (truthy v))) :
  PT X a (λ Y H Q=>ta Y H λ x H'=>∃ k,TruV X.K x H' k/\Q k H'):=by
 intro pins s Y H Q I h
 exact isTrue_plain (thn (ha pins s Y H _ I h) λ v s1 ⟨x,H1,I1,r1,q1⟩=>zv01 pins s1 Y H1 x v Q I1 r1 q1) (he _)
theorem zti:OpR X (binaryOp .Add) (λ x y H Q=>∃ i j,x=.str i/\y=.str j/\i.length+j.length<=sizeLine/\Q (.str (i++j)) H):=by
 intro pins s Y H x y v u Q I rx ry h
 obtain ⟨i,j,rfl,rfl,hz,q⟩:=h
 obtain ⟨t,rfl⟩:=rx
 obtain ⟨t',rfl⟩:=ry
 exact add_str (λ t' tk=>⟨.str (i++j),H,I.tok _,⟨_,rfl⟩,q⟩) hz
theorem zkf {x:V} {us:List Value} (r:Vals [x] us):∃ u,us=[u]/\RelV x u:=by
 cases r with
|cons r1 r2=>cases r2;exact ⟨_,rfl,r1⟩
theorem zn51 {x y:V} {us:List Value} (r:Vals [x,y] us):∃ u w',us=[u,w']/\RelV x u/\RelV y w':=by
 cases r with
|cons r1 r2 =>
  cases r2 with
 |cons r3 r4=>cases r4;exact ⟨_,_,rfl,r1,r3⟩
theorem zzo:CallR X (.builtin "abs") (λ xs H Q=>∃ i,xs=[.int i]/\Q (.int (if i < 0 then -i else i)) H):=by
 intro pins s Y H xs us Q I r h
 obtain ⟨i,rfl,q⟩:=h
 obtain ⟨u,rfl,t,rfl⟩:=zkf r
 exact call_abs_int λ u tk=>⟨.int (if i < 0 then -i else i),H,I.tok _,⟨_,rfl⟩,q⟩
noncomputable def LenV (K:Fg) (x:V) (H:Hp) (n:Nat):Prop :=
 match x with
|.str y=>y.length<=sizeLine/\n=y.length
|.byt y=>y.size<=sizeLine/\n=y.size
|.ref p=>(∃ xs,SqL K H p xs/\n=xs.length) \/ ∃ xs,SqT K H p xs/\n=xs.length
|_=>False
theorem zsn:CallR X (.builtin "len") (λ xs H Q=>∃ x n,xs=[x]/\LenV X.K x H n/\Q (.int n) H):=by
 intro pins s Y H xs us Q I r h
 obtain ⟨x,n,rfl,e,q⟩:=h
 obtain ⟨u,rfl,rx⟩:=zkf r
 have hl:=zjd
 have hs:sizeLine=16777216:=sizeLine_eq
 cases x with
|str y =>
  obtain ⟨t,rfl⟩:=rx
  obtain ⟨hy,e'⟩:y.length<=sizeLine/\n=y.length:=e
  subst e'
  exact len_str (by lia) ⟨.int _,H,I.tok _,⟨_,rfl⟩,q⟩
|byt y =>
  obtain ⟨t,rfl⟩:=rx
  obtain ⟨hy,e'⟩:y.size<=sizeLine/\n=y.size:=e
  subst e'
  exact PySem.W.len_bytes (by lia) ⟨.int _,H,I.tok _,⟨_,rfl⟩,q⟩
|ref p =>
  cases rx
  have e':(∃ xs,SqL X.K H p xs/\n=xs.length) \/ ∃ xs,SqT X.K H p xs/\n=xs.length:=e
  rcases e' with ⟨xs,hx,e'⟩|⟨xs,hx,e'⟩
  ·subst e'
   obtain ⟨its,r',pl,hz⟩:=I.list hx
   have hlen:=r'.length
   exact Calls.call_len_list pl.isList (by simp only [uV];lia) ⟨.int xs.length,H,I.tok _,⟨_,by simp only [uV];rw [hlen]⟩,q⟩
  ·subst e'
   obtain ⟨its,r',pl,hz⟩:=I.tuple hx
   have hlen:=r'.length
   exact len_tuple pl (by simp only [uV];lia) ⟨.int xs.length,H,I.tok _,⟨_,by simp only [uV];rw [hlen]⟩,q⟩
|_=>exact (show False from e).elim
end
structure ObjM (h:Heap) (x dx C:Addr) (mA:Str->Option Value):Prop where
 obj:h.get? x=some (PySem.W.instObj C dx)
 ns:h.Ns1 dx mA
 ne:dx≠x
theorem zpk {h:Heap} {dx:Addr} {mA:Str->Option Value} (n:h.Ns1 dx mA):∃ od,h.get? dx=some od/\∀ name,PySem.W.lookIn name od=some (mA name):=by
 obtain ⟨o,es,ep,ho,hd,hk,_,hm⟩:=n
 refine ⟨o,ho,λ name=>?_⟩
 have e:=hm name
 unfold nsFind findBy at e
 rw [<- Array.find?_toList] at e
 unfold PySem.W.lookIn
 rw [hd]
 dsimp only
 split
 ·rename_i y q
  rw [q] at e
  exact congrArg some e
 ·rename_i q
  rw [q] at e
  have a:es.toList.any (·.refKey)=false:=by
   rw [List.any_eq_false]
   intro y hy
   obtain ⟨z,t,hkey⟩:=hk y (Array.mem_toList_iff.mp hy)
   simp [DictEntry.refKey,hkey]
  have a':¬ es.toList.any (·.refKey)=true:=by rw [a];exact uX
  rw [if_neg a']
  exact congrArg some e
theorem ObjM.look {h:Heap} {x dx C:Addr} {mA:Str->Option Value} (I:ObjM h x dx C mA):∃ od,PySem.W.InstAt h x (PySem.W.instObj C dx) C (some od)/\∀ name,PySem.W.lookIn name od=some (mA name) :=
 let ⟨od,ho,hl⟩:=zpk I.ns
 ⟨od,⟨I.obj,rfl,rfl,ho⟩,hl⟩
section
variable {prog:Program} {w:World} {A:Around} {E:Value->Shared->Prop} {s:Shared} {K:Fg} {x dx C f:Addr} {mA:Str->Option Value} {name:Str} {v:Value}
theorem zfx {expr:Bool} {Q:Value->Shared->Prop} (X:K.In s.heap) (I:ObjM s.heap x dx C mA) (hg:PySem.W.plainGet K C name=true) (hh:PySem.W.hasDictIn K C=true)
  (ha:PySem.W.findIn K (.ref C) name=some none) (hv:mA name=some v) (hv':PySem.W.handedIn v=true) (h:Q v { s with toks:=s.toks+1 }) :
  wpAny (model prog w) A (getAttr (.ref x) name expr) Q E s:=by
 obtain ⟨od,J,hl⟩:=I.look
 exact PySem.W.get_value X J (PySem.W.plainGet_of hg).1 (PySem.W.findObj_own hh ha rfl (by rw [hl,hv])) hv' h
theorem znn {pl:Sem Bool} {Q:Value×List Value->Shared->Prop} (X:K.In s.heap) (I:ObjM s.heap x dx C mA) (hg:PySem.W.plainGet K C name=true)
  (hf:PySem.W.findIn K (.ref C) name=some (some (.ref f))) (ht:PySem.W.isFn K (.ref f)=true) (hv:mA name=none) (h:Q (.ref f,[.ref x]) s) :
  wpAny (model prog w) A (getMethod (.ref x) name pl) Q E s:=by
 obtain ⟨od,J,hl⟩:=I.look
 exact PySem.W.method_fn X J (PySem.W.plainGet_of hg).1 (PySem.W.plainGet_of hg).2 hf (beq_iff_eq.mp ht) (by show (PySem.W.lookIn name od).map (·.isSome)=some false;rw [hl,hv];rfl) h
theorem zzt {ns:List Str} {Q:Unit->Shared->Prop} (X:K.In s.heap) (I:ObjM s.heap x dx C mA)
  (hs:PySem.W.findIn K (.ref C) "__setattr__"=some (some (.builtin "object.__setattr__"))) (hp:PySem.W.plainOver K C=true) (ht:PySem.W.takerIn K C name=some none) (hh:PySem.W.hasDictIn K C=true)
  (hw:PySem.Within mA ns) (hsz:ns.length<=sizeLine)
  (h:∀ h',ObjM h' x dx C (λ y=>if y=name then some v else mA y)->Heap.SameBut dx s.heap h'->Q () { s with heap:=h',toks:=s.toks+2 }) :
  wpAny (model prog w) A (setAttr (.ref x) name v) Q E s:=by
 obtain ⟨od,J,hl⟩:=I.look
 refine PySem.W.set_plain X J hs (PySem.W.osa_open (s:={ s with toks:=s.toks+1 }) (r:=none) X J hp ht λ b=>?_)
 obtain ⟨cd,hc,hd'⟩:=PySem.W.any_some hh
 have hx:s.heap.get? x=some ⟨.ref C,some dx,.plain,#[]⟩:=I.obj
 refine wpAny_bind (wpAny_pure (wpAny_bind (wpAny_bind (wpAny_loadPart hx (wpAny_bind (PySem.W.Looks.here (s:={ s with toks:=s.toks+1 }) (PySem.W.looks_clsIn X hc) ?_))))))
 rw [hd']
 refine wpAny_pure (a:=some dx) (wpAny_bind (wpAny_pure (wpAny_bind ?_)))
 refine wpAny_nsSet1 (s:={ s with toks:=s.toks+1 }) I.ns λ h' hn2 hs2=>?_
 obtain ⟨oD,esD,epD,hoD,hdD,hcD⟩:=hn2.count (PySem.Within.cons name v hw)
 refine wpAny_bind (wpAny_lookBehind hoD (by rw [hdD];exact pastItsLine_dict (vQ hcD (by rw [vS];lia))) ?_)
 exact wpAny_pure (h _ ⟨(hs2.2 _ (Ne.symm I.ne)).trans I.obj,hn2,I.ne⟩ hs2)
theorem zfq {R:Result->Shared->Prop} {vs:List Value} {kw:List (Str×Value)} (X:K.In s.heap) (hm:PySem.W.makesIn K C=true)
  (hi:PySem.W.findIn K (.ref C) "__init__"=some (some (.ref f))) (hf:PySem.W.typeIn K (.ref f)=some (.type "function"))
  (h:codeAny (model prog w) (A.under (.builtin "type.__call__" ⟨.ref C :: vs,kw⟩)) (.call (.ref f) ⟨.ref (s.heap.objs.size+1) :: vs,kw⟩) (PySem.W.InitBack (s.heap.objs.size+1) R)
   { s with heap:=(s.heap.push PySem.W.emptyDict).push (PySem.W.instObj C s.heap.objs.size) }) :
  codeAny (model prog w) A (.call (.ref C) ⟨vs,kw⟩) R s:=by
 obtain ⟨hh,g,d,t,os⟩:=s
 exact PySem.W.make_core (PySem.W.makes_of X hm) (PySem.W.looks_findIn X hi) (λ self=>PySem.W.bind_fn X self hf) (.inl rfl) h
end
noncomputable def putF (f:Str) (v:V):List (Str×V)->List (Str×V)
|[]=>[(f,v)]
|(g,x) :: r=>if g=f then (g,v) :: r else (g,x) :: putF f v r
theorem zy9 (f g:Str) (v:V):∀ fs:List (Str×V),(putF f v fs).lookup g=if g=f then some v else fs.lookup g
|[]=>by
  show vX g [(f,v)]=_
  by_cases h:g=f
  ·have hb:(g == f)=true:=beq_iff_eq.mpr h
   simp only [vX,hb,if_pos h]
  ·have hb:(g == f)=false:=beq_eq_false_iff_ne.mpr h
   simp only [vX,hb,if_neg h]
|(k,x) :: r=>by
  have ih:=zy9 f g v r
  rw [show putF f v ((k,x) :: r)=(if k=f then (k,v) :: r else (k,x) :: putF f v r) from rfl]
  by_cases hk:k=f
  ·rw [if_pos hk]
   by_cases h:g=k
   ·have hb:(g == k)=true:=beq_iff_eq.mpr h
    simp only [vX,hb,if_pos (h.trans hk)]
   ·have hb:(g == k)=false:=beq_eq_false_iff_ne.mpr h
    simp only [vX,hb,if_neg (λ e:g=f=>h (e.trans hk.symm))]
  ·rw [if_neg hk]
   by_cases h:g=k
   ·have hb:(g == k)=true:=beq_iff_eq.mpr h
    simp only [vX,hb,if_neg (λ e:g=f=>hk (h.symm.trans e))]
   ·have hb:(g == k)=false:=beq_eq_false_iff_ne.mpr h
    simp only [vX,hb]
    exact ih
theorem zla (f:Str) (v:V):∀ fs:List (Str×V),f∈(putF f v fs).map (·.1)/\∀ g,g∈fs.map (·.1)->g∈(putF f v fs).map (·.1)
|[]=>⟨by simp [putF],λ g h=>by simp at h⟩
|(k,x) :: r=>by
  obtain ⟨i1,i2⟩:=zla f v r
  rw [show putF f v ((k,x) :: r)=(if k=f then (k,v) :: r else (k,x) :: putF f v r) from rfl]
  by_cases hk:k=f
  ·rw [if_pos hk]
   subst hk
   exact ⟨by simp,λ g h=>by simpa using h⟩
  ·rw [if_neg hk]
   refine ⟨?_,λ g h=>?_⟩
   ·rw [uK]
    exact u9 _ i1
   ·rw [uK] at h ⊢
    rcases uD.mp h with e|e
    ·exact uD.mpr (.inl e)
    ·exact u9 _ (i2 g e)
theorem zl9 (f:Str) (v:V):∀ fs:List (Str×V),(putF f v fs).length<=fs.length+1
|[]=>by simp [putF]
|(k,x) :: r=>by
  have ih:=zl9 f v r
  rw [show putF f v ((k,x) :: r)=(if k=f then (k,v) :: r else (k,x) :: putF f v r) from rfl]
  by_cases hk:k=f
  ·rw [if_pos hk,vS,vS];lia
  ·rw [if_neg hk,vS,vS];lia
theorem RelO.some_of {v:V} {o:Option Value} (r:RelO (some v) o):∃ u,o=some u/\RelV v u:=by
 cases o with
|none=>exact (show False from r).elim
|some u=>exact ⟨u,rfl,r⟩
theorem RelO.none_of {o:Option Value} (r:RelO none o):o=none:=by
 cases o with
|none=>rfl
|some u=>exact (show False from r).elim
theorem zak {v:V} {u:Value} (r:RelV v u):PySem.W.handedIn u=true:=by
 cases v with
|non=>cases (show u=wB from r);rfl
|bl b=>cases (show u=xU b from r);rfl
|int i=>obtain ⟨t,e⟩:=(show ∃ t,u=wX i t from r);cases e;rfl
|str x=>obtain ⟨t,e⟩:=(show ∃ t,u=wY x t from r);cases e;rfl
|byt b=>obtain ⟨t,e⟩:=(show ∃ t,u=Value.bytes b t from r);cases e;rfl
|flt b=>obtain ⟨t,e⟩:=(show ∃ t,u=yP b t from r);cases e;rfl
|ref a=>cases (show u=uS a from r);rfl
|ty n=>cases (show u=Value.type n from r);rfl
section
variable {P:Program} {w:World} {H H':Hp} {h h':Heap} {a C dx:Addr} {fs fs':List (Str×V)}
theorem zxe (hok:HOk P w H h) (e:H a=some (.ins C dx fs)):∃ mA,ObjM h a dx C mA/\(∀ f,RelO (fs.lookup f) (mA f))/\PySem.Within mA (fs.map (·.1))/\fs.length<=1000/\H dx=some (.own a):=by
 obtain ⟨d,z,ne,ob,mA,n,r,q⟩:=(show ObjOk P w H h a (.ins C dx fs) from hok a _ e)
 exact ⟨mA,⟨ob,n,ne⟩,r,q,z,d⟩
end
structure Cls (K:Fg) (C:Addr):Prop where
 pg:PySem.W.plainGet K C Str.empty=true
 hd:PySem.W.hasDictIn K C=true
 po:PySem.W.plainOver K C=true
 sa:PySem.W.findIn K (.ref C) "__setattr__"=some (some (.builtin "object.__setattr__"))
theorem Cls.get {K:Fg} {C:Addr} (c:Cls K C) (f:Str):PySem.W.plainGet K C f=true:=c.pg
noncomputable def NoAttr (K:Fg) (C:Addr) (f:Str):Prop:=PySem.W.findIn K (.ref C) f=some none
theorem NoAttr.taker {K:Fg} {C:Addr} {f:Str} (n:NoAttr K C f):PySem.W.takerIn K C f=some none:=by
 unfold PySem.W.takerIn
 rw [show PySem.W.findIn K (.ref C) f=some none from n]
 rfl
structure Meth (K:Fg) (C:Addr) (m:Str) (f:Addr):Prop where
 at_:PySem.W.findIn K (.ref C) m=some (some (.ref f))
 fn:PySem.W.isFn K (.ref f)=true
 kp:PySem.W.keepIn K (.ref f)=true
section
variable {X:Cx} {pins:List (Addr×Obj)} {Y:St} {H:Hp} {s:Shared} {a C dx:Addr} {fs:List (Str×V)} {f:Str} {v:V} {A:Around} {E:Value->Shared->Prop}
theorem zsg {b:Bool} {Q:Value->Shared->Prop} (I:Inv X pins Y H s) (e:H a=some (.ins C dx fs)) (c:Cls X.K C) (n:NoAttr X.K C f) (l:fs.lookup f=some v)
  (h:∀ u s',Inv X pins Y H s'->RelV v u->Q u s'):wpAny (model X.prog X.w) A (getAttr (.ref a) f b) Q E s:=by
 obtain ⟨mA,O,r,_,_,_⟩:=zxe I.hok e
 obtain ⟨u,hu,ru⟩:=RelO.some_of (v:=v) (o:=mA f) (by rw [<- l];exact r f)
 exact zfx I.kIn O (c.get f) c.hd n hu (zak ru) (h u _ (I.tok _) ru)
theorem zu7 {m:Str} {g:Addr} {pl:Sem Bool} {Q:Value×List Value->Shared->Prop} (I:Inv X pins Y H s) (e:H a=some (.ins C dx fs)) (c:Cls X.K C) (k:Meth X.K C m g) (l:fs.lookup m=none)
  (h:Q (.ref g,[.ref a]) s):wpAny (model X.prog X.w) A (getMethod (.ref a) m pl) Q E s:=by
 obtain ⟨mA,O,r,_,_,_⟩:=zxe I.hok e
 have hn:mA m=none:=RelO.none_of (by rw [<- l];exact r m)
 exact znn I.kIn O (c.get m) k.at_ k.fn hn h
theorem zrg {y:V} {u:Value} {Q:Unit->Shared->Prop} (I:Inv X pins Y H s) (e:H a=some (.ins C dx fs)) (c:Cls X.K C) (n:NoAttr X.K C f) (hl:fs.length < 1000) (ry:RelV y u)
  (h:∀ s',Inv X pins Y (upd H a (.ins C dx (putF f y fs))) s'->Q () s'):wpAny (model X.prog X.w) A (setAttr (.ref a) f u) Q E s:=by
 obtain ⟨mA,O,r,wi,_,ho⟩:=zxe I.hok e
 have hz:(fs.map (·.1)).length<=sizeLine:=by rw [uA,sizeLine_eq];lia
 refine zzt I.kIn O c.sa c.po n.taker c.hd wi hz λ h' O' sb=>h _ ?_
 have hd:∃ o,h'.get? dx=some o:=let ⟨o,_,_,e',_⟩:=O'.ns;⟨o,e'⟩
 refine I.write (x:=a) (e:=dx) (by rw [e];exact True.intro) (.inr ho) (λ b q hb z=>(sb.2 b hb).trans z) hd ?_
 refine ⟨by rw [zn0 O.ne];exact ho,?_,O.ne,O'.obj,_,O'.ns,λ g=>?_,λ g hg=>?_⟩
 ·have:=zl9 f y fs;lia
 ·show RelO ((putF f y fs).lookup g) (if g=f then some u else mA g)
  rw [zy9]
  by_cases q:g=f
  ·rw [if_pos q,if_pos q];exact ry
  ·rw [if_neg q,if_neg q];exact r g
 ·by_cases q:g=f
  ·rw [q];exact (zla f y fs).1
  ·refine (zla f y fs).2 g (wi g λ z=>hg ?_)
   show (if g=f then some u else mA g)=none
   rw [if_neg q];exact z
theorem Inv.made (I:Inv X pins Y H s):Inv X pins Y (upd (upd H s.heap.objs.size (.own (s.heap.objs.size+1))) (s.heap.objs.size+1) (.ins C s.heap.objs.size []))
  { s with heap:=(s.heap.push PySem.W.emptyDict).push (PySem.W.instObj C s.heap.objs.size) }:=by
 have e1:(s.heap.push PySem.W.emptyDict).get? s.heap.objs.size=some PySem.W.emptyDict:=uT s.heap rfl
 have e2:((s.heap.push PySem.W.emptyDict).push (PySem.W.instObj C s.heap.objs.size)).get? (s.heap.objs.size+1)=some (PySem.W.instObj C s.heap.objs.size):=by
  have:=uT (s.heap.push PySem.W.emptyDict) (o:=PySem.W.instObj C s.heap.objs.size) rfl
  rwa [vE] at this
 have e3:(s.heap.push PySem.W.emptyDict).Ns s.heap.objs.size (λ _=>none):=⟨PySem.W.emptyDict,#[],_,e1,rfl,(λ e he=>absurd he (by simp)),λ _=>rfl⟩
 have I1:=I.laid (a:=s.heap.objs.size) (o:=.own (s.heap.objs.size+1)) (h':=s.heap.push PySem.W.emptyDict) (t':=s.toks) (λ b u q=>uH _ q) (uG _) ⟨_,e1⟩
 refine I1.laid (a:=s.heap.objs.size+1) (o:=.ins C s.heap.objs.size []) (t':=s.toks) (λ b u q=>uH _ q) (yT (vE _ _)) ?_
 have ne:s.heap.objs.size≠s.heap.objs.size+1:=u3 (xI _)
 refine ⟨by rw [zn0 ne,zi0],vY _,ne,e2,λ _=>none,(Heap.Ns1.of_empty e3).at λ o q=>uH _ q,λ _=>True.intro,λ y hy=>absurd rfl hy⟩
theorem zss {prog:Program} {w:World} {env:Env} {e:Expr} {f:Str} {pos:Pos} {s:Shared} {Q:Value->Shared->Prop} (hb:attributeBase e f env (eval e env)=eval e env)
  (h:wpAny (model prog w) A (eval e env) (λ o s₁=>wpAny (model prog w) A (getAttr o f true) Q E s₁) E s):wpAny (model prog w) A (eval (.Attribute e f pos) env) Q E s :=
 Attribute_any_ h (by rw [arm_eval_Attribute,hb])
end
noncomputable def tFld (K:Fg) (ta:TE) (f:Str):TE:=λ Y H Q=>ta Y H λ x H1=>∃ a C dx fs v,x=.ref a/\H1 a=some (.ins C dx fs)/\Cls K C/\NoAttr K C f/\fs.lookup f=some v/\Q v H1
noncomputable def sFld (K:Fg) (ta tv:TE) (f:Str):TS:=λ D Y H=>tv Y H λ y H1=>ta Y H1 λ x H2=>∃ a C dx fs,x=.ref a/\H2 a=some (.ins C dx fs)/\Cls K C/\NoAttr K C f/\fs.length < 1000 /\
 D.nx Y (upd H2 a (.ins C dx (putF f y fs)))
section
variable {X:Cx} {o e value:Expr} {f:Str} {pos pos' tpos:Pos} {ta tv:TE}
theorem zc01 (he:PE X e ta) (hb:attributeBase e f X.env (eval e X.env)=eval e X.env):PE X (.Attribute e f pos) (tFld X.K ta f):=by
 intro pins s Y H Q I h
 refine zss hb (thn (he pins s Y H _ I h) λ u s1 ⟨x,H1,I1,rx,a,C,dx,fs,v,ex,ea,c,n,l,q⟩=>?_)
 subst ex
 obtain rfl:u=uS a:=rx
 exact zsg I1 ea c n l λ u' s2 I2 ru=>⟨v,H1,I2,ru,q⟩
theorem zco (ha:PE X o ta) (hv:PE X value tv) (hs:swapsWith value (some (.Attribute o f pos')) pos.line X.env=pure false):PS X (.Assign [.Attribute o f pos'] value pos) (sFld X.K ta tv f):=by
 intro pins s Y H D I h
 refine plainObj_wpAny_Assign_Attribute (thn (hv pins s Y H _ I h) λ u s1 ⟨y,H1,I1,ry,q⟩=>thn (ha pins s1 Y H1 _ I1 q) λ ov s2 ⟨x,H2,I2,rx,a,C,dx,fs,ex,ea,c,n,l,q2⟩=>?_) hs
 subst ex
 obtain rfl:ov=uS a:=rx
 exact zrg I2 ea c n l ry λ s3 I3=>⟨Y,_,I3,q2⟩
end
section
variable {X:Cx} {pins:List (Addr×Obj)} {Y:St} {H:Hp} {s:Shared} {A:Around} {E:Value->Shared->Prop} {Q:Value->Shared->Prop} {c:Value} {b:Bool}
inductive TyOf (K:Fg) (H:Hp):V->Value->Prop where
|non:TyOf K H .non (.type "NoneType")
|bl (x:Bool):TyOf K H (.bl x) (.type "bool")
|int (i:Int):TyOf K H (.int i) (.type "int")
|str (x:Str):TyOf K H (.str x) (.type "str")
|flt (x:UInt64):TyOf K H (.flt x) (.type "float")
|lst {a:Addr} {xs:List V} (e:H a=some (.lst xs)):TyOf K H (.ref a) (.type "list")
|frz {a:Addr} {o:Obj} {xs:List V} (e:H a=some (.frz o (.lst xs))):TyOf K H (.ref a) (.type "list")
|tup {a:Addr} {xs:List V} (e:H a=some (.tup xs)):TyOf K H (.ref a) (.type "tuple")
|dK {a:Addr} {kvs:List (Key×V)} (e:H a=some (.dK kvs)):TyOf K H (.ref a) (.type "dict")
|dT {a:Addr} {kvs:List (List Key×V)} (e:H a=some (.dT kvs)):TyOf K H (.ref a) (.type "dict")
|ins {a C dx:Addr} {fs:List (Str×V)} (e:H a=some (.ins C dx fs)) (cl:Cls K C) (ha:PySem.W.findIn K (.ref C) "__class__"=some (some (.builtin "object.__class__")))
   (hn:PySem.W.specialIn K (.builtin "object.__class__") "__get__"=some (some (.builtin "getset_descriptor.__get__"))) (htk:PySem.W.takesIn K (.builtin "object.__class__")=some true)
   (hm:PySem.W.mroIn K C (.type "object")=some true):TyOf K H (.ref a) (.ref C)
theorem zdl {x:V} {u t:Value} (I:Inv X pins Y H s) (rx:RelV x u) (ty:TyOf X.K H x t) (e:PySem.W.kitOne X.K t c=some b) (h:∀ tk,Q (.bool b) { s with toks:=tk }) :
  wpAny (model X.prog X.w) A (call (.builtin "isinstance") [u,c]) Q E s:=by
 cases ty with
|non=>cases (show u=wB from rx);exact PySem.W.kia_one PySem.W.kitx_none I.kIn True.intro e (λ z=>nomatch z) h
|bl y=>cases (show u=xU y from rx);exact PySem.W.kia_one PySem.W.kitx_bool I.kIn True.intro e (λ z=>nomatch z) h
|int i=>obtain ⟨t,q⟩:=(show ∃ t,u=wX i t from rx);cases q;exact PySem.W.kia_one PySem.W.kitx_int I.kIn True.intro e (λ z=>nomatch z) h
|str y=>obtain ⟨t,q⟩:=(show ∃ t,u=wY y t from rx);cases q;exact PySem.W.kia_one PySem.W.kitx_str I.kIn True.intro e (λ z=>nomatch z) h
|flt y=>obtain ⟨t,q⟩:=(show ∃ t,u=yP y t from rx);cases q;exact PySem.W.kia_one PySem.W.kitx_float I.kIn True.intro e (λ z=>nomatch z) h
|@lst a xs ea =>
  cases (show u=uS a from rx)
  obtain ⟨_,_,n,_,h1⟩:=(show ObjOk X.prog X.w H s.heap a (.lst xs) from I.hok a _ ea)
  exact PySem.W.kia_one PySem.W.kitx_list I.kIn ⟨_,h1,rfl⟩ e (λ z=>nomatch z) h
|@frz a ob xs ea =>
  cases (show u=uS a from rx)
  obtain ⟨_,_,_,n,_,h1⟩:=(show ObjOk X.prog X.w H s.heap a (.frz ob (.lst xs)) from I.hok a _ ea)
  exact PySem.W.kia_one PySem.W.kitx_list I.kIn ⟨_,h1,rfl⟩ e (λ z=>nomatch z) h
|@tup a xs ea =>
  cases (show u=uS a from rx)
  obtain ⟨_,_,_,p⟩:=(show ObjOk X.prog X.w H s.heap a (.tup xs) from I.hok a _ ea)
  obtain ⟨o,h1,h2,_⟩:=p
  exact PySem.W.kia_one PySem.W.kitx_tuple I.kIn ⟨o,h1,h2⟩ e (λ z=>nomatch z) h
|@dK a kvs ea =>
  cases (show u=uS a from rx)
  obtain ⟨_,_,vs,_,p⟩:=(show ObjOk X.prog X.w H s.heap a (.dK kvs) from I.hok a _ ea)
  obtain ⟨o,es,ep,h1,h2,_⟩:=p
  exact PySem.W.kia_one PySem.W.kitx_dict I.kIn ⟨o,h1,h2.1⟩ e (λ z=>nomatch z) h
|@dT a kvs ea =>
  cases (show u=uS a from rx)
  obtain ⟨_,_,xs,_,o,es,ep,h1,h2,_⟩:=(show ObjOk X.prog X.w H s.heap a (.dT kvs) from I.hok a _ ea)
  exact PySem.W.kia_one PySem.W.kitx_dict I.kIn ⟨o,h1,h2.1⟩ e (λ z=>nomatch z) h
|@ins a C dx fs ea cl ha hn htk hm =>
  cases (show u=uS a from rx)
  obtain ⟨mA,O,_⟩:=zxe I.hok ea
  obtain ⟨od,J,_⟩:=O.look
  exact PySem.W.kia_one (PySem.W.kitx_own (cl.get _) cl.hd ha hn htk hm) I.kIn J e (λ z=>nomatch z) h
end
structure Room (k:Nat) (A:Around):Prop where
 hd:A.handled=none
 dp:A.depth+3 * k+5 < recursionLimit
 gd:A.guards=some []
 un:A.units+16 * k+200 < cLine
theorem Room.mono {j k:Nat} {A:Around} (r:Room k A) (h:j<=k):Room j A:=⟨r.hd,by have:=r.dp;lia,r.gd,by have:=r.un;lia⟩
theorem Room.deeper {k:Nat} {A:Around} (r:Room (k+1) A) (env:Env):Room k (A.deeper env) :=
 ⟨r.hd,by have:=r.dp;show A.depth+1+3 * k+5 < _;lia,r.gd,by have:=r.un;show A.units+3+16 * k+200 < _;lia⟩
theorem zvi {A:Around} {C:Addr} {us:List Value} {kw:List (Str×Value)}:(A.under (.builtin "type.__call__" ⟨.ref C :: us,kw⟩)).depth=A.depth+1:=by
 first|rfl|simp [Around.under,Code.weight,Code.isCreation,Code.isGuard,Code.isCaller,Code.frames,Code.isFrame,guardIds]
theorem zsi {A:Around} {C:Addr} {us:List Value} {kw:List (Str×Value)}:(A.under (.builtin "type.__call__" ⟨.ref C :: us,kw⟩)).units=A.units+1:=by
 first|rfl|simp [Around.under,Code.cUnits,Code.frames,Code.isFrame]
theorem Room.make {k:Nat} {A:Around} (r:Room (k+1) A) (C:Addr) (us:List Value) (kw:List (Str×Value)):Room k (A.under (.builtin "type.__call__" ⟨.ref C :: us,kw⟩)) :=
 ⟨r.hd,by have:=r.dp;rw [zvi];lia,r.gd,by have:=r.un;rw [zsi];lia⟩
theorem Room.depth {k:Nat} {A:Around} (r:Room k A):A.depth < recursionLimit:=by have:=r.dp;lia
theorem Room.units {k:Nat} {A:Around} (r:Room k A):A.units+64 < cLine:=by have:=r.un;lia
noncomputable def tNil:TA:=λ _ H Q=>Q [] H
noncomputable def zl4 (ta:TE) (tr:TA):TA:=λ Y H Q=>ta Y H λ x H1=>tr Y H1 λ xs H2=>Q (x :: xs) H2
section
variable {X:Cx} {e:Expr} {es:List Expr} {te:TE} {t:TA} {pos:Pos}
theorem zg0:PA X [] tNil:=λ _ _ _ _ H Q I h=>Calls.spliced_nil ⟨[],H,I,.nil,h⟩
theorem za0 (ha:PE X e te) (hr:PA X es t) (hs:starEach (e :: es) X.env=(false,eval e X.env) :: starEach es X.env:=by rfl):PA X (e :: es) (zl4 te t):=by
 intro pos pins s Y H Q I h
 rw [hs]
 show wpAny _ _ (spliced ((false,eval e X.env) :: backTo pos (starEach es X.env))) _ _ s
 refine Calls.spliced_cons (thn (ha pins s Y H _ I h) λ u s1 ⟨x,H1,I1,r1,q1⟩=>?_)
 exact thn (hr pos pins s1 Y H1 _ I1 q1) λ us s2 ⟨xs,H2,I2,r2,q2⟩=>⟨x :: xs,H2,I2,.cons r1 r2,q2⟩
noncomputable def tTup (t:TA):TE:=λ Y H Q=>t Y H λ xs H1=>xs.length<=sizeLine/\∀ p,H1 p=none->Q (.ref p) (upd H1 p (.tup xs))
noncomputable def tLst (t:TA):TE:=λ Y H Q=>t Y H λ xs H1=>xs.length<=sizeLine/\∀ p,H1 p=none->Q (.ref p) (upd H1 p (.lst xs))
theorem zk31 {x1} (h:PA X es t):PE X (.Tuple es x1 pos) (tTup t):=by
 intro pins s Y H Q I hq
 refine wpAny_Tuple_spliced (thn (h pos pins s Y H _ I hq) λ us s1 ⟨xs,H1,I1,r,z,q⟩=>⟨by rw [<- r.length];exact z,?_⟩)
 have hf:H1 s1.heap.objs.size=none:=I1.hok.fresh (uG _)
 refine ⟨.ref s1.heap.objs.size,upd H1 s1.heap.objs.size (.tup xs),I1.laid (t':=s1.toks) (λ b u e=>uH _ e) (uG _) ?_,rfl,q _ hf⟩
 exact ⟨z,us,r,⟨_,uT _ rfl,rfl,_,rfl⟩⟩
theorem zn11 (h:PA X es t):PE X (.List es pos) (tLst t):=by
 intro pins s Y H Q I hq
 refine wpAny_List_spliced (thn (h pos pins s Y H _ I hq) λ us s1 ⟨xs,H1,I1,r,z,q⟩=>⟨by rw [<- r.length];exact z,?_⟩)
 have hf:H1 s1.heap.objs.size=none:=I1.hok.fresh (uG _)
 refine ⟨.ref s1.heap.objs.size,upd H1 s1.heap.objs.size (.lst xs),I1.laid (t':=s1.toks) (λ b u e=>uH _ e) (uG _) ?_,rfl,q _ hf⟩
 exact ⟨z,us,0,r,uT _ rfl⟩
end
noncomputable abbrev Sp:=List V->Hp->VK->XK->Prop
noncomputable abbrev CXT:=List Env->Hp->Shared->XK->Value->Shared->Prop
structure Env0 (P:Program) (w:World) (K:Fg) (mg:Str->Option Value) (base:Heap) (A:Around) (outer:List Env) (s:Shared) (H:Hp):Prop where
 frames:A.frames=some outer
 mod:Mod K mg base
 bs:∀ b o,base.get? b=some o->s.heap.get? b=some o/\H b=none
 bsz:base.objs.size<=s.heap.objs.size
 funs:s.heap.FunFrames base outer
 frf:∀ b∈frs outer,H b=none
 hok:HOk P w H s.heap
 bare:AllBare s.gens
noncomputable def CE (outer:List Env) (P:Program) (w:World) (H:Hp) (s:Shared) (Q:VK) (u:Value) (s':Shared):Prop :=
 ∃ v H',s'.os=s.os/\AllBare s'.gens/\Un (frs outer) [] H H' s.heap s'.heap/\HOk P w H' s'.heap/\RelV v u/\Q v H'
noncomputable def CR (CX:CXT) (outer:List Env) (P:Program) (w:World) (H:Hp) (s:Shared) (Q:VK) (E:XK) (r:Result) (s':Shared):Prop :=
 match r with
|.ok (.ret u)=>CE outer P w H s Q u s'
|.ok _=>False
|.error e=>CX outer H s E e s'
structure FnOk (P:Program) (w:World) (K:Fg) (mg:Str->Option Value) (base:Heap) (CX:CXT) (k:Nat) (f:Addr) (fd:FuncData) (ps:List Str) (sp:Sp):Prop where
 len:∀ vs H Q E,sp vs H Q E->vs.length=ps.length
 run:∀ (A:Around) (outer:List Env) (s:Shared) (H:Hp) (args:Args) (us:List Value) (vs:List V) (Q:VK) (E:XK),Room k A->Env0 P w K mg base A outer s H->BindsTo s fd args (ps.zip us)->Vals vs us->sp vs H Q E ->
  codeAny (model P w) A (.call (.ref f) args) (CR CX outer P w H s Q E) s
theorem Env0.make {P:Program} {w:World} {K:Fg} {mg:Str->Option Value} {base:Heap} {A:Around} {outer:List Env} {s:Shared} {H:Hp} (e:Env0 P w K mg base A outer s H) (C:Addr) (us:List Value) (kw:List (Str×Value)) :
  Env0 P w K mg base (A.under (.builtin "type.__call__" ⟨.ref C :: us,kw⟩)) outer s H:=⟨by first|exact e.frames|(simpa [Around.under,Code.envs,Code.isFrame,pushEnvs] using e.frames),e.mod,e.bs,e.bsz,e.funs,e.frf,e.hok,e.bare⟩
section
variable {X:Cx} {pins:List (Addr×Obj)} {Y:St} {H:Hp} {s s':Shared}
theorem Inv.env0 (I:Inv X pins Y H s):Env0 X.prog X.w X.K X.mg X.base X.A X.stack s H :=
 ⟨I.ok.frames,I.ok.mod,I.bs,vQ I.ok.bsz I.sz,I.stack,I.stkFree,I.hok,I.bare⟩
theorem Inv.after {Q:VK} {u:Value} (I:Inv X pins Y H s) (h:CE X.stack X.prog X.w H s Q u s'):EP X pins Y Q u s':=by
 obtain ⟨v,H',os,bare,un,hok,r,q⟩:=h
 obtain ⟨hh,g,d,t,os'⟩:=s'
 obtain rfl:os'=s.os:=os
 exact ⟨v,H',I.call (h':=hh) (g':=g) (d':=d) (t':=t) (ch:=[]) un hok bare (λ b z=>absurd z (by simp)),r,q⟩
end
noncomputable def zhk (sp:Sp) (dvs:List V) (E:XK) (t:TA):TE:=λ Y H Q=>t Y H λ vs H1=>sp (vs++dvs) H1 Q E
noncomputable def zpr (C:Addr) (m:Str) (sp:Sp) (dvs:List V) (E:XK) (ta:TE) (t:TA):TE:=λ Y H Q=>ta Y H λ x H1=>∃ a dx fs,x=.ref a/\H1 a=some (.ins C dx fs)/\fs.lookup m=none /\
 t Y H1 λ vs H2=>sp (x :: (vs++dvs)) H2 Q E
noncomputable def zw41 (C:Addr) (sp:Sp) (dvs:List V) (E:XK) (t:TA):TE:=λ Y H Q=>t Y H λ vs H1=>∀ x dx,H1 x=none->H1 dx=none->dx≠x ->
 sp (.ref x :: (vs++dvs)) (upd (upd H1 dx (.own x)) x (.ins C dx [])) (λ v H2=>v=.non/\Q (.ref x) H2) E
noncomputable def Binds (K:Fg) (fd:FuncData) (ps:List Str) (ds:List Value):Prop :=
 ∀ (s:Shared) (us:List Value),K.In s.heap->(us++ds).length=ps.length->BindsTo s fd ⟨us,[]⟩ (ps.zip (us++ds))
theorem Binds.all {K:Fg} {fd:FuncData} {ps:List Str} (h:∀ us:List Value,us.length=ps.length->bindArgs fd ⟨us,[]⟩=pure (ps.zip us)):Binds K fd ps []:=λ s us _ hl=>by
 rw [vL] at hl ⊢
 exact .of_eq (h us hl)
noncomputable def zde (CX:CXT) (X:Cx) (E:XK):Prop:=∀ (pins:List (Addr×Obj)) (Y:St) (H:Hp) (s:Shared) (e:Value) (s':Shared),Inv X pins Y H s->CX X.stack H s E e s'->X.xe e s'
section
variable {X:Cx} {CX:CXT} {k:Nat} {f C:Addr} {fd:FuncData} {ps:List Str} {sp:Sp} {dvs:List V} {ds:List Value} {E:XK} {x m:Str} {p pos apos:Pos} {e o:Expr} {es:List Expr} {ta:TE} {t:TA}
theorem zno {pins:List (Addr×Obj)} {Y:St} {H:Hp} {s:Shared} {Q:VK} {us:List Value} {vs:List V} (F:FnOk X.prog X.w X.K X.mg X.base CX k f fd ps sp) (hr:Room k X.A) (hb:Binds X.K fd ps ds) (hd:Vals dvs ds) (hx:zde CX X E)
  (I:Inv X pins Y H s) (r:Vals vs us) (h:sp (vs++dvs) H Q E):wpAny (model X.prog X.w) X.A (call (.ref f) us) (EP X pins Y Q) X.xe s:=by
 have r2:Vals (vs++dvs) (us++ds):=r.append hd
 have hl:(us++ds).length=ps.length:=by rw [<- r2.length];exact F.len _ _ _ _ h
 refine wpAny_call (codeAny_mono (F.run X.A X.stack s H ⟨us,[]⟩ (us++ds) (vs++dvs) Q E hr I.env0 (hb s us I.kIn hl) r2 h) λ r s' hq=>?_)
 cases r with
|error e=>exact hx pins Y H s e s' I hq
|ok fl =>
  cases fl with
 |ret u=>exact I.after hq
 |next=>exact False.elim hq
 |brk=>exact False.elim hq
 |cont=>exact False.elim hq
theorem zwt (F:FnOk X.prog X.w X.K X.mg X.base CX k f fd ps sp) (hr:Room k X.A) (hg:Gl X x) (hm:X.mg x=some (.ref f)) (hk:PySem.W.keepIn X.K (.ref f)=true) (hb:Binds X.K fd ps ds) (hd:Vals dvs ds) (hx:zde CX X E)
  (ha:PA X (e :: es) t) (hdb:(x == ("__debug__":Str))=false:=by decide) (he:starEach (e :: es) X.env=(false,eval e X.env) :: starEach es X.env:=by rfl) (hpl:(backTo pos (starEach es X.env)).any (·.1)=false:=by rfl) :
  PE X (.Call (.Name x p) (e :: es) [] pos) (zhk sp dvs E t):=by
 intro pins s Y H Q I h
 refine wpAny_Call_Name_kw (zkh I hg hm ?_ hdb)
 refine PySem.W.callWith_K (h₀:=X.base) I.ok.mod.kin hk (thn (ha pos pins s Y H _ I h) λ us s1 ⟨vs,H1,I1,r,q⟩=>⟨I1.kIn,?_⟩) he hpl
 exact zno F hr hb hd hx I1 r q
theorem zny {pl:Sem Bool} (he:PE X o ta) (c:Cls X.K C) (hm:Meth X.K C m f) (F:FnOk X.prog X.w X.K X.mg X.base CX k f fd ps sp) (hr:Room k X.A) (hb:Binds X.K fd ps ds) (hd:Vals dvs ds) (hx:zde CX X E) (ha:PA X (e :: es) t)
  (hst:starEach (e :: es) X.env=(false,eval e X.env) :: starEach es X.env:=by rfl) (hpl:(backTo pos (starEach es X.env)).any (·.1)=false:=by rfl)
  (ht:eval (.Call (.Attribute o m apos) (e :: es) [] pos) X.env=(do
   let ov <- eval o X.env
   standAt apos.atName
   let (f,first) <- holding [ov] (getMethod ov m pl)
   callWith pos f first (backTo pos (starEach (e :: es) X.env)) (backToKw pos (keywordEach [] X.env))):=by rfl) :
  PE X (.Call (.Attribute o m apos) (e :: es) [] pos) (zpr C m sp dvs E ta t):=by
 intro pins s Y H Q I h
 refine PySem.W.methodCall_KW (pl:=pl) (thn (he pins s Y H _ I h) λ u s1 ⟨x,H1,I1,rx,a,dx,fs,ex,ea,l,q⟩=>?_) ht
 subst ex
 obtain rfl:u=uS a:=rx
 refine zu7 I1 ea c hm l ?_
 refine PySem.W.callWith_K (first:=[.ref a]) (h₀:=X.base) I.ok.mod.kin hm.kp (thn (ha pos pins s1 Y H1 _ I1 q) λ us s2 ⟨vs,H2,I2,r,q2⟩=>⟨I2.kIn,?_⟩) hst hpl
 exact zno (us:=.ref a :: us) (vs:=.ref a :: vs) F hr hb hd hx I2 (.cons rfl r) q2
theorem zsp {pl:Sem Bool} (he:PE X o ta) (c:Cls X.K C) (hm:Meth X.K C m f) (F:FnOk X.prog X.w X.K X.mg X.base CX k f fd ps sp) (hr:Room k X.A) (hb:Binds X.K fd ps ds) (hd:Vals dvs ds) (hx:zde CX X E)
  (ht:eval (.Call (.Attribute o m apos) [] [] pos) X.env=(do
   let ov <- eval o X.env
   standAt apos.atName
   let (f,first) <- holding [ov] (getMethod ov m pl)
   callWith pos f first (backTo pos (starEach [] X.env)) (backToKw pos (keywordEach [] X.env))):=by rfl) :
  PE X (.Call (.Attribute o m apos) [] [] pos) (zpr C m sp dvs E ta tNil):=by
 intro pins s Y H Q I h
 refine PySem.W.methodCall_KW (pl:=pl) (thn (he pins s Y H _ I h) λ u s1 ⟨x,H1,I1,rx,a,dx,fs,ex,ea,l,q⟩=>?_) ht
 subst ex
 obtain rfl:u=uS a:=rx
 refine zu7 I1 ea c hm l ?_
 exact PySem.W.callWith_K0 (first:=[.ref a]) I1.kIn hm.kp (zno (us:=[.ref a]) (vs:=[.ref a]) F hr hb hd hx I1 (.cons rfl .nil) q)
structure Mk (K:Fg) (C f:Addr):Prop where
 makes:PySem.W.makesIn K C=true
 init:PySem.W.findIn K (.ref C) "__init__"=some (some (.ref f))
 fn:PySem.W.isFn K (.ref f)=true
 kp:PySem.W.keepIn K (.ref C)=true
theorem zvp {pins:List (Addr×Obj)} {Y:St} {H:Hp} {s:Shared} {Q:VK} {us:List Value} {vs:List V} (M:Mk X.K C f) (F:FnOk X.prog X.w X.K X.mg X.base CX k f fd ps sp) (hr:Room (k+1) X.A) (hb:Binds X.K fd ps ds) (hd:Vals dvs ds)
  (hx:zde CX X E) (I:Inv X pins Y H s) (r:Vals vs us)
  (h:∀ x dx,H x=none->H dx=none->dx≠x->sp (.ref x :: (vs++dvs)) (upd (upd H dx (.own x)) x (.ins C dx [])) (λ v H2=>v=.non/\Q (.ref x) H2) E) :
  wpAny (model X.prog X.w) X.A (call (.ref C) us) (EP X pins Y Q) X.xe s:=by
 have hq:=h (s.heap.objs.size+1) s.heap.objs.size (I.hok.fresh (xJ _)) (I.hok.fresh (uG _)) (u3 (xI _))
 have I2:=Inv.made (C:=C) I
 have r2:Vals (V.ref (s.heap.objs.size+1) :: (vs++dvs)) (uS (s.heap.objs.size+1) :: (us++ds)):=.cons rfl (r.append hd)
 have hl:(uS (s.heap.objs.size+1) :: us++ds).length=ps.length:=by
  have e:=r2.length
  rw [F.len _ _ _ _ hq] at e
  exact e.symm
 refine wpAny_call (zfq (f:=f) I.kIn M.makes M.init (beq_iff_eq.mp M.fn) (codeAny_mono (F.run _ X.stack _ _ ⟨uS (s.heap.objs.size+1) :: us,[]⟩ (uS (s.heap.objs.size+1) :: (us++ds)) _ _ E (hr.make C us [])
  (I2.env0.make C us []) (hb _ (uS (s.heap.objs.size+1) :: us) I2.kIn hl) r2 hq) λ r s' hq'=>?_))
 cases r with
|error e=>exact hx pins Y _ _ e s' I2 hq'
|ok fl =>
  cases fl with
 |ret u =>
   obtain ⟨v,H',I3,rv,ev,q3⟩:=I2.after hq'
   subst ev
   exact ⟨rv,⟨V.ref (s.heap.objs.size+1),H',I3,rfl,q3⟩⟩
 |next=>exact False.elim hq'
 |brk=>exact False.elim hq'
 |cont=>exact False.elim hq'
theorem zsx (M:Mk X.K C f) (F:FnOk X.prog X.w X.K X.mg X.base CX k f fd ps sp) (hr:Room (k+1) X.A) (hg:Gl X x) (hm:X.mg x=some (.ref C)) (hb:Binds X.K fd ps ds) (hd:Vals dvs ds) (hx:zde CX X E)
  (ha:PA X (e :: es) t) (hdb:(x == ("__debug__":Str))=false:=by decide) (he:starEach (e :: es) X.env=(false,eval e X.env) :: starEach es X.env:=by rfl) (hpl:(backTo pos (starEach es X.env)).any (·.1)=false:=by rfl) :
  PE X (.Call (.Name x p) (e :: es) [] pos) (zw41 C sp dvs E t):=by
 intro pins s Y H Q I h
 refine wpAny_Call_Name_kw (zkh I hg hm ?_ hdb)
 refine PySem.W.callWith_K (h₀:=X.base) I.ok.mod.kin M.kp (thn (ha pos pins s Y H _ I h) λ us s1 ⟨vs,H1,I1,r,q⟩=>⟨I1.kIn,?_⟩) he hpl
 exact zvp M F hr hb hd hx I1 r q
end
noncomputable def PK (X:Cx) (kws:List Keyword) (t:TA):Prop :=
 ∀ (pos:Pos) (pins:List (Addr×Obj)) (s:Shared) (Y:St) (H:Hp) (Q:List V->Hp->Prop),Inv X pins Y H s->t Y H Q->wpAny (model X.prog X.w) X.A (evalAll ((backToKw pos (keywordEach kws X.env)).map (·.2))) (AP X pins Y Q) X.xe s
section
variable {X:Cx} {CX:CXT} {k:Nat} {f C:Addr} {fd:FuncData} {ps ks:List Str} {sp:Sp} {E:XK} {x m:Str} {p pos apos kpos:Pos} {e o:Expr} {es:List Expr} {kws:List Keyword} {te ta:TE} {t tk:TA} {nm:Option Str}
theorem zb31:PK X [] tNil:=λ _ _ _ _ H Q I h=>wpAny_evalAll_nil ⟨[],H,I,.nil,h⟩
theorem zpv (ha:PE X e te) (hr:PK X kws t):PK X (⟨nm,e,kpos⟩ :: kws) (zl4 te t):=by
 intro pos pins s Y H Q I h
 show wpAny _ _ (evalAll ((do let v <- eval e X.env;standAt pos;pure v) :: (backToKw pos (keywordEach kws X.env)).map (·.2))) _ _ s
 refine wpAny_evalAll_cons (wpAny_bind (thn (ha pins s Y H _ I h) λ u s1 ⟨x,H1,I1,r1,q1⟩=>wpAny_bind (wpAny_standAt (wpAny_pure ?_))))
 exact thn (hr pos pins s1 Y H1 _ I1 q1) λ us s2 ⟨xs,H2,I2,r2,q2⟩=>⟨x :: xs,H2,I2,.cons r1 r2,q2⟩
variable {g:List Value->List Value->List Value} {gV:List V->List V->List V}
end
structure FnScope (N P:List Str) (sc:Scope):Prop where
 kind:sc.kind=.function
 co:sc.isCoroutine=false
 gen:sc.isGenerator=false
 nd:N.Nodup
 pre:N.take P.length=P
 par:∀ x∈P,sc.names.lookup x=some .local \/ sc.names.lookup x=some .cell
 nofree:∀ y∈sc.names,y.2≠.free
theorem zme {kindOf:Str->Option NameKind} {x:Str}:∀ {binds:List (Str×Value)} {m:Str->Option Value},(∀ v,(x,v) ∉ binds)->bindL kindOf binds m x=m x
|[],_,_=>rfl
|(n,v) :: r,m,h=>by
  unfold bindL
  rw [zme λ w hw=>h w (u9 _ hw)]
  split
  ·have:x≠n:=by rintro rfl;exact h v vN
   simp [this]
  ·rfl
theorem zie {kindOf:Str->Option NameKind} {x:Str}:∀ {binds:List (Str×Value)} {m:Str->Option Value},(∀ v,(x,v) ∉ binds)->bindC kindOf binds m x=m x
|[],_,_=>rfl
|(n,v) :: r,m,h=>by
  unfold bindC
  rw [zie λ w hw=>h w (u9 _ hw)]
  split
  ·rfl
  ·have:x≠n:=by rintro rfl;exact h v vN
   simp [this]
theorem zqe {kindOf:Str->Option NameKind} {x:Str} {v:Value}:∀ {P:List Str} {vs:List Value} {i:Nat} {m:Str->Option Value},P.Nodup->P[i]?=some x->vs[i]?=some v->kindOf x=some .local ->
  bindL kindOf (P.zip vs) m x=some v
|[],_,_,_,_,h,_,_=>by simp at h
|_ :: _,[],_,_,_,_,h,_=>by simp at h
|p :: P,w :: vs,0,m,nd,h1,h2,hk=>by
  simp at h1 h2;subst h1;subst h2
  show bindL kindOf ((p,w) :: P.zip vs) m p=_
  unfold bindL
  rw [zme λ v hv=>(uQ.mp nd).1 (xK hv).1,if_pos hk]
  simp
|p :: P,w :: vs,i+1,m,nd,h1,h2,hk=>by
  show bindL kindOf ((p,w) :: P.zip vs) m x=_
  unfold bindL
  exact zqe (i:=i) (uQ.mp nd).2 (by simpa using h1) (by simpa using h2) hk
theorem zfe {kindOf:Str->Option NameKind} {x:Str} {v:Value}:∀ {P:List Str} {vs:List Value} {i:Nat} {m:Str->Option Value},P.Nodup->P[i]?=some x->vs[i]?=some v->kindOf x≠some .local ->
  bindC kindOf (P.zip vs) m x=some v
|[],_,_,_,_,h,_,_=>by simp at h
|_ :: _,[],_,_,_,_,h,_=>by simp at h
|p :: P,w :: vs,0,m,nd,h1,h2,hk=>by
  simp at h1 h2;subst h1;subst h2
  show bindC kindOf ((p,w) :: P.zip vs) m p=_
  unfold bindC
  rw [zie λ v hv=>(uQ.mp nd).1 (xK hv).1,if_neg hk]
  simp
|p :: P,w :: vs,i+1,m,nd,h1,h2,hk=>by
  show bindC kindOf ((p,w) :: P.zip vs) m x=_
  unfold bindC
  exact zfe (i:=i) (uQ.mp nd).2 (by simpa using h1) (by simpa using h2) hk
noncomputable def start (N:List Str) (vs:List V):St:=vs.map some++uN (N.length - vs.length) none
noncomputable def cxOf (CX:CXT) (P:Program) (w:World) (K:Fg) (mg:Str->Option Value) (base:Heap) (N:List Str) (qual:Str) (scope:Scope) (f:Addr) (cd:Value) (A:Around) (outer:List Env) (s:Shared) (H:Hp) (E:XK):Cx where
 prog:=P
 w:=w
 K:=K
 mg:=mg
 base:=base
 A:=A.deeper (envOfC qual scope s.heap.objs.size f cd)
 N:=N
 s₀:=s
 H₀:=H
 env:=envOfC qual scope s.heap.objs.size f cd
 outer:=outer
 stack:=envOfC qual scope s.heap.objs.size f cd :: outer
 ex:=[]
 calm:=true
 fn:=λ _=>true
 pn:=[]
 xe:=λ e s'=>wpAny (model P w) (A.deeper (envOfC qual scope s.heap.objs.size f cd)) (leaving (envOfC qual scope s.heap.objs.size f cd) e) (λ _ s''=>CX outer H s E e s'') (λ e' s''=>CX outer H s E e' s'') s'
theorem zng {sc:Scope} {n:Nat} {x:Str} (h:sc.names.lookup x=some .cell):∃ c,(cellsFrom n sc.names []).lookup x=some c:=by
 have q:=PySem.W.cellsFrom_some sc.names n [] (.inl h)
 exact v9.mp q
theorem zck {CX:CXT} {P:Program} {w:World} {K:Fg} {mg:Str->Option Value} {base:Heap} {N ps:List Str} {qual:Str} {scope:Scope} {f:Addr} {cd:Value} {A:Around} {outer:List Env} {s s1:Shared} {H:Hp} {E:XK} {us:List Value} {vs:List V}
  (S:FnScope N ps scope) (hd:A.handled=none) (e0:Env0 P w K mg base A outer s H) (hl:vs.length=ps.length) (r:Vals vs us)
  (x:InCallC s s.heap.objs.size (bindL (envOfC qual scope s.heap.objs.size f cd).kindOf (ps.zip us) λ _=>none) (cellsFrom (s.heap.objs.size+1) scope.names []) (bindC (envOfC qual scope s.heap.objs.size f cd).kindOf (ps.zip us) λ _=>none) s1) :
  Inv (cxOf CX P w K mg base N qual scope f cd A outer s H E) [] (start N vs) H s1:=by
 have hpl:ps.length<=N.length:=by have:=congrArg vA S.pre;rw [vZ] at this;lia
 obtain ⟨h1,tk,rfl,hk⟩:=x.done
 have noA:∀ b:Addr,b ∉ (cxOf CX P w K mg base N qual scope f cd A outer s H E).ex:=λ b z=>absurd (show b∈([]:List Addr) from z) (by simp)
 refine ⟨⟨e0.mod,S.kind,rfl,rfl,uG _,λ y z c h1 h2=>?_,λ y hy=>?_,λ y c _ h=>?_,λ _=>hd,Around.frames_deeper e0.frames,.inr ⟨rfl,rfl⟩,λ b z=>absurd z (noA b),e0.bs,e0.bsz,λ b _ _=>noA b,λ b z=>absurd z (noA b),e0.funs,e0.frf⟩,
  rfl,e0.bare,Un.kept hk,⟨_,x.toInCall.ns,λ i y v h1 h2 h3=>?_⟩,λ y c h=>⟨_,x.cell y c h⟩,e0.hok.fresh (uG _),λ y c h=>?_,λ p hp=>absurd (show p∈([]:List (Addr×Obj)) from hp) (by simp),e0.hok.kept hk,?_⟩
 ·exact name_of_addr x.apart (PySem.mem_of_lookup h1) (PySem.mem_of_lookup h2)
 ·have hy:scope.names.lookup y=some .cell \/ scope.names.lookup y=some .free:=hy
  rcases hy with hy|hy
  ·exact zng hy
  ·exact absurd rfl (S.nofree _ (PySem.mem_of_lookup hy))
 ·exact xH (x.above y c (PySem.mem_of_lookup h))
 ·have hi:i < vs.length:=by
   unfold start at h2
   by_cases hi:i < vs.length
   ·exact hi
   ·rw [u7 (by simpa using hi)] at h2
    rw [vT] at h2
    split at h2 <;> cases h2
  have ha:vs[i]?=some v:=by
   unfold start at h2
   rw [u6 (by simpa using hi),uI] at h2
   cases e:vs[i]? with
  |none=>rw [e] at h2;cases h2
  |some a=>rw [e] at h2;cases h2;rfl
  obtain ⟨u,hu,rv⟩:=r.get ha
  have hp:ps[i]?=some y:=by
   rw [<- S.pre,zI (by lia)];exact h1
  have ndP:ps.Nodup:=by rw [<- S.pre];exact S.nd.sublist (List.take_sublist _ _)
  refine ⟨u,rv,?_⟩
  rcases S.par y (vM hp) with k|k
  ·exact .inl ⟨k,zqe ndP hp hu k⟩
  ·obtain ⟨c,e⟩:=zng (n:=s.heap.objs.size+1) k
   refine .inr ⟨.inl k,c,e,?_⟩
   have q:=x.cell y c e
   rw [zfe ndP hp hu (by show scope.names.lookup y≠_;rw [k];decide)] at q
   exact q
 ·exact e0.hok.fresh (xH (x.above y c (PySem.mem_of_lookup h)))
 ·unfold start
  show _=N.length
  rw [vB,uA,wL]
  lia
theorem za71 {CX:CXT} {P:Program} {w:World} {K:Fg} {mg:Str->Option Value} {base:Heap} {k:Nat} {f:Addr} {name qual:Str} {params:Arguments} {body:List Stmt} {scope:Scope} {dV kV doc pm cdv ct oc:Value} {an od:Option Addr}
  {osl:Array (Option Value)} {N ps:List Str} {sp:Sp} (lk:K.lookup f=some ⟨oc,od,.func (PySem.W.fnOf name qual params body scope dV kV doc pm an cdv ct),osl⟩) (hcd:PySem.W.codeIn K cdv qual=true) (S:FnScope N ps scope)
  (len:∀ vs H Q E,sp vs H Q E->vs.length=ps.length)
  (hbody:∀ (A:Around) (outer:List Env) (s:Shared) (H:Hp) (vs:List V) (Q:VK) (E:XK),Room k (A.deeper (envOfC qual scope s.heap.objs.size f cdv))->sp vs H Q E ->
   ∃ t,PSs (cxOf CX P w K mg base N qual scope f cdv A outer s H E) body t/\t { nx:=λ _ H'=>Q .non H',rt:=Q } (start N vs) H) :
  FnOk P w K mg base CX (k+1) f (PySem.W.fnOf name qual params body scope dV kV doc pm an cdv ct) ps sp:=by
 refine ⟨len,λ A outer s H args us vs Q E hr e0 hb r hsp=>?_⟩
 have hl:=len _ _ _ _ hsp
 have KX:K.In s.heap:=e0.mod.kin.keeps λ b o e=>(e0.bs b o e).1
 have lim:s.heap.NoLimit:=e0.mod.nolimit.keeps λ b o e=>(e0.bs b o e).1
 have hkind:∀ y∈ps.zip us,scope.names.lookup y.1=some .local \/ (scope.names.lookup y.1=some .cell/\((cellsFrom (s.heap.objs.size+1) scope.names []).lookup y.1).isSome=true):=λ ⟨n,v⟩ hy=>by
  rcases S.par n (xK hy).1 with q|q
  ·exact .inl q
  ·exact .inr ⟨q,PySem.W.cellsFrom_some _ _ _ (.inl q)⟩
 refine codeAny_call_function hr.depth (KX _ _ lk) rfl S.co S.gen rfl (PySem.W.codeRec_of KX hcd) (hb _ _ _ _ ?_)
 refine wpAny_newFunctionEnv_cells S.kind hkind λ env he s1 x=>?_
 subst he
 refine ⟨lim.keeps x.toInCall.keep,codeAny_func ?_⟩
 obtain ⟨t,ht,hq⟩:=hbody A outer s H vs Q E (hr.deeper _) hsp
 have I:Inv (cxOf CX P w K mg base N qual scope f cdv A outer s H E) [] (start N vs) H s1:=zck S hr.hd e0 hl r x
 refine wpAny_mono (ht [] s1 (start N vs) H _ I hq) (λ fl s' hs=>?_) λ e s' hs=>hs
 have fin:∀ {Y':St} {H':Hp} {v:V} {u:Value},Inv (cxOf CX P w K mg base N qual scope f cdv A outer s H E) [] Y' H' s'->RelV v u->Q v H'->CE outer P w H s Q u s' :=
  λ {Y' H' v u} J rv q=>⟨v,H',J.os,J.bare,J.base,J.hok,rv,q⟩
 cases fl with
|ret u =>
  obtain ⟨v,Y',H',J,rv,q⟩:=hs
  exact fin J rv q
|next =>
  obtain ⟨Y',H',J,q⟩:=hs
  exact fin (v:=V.non) (u:=wB) J rfl q
|brk =>
  obtain ⟨_,_,_,q⟩:=hs
  exact False.elim q
|cont =>
  obtain ⟨_,_,_,q⟩:=hs
  exact False.elim q
section
variable {X:Cx} {x:Str} {p pos:Pos} {e:Expr} {es:List Expr} {t:TA} {id T:String} {r:List V->Hp->VK->Prop}
noncomputable def tCB (r:List V->Hp->VK->Prop) (t:TA):TE:=λ Y H Q=>t Y H λ vs H1=>r vs H1 Q
theorem zu0 (hc:CallR X (.builtin id) r) (hg:Gl X x) (hm:X.mg x=none) (hv:bootBuiltins x=some (.builtin id)) (ha:PA X (e :: es) t) (hn:x ≠ "__name__":=by decide) (hdb:(x == ("__debug__":Str))=false:=by decide)
  (he:starEach (e :: es) X.env=(false,eval e X.env) :: starEach es X.env:=by rfl) (hpl:(backTo pos (starEach es X.env)).any (·.1)=false:=by rfl):PE X (.Call (.Name x p) (e :: es) [] pos) (tCB r t):=by
 intro pins s Y H Q I h
 refine wpAny_Call_Name_kw (zia I hg hm hv ?_ hn hdb)
 exact PyProof.Rows.callWith_builtin1 (thn (ha pos pins s Y H _ I h) λ us s1 ⟨vs,H1,I1,r1,q1⟩=>hc pins s1 Y H1 vs us Q I1 r1 q1) he hpl
theorem zr2 (hc:CallR X (.type T) r) (hg:Gl X x) (hm:X.mg x=none) (hv:bootBuiltins x=some (.type T)) (ha:PA X (e :: es) t) (hn:x ≠ "__name__":=by decide) (hdb:(x == ("__debug__":Str))=false:=by decide)
  (he:starEach (e :: es) X.env=(false,eval e X.env) :: starEach es X.env:=by rfl) (hpl:(backTo pos (starEach es X.env)).any (·.1)=false:=by rfl):PE X (.Call (.Name x p) (e :: es) [] pos) (tCB r t):=by
 intro pins s Y H Q I h
 refine wpAny_Call_Name_kw (zia I hg hm hv ?_ hn hdb)
 exact PyProof.Rows.callWith_type1 (thn (ha pos pins s Y H _ I h) λ us s1 ⟨vs,H1,I1,r1,q1⟩=>hc pins s1 Y H1 vs us Q I1 r1 q1) he hpl
end
end _2
namespace HT
open PySem PyProof.Rows
section
variable {prog:Program} {w:World} {A:Around} {E:Value->Shared->Prop} {s:Shared}
theorem cat_tup {t b:Addr} {vs ws:List Value} {Q:Value->Shared->Prop} (ht:IsTup s.heap t vs.toArray) (hb:IsTup s.heap b ws.toArray) (hv:vs≠[])
  (h1:ws=[]->Q (.ref t) s) (h2:ws≠[]->Q (.ref s.heap.objs.size) { s with heap:=s.heap.push { cls:=.type "tuple",data:=.seq (vs++ws).toArray } })
  (hsz:vs.length+ws.length<=sizeLine):wpAny (model prog w) A (binaryOp .Add (.ref t) (.ref b)) Q E s:=by
 obtain ⟨⟨cls,dd,data,sl⟩,ho,hc,n,hd⟩:=id ht
 obtain ⟨⟨cls2,dd2,data2,sl2⟩,ho2,hc2,n2,hd2⟩:=id hb
 simp only at hc hd hc2 hd2
 subst hc hd hc2 hd2
 have e:vs.toArray++ws.toArray=(vs++ws).toArray:=by simp
 by_cases hw:ws=[]
 ·exact concat_meets ⟨_,ho,rfl⟩ ⟨_,ho2,rfl⟩ noFill_tuple_add seq_tuple_add PySem.F.slot_tuple_add PySem.F.entry_tuple_add (PySem.F.args_tuple_add_2 _ _)
   (tuple_addW1 t b vs.toArray ws.toArray n n2 dd dd2 sl sl2 (by simpa using hv) (by simp [hw])) ⟨ho,ho2,h1 hw⟩
 ·refine concat_meets ⟨_,ho,rfl⟩ ⟨_,ho2,rfl⟩ noFill_tuple_add seq_tuple_add PySem.F.slot_tuple_add PySem.F.entry_tuple_add (PySem.F.args_tuple_add_2 _ _)
   (tuple_addW2 t b vs.toArray ws.toArray n n2 dd dd2 sl sl2 (by simpa using hv) (by simpa using hw) (by rw [uV,uV];exact hsz)) ⟨ho,ho2,?_⟩
  rw [e]
  exact h2 hw
noncomputable def sIx (n d:Nat):Option Int->Nat
|none=>d
|some v=>if v < 0 then (v+(n:Int)).toNat else min v.toNat n
theorem sIx_nat (n d k:Nat):sIx n d (some (k:Int))=min k n:=by
 show (if (k:Int) < 0 then ((k:Int)+(n:Int)).toNat else min (k:Int).toNat n)=min k n
 rw [if_neg (by lia),uY]
theorem zx11 (n d:Nat) (hd:d<=n) (o:Option Int):sIx n d o<=n:=by
 cases o with
|none=>exact hd
|some v =>
  show (if v < 0 then (v+(n:Int)).toNat else min v.toNat n)<=n
  by_cases hv:v < 0
  ·rw [if_pos hv];lia
  ·rw [if_neg hv];exact Nat.min_le_right _ _
theorem zhm (v:Int) (n d:Nat):(if v < 0 then max (v+(n:Int)) 0 else min v (n:Int))=((sIx n d (some v):Nat):Int):=by
 show (if v < 0 then max (v+(n:Int)) 0 else min v (n:Int))=(((if v < 0 then (v+(n:Int)).toNat else min v.toNat n):Nat):Int)
 by_cases hv:v < 0
 ·simp only [if_pos hv];lia
 ·simp only [if_neg hv];lia
theorem zah (lo hi:Option Int) (n:Nat):Builtin.Slice.sliceAdjust lo hi 1 (n:Int)=(((sIx n 0 lo:Nat):Int),((sIx n n hi:Nat):Int)):=by
 have h1:¬ ((1:Int) < 0):=by lia
 unfold Builtin.Slice.sliceAdjust
 simp only [h1,if_false]
 refine Prod.ext ?_ ?_
 ·cases lo with
 |none=>rfl
 |some v=>exact zhm v n 0
 ·cases hi with
 |none=>rfl
 |some v=>exact zhm v n n
theorem zth (i j:Nat):Builtin.Slice.slicePlaces (i:Int) (j:Int) 1=j - i:=by
 unfold Builtin.Slice.slicePlaces
 have h1:(1:Int) > 0:=by lia
 simp only [h1,if_true,Int.ediv_one]
 split <;> lia
theorem znb {v:Value} {o:Option Int} {Q:Option Int->Shared->Prop} (p:IsPart v o) (h:Q o s):wpAny (model prog w) A (Builtin.Slice.slicePartIndex v) Q E s:=by
 cases p with
|none=>exact slicePart_none h
|int i t=>exact slicePart_int h
theorem zq7 {sl:Addr} {vl vu:Value} {lo hi:Option Int} {n:Nat} {Q:Int×Int×Nat->Shared->Prop} (hs:s.heap.IsSliceOf sl vl vu .none) (pl:IsPart vl lo) (pu:IsPart vu hi)
  (h:Q (((sIx n 0 lo:Nat):Int),1,sIx n n hi - sIx n 0 lo) s):wpAny (model prog w) A (Builtin.Slice.sliceApplied (.ref sl) (pure (n:Int))) Q E s:=by
 obtain ⟨os,hos,hcs,hds⟩:=id hs
 unfold Builtin.Slice.sliceApplied Builtin.Slice.sliceFields
 refine wpAny_bind (wpAny_bind (wpAny_field hos hds (x:=vl) rfl (wpAny_bind (wpAny_field hos hds (x:=vu) rfl (wpAny_bind (wpAny_field hos hds (x:=.none) rfl (wpAny_pure ?_)))))))
 refine wpAny_bind (slicePart_none ?_)
 show wpAny _ _ (if ((1:Int) == 0)=true then _ else _) _ _ s
 rw [if_neg (by decide)]
 refine wpAny_bind (znb pl (wpAny_bind (znb pu (wpAny_bind (wpAny_pure ?_)))))
 show wpAny _ _ (match Builtin.Slice.sliceAdjust lo hi 1 (n:Int) with|(lo,hi)=>pure (lo,(1:Int),Builtin.Slice.slicePlaces lo hi 1)) _ _ s
 rw [zah lo hi n]
 show wpAny _ _ (pure (((sIx n 0 lo:Nat):Int),(1:Int),Builtin.Slice.slicePlaces ((sIx n 0 lo:Nat):Int) ((sIx n n hi:Nat):Int) 1)) _ _ s
 rw [zth]
 exact wpAny_pure h
theorem zjp (xs:Array Value) (i k:Nat):((uM k).filterMap λ (m:Nat)=>xs[((i:Int)+(m:Int) * 1).toNat]?).toArray=((xs.toList.drop i).take k).toArray:=by
 have e:(λ (m:Nat)=>xs[((i:Int)+(m:Int) * 1).toNat]?)=λ m=>xs[i+m]?:=by
  funext m
  have:((i:Int)+(m:Int) * 1).toNat=i+m:=by lia
  rw [this]
 rw [e]
 have:=pick_run xs i k
 rw [yU] at this
 have e2:((λ x=>xs[x]?) ∘ λ x=>i+x)=λ m=>xs[i+m]?:=rfl
 rw [e2] at this
 rw [this]
theorem getItem_tuple_cut {t sl:Addr} {items:Array Value} {vl vu:Value} {lo hi:Option Int} {Q:Value->Shared->Prop} (ht:IsTup s.heap t items) (hs:s.heap.IsSliceOf sl vl vu .none) (pl:IsPart vl lo) (pu:IsPart vu hi)
  (hw:¬ (sIx items.size 0 lo=0/\sIx items.size items.size hi=items.size))
  (h:Q (.ref s.heap.objs.size) { s with heap:=s.heap.push { cls:=.type "tuple",data:=.seq ((items.toList.drop (sIx items.size 0 lo)).take (sIx items.size items.size hi - sIx items.size 0 lo)).toArray } })
  (hsz:items.size<=sizeLine):wpAny (model prog w) A (getItem (.ref t) (.ref sl)) Q E s:=by
 have htake:sizeOk (.seq ((items.toList.drop (sIx items.size 0 lo)).take (sIx items.size items.size hi - sIx items.size 0 lo)).toArray):=by
  show ((items.toList.drop (sIx items.size 0 lo)).take (sIx items.size items.size hi - sIx items.size 0 lo)).toArray.size<=sizeLine
  rw [uV,vZ,List.length_drop,v8]
  lia
 have hj:sIx items.size items.size hi<=items.size:=zx11 _ _ (uG _) hi
 obtain ⟨os,hos,hcs,hds⟩:=id hs
 have hTs:s.TypeIs (.ref sl) "slice":=⟨os,hos,hcs⟩
 unfold getItem
 try with_reducible refine wpAny_holding ?_
 first|refine wpAny_bind (wpAny_pure ?_)|skip
 refine wpAny_bind (wpAny_sequenceKey ht.typeIs (by decide) ?_)
 refine wpAny_bind (wpAny_callSpecial?_slot (name:=uE "__getitem__") ht.typeIs PyProof.Rows.slot_tuple_getitem
  (wpAny_call_entry PyProof.Rows.slot_tuple_getitem ht.typeIs entry_tuple_getitem ?_ (args_tuple_getitem _ _)))
 show wpAny _ _ (Builtin.Tuple.tupleItemsOf (.ref t) >>= _) _ _ s
 refine wpAny_bind (tupleItemsOf_ ht ?_)
 refine wpAny_bind (wpAny_typeOf hTs ?_)
 rw [if_pos (by decide)]
 refine wpAny_bind (zq7 hs pl pu ?_)
 have hno:¬ ((((sIx items.size 0 lo:Nat):Int) == 0 && (1:Int) == 1 && (sIx items.size items.size hi - sIx items.size 0 lo) == items.size)=true):=by
  intro q
  rw [wQ,wQ] at q
  have q1:((sIx items.size 0 lo:Nat):Int)=0:=eq_of_beq q.1.1
  have q2:sIx items.size items.size hi - sIx items.size 0 lo=items.size:=eq_of_beq q.2
  exact hw ⟨by lia,by lia⟩
 show wpAny _ _ (if (((sIx items.size 0 lo:Nat):Int) == 0 && (1:Int) == 1 && (sIx items.size items.size hi - sIx items.size 0 lo) == items.size)=true then _ else _) _ _ s
 rw [if_neg hno,zjp]
 first
 |exact wpAny_bind (m:=Builtin.Tuple.tupleExact _) (wpAny_newObj_type (wpAny_pure ⟨_,rfl,wpAny_pure h⟩) htake)
 |exact wpAny_bind (m:=Builtin.Tuple.tupleExact _) (wpAny_newObj_type (wpAny_bind (wpAny_pure (wpAny_pure ⟨_,rfl,wpAny_pure h⟩))) htake)
 |exact wpAny_bind (wpAny_bind (m:=Builtin.Tuple.tupleExact _) (wpAny_newObj_type (wpAny_pure (wpAny_pure ⟨_,rfl,wpAny_pure h⟩)) htake))
 |exact wpAny_bind (wpAny_bind (m:=Builtin.Tuple.tupleExact _) (wpAny_newObj_type (wpAny_pure ⟨_,rfl,wpAny_pure h⟩) htake))
end
end HT
namespace _2
open PySem PySem.Spec PyProof.Rows
noncomputable abbrev TO:=St->Hp->(Option Int->Hp->Prop)->Prop
noncomputable def PO (X:Cx) (e:Option Expr) (t:TO):Prop :=
 ∀ (pins:List (Addr×Obj)) (s:Shared) (Y:St) (H:Hp) (Q:Option Int->Hp->Prop),Inv X pins Y H s->t Y H Q ->
  wpAny (model X.prog X.w) X.A (evalPart e X.env) (λ u s'=>∃ o H',Inv X pins Y H' s'/\IsPart u o/\Q o H') X.xe s
noncomputable def zfm:TO:=λ _ H Q=>Q none H
noncomputable def zb91 (t:TE):TO:=λ Y H Q=>t Y H λ x H1=>∃ i,x=.int i/\Q (some i) H1
theorem zp5 {ns:List Int}:∀ {us:List Value},Vals (ns.map V.int) us->IntsAre us ns:=by
 induction ns with
|nil=>intro us r;rw [wZ] at r;cases r;exact .nil
|cons n ns ih =>
  intro us r
  rw [uK] at r
  cases r with
 |cons r1 r2 =>
   obtain ⟨t,e⟩:=r1
   subst e
   exact .cons n t (ih r2)
section
variable {X:Cx} {e:Expr} {te:TE} {lo hi:Option Expr} {tl th:TO} {pos p2:Pos}
theorem zdy:PO X none zfm:=by
 intro pins s Y H Q I h
 rw [evalPart_none]
 exact wpAny_pure ⟨none,H,I,.none,h⟩
theorem zos (h:PE X e te):PO X (some e) (zb91 te):=by
 intro pins s Y H Q I hw
 rw [evalPart_some]
 refine thn (h pins s Y H _ I hw) λ u s1 ⟨x,H1,I1,r1,q1⟩=>?_
 obtain ⟨i,rfl,q⟩:=q1
 obtain ⟨t,rfl⟩:=r1
 exact ⟨some i,H1,I1,.int i t,q⟩
noncomputable def SlR (X:Cx) (r:V->Option Int->Option Int->Hp->VK->Prop):Prop :=
 ∀ (pins:List (Addr×Obj)) (s:Shared) (Y:St) (H:Hp) (x:V) (v vl vu:Value) (lo hi:Option Int) (sl:Addr) (Q:VK),Inv X pins Y H s->RelV x v->s.heap.IsSliceOf sl vl vu .none->IsPart vl lo->IsPart vu hi->r x lo hi H Q ->
  ∃ T id,typeLookup (.type T) "__getitem__"=pure (some (.builtin id))/\s.TypeIs v T/\wpAny (model X.prog X.w) X.A (getItem v (.ref sl)) (EP X pins Y Q) X.xe s
theorem SlR.or {r r':V->Option Int->Option Int->Hp->VK->Prop} (h:SlR X r) (h':SlR X r'):SlR X (λ x lo hi H Q=>r x lo hi H Q \/ r' x lo hi H Q):=by
 intro pins s Y H x v vl vu lo hi sl Q I rx hs pl pu q
 rcases q with q|q
 ·exact h pins s Y H x v vl vu lo hi sl Q I rx hs pl pu q
 ·exact h' pins s Y H x v vl vu lo hi sl Q I rx hs pl pu q
noncomputable def tSl (r:V->Option Int->Option Int->Hp->VK->Prop) (te:TE) (tl th:TO):TE:=λ Y H Q=>te Y H λ x H1=>tl Y H1 λ l H2=>th Y H2 λ u H3=>r x l u H3 Q
theorem zvq {r:V->Option Int->Option Int->Hp->VK->Prop} (hr:SlR X r) (he:PE X e te) (hl:PO X lo tl) (hu:PO X hi th):PE X (.Subscript e (.Slice lo hi none p2) pos) (tSl r te tl th):=by
 intro pins s Y H Q I h
 refine Subscript_ (thn (he pins s Y H _ I h) λ v s1 ⟨x,H1,I1,r1,q1⟩=>?_)
 refine wpAny_Slice (thn (hl pins s1 Y H1 _ I1 q1) λ vl s2 ⟨l,H2,I2,pl,q2⟩=>thn (hu pins s2 Y H2 _ I2 q2) λ vu s3 ⟨u,H3,I3,pu,q3⟩=>?_)
 rw [evalPart_none]
 refine wpAny_pure ?_
 have I4:Inv X pins Y H3 { s3 with heap:=s3.heap.push { cls:=.type "slice",data:=.fields #[vl,vu,.none] } }:=I3.kept (t':=s3.toks) λ b ob q=>uH _ q
 obtain ⟨T,id,hT,ht,hg⟩:=hr pins { s3 with heap:=s3.heap.push { cls:=.type "slice",data:=.fields #[vl,vu,.none] } } Y H3 x v vl vu l u s3.heap.objs.size Q I4 r1 (Heap.IsSliceOf.new ..) pl pu q3
 show wpAny (model X.prog X.w) X.A (subscriptTail e (.Slice lo hi none p2) v (.ref s3.heap.objs.size)) (EP X pins Y Q) X.xe { s3 with heap:=s3.heap.push { cls:=.type "slice",data:=.fields #[vl,vu,.none] } }
 exact tail_any (ops:=[.ref s3.heap.objs.size,v]) ht hT hg (by with_unfolding_all rfl)
noncomputable def cutV (xs:List V) (lo hi:Option Int):List V:=(xs.drop (HT.sIx xs.length 0 lo)).take (HT.sIx xs.length xs.length hi - HT.sIx xs.length 0 lo)
theorem zi9 (xs:List V) (lo hi:Option Int):(cutV xs lo hi).length<=xs.length:=by
 unfold cutV
 rw [vZ,List.length_drop]
 lia
noncomputable def rSlT (K:Fg):V->Option Int->Option Int->Hp->VK->Prop:=λ x lo hi H Q=>∃ a xs,x=.ref a/\SqT K H a xs /\
 ¬ (HT.sIx xs.length 0 lo=0/\HT.sIx xs.length xs.length hi=xs.length)/\∀ p,H p=none->Q (.ref p) (upd H p (.tup (cutV xs lo hi)))
theorem zv41:SlR X (rSlT X.K):=by
 intro pins s Y H x v vl vu lo hi sl Q I rx hs pl pu h
 obtain ⟨a,xs,rfl,hx,hw,q⟩:=h
 cases rx
 obtain ⟨its,r,ht,hz⟩:=I.tuple hx
 have hlen:its.toArray.size=xs.length:=by rw [uV];exact r.length.symm
 refine ⟨"tuple",_,PyProof.Rows.slot_tuple_getitem.lookup,ht.typeIs,?_⟩
 refine HT.getItem_tuple_cut ht hs pl pu (by rw [hlen];exact hw) ?_ (by rw [hlen];exact hz)
 rw [hlen]
 refine ⟨.ref s.heap.objs.size,_,I.laid (t':=s.toks) (o:=.tup (cutV xs lo hi)) (λ b ob q=>uH _ q) (uG _) ?_,rfl,q _ (I.hok.fresh (uG _))⟩
 exact ⟨vQ (zi9 xs lo hi) hz,_,(r.drop (HT.sIx xs.length 0 lo)).take (HT.sIx xs.length xs.length hi - HT.sIx xs.length 0 lo),IsTup.new _ _⟩
noncomputable def zs71 (K:Fg):R2:=λ x y H Q=>∃ a b xs ys,x=.ref a/\y=.ref b/\SqT K H a xs/\SqT K H b ys/\xs≠[]/\xs.length+ys.length<=sizeLine /\
 (ys=[]->Q (.ref a) H)/\(ys≠[]->∀ p,H p=none->Q (.ref p) (upd H p (.tup (xs++ys))))
theorem Vals.nil_iff {xs:List V} {us:List Value} (r:Vals xs us):us=[] ↔ xs=[]:=by
 cases r with
|nil=>simp
|cons _ _=>simp
theorem zzs:OpR X (binaryOp .Add) (zs71 X.K):=by
 intro pins s Y H x y v u Q I rx ry h
 obtain ⟨a,b,xs,ys,rfl,rfl,ha,hb,hx,hz,q1,q2⟩:=h
 cases rx
 cases ry
 obtain ⟨its,r1,p1,_⟩:=I.tuple ha
 obtain ⟨its2,r2,p2,_⟩:=I.tuple hb
 refine HT.cat_tup p1 p2 (λ z=>hx (r1.nil_iff.mp z)) (λ z=>⟨.ref a,H,I,rfl,q1 (r2.nil_iff.mp z)⟩) (λ z=>?_) (by rw [<- r1.length,<- r2.length];exact hz)
 refine ⟨.ref s.heap.objs.size,_,I.laid (t':=s.toks) (o:=.tup (xs++ys)) (λ b ob q=>uH _ q) (uG _) ?_,rfl,q2 (λ w=>z (r2.nil_iff.mpr w)) _ (I.hok.fresh (uG _))⟩
 exact ⟨by rw [vB];exact hz,_,r1.append r2,IsTup.new _ _⟩
end
noncomputable def ixN (n:Nat) (i:Int):Option Nat:=if 0<=i then (if i < n then some i.toNat else none) else if -(n:Int)<=i then some (i+n).toNat else none
noncomputable def atI {α:Type} (xs:List α) (i:Int):Option α:=(ixN xs.length i).bind λ j=>xs[j]?
theorem zem {n:Nat} {i:Int} {j:Nat} (h:ixN n i=some j):seqIndex? i n=some j/\j < n/\-(n:Int)<=i/\i < n:=by
 unfold ixN at h
 by_cases h0:0<=i
 ·rw [if_pos h0] at h
  by_cases h1:i < n
  ·rw [if_pos h1] at h
   have e:i.toNat=j:=u8.inj h
   exact ⟨by rw [seqIndex_of h0 h1,e],by lia,by lia,h1⟩
  ·rw [if_neg h1] at h;cases h
 ·rw [if_neg h0] at h
  by_cases h1:-(n:Int)<=i
  ·rw [if_pos h1] at h
   have e:(i+n).toNat=j:=u8.inj h
   exact ⟨by rw [seqIndex_neg (by lia) h1,e],by lia,h1,by lia⟩
  ·rw [if_neg h1] at h;cases h
theorem zdi {α:Type} {xs:List α} {i:Int} {v:α} (h:atI xs i=some v):∃ j,seqIndex? i xs.length=some j/\xs[j]?=some v/\j < xs.length/\-(xs.length:Int)<=i/\i < xs.length:=by
 unfold atI at h
 cases e:ixN xs.length i with
|none=>rw [e] at h;cases h
|some j =>
  rw [e] at h
  obtain ⟨h1,h2,h3,h4⟩:=zem e
  exact ⟨j,h1,h,h2,h3,h4⟩
theorem zr7 {α:Type} {xs:List α} {j:Nat} {v:α} (h:xs[j]?=some v):atI xs (j:Int)=some v:=by
 have hj:j < xs.length:=(uZ.mp h).1
 have e:ixN xs.length (j:Int)=some j:=by
  unfold ixN
  rw [if_pos (by lia),if_pos (by lia)];simp
 unfold atI;rw [e];exact h
noncomputable def zrm (b:Expr):Prop:=∀ o i,subscripted b false o i=operate [o,i] (getItem o i)
noncomputable def IxR (X:Cx) (r:R2):Prop :=
 ∀ (value slice:Expr) (pins:List (Addr×Obj)) (s:Shared) (Y:St) (H:Hp) (x y:V) (v u:Value) (Q:VK),Inv X pins Y H s->RelV x v->RelV y u->r x y H Q ->
  subscripted slice false v u=operate [v,u] (getItem v u)->wpAny (model X.prog X.w) X.A (subscriptTail value slice v u) (EP X pins Y Q) X.xe s
noncomputable def MtR (X:Cx) (id:String) (r:V->List V->Hp->VK->Prop):Prop :=
 ∀ (pins:List (Addr×Obj)) (s:Shared) (Y:St) (H:Hp) (x:V) (xs:List V) (v:Value) (us:List Value) (Q:VK),Inv X pins Y H s->RelV x v->Vals xs us->r x xs H Q ->
  wpAny (model X.prog X.w) X.A (call (.builtin id) (v :: us)) (EP X pins Y Q) X.xe s
section
variable {X:Cx} {a b:Expr} {ta tb:TE} {pos:Pos}
theorem IxR.or {r r':R2} (h:IxR X r) (h':IxR X r'):IxR X (λ x y H Q=>r x y H Q \/ r' x y H Q):=by
 intro value slice pins s Y H x y v u Q I rx ry q hs
 rcases q with q|q
 ·exact h value slice pins s Y H x y v u Q I rx ry q hs
 ·exact h' value slice pins s Y H x y v u Q I rx ry q hs
theorem zy91 {r:R2} (hr:IxR X r) (ha:PE X a ta) (hb:PE X b tb) (hs:zrm b):PE X (.Subscript a b pos) (tOp r ta tb):=by
 intro pins s Y H Q I h
 exact Subscript_ (binT ha hb I h λ v u s2 x y H2 I2 rx ry q=>hr a b pins s2 Y H2 x y v u Q I2 rx ry q (hs _ _))
noncomputable def rIxL (K:Fg):R2:=λ x y H Q=>∃ p xs i v,x=.ref p/\y=.int i/\SqL K H p xs/\atI xs i=some v/\Q v H
noncomputable def rIxT (K:Fg):R2:=λ x y H Q=>∃ p xs i v,x=.ref p/\y=.int i/\SqT K H p xs/\atI xs i=some v/\Q v H
noncomputable def rIxS:R2:=λ x y H Q=>∃ z i c,x=.str z/\y=.int i/\z.length<=sizeLine/\atI z.cps.toList i=some c/\Q (.str ⟨#[c]⟩) H
theorem zru:IxR X (rIxL X.K):=by
 intro value slice pins s Y H x y v u Q I rx ry h hs
 obtain ⟨p,xs,i,z,rfl,rfl,hq,he,q⟩:=h
 cases rx
 obtain ⟨t,rfl⟩:=ry
 obtain ⟨its,r,pl,hz⟩:=I.list hq
 obtain ⟨j,h1,h2,h3,h4,h5⟩:=zdi he
 obtain ⟨w,ew,rw'⟩:=r.get h2
 have hl:=r.length
 have hn:=zjd
 have fin:EP X pins Y Q w s:=⟨z,H,I,rw',q⟩
 by_cases h0:0<=i
 ·have hj:i.toNat=j:=by
   rw [seqIndex_of h0 h5] at h1
   exact u8.inj h1
  exact item_listR pl.isList h0 (by lia) (by rw [hj];simpa using ew) fin hs
 ·have hj:(i+(its.toArray.size:Int)).toNat=j:=by
   rw [seqIndex_neg (by lia) h4] at h1
   rw [uV,<- hl]
   exact u8.inj h1
  exact subscriptTail_builtinR (x:=w) pl.isList.typeIs slot_list_getitem.lookup
   (wpAny_getItem_list_neg (Q:=λ r s'=>r=w/\EP X pins Y Q r s') pl.isList (by lia) (by rw [uV] <;> lia) (by lia) (by rw [hj];simpa using ew) ⟨rfl,fin⟩) hs
theorem zs11:IxR X (rIxT X.K):=by
 intro value slice pins s Y H x y v u Q I rx ry h hs
 obtain ⟨p,xs,i,z,rfl,rfl,hq,he,q⟩:=h
 cases rx
 obtain ⟨t,rfl⟩:=ry
 obtain ⟨its,r,pl,hz⟩:=I.tuple hq
 obtain ⟨j,h1,h2,h3,h4,h5⟩:=zdi he
 obtain ⟨w,ew,rw'⟩:=r.get h2
 have hl:=r.length
 have hn:=zjd
 have fin:EP X pins Y Q w s:=⟨z,H,I,rw',q⟩
 exact subscriptTail_builtinR (x:=w) pl.typeIs slot_tuple_getitem.lookup
  (getItem_tuple (j:=j) (Q:=λ r s'=>r=w/\EP X pins Y Q r s') pl (by lia) (by lia) (by rw [uV,<- hl];exact h1) (by simpa using ew) ⟨rfl,fin⟩) hs
theorem zx31:IxR X rIxS:=by
 intro value slice pins s Y H x y v u Q I rx ry h hs
 obtain ⟨z,i,c,rfl,rfl,hz,he,q⟩:=h
 obtain ⟨t,rfl⟩:=rx
 obtain ⟨t',rfl⟩:=ry
 obtain ⟨j,h1,h2,h3,h4,h5⟩:=zdi he
 have hl:z.cps.toList.length=z.length:=by simp [Str.length]
 rw [hl] at h1 h4 h5
 have hn:=zjd
 exact tail_any (typeIs_str s z t) slot_str_getitem.lookup (getItem_str (c:=c) (by
  have e1:decide (i < -(2 ^ 63:Int))=false:=decide_eq_false (by lia)
  have e2:decide (i ≥ 2 ^ 63)=false:=decide_eq_false (by lia)
  rw [e1,e2,Bool.or_false]) (by rw [h1];simpa using h2) ⟨.str ⟨#[c]⟩,H,I.tok _,⟨_,rfl⟩,q⟩) hs
noncomputable def rIx (K:Fg):R2:=λ x y H Q=>rIxL K x y H Q \/ rIxT K x y H Q \/ rIxS x y H Q
theorem zm21:IxR X (rIx X.K):=zru.or (zs11.or zx31)
theorem zwi (its:List Value) (n j:Nat) (u:Value):Obj.mapSeq (·.setIfInBounds j u) { cls:=.type "list",data:=.seq its.toArray n }={ cls:=.type "list",data:=.seq (its.set j u).toArray n }:=by
 simp [Obj.mapSeq]
theorem Inv.lst {pins:List (Addr×Obj)} {Y:St} {H:Hp} {s:Shared} {p:Addr} {xs:List V} (I:Inv X pins Y H s) (h:H p=some (.lst xs)) :
  ∃ (its:List Value) (n:Nat),Vals xs its/\s.heap.get? p=some { cls:=.type "list",data:=.seq its.toArray n }/\xs.length<=sizeLine:=by
 obtain ⟨z,its,n,r,e⟩:=I.hok p _ h
 exact ⟨its,n,r,e,z⟩
theorem Inv.lstUpd {pins:List (Addr×Obj)} {Y:St} {H:Hp} {s:Shared} {p:Addr} {xs ys:List V} {its its':List Value} {n n':Nat} {f:Obj->Obj} (I:Inv X pins Y H s) (h:H p=some (.lst xs))
  (ho:s.heap.get? p=some { cls:=.type "list",data:=.seq its.toArray n }) (hf:f { cls:=.type "list",data:=.seq its.toArray n }={ cls:=.type "list",data:=.seq its'.toArray n' }) (r:Vals ys its') (hz:ys.length<=sizeLine) (t:Nat) :
  Inv X pins Y (upd H p (.lst ys)) { s with heap:=s.heap.update p f,toks:=t }:=by
 have e:(s.heap.update p f).get? p=some { cls:=.type "list",data:=.seq its'.toArray n' }:=by
  rw [xL f ho (by rw [hf] <;> rfl),hf]
 refine I.write (x:=p) (e:=p) (by rw [h];trivial) (.inl rfl) (λ b u hb q=>(wR _ _ (Ne.symm hb)).trans q) ⟨_,e⟩ ?_
 exact ⟨hz,its',n',r,e⟩
noncomputable def zq61:V->V->V->Hp->(Hp->Prop)->Prop:=λ o i v H Q=>∃ p xs k j,o=.ref p/\i=.int k/\H p=some (.lst xs)/\ixN xs.length k=some j/\Q (upd H p (.lst (xs.set j v)))
theorem ztp:PSet X zq61:=by
 intro pins s Y H o i v ov iv u Q I ro ri rv h
 obtain ⟨p,xs,k,j,rfl,rfl,hp,hj,q⟩:=h
 cases ro
 obtain ⟨t,rfl⟩:=ri
 obtain ⟨its,n,r,ho,hz⟩:=I.lst hp
 obtain ⟨h1,h2,h3,h4⟩:=zem hj
 have hl:=r.length
 have hn:=zjd
 have I':Inv X pins Y (upd H p (.lst (xs.set j v))) { s with heap:=s.heap.update p (Obj.mapSeq (·.setIfInBounds j u)) } :=
  I.lstUpd hp ho (zwi its n j u) (r.set rv j) (by rw [uU];exact hz) s.toks
 by_cases h0:0<=k
 ·have hk:k.toNat=j:=by
   rw [seqIndex_of h0 h4] at h1
   exact u8.inj h1
  exact PySem.W.ki_setAt ho h0 (by lia) (by rw [uV,<- hl];exact h4) (by rw [hk];exact ⟨_,I',q⟩)
 ·have hk:(k+(its.toArray.size:Int)).toNat=j:=by
   rw [seqIndex_neg (by lia) h3] at h1
   rw [uV,<- hl]
   exact u8.inj h1
  exact PySem.W.ki_setBack ho (by lia) (by rw [uV,<- hl];exact h3) (by lia) (by rw [hk];exact ⟨_,I',q⟩)
theorem zwd (lo hi:Option Int) (n:Nat):(sliceBounds lo hi none n).1=((HT.sIx n 0 lo:Nat):Int)/\(sliceBounds lo hi none n).2.1=((HT.sIx n n hi:Nat):Int)/\(sliceBounds lo hi none n).2.2=1:=by
 refine ⟨?_,?_,rfl⟩
 ·cases lo with
 |none=>simp [sliceBounds,HT.sIx]
 |some i =>
   simp only [sliceBounds,HT.sIx,Option.getD_none,show (1:Int) > 0 by decide,if_true]
   by_cases h:i < 0
   ·simp only [h,if_true] <;> lia
   ·simp only [h,if_false] <;> lia
 ·cases hi with
 |none=>simp [sliceBounds,HT.sIx]
 |some i =>
   simp only [sliceBounds,HT.sIx,Option.getD_none,show (1:Int) > 0 by decide,if_true]
   by_cases h:i < 0
   ·simp only [h,if_true] <;> lia
   ·simp only [h,if_false] <;> lia
theorem zub (its:List Value) (lo hi:Option Int):slicePick its.toArray lo hi none=((its.drop (HT.sIx its.length 0 lo)).take (HT.sIx its.length its.length hi - HT.sIx its.length 0 lo)).toArray:=by
 obtain ⟨h1,h2,h3⟩:=zwd lo hi its.toArray.size
 unfold slicePick
 rw [h1,h2,h3]
 simp only [sliceRange_one,pick_run,uV] <;> rfl
noncomputable def rSlL (K:Fg):V->Option Int->Option Int->Hp->VK->Prop:=λ x lo hi H Q=>∃ a xs,x=.ref a/\SqL K H a xs/\∀ p,H p=none->Q (.ref p) (upd H p (.lst (cutV xs lo hi)))
theorem zku:SlR X (rSlL X.K):=by
 intro pins s Y H x v vl vu lo hi sl Q I rx hs pl pu h
 obtain ⟨a,xs,rfl,hx,q⟩:=h
 cases rx
 obtain ⟨its,r,ht,hz⟩:=I.list hx
 have hlen:=r.length
 refine ⟨"list",_,slot_list_getitem.lookup,ht.isList.typeIs,?_⟩
 refine wpAny_getItem_list_slice ht.isList hs pl pu .none (by simp) ?_ (by rw [uV] <;> lia)
 rw [zub,<- hlen]
 refine ⟨.ref s.heap.objs.size,_,I.laid (t':=s.toks) (o:=.lst (cutV xs lo hi)) (λ b ob q=>uH _ q) (uG _) ?_,rfl,q _ (I.hok.fresh (uG _))⟩
 exact ⟨vQ (zi9 xs lo hi) hz,_,0,(r.drop (HT.sIx xs.length 0 lo)).take (HT.sIx xs.length xs.length hi - HT.sIx xs.length 0 lo),uT _ rfl⟩
noncomputable def zlm:V->Bool
|.non=>true
|.bl _=>true
|.int _=>true
|.str _=>true
|_=>false
noncomputable def eqV:V->V->Bool
|.non,.non=>true
|.bl a,.bl b=>a == b
|.bl a,.int b=>(if a then 1 else 0) == b
|.int a,.bl b=>a == (if b then 1 else 0)
|.int a,.int b=>a == b
|.str a,.str b=>a == b
|_,_=>false
theorem zs31 {A:Around} {s:Shared} {y x:V} {u v:Value} (ry:RelV y u) (rx:RelV x v) (fy:zlm y=true) (fx:zlm x=true):SeqAt.EqAt A s u v (eqV y x):=by
 cases y with
|non =>
  cases ry
  cases x with
 |non=>cases rx;exact SeqAt.EqAt.same _
 |bl b=>cases rx;exact SeqAt.EqAt.none_bool b
 |int b=>obtain ⟨t,rfl⟩:=rx;exact SeqAt.EqAt.none_int b t
 |str b=>obtain ⟨t,rfl⟩:=rx;exact SeqAt.EqAt.none_str b t
 |_=>exact absurd (show false=true from fx) uX
|bl a =>
  cases ry
  cases x with
 |non=>cases rx;exact SeqAt.EqAt.bool_none a
 |bl b=>cases rx;exact SeqAt.EqAt.bool_bool a b
 |int b=>obtain ⟨t,rfl⟩:=rx;exact SeqAt.EqAt.bool_int a b t
 |str b=>obtain ⟨t,rfl⟩:=rx;exact SeqAt.EqAt.bool_str a b t
 |_=>exact absurd (show false=true from fx) uX
|int a =>
  obtain ⟨t',rfl⟩:=ry
  cases x with
 |non=>cases rx;exact SeqAt.EqAt.int_none a t'
 |bl b=>cases rx;exact SeqAt.EqAt.int_bool a t' b
 |int b=>obtain ⟨t,rfl⟩:=rx;exact SeqAt.EqAt.int_int a t' b t
 |str b=>obtain ⟨t,rfl⟩:=rx;exact SeqAt.EqAt.int_str a t' b t
 |_=>exact absurd (show false=true from fx) uX
|str a =>
  obtain ⟨t',rfl⟩:=ry
  cases x with
 |non=>cases rx;exact SeqAt.EqAt.str_none a t'
 |bl b=>cases rx;exact SeqAt.EqAt.str_bool a t' b
 |int b=>obtain ⟨t,rfl⟩:=rx;exact SeqAt.EqAt.str_int a t' b t
 |str b=>obtain ⟨t,rfl⟩:=rx;exact SeqAt.EqAt.str_str a t' b t
 |_=>exact absurd (show false=true from fx) uX
|_=>exact absurd (show false=true from fy) uX
noncomputable def eqU (x:V) (u:Value):Bool:=match u with
|.none=>eqV .non x
|.bool b=>eqV (.bl b) x
|.int i _=>eqV (.int i) x
|.str z _=>eqV (.str z) x
|_=>false
theorem ztt {x y:V} {u:Value} (r:RelV y u) (f:zlm y=true):eqU x u=eqV y x:=by
 cases y with
|non=>cases r;rfl
|bl b=>cases r;rfl
|int i=>obtain ⟨t,rfl⟩:=r;rfl
|str z=>obtain ⟨t,rfl⟩:=r;rfl
|_=>exact absurd (show false=true from f) uX
theorem zkb {x:V}:∀ {xs:List V} {us:List Value},Vals xs us->xs.all zlm=true->us.any (eqU x)=xs.any λ y=>eqV y x
|_,_,.nil,_=>rfl
|y :: xs,u :: us,.cons r t,f=>by
  rw [xZ,wQ] at f
  rw [wS,wS,ztt r f.1,zkb t f.2]
theorem zd7 {A:Around} {s:Shared} {x:V} {v:Value} (rx:RelV x v) (fx:zlm x=true):∀ {xs:List V} {us:List Value},Vals xs us->xs.all zlm=true->∀ u∈us,SeqAt.EqAt A s u v (eqU x u)
|_,_,.nil,_=>λ u hu=>by cases hu
|y :: xs,u :: us,.cons r t,f=>λ u' hu=>by
  rw [xZ,wQ] at f
  rcases uD.mp hu with rfl|hu
  ·rw [ztt r f.1];exact zs31 r rx f.1 fx
  ·exact zd7 rx fx t f.2 u' hu
noncomputable def inV (x:V) (xs:List V):Bool:=xs.any λ y=>eqV y x
noncomputable def rIn (K:Fg) (neg:Bool):R2:=λ x y H Q=>∃ p xs,y=.ref p/\(SqL K H p xs \/ SqT K H p xs)/\zlm x=true/\xs.all zlm=true/\Q (.bl (if neg then !inV x xs else inV x xs)) H
theorem zmj:OpR X (compareOp .In) (rIn X.K false):=by
 intro pins s Y H x y v u Q I rx ry h
 obtain ⟨p,xs,rfl,hq,fx,fs,q⟩:=h
 cases ry
 rcases hq with hq|hq
 ·obtain ⟨its,r,pl,hz⟩:=I.list hq
  refine SeqAt.in_listAt (eqU x) pl.isList (λ w hw=>zd7 rx fx r fs w (by simpa using hw)) ⟨.bl _,H,I,rfl,?_⟩
  rw [show its.toArray.any (eqU x)=its.any (eqU x) by simp,zkb r fs]
  exact q
 ·obtain ⟨its,r,pl,hz⟩:=I.tuple hq
  refine SeqAt.in_tupleAt (eqU x) pl (λ w hw=>zd7 rx fx r fs w (by simpa using hw)) ⟨.bl _,H,I,rfl,?_⟩
  rw [show its.toArray.any (eqU x)=its.any (eqU x) by simp,zkb r fs]
  exact q
theorem zzc:OpR X (compareOp .NotIn) (rIn X.K true):=by
 intro pins s Y H x y v u Q I rx ry h
 obtain ⟨p,xs,rfl,hq,fx,fs,q⟩:=h
 cases ry
 rcases hq with hq|hq
 ·obtain ⟨its,r,pl,hz⟩:=I.list hq
  refine SeqAt.notIn_listAt (eqU x) pl.isList (λ w hw=>zd7 rx fx r fs w (by simpa using hw)) ⟨.bl _,H,I,rfl,?_⟩
  rw [show its.toArray.any (eqU x)=its.any (eqU x) by simp,zkb r fs]
  exact q
 ·obtain ⟨its,r,pl,hz⟩:=I.tuple hq
  refine SeqAt.notIn_tupleAt (eqU x) pl (λ w hw=>zd7 rx fx r fs w (by simpa using hw)) ⟨.bl _,H,I,rfl,?_⟩
  rw [show its.toArray.any (eqU x)=its.any (eqU x) by simp,zkb r fs]
  exact q
theorem zmd:OpR X (compareOp .NotIn) (λ x y H Q=>∃ i j,x=.str i/\y=.str j/\Q (.bl (!(!(Builtin.Str.occurrences j i 0 j.length 1).isEmpty))) H):=by
 intro pins s Y H x y v u Q I rx ry h
 obtain ⟨i,j,rfl,rfl,q⟩:=h
 obtain ⟨t,rfl⟩:=rx
 obtain ⟨t',rfl⟩:=ry
 exact notIn_str ⟨.bl _,H,I,rfl,q⟩
theorem CallR.or {f:Value} {r r':List V->Hp->VK->Prop} (h:CallR X f r) (h':CallR X f r'):CallR X f (λ xs H Q=>r xs H Q \/ r' xs H Q):=by
 intro pins s Y H xs us Q I rs q
 rcases q with q|q
 ·exact h pins s Y H xs us Q I rs q
 ·exact h' pins s Y H xs us Q I rs q
theorem zvc:CallR X (.type "list") (λ xs H Q=>∃ p ys,xs=[.ref p]/\(SqL X.K H p ys \/ SqT X.K H p ys)/\∀ l,H l=none->Q (.ref l) (upd H l (.lst ys))):=by
 intro pins s Y H xs us Q I r h
 obtain ⟨p,ys,rfl,hq,q⟩:=h
 obtain ⟨u,rfl,rx⟩:=zkf r
 cases rx
 have fin:∀ (its:List Value),Vals ys its->ys.length<=sizeLine->∀ (h':Heap) (c':Nat),(∀ b o',s.heap.get? b=some o'->h'.get? b=some o') ->
   h'.get? s.heap.objs.size=some { cls:=.type "list",dict:=none,data:=.seq its.toArray c',slots:=#[] }->EP X pins Y Q (.ref s.heap.objs.size) { s with heap:=h' }:=λ its r' hz h' c' kp e =>
  ⟨.ref s.heap.objs.size,_,I.laid (t':=s.toks) kp (uG _) (show ObjOk X.prog X.w _ h' _ (.lst ys) from ⟨hz,its,c',r',e⟩),rfl,q _ (I.hok.fresh (uG _))⟩
 rcases hq with hq|hq
 ·obtain ⟨its,r',pl,hz⟩:=I.list hq
  have hlen:=r'.length
  obtain ⟨o,ho,hc,n,hd⟩:=pl.isList
  exact call_list_seq p (.inl rfl) ho hc hd (λ h' c' kp e=>fin its r' hz h' c' kp e) (by simp only [uV] <;> lia)
 ·obtain ⟨its,r',pl,hz⟩:=I.tuple hq
  have hlen:=r'.length
  obtain ⟨o,ho,hc,n,hd⟩:=pl
  exact call_list_seq p (.inr rfl) ho hc hd (λ h' c' kp e=>fin its r' hz h' c' kp e) (by simp only [uV] <;> lia)
noncomputable def tyV (K:Fg) (T:String) (x:V) (H:Hp):Prop:=match x with
|.str _=>T = "str"
|.int _=>T = "int"
|.ref p=>(T = "list"/\∃ xs,SqL K H p xs) \/ (T = "tuple"/\∃ o,K.lookup p=some o/\o.cls=.type "tuple"/\o.dict=none) \/
   (T = "dict"/\((∃ kvs,H p=some (.dK kvs)) \/ ∃ kvs,H p=some (.dT kvs))) \/ (T = "set"/\∃ S n,H p=some (.set S n))
|_=>False
theorem zfv {pins:List (Addr×Obj)} {Y:St} {H:Hp} {s:Shared} {T:String} {x:V} {v:Value} (I:Inv X pins Y H s) (r:RelV x v) (ty:tyV X.K T x H) :
  s.TypeIs v T/\∀ a,v=.ref a->∃ ob,s.heap.get? a=some ob/\ob.dict=none:=by
 cases x with
|str z =>
  obtain ⟨t,rfl⟩:=r
  cases (show T = "str" from ty)
  exact ⟨typeIs_str s z t,λ _ e=>nomatch e⟩
|int i =>
  obtain ⟨t,rfl⟩:=r
  cases (show T = "int" from ty)
  exact ⟨typeIs_int s i t,λ _ e=>nomatch e⟩
|ref p =>
  cases r
  rcases ty with ⟨rfl,xs,hq⟩|⟨rfl,o,hk,hc,hd⟩|⟨rfl,hk⟩|⟨rfl,S,n,hk⟩
  ·obtain ⟨its,_,pl,_⟩:=I.list hq
   refine ⟨pl.isList.typeIs,λ a e=>?_⟩
   cases e
   obtain ⟨o,n,e,c,hd,_⟩:=pl
   exact ⟨o,e,hd⟩
  ·refine ⟨⟨o,I.kIn p o hk,hc⟩,λ a e=>?_⟩
   cases e
   exact ⟨o,I.kIn _ o hk,hd⟩
  ·have z:∃ o,s.heap.get? p=some o/\o.ExactDict:=by
    rcases hk with ⟨kvs,hk⟩|⟨kvs,hk⟩
    ·obtain ⟨_,_,_,_,o,_,_,e,ex,_⟩:=I.hok p _ hk
     exact ⟨o,e,ex⟩
    ·obtain ⟨_,_,_,_,o,_,_,e,ex,_⟩:=I.hok p _ hk
     exact ⟨o,e,ex⟩
   obtain ⟨o,e,ex⟩:=z
   refine ⟨⟨o,e,ex.1⟩,λ a e2=>?_⟩
   cases e2
   exact ⟨o,e,ex.2.1⟩
  ·obtain ⟨o,_,_,_,e,ex,_⟩:=I.hok p _ hk
   refine ⟨⟨o,e,ex.1⟩,λ a e2=>?_⟩
   cases e2
   exact ⟨o,e,ex.2.1⟩
|_=>exact False.elim ty
noncomputable def tBM0 (K:Fg) (T:String) (r:V->List V->Hp->VK->Prop) (to:TE):TE:=λ Y H Q=>to Y H λ x H1=>tyV K T x H1/\r x [] H1 Q
noncomputable def tBM (K:Fg) (T:String) (r:V->List V->Hp->VK->Prop) (to:TE) (t:TA):TE:=λ Y H Q=>to Y H λ x H1=>tyV K T x H1/\t Y H1 λ xs H2=>r x xs H2 Q
variable {o e:Expr} {es:List Expr} {to:TE} {t:TA} {name:Str} {apos cpos:Pos} {T id:String} {r:V->List V->Hp->VK->Prop}
theorem zs41 (pa:PlainAttrs T) (slot:Slot T name id) (hty:typeOf (.builtin id)=pure (.type "method_descriptor")) (hm:MtR X id r) (ho:PE X o to)
  (hbase:attributeBase o name X.env (eval o X.env)=eval o X.env:=by rfl) (hline:(apos.endLine == cpos.line)=true:=by rfl):PE X (.Call (.Attribute o name apos) [] [] cpos) (tBM0 X.K T r to):=by
 intro pins s Y H Q I h
 refine wpAny_Call_method0_late hbase hline (thn (ho pins s Y H _ I h) λ v s1 ⟨x,H1,I1,r1,ty,q1⟩=>?_)
 obtain ⟨h1,h2⟩:=zfv I1 r1 ty
 exact ⟨T,id,pa,slot,hty,h1,h2,Calls.callWith_builtin rfl (PySem.evalArgs_none (hm pins s1 Y H1 x [] v [] Q I1 r1 .nil q1))⟩
theorem zj81 (pa:PlainAttrs T) (slot:Slot T name id) (hty:typeOf (.builtin id)=pure (.type "method_descriptor")) (hm:MtR X id r) (ho:PE X o to) (ha:PA X (e :: es) t)
  (hbase:attributeBase o name X.env (eval o X.env)=eval o X.env:=by rfl)
  (hfew:((backTo cpos (starEach (e :: es) X.env)).all (λ x=>!x.1) && (backToKw cpos (keywordEach [] X.env)).all (λ x=>x.1.isSome)
   && decide ((e :: es).length+([]:List Keyword).length+(if ([]:List Keyword).isEmpty then 0 else 1) < 30))=true:=by rfl)
  (hline:(apos.endLine == cpos.line)=true:=by rfl) (hs:starEach (e :: es) X.env=(false,eval e X.env) :: starEach es X.env:=by rfl) (hplain:(backTo cpos (starEach es X.env)).any (·.1)=false:=by rfl) :
  PE X (.Call (.Attribute o name apos) (e :: es) [] cpos) (tBM X.K T r to t):=by
 intro pins s Y H Q I h
 refine wpAny_Call_method_late hbase hfew hline rfl (thn (ho pins s Y H _ I h) λ v s1 ⟨x,H1,I1,r1,ty,q1⟩=>?_)
 obtain ⟨h1,h2⟩:=zfv I1 r1 ty
 refine ⟨T,id,pa,slot,hty,h1,h2,?_⟩
 have hA:=ha cpos pins s1 Y H1 _ I1 q1
 rw [hs] at hA ⊢
 refine Calls.callWith_builtin (by show (false || (backTo cpos (starEach es X.env)).any (·.1))=false;rw [hplain] <;> rfl) (Calls.evalArgs_plain ?_)
 exact thn hA λ us s2 ⟨vs,H2,I2,r2,q2⟩=>hm pins s2 Y H2 x vs v us Q I2 r1 r2 q2
end
noncomputable def MtM (X:Cx) (id:String) (r:V->List V->Hp->VK->Prop):Prop :=
 ∀ (pins:List (Addr×Obj)) (s:Shared) (Y:St) (H:Hp) (x:V) (xs:List V) (v:Value) (us:List Value) (Q:VK),Inv X pins Y H s->RelV x v->Vals xs us->r x xs H Q ->
  wpAny (model X.prog X.w) X.A (call (.builtin id) (v :: us)) (EP X pins Y Q) X.xe s
theorem Vals.one:∀ {x:V} {us:List Value},Vals [x] us->∃ u,us=[u]/\RelV x u
|_,_,.cons r .nil=>⟨_,rfl,r⟩
theorem Vals.two:∀ {x y:V} {us:List Value},Vals [x,y] us->∃ u v,us=[u,v]/\RelV x u/\RelV y v
|_,_,_,.cons r (.cons q .nil)=>⟨_,_,rfl,r,q⟩
theorem Vals.zero:∀ {us:List Value},Vals [] us->us=[]
|_,.nil=>rfl
theorem Vals.dropLast {xs:List V} {us:List Value} (h:Vals xs us):Vals xs.dropLast us.dropLast:=by
 induction h with
|nil=>exact .nil
|cons r t ih =>
  cases t with
 |nil=>exact .nil
 |cons q t'=>exact .cons r ih
theorem Vals.rep {xs:List V} {us:List Value} (h:Vals xs us):∀ k:Nat,Vals (uN k xs).flatten (uN k us).flatten
|0=>.nil
|k+1=>by
  rw [wT,wT,w8,w8]
  exact Vals.append h (Vals.rep h k)
theorem zei {α:Type} (l:List α):l.eraseIdx (l.length - 1)=l.dropLast:=by
 induction l with
|nil=>rfl
|cons a r ih =>
  cases r with
 |nil=>rfl
 |cons b r =>
   have e:(a :: b :: r).length - 1=((b :: r).length - 1)+1:=by
    have h1:(a :: b :: r).length=r.length+2:=rfl
    have h2:(b :: r).length=r.length+1:=rfl
    lia
   rw [e,List.eraseIdx_cons_succ,ih]
   all_goals rfl
theorem zke (its:List Value):∀ (k:Nat) (acc:List Value),
  List.foldl (λ x1 x2=>x1++x2) acc.toArray (uN k its.toArray)=(acc++(uN k its).flatten).toArray
|0,acc=>by simp
|k+1,acc=>by
  have e:acc.toArray++its.toArray=(acc++its).toArray:=by simp
  have e2:(acc++its)++(uN k its).flatten=acc++(uN (k+1) its).flatten:=by
   rw [wT,w8,wI]
  rw [<- e2,<- zke its k (acc++its),<- e,wT,List.foldl_cons]
section
variable {X:Cx} {pins:List (Addr×Obj)} {Y:St} {H:Hp} {s:Shared} {l b:Addr} {xs ys zs:List V}
theorem Inv.lset {its its':List Value} {n:Nat} {f:Array Value->Array Value} {t':Nat} (I:Inv X pins Y H s) (hH:H l=some (.lst xs))
  (e:s.heap.get? l=some { cls:=.type "list",data:=.seq its.toArray n }) (hf:f its.toArray=its'.toArray) (hv:Vals ys its') (hz:ys.length<=sizeLine) :
  Inv X pins Y (upd H l (.lst ys)) { s with heap:=s.heap.update l (Obj.mapSeq f),toks:=t' }:=by
 have q:=PySem.IsL.update e f
 rw [hf] at q
 refine I.write (x:=l) (e:=l) (by rw [hH];exact trivial) (.inl rfl) (λ b' u hb hu=>(wR s.heap (Obj.mapSeq f) (Ne.symm hb)).trans hu) ⟨_,q⟩ ?_
 exact ⟨hz,its',_,hv,q⟩
theorem Inv.lnew {its:List Value} {t':Nat} (I:Inv X pins Y H s) (hv:Vals ys its) (hz:ys.length<=sizeLine) :
  Inv X pins Y (upd H s.heap.objs.size (.lst ys)) { s with heap:=s.heap.push { cls:=.type "list",data:=.seq its.toArray },toks:=t' } :=
 I.laid (λ _ _ q=>uH _ q) (uG _) ⟨hz,its,0,hv,uT _ rfl⟩
theorem Inv.fresh (I:Inv X pins Y H s):H s.heap.objs.size=none:=I.hok.fresh (uG _)
theorem Inv.lstM (I:Inv X pins Y H s) (hH:H l=some (.lst xs)):xs.length<=sizeLine/\∃ (its:List Value) (n:Nat),Vals xs its/\xs.length=its.length/\s.heap.get? l=some { cls:=.type "list",data:=.seq its.toArray n }:=by
 obtain ⟨z,its,n,r,e⟩:=I.hok l _ hH
 exact ⟨z,its,n,r,r.length,e⟩
theorem zed {n:Nat} (h:n<=sizeLine):Builtin.List.listTooLong n=false:=by
 unfold Builtin.List.listTooLong
 exact decide_eq_false (by lia)
end
section
variable {X:Cx}
noncomputable def zph:V->List V->Hp->VK->Prop:=λ x vs H Q=>∃ l xs y,x=.ref l/\vs=[y]/\H l=some (.lst xs)/\xs.length < sizeLine/\Q .non (upd H l (.lst (xs++[y])))
theorem zf1:MtM X "list.append" zph:=by
 intro pins s Y H x vs v us Q I rx rv h
 obtain ⟨l,xs,y,rfl,rfl,hH,hz,q⟩:=h
 cases rx
 obtain ⟨u,rfl,ru⟩:=rv.one
 obtain ⟨z,its,n,r,hl,e⟩:=I.lstM hH
 refine call_meets F.slot_list_append ⟨_,e,rfl⟩ F.entry_list_append (F.args_list_append_2 _ _) (PySem.list_append l its.toArray n u (by rw [uV];lia)) ⟨e,?_⟩
 refine ⟨.non,_,I.lset (its':=its++[u]) hH e (by simp) (r.append (.cons ru .nil)) ?_,rfl,q⟩
 rw [vB,xM]
 lia
noncomputable def rPop:V->List V->Hp->VK->Prop:=λ x vs H Q=>∃ l xs y,x=.ref l/\vs=[]/\H l=some (.lst xs)/\xs[xs.length - 1]?=some y/\Q y (upd H l (.lst xs.dropLast))
theorem zeo:MtM X "list.pop" rPop:=by
 intro pins s Y H x vs v us Q I rx rv h
 obtain ⟨l,xs,y,rfl,rfl,hH,hy,q⟩:=h
 cases rx
 have hus:=rv.zero
 subst hus
 obtain ⟨z,its,n,r,hl,e⟩:=I.lstM hH
 obtain ⟨u,hu,ru⟩:=r.get hy
 have hy':its.toArray[its.toArray.size - 1]?=some u:=by
  show its.toArray[its.length - 1]?=some u
  rw [<- x6,<- hl]
  exact hu
 refine call_meets F.slot_list_pop ⟨_,e,rfl⟩ F.entry_list_pop (F.args_list_pop_1 _) (MeetsSeq.list_pop_last l its.toArray n u hy' (by rw [uV];lia)) ⟨e,?_⟩
 refine ⟨y,_,I.lset (its':=its.dropLast) hH e ?_ r.dropLast ?_,ru,q⟩
 ·show its.toArray.eraseIdxIfInBounds (its.toArray.size - 1)=its.dropLast.toArray
  rw [uV,List.eraseIdxIfInBounds_toArray,zei]
 ·rw [List.length_dropLast]
  lia
noncomputable def rCat:R2:=λ x y H Q=>∃ l b xs zs,x=.ref l/\y=.ref b/\H l=some (.lst xs)/\H b=some (.lst zs)/\xs.length+zs.length<=sizeLine/\∀ p,H p=none->Q (.ref p) (upd H p (.lst (xs++zs)))
theorem zxz:OpR X (binaryOp .Add) rCat:=by
 intro pins s Y H x y v u Q I rx ry h
 obtain ⟨l,b,xs,zs,rfl,rfl,hH,hB,hz,q⟩:=h
 cases rx
 cases ry
 obtain ⟨z,its,n,r,hl,e⟩:=I.lstM hH
 obtain ⟨z2,its2,n2,r2,hl2,e2⟩:=I.lstM hB
 refine PySem.P.add_list e e2 ?_ (by rw [uV,uV];lia)
 have ea:its.toArray++its2.toArray=(its++its2).toArray:=by simp
 rw [ea]
 exact ⟨.ref _,_,I.lnew (t':=s.toks) (r.append r2) (by rw [vB];lia),rfl,q _ I.fresh⟩
noncomputable def rRep:R2:=λ x y H Q=>∃ l k xs,x=.ref l/\y=.int k/\H l=some (.lst xs)/\-(2 ^ 63)<=k/\k < 2 ^ 63/\xs.length * k.toNat<=sizeLine /\
 ∀ p,H p=none->Q (.ref p) (upd H p (.lst (uN k.toNat xs).flatten))
theorem zet {α:Type} (xs:List α) (k:Nat):(uN k xs).flatten.length=k * xs.length:=by
 induction k with
|zero=>simp
|succ k ih=>rw [wT,w8,vB,ih,Nat.succ_mul,Nat.add_comm]
theorem zew:OpR X (binaryOp .Mult) rRep:=by
 intro pins s Y H x y v u Q I rx ry h
 obtain ⟨l,k,xs,rfl,rfl,hH,h1,h2,hz,q⟩:=h
 cases rx
 obtain ⟨t,rfl⟩:=ry
 obtain ⟨z,its,n,r,hl,e⟩:=I.lstM hH
 have hlen:its.toArray.size * k.toNat<=sizeLine:=by rw [uV,<- hl];exact hz
 have hcap:¬ its.toArray.size * k.toNat > (2 ^ 63 - 1) / 8:=by
  have:(sizeLine:Nat)<=(2 ^ 63 - 1) / 8:=by decide
  lia
 have hfit:¬ (!Builtin.List.listFitsIndex k)=true:=by
  rw [fitsIndex_both h1 h2]
  exact uX
 have hlong:¬ Builtin.List.listTooLong (its.toArray.size * k.toNat)=true:=by
  rw [zed hlen]
  exact uX
 have hnew:List.foldl (λ x1 x2=>x1++x2) #[] (uN (if its.toArray.isEmpty=true then 0 else k.toNat) its.toArray)=(uN k.toNat its).flatten.toArray:=by
  have f0:∀ m:Nat,List.foldl (λ x1 x2=>x1++x2) #[] (uN m its.toArray)=(uN m its).flatten.toArray:=λ m=>by
   have:=zke its m []
   rw [List.nil_append] at this
   exact this
  rw [f0]
  cases its with
 |nil=>simp
 |cons a r'=>rw [if_neg (by simp)]
 refine wpAny_binaryOp_repeat_ref (T := "list") (U := "int") (by decide) ⟨_,e,rfl⟩ (λ s'=>typeIs_int s' k t) noFill_list_mul F.fills_int_mul F.slot_int_rmul repeat_list F.slot_int_index.lookup
  (call_meets F.slot_int_rmul (typeIs_int s k t) F.entry_int_rmul (F.args_int_rmul_2 _ _) (int___rmul___int_list k t l its.toArray n)
   ⟨e,rfl,⟨_,e,rfl⟩,call_meets F.slot_list_mul ⟨_,e,rfl⟩ F.entry_list_mul (F.args_list_mul_2 _ _) (AutoListH.list___mul___list_int_3 l its.toArray n k t hfit hcap hlong) ⟨e,?_⟩⟩)
 rw [hnew]
 exact ⟨.ref _,_,I.lnew (t':=s.toks) (r.rep k.toNat) (by rw [zet,Nat.mul_comm];exact hz),rfl,q _ I.fresh⟩
end
end _2
namespace Att
open PySem PySem.W PySem.Calls PyProof.Rows
theorem zo8 {P:Params} {h:Heap}:∀ (ns:List Int) (vs:List Value),WellAll P h vs (ns.map WData.int)->IntsAre vs ns:=by
 intro ns
 induction ns with
|nil =>
  intro vs w
  rw [wZ] at w
  cases w
  exact .nil
|cons n ns ih =>
  intro vs w
  rw [uK] at w
  cases w with
 |cons a b =>
   cases a
   exact .cons _ _ (ih _ b)
theorem zgl {l:OpenLaw} {n:Nat} (hn:l.most=some n) {P:Params} {h:Heap} {args:List WData} {vals:List Value}
  (hpre:l.row.toRowW.claim.pre args=true) (hwl:WellAll P h vals args) :
  ∃ a vs ns,vals=[uS a]/\args=[WData.list (ns.map WData.int)]/\h.get? a=some { cls:=.type "list",data:=.seq vs.toArray }/\IntsAre vs ns/\ns.length<=n:=by
 have hsh:WShape.hasAll [] args [.list .int]=true:=(pre_splitW hpre).1
 have hc:l.pre.holds [] { args:=args }=true:=(pre_splitW hpre).2
 obtain ⟨d,r,rfl,h1,h2⟩:=hasAllW_cons hsh
 obtain rfl:=hasAllW_nil h2
 obtain ⟨xs,rfl,h3⟩:=hasW_list h1
 obtain ⟨ns,rfl⟩:=items_int h3
 have hlen:ns.length<=n:=by
  unfold OpenLaw.pre at hc
  have h4:(WTm.not (.lt (.lit (.int (n:Int))) (.len (.arg 0)))).holds [] { args:=[.list (ns.map .int)] }=true:=by
   have h4:=(holds_andW hc).1
   rw [hn] at h4
   exact h4
  have h5:=condW_of h4 (w_not (w_lt w_lit (w_len_list (w_arg rfl))))
  rw [uA] at h5
  refine Nat.le_of_not_lt λ q=>?_
  have q':(n:Int) < ((ns.length:Nat):Int):=by lia
  first
  |(rw [decide_eq_true q'] at h5;exact absurd h5 (by decide))
  |(simp at h5;lia)
 cases hwl with
|cons w1 w2 =>
  cases w2
  cases w1 with
 |list ho hall=>exact ⟨_,_,ns,rfl,rfl,ho,zo8 ns _ hall,hlen⟩
theorem zqk (l:OpenLaw) (args:List WData):l.row.toRowW.claim.post args (.bool true) args=true :=
 postW_of (r:=l.row.toRowW) (X:=(true == true))
  (show WShape.has [] (.bool true) .bool=true by first|rfl|decide|simp [WShape.has,WShape.arms,WShape.armsAll])
  (show (WTm.eq .res (.lit (.bool true))).value [] { args:=args,res:=some (.bool true),after:=args }=some (.bool (true == true)) from w_eq_bool (w_res rfl) w_lit) rfl
theorem attach_call {l:OpenLaw} {n:Nat} {q:Program} {loose:List Str} {XP:(Str->Option Value)->Heap->Prop} {YP:World->Heap->Prop} {d:DefRec}
  (hn:l.most=some n) (hdf:d.params.defaults=[])
  (call:∀ (w:World) (s₀ s₁:Shared) (mg mb:Str->Option Value) (fa:Addr) (o:Obj) (pm cd doc:Value) (a:Addr) (vs:List Value) (ns:List Int),
   Ground q loose [] XP w s₀ mg mb s₁.heap->YP w s₁.heap ->
   s₁.heap.get? fa=some o->o.data=.func (docDef d.name d.params d.body d.scope pm cd doc)->s₁.heap.CodeRec cd d.name->mg d.name=some (.ref fa) ->
   s₁.heap.get? a=some { cls:=.type "list",data:=.seq vs.toArray }->IntsAre vs ns->ns.length<=n->s₁.gens=#[] ->
   codeAny (model l.prog w) callerA (.call (.ref fa) ⟨[.ref a],[]⟩) (λ r s'=>r=.ok (.ret (.bool true))/\OldK s₁.heap s'.heap/\s'.os=s₁.os/\AllBare s'.gens) s₁) :
  WalkO q loose XP YP l.row.toRowW d [] (λ f vs=>PySem.call f vs):=by
 intro w s₀ s₁ mg mb G Yv fa o pm cd doc dV kV ho hd hcd hD hmg hg args vals as hpre hlay hrd hwl hlo
 obtain rfl:dV=.none:=Dflts.none hD hdf
 obtain rfl:kV=.none:=Dflts.noKw hD
 obtain ⟨a,vs,ns,rfl,rfl,hobj,hints,hlen⟩:=zgl hn hpre hwl
 refine enter_call (codeAny_mono (call w s₀ s₁ mg mb fa o pm cd doc a vs ns G Yv ho (fd_plain hd) hcd hmg hobj hints hlen hg) λ r s' hq=>?_)
 obtain ⟨rfl,h2,h3,h4⟩:=hq
 exact ⟨.inl ⟨.bool true,.bool true,[],rfl,λ _=>rfl,.bool true,zqk l _,λ _=>⟨List.Pairwise.nil,λ _ hm=>(nomatch hm)⟩⟩,h2,h3,h4⟩
end Att
namespace _2
open PySem PySem.Spec PyProof.Rows
theorem zz6:∀ {vs:List Value} {ns:List Int},IntsAre vs ns->Vals (ns.map V.int) vs
|_,_,.nil=>.nil
|_,_,.cons n t h=>.cons ⟨t,rfl⟩ (zz6 h)
noncomputable def Only (H:Hp):Prop:=∀ b,H b=none \/ ∃ o xs,H b=some (.frz o (.lst xs))
theorem zvo {P:Program} {w:World} {K:Fg} {mg mb:Str->Option Value} {CX:CXT} {k:Nat} {fa a:Addr} {fd:FuncData} {x:Str} {sp:Sp} {s₁:Shared} {vs:List Value} {ns:List Int}
  (KX:K.In s₁.heap) (hns:s₁.heap.Ns mainGlobals mg) (hb:s₁.heap.Ns builtinsNs mb) (hbb:∀ x:Str,x ≠ "__name__"->mb x=bootBuiltins x) (hlim:s₁.heap.NoLimit) (hg:s₁.gens=#[])
  (ha:s₁.heap.get? a=some { cls:=.type "list",data:=.seq vs.toArray }) (hi:IntsAre vs ns) (hl:ns.length<=sizeLine) (hr:Room k callerA)
  (F:∀ base:Heap,K.In base->base.Ns mainGlobals mg->FnOk P w K mg base CX k fa fd [x] sp) (hbind:∀ (s:Shared) (u:Value),BindsTo s fd ⟨[u],[]⟩ [(x,u)])
  (hsp:∀ H:Hp,Only H->SqL K H a (ns.map V.int)->sp [.ref a] H (λ v _=>v=.bl true) λ _ _ _=>False)
  (hCX:∀ H e s',CX [] H s₁ (λ _ _ _=>False) e s'->False) :
  codeAny (model P w) callerA (.call (.ref fa) ⟨[.ref a],[]⟩) (λ r s'=>r=.ok (.ret (.bool true))/\OldK s₁.heap s'.heap/\s'.os=s₁.os/\AllBare s'.gens) s₁:=by
 have rv:=zz6 hi
 have lenV:=hi.length
 -- from an abstract heap in which nothing but the script may be tracked
 have core:∀ H:Hp,Only H->SqL K H a (ns.map V.int)->HOk P w H s₁.heap->(∀ b,H b≠none->b=a)->(H a≠none->K.lookup a=none) ->
   codeAny (model P w) callerA (.call (.ref fa) ⟨[.ref a],[]⟩) (λ r s'=>r=.ok (.ret (.bool true))/\OldK s₁.heap s'.heap/\s'.os=s₁.os/\AllBare s'.gens) s₁:=by
  intro H hO hS hok hA hK
  have base_of:∀ {b:Addr} {o:Obj},s₁.heap.get? b=some o->H b=none->(hidT s₁.heap H).get? b=some o:=λ e n=>zlo e n
  have noA:∀ {b:Addr} {o:Obj} {es:Array DictEntry} {ep:Nat},s₁.heap.get? b=some o->o.data=.dict es ep->H b=none:=λ {b o es ep} e d=>by
   cases q:H b with
  |none=>rfl
  |some u =>
    have e':b=a:=hA b (by rw [q];simp)
    subst e'
    rw [ha] at e;cases e
    have d':Data.seq vs.toArray _=Data.dict es ep:=d
    cases d'
  have nsK:∀ {b:Addr} {m:Str->Option Value},s₁.heap.Ns b m->(hidT s₁.heap H).Ns b m:=λ {b m} ⟨o,es,ep,e,d,r⟩=>⟨o,es,ep,base_of e (noA e d),d,r⟩
  have hKb:K.In (hidT s₁.heap H):=λ b o e=>base_of (KX b o e) (by
   cases q:H b with
  |none=>rfl
  |some u =>
    have e':b=a:=hA b (by rw [q];simp)
    subst e'
    rw [hK (by rw [q];simp)] at e;cases e)
  have hM:Mod K mg (hidT s₁.heap H):=⟨hKb,nsK hns,⟨mb,nsK hb,hbb⟩,let ⟨mc,h1,h2⟩:=hlim;⟨mc,nsK h1,h2⟩⟩
  have e0:Env0 P w K mg (hidT s₁.heap H) callerA [] s₁ H:=⟨rfl,hM,λ b o e=>zmx e,yT (zkj _ _),trivial,λ b hb=>absurd (show b∈([]:List Addr) from hb) (by simp),hok,.of_eq hg⟩
  refine codeAny_mono ((F _ hKb (nsK hns)).run callerA [] s₁ H ⟨[.ref a],[]⟩ [.ref a] [.ref a] _ _ hr e0 (hbind s₁ (.ref a)) (.cons rfl .nil) (hsp H hO hS)) λ r s' h=>?_
  cases r with
 |error e=>exact (hCX H e s' h).elim
 |ok fl =>
   cases fl with
  |next=>exact False.elim h
  |brk=>exact False.elim h
  |cont=>exact False.elim h
  |ret u =>
    obtain ⟨v,H',os,bare,un,hok',r',q⟩:=h
    have q':v=.bl true:=q
    subst q'
    obtain rfl:u=xU true:=r'
    refine ⟨rfl,OldK.of_keep λ b o e=>?_,os,bare⟩
    cases q:H b with
   |none=>exact un.keep b o e q (by intro z;exact absurd (show b∈([]:List Addr) from z) (by simp)) (by simp)
   |some u =>
     rcases hO b with z|⟨ob,xs,z⟩
     ·rw [q] at z;cases z
     ·have z2:=un.frzs b ob _ z
      obtain ⟨e1,_⟩:=hok b _ z
      obtain ⟨e2,_⟩:=hok' b _ z2
      rw [e] at e1;cases e1
      exact e2
 cases hk:K.lookup a with
|some o =>
  -- the script is one of the module's own objects
  have e:=KX a o hk
  rw [ha] at e
  cases e
  refine core (λ _=>none) (λ _=>.inl rfl) (.inr ⟨_,vs.toArray,_,hk,rfl,rfl,rfl,by rw [uV,lenV];exact hl,by simpa using rv⟩) (λ b u z=>by have z':(none:Option HO)=some u:=z;cases z') (λ b z=>absurd rfl z) λ z=>absurd rfl z
|none =>
  refine core (λ b=>if b=a then some (.frz { cls:=.type "list",data:=.seq vs.toArray } (.lst (ns.map V.int))) else none) (λ b=>?_) (.inl (.inr ⟨{ cls:=.type "list",data:=.seq vs.toArray },if_pos rfl⟩)) (λ b u z=>?_) (λ b z=>?_) λ _=>hk
  ·by_cases hb:b=a
   ·exact .inr ⟨_,_,if_pos hb⟩
   ·exact .inl (if_neg hb)
  ·by_cases hb:b=a
   ·have z':=(if_pos hb).symm.trans z
    cases z'
    subst hb
    exact ⟨ha,by rw [uA];exact hl,vs,_,rv,ha⟩
   ·have z':=(if_neg hb).symm.trans z
    cases z'
  ·by_cases hb:b=a
   ·exact hb
   ·exact absurd (if_neg hb) z
theorem walk_of {l:PySem.W.OpenLaw} {n k:Nat} {q:Program} {loose:List Str} {XP:(Str->Option Value)->Heap->Prop} {YP:World->Heap->Prop} {d:DefRec} {K:Params->Fg} {CX:World->CXT} {sp:World->Sp} {x:Str}
  (hn:l.most=some n) (hn2:n<=sizeLine) (hdf:d.params.defaults=[]) (hr:Room k callerA)
  (hY:∀ (w:World) (h:Heap),YP w h->(K w.params).In h)
  (F:∀ (w:World) (mg:Str->Option Value) (fa:Addr) (h:Heap),(K w.params).In h->h.Ns mainGlobals mg->mg d.name=some (.ref fa) ->
   ∃ fd:FuncData,(∀ (s:Shared) (u:Value),BindsTo s fd ⟨[u],[]⟩ [(x,u)]) /\
    ∀ base:Heap,(K w.params).In base->base.Ns mainGlobals mg->FnOk l.prog w (K w.params) mg base (CX w) k fa fd [x] (sp w))
  (hsp:∀ (w:World) (H:Hp) (a:Addr) (ns:List Int),ns.length<=n->Only H->SqL (K w.params) H a (ns.map V.int)->sp w [.ref a] H (λ v _=>v=.bl true) λ _ _ _=>False)
  (hCX:∀ (w:World) (H:Hp) (s:Shared) (e:Value) (s':Shared),CX w [] H s (λ _ _ _=>False) e s'->False) :
  PySem.W.WalkO q loose XP YP l.row.toRowW d [] (λ f vs=>PySem.call f vs):=by
 refine Att.attach_call hn hdf λ w s₀ s₁ mg mb fa o pm cd doc a vs ns G Yv ho hd hcd hmg hobj hints hlen hg=>?_
 have KX:=hY w _ Yv
 obtain ⟨fd,hb,hF⟩:=F w mg fa _ KX G.T.g hmg
 exact zvo KX G.T.g G.T.b G.T.builtins G.T.nolimit hg hobj hints (vQ hlen hn2) hr hF hb (λ H hO hS=>hsp w H a ns hlen hO hS) λ H e s'=>hCX w H s₁ e s'
def zh6 (s:Stmt) (j:Nat):Stmt:=match s with
|.ClassDef _ _ _ body _ _ _ _ _ _ _=>body.getD j (.Pass ⟨0,0,0,0⟩)
|_=>.Pass ⟨0,0,0,0⟩
noncomputable def zo4 (s:Stmt):Arguments:=match s with
|.FunctionDef _ a _ _ _ _ _ _ _ _=>a
|_=>{ posonlyargs:=[],args:=[],vararg:=none,kwonlyargs:=[],kw_defaults:=[],kwarg:=none,defaults:=[] }
def zz1 (s:Stmt):List Stmt:=match s with
|.FunctionDef _ _ b _ _ _ _ _ _ _=>b
|_=>[]
def zf0 (s:Stmt):Scope:=match s with
|.FunctionDef _ _ _ _ _ _ sc _ _ _=>sc
|_=>{ kind:=.function,names:=[],isGenerator:=false,isCoroutine:=false }
noncomputable abbrev CX0:CXT:=λ _ _ _ _ _ _=>False
noncomputable abbrev E0:XK:=λ _ _ _=>False
theorem zlz {X:Cx}:zde CX0 X E0:=λ _ _ _ _ _ _ _ h=>h.elim
structure Fun (K:Fg) (x qual:Str) (st:Stmt) (f:Addr) (fd:FuncData):Prop where
 ex:∃ (oc:Value) (od:Option Addr) (kV doc pm:Value) (an:Option Addr) (cdv ct:Value) (osl:Array (Option Value)),
  fd=PySem.W.fnOf x qual (zo4 st) (zz1 st) (zf0 st) .none kV doc pm an cdv ct/\K.lookup f=some ⟨oc,od,.func fd,osl⟩/\PySem.W.codeIn K cdv qual=true
 kp:PySem.W.keepIn K (.ref f)=true
section
variable {P:Program} {w:World} {K:Fg} {mg:Str->Option Value} {base:Heap}
theorem Fun.ok {x qual:Str} {st:Stmt} {f:Addr} {fd:FuncData} {N ps:List Str} {k:Nat} {sp:Sp} (F:Fun K x qual st f fd) (S:FnScope N ps (zf0 st)) (len:∀ vs H Q E,sp vs H Q E->vs.length=ps.length)
  (hbody:∀ (cdv:Value) (A:Around) (outer:List Env) (s:Shared) (H:Hp) (vs:List V) (Q:VK) (E:XK),Room k (A.deeper (envOfC qual (zf0 st) s.heap.objs.size f cdv))->sp vs H Q E ->
   ∃ t,PSs (cxOf CX0 P w K mg base N qual (zf0 st) f cdv A outer s H E).nox (zz1 st) t/\t { nx:=λ _ H'=>Q .non H',rt:=Q } (start N vs) H):FnOk P w K mg base CX0 (k+1) f fd ps sp:=by
 obtain ⟨oc,od,kV,doc,pm,an,cdv,ct,osl,rfl,lk,hcd⟩:=F.ex
 refine za71 lk hcd S len λ A outer s H vs Q E hr hsp=>?_
 obtain ⟨t,h,q⟩:=hbody cdv A outer s H vs Q E hr hsp
 exact ⟨t,h.nox,q⟩
theorem Fun.binds {x qual:Str} {st:Stmt} {f:Addr} {fd:FuncData} {ps:List Str} (F:Fun K x qual st f fd)
  (h:∀ (kV doc pm:Value) (an:Option Addr) (cdv ct:Value) (us:List Value),us.length=ps.length->bindArgs (PySem.W.fnOf x qual (zo4 st) (zz1 st) (zf0 st) .none kV doc pm an cdv ct) ⟨us,[]⟩=pure (ps.zip us)):Binds K fd ps []:=by
 obtain ⟨oc,od,kV,doc,pm,an,cdv,ct,osl,rfl,lk,hcd⟩:=F.ex
 exact .all (h kV doc pm an cdv ct)
theorem zxs {x qual:Str} {st:Stmt} {f:Addr} {oc:Value} {od an:Option Addr} {osl:Array (Option Value)} {kV doc pm cdv ct:Value} (l:K.lookup f=some ⟨oc,od,.func (PySem.W.fnOf x qual (zo4 st) (zz1 st) (zf0 st) .none kV doc pm an cdv ct),osl⟩)
  (c:PySem.W.codeIn K cdv qual=true) (k:PySem.W.keepIn K (.ref f)=true):Fun K x qual st f (PySem.W.fnOf x qual (zo4 st) (zz1 st) (zf0 st) .none kV doc pm an cdv ct):=⟨⟨oc,od,kV,doc,pm,an,cdv,ct,osl,rfl,l,c⟩,k⟩
end
section
variable {X:Cx}
theorem pv (i:Nat) {x:Str} {pos:Pos} (hN:X.N[i]?=some x:=by rfl) (hv:Vis X.env.scope x:=by first|exact Or.inl rfl|exact w9 (Or.inl rfl)|exact w9 (w9 rfl)) (hd:(x == ("__debug__":Str))=false:=by decide)
  (hcd:(x == ("__classdict__":Str))=false:=by decide):PE X (.Name x pos) (tVar i):=za01 hN hv hd hcd
end
noncomputable def Same (H H':Hp):Prop:=∀ b o,H b=some o->H' b=some o
theorem Same.trans {H H1 H2:Hp} (a:Same H H1) (b:Same H1 H2):Same H H2:=λ c o h=>b c o (a c o h)
theorem Same.seq {K:Fg} {H H':Hp} {a:Addr} {xs:List V} (e:Same H H') (h:SqL K H a xs):SqL K H' a xs:=by
 rcases h with (h|⟨o,h⟩)|h
 ·exact .inl (.inl (e _ _ h))
 ·exact .inl (.inr ⟨o,e _ _ h⟩)
 ·exact .inr h
end _2
namespace _3
open PySem PySem.Spec PyProof.Rows _2
noncomputable abbrev St:=_2.St
noncomputable def zh3 (env:Env):List (Str×NameKind)->List (Str×Addr)->List (Str×Addr)
|[],cs=>cs
|(n,k) :: r,cs=>zh3 env r (if k == .free then (match env.cells.lookup n with|some c=>(n,c) :: cs|none=>cs) else cs)
theorem zf7 {env:Env}:∀ (names:List (Str×NameKind)) (cs:List (Str×Addr)),(∀ y∈names,y.2=.free->∃ c,env.cells.lookup y.1=some c) ->
  (forIn names cs (λ (x:Str×NameKind) (r:List (Str×Addr))=>(match x with|(name,kind)=>if kind == .free then do let c <- cellOf env name;pure (ForInStep.yield ((name,c) :: r)) else pure (ForInStep.yield r):Sem (ForInStep (List (Str×Addr))))):Sem (List (Str×Addr)))=pure (zh3 env names cs)
|[],cs,_=>rfl
|(n,k) :: r,cs,h=>by
  rw [xN]
  by_cases hk:k=.free
  ·subst hk
   obtain ⟨c,hc⟩:=h (n,.free) vN rfl
   have hc':env.cells.lookup n=some c:=hc
   have e1:cellOf env n=pure c:=by unfold cellOf;rw [hc']
   simp only [beq_self_eq_true,if_true,e1]
   have:=zf7 r ((n,c) :: cs) λ y hy=>h y (u9 _ hy)
   unfold zh3
   simp only [beq_self_eq_true,if_true,hc']
   exact this
  ·have hb:(k == NameKind.free)=false:=by simpa using hk
   simp only [hb,wM,if_false]
   have:=zf7 r cs λ y hy=>h y (u9 _ hy)
   unfold zh3
   simp only [hb,wM,if_false]
   exact this
theorem zmb {env:Env} {scope:Scope} (h:∀ y∈scope.names,y.2=.free->∃ c,env.cells.lookup y.1=some c):closureFor scope env=pure (zh3 env scope.names []):=by
 unfold closureFor
 show (forIn scope.names [] _ >>= λ cs=>pure cs)=_
 rw [zf7 scope.names [] h]
 rfl
theorem zta {env:Env} {x:Str} {c:Addr}:∀ (names:List (Str×NameKind)) (cs:List (Str×Addr)),(∀ x c,cs.lookup x=some c->env.cells.lookup x=some c)->(zh3 env names cs).lookup x=some c->env.cells.lookup x=some c
|[],cs,h,e=>h x c e
|(n,k) :: r,cs,h,e=>by
  unfold zh3 at e
  refine zta r _ (λ y d q=>?_) e
  split at q
  ·split at q
   ·rename_i c' hc'
    rw [u4] at q
    split at q
    ·rename_i hy
     cases q
     rw [beq_iff_eq.mp hy];exact hc'
    ·exact h y d q
   ·exact h y d q
  ·exact h y d q
theorem zd9 {env:Env} {x:Str}:∀ (names:List (Str×NameKind)) (cs:List (Str×Addr)),(∃ c,cs.lookup x=some c)->∃ c,(zh3 env names cs).lookup x=some c
|[],cs,h=>h
|(n,k) :: r,cs,⟨c,h⟩=>by
  unfold zh3
  refine zd9 r _ ?_
  split
  ·split
   ·rename_i c' hc'
    rw [u4]
    split
    ·exact ⟨_,rfl⟩
    ·exact ⟨c,h⟩
   ·exact ⟨c,h⟩
  ·exact ⟨c,h⟩
theorem zh7 {env:Env} {x:Str}:∀ (names:List (Str×NameKind)) (cs:List (Str×Addr)),(x,NameKind.free)∈names->(∃ c,env.cells.lookup x=some c)->∃ c,(zh3 env names cs).lookup x=some c
|[],cs,h,_=>nomatch h
|(n,k) :: r,cs,h,⟨c,hc⟩=>by
  rcases uD.mp h with e|h
  ·cases e
   unfold zh3
   simp only [beq_self_eq_true,if_true,hc]
   exact zd9 r _ ⟨c,by simp [u4]⟩
  ·unfold zh3
   exact zh7 r _ h ⟨c,hc⟩
theorem zw9 {env:Env} {x:Str} {c:Addr}:∀ (names:List (Str×NameKind)) (cs:List (Str×Addr)),(zh3 env names cs).lookup x=some c->(x,NameKind.free)∈names \/ cs.lookup x=some c
|[],cs,e=>.inr e
|(n,k) :: r,cs,e=>by
  unfold zh3 at e
  rcases zw9 r _ e with q|q
  ·exact .inl (u9 _ q)
  ·split at q
   ·rename_i hk
    split at q
    ·rw [u4] at q
     split at q
     ·rename_i hy
      rw [beq_iff_eq.mp hy,<- beq_iff_eq.mp hk];exact .inl vN
     ·exact .inr q
    ·exact .inr q
   ·exact .inr q
theorem zbt {x:Str} {c:Addr}:∀ (names:List (Str×NameKind)) (n:Nat) (acc:List (Str×Addr)),(cellsFrom n names acc).lookup x=some c->acc.lookup x=some c \/ ((x,NameKind.cell)∈names/\n<=c)
|[],_,_,e=>.inl e
|(y,k) :: r,n,acc,e=>by
  unfold cellsFrom at e
  split at e
  ·rename_i hk
   rcases zbt r (n+1) _ e with q|q
   ·rw [u4] at q
    split at q
    ·rename_i hy
     cases q
     rw [beq_iff_eq.mp hy,<- beq_iff_eq.mp hk]
     exact .inr ⟨vN,uG _⟩
    ·exact .inl q
   ·exact .inr ⟨u9 _ q.1,xO q.2⟩
  ·rcases zbt r n _ e with q|q
   ·exact .inl q
   ·exact .inr ⟨u9 _ q.1,q.2⟩
theorem zyp {x:Str}:∀ (names:List (Str×NameKind)) (n:Nat) (acc:List (Str×Addr)),(x,NameKind.cell) ∉ names->(cellsFrom n names acc).lookup x=acc.lookup x
|[],_,_,_=>rfl
|(y,k) :: r,n,acc,h=>by
  unfold cellsFrom
  split
  ·rename_i hk
   rw [zyp r _ _ λ z=>h (u9 _ z),u4]
   have:(x == y)=false:=by
    refine beq_eq_false_iff_ne.mpr λ e=>h ?_
    rw [e,<- beq_iff_eq.mp hk];exact vN
   rw [this]
  ·exact zyp r _ _ λ z=>h (u9 _ z)
theorem zpo:∀ (names:List (Str×NameKind)) (n:Nat) (acc:List (Str×Addr)),(∀ x c,acc.lookup x=some c->c < n)->(∀ x y c,acc.lookup x=some c->acc.lookup y=some c->x=y) ->
  ∀ x y c,(cellsFrom n names acc).lookup x=some c->(cellsFrom n names acc).lookup y=some c->x=y
|[],_,_,_,h=>h
|(z,k) :: r,n,acc,hb,h=>by
  unfold cellsFrom
  split
  ·refine zpo r (n+1) _ (λ x c e=>?_) λ x y c e1 e2=>?_
   ·rw [u4] at e
    split at e
    ·cases e;exact xI _
    ·exact xA (hb x c e)
   ·rw [u4] at e1 e2
    by_cases a:(x == z)=true <;> by_cases b:(y == z)=true
    ·rw [beq_iff_eq.mp a,beq_iff_eq.mp b]
    ·rw [a] at e1;rw [yV] at b;rw [b] at e2
     cases e1;exact absurd (hb _ _ e2) (vP _)
    ·rw [b] at e2;rw [yV] at a;rw [a] at e1
     cases e2;exact absurd (hb _ _ e1) (vP _)
    ·rw [yV] at a b;rw [a] at e1;rw [b] at e2
     exact h x y c e1 e2
  ·exact zpo r n acc hb h
theorem zvh:∀ (names:List (Str×NameKind)) (h:Heap) (acc:List (Str×Addr)),(∀ x c,acc.lookup x=some c->∃ v,h.IsCell c v) ->
  ∀ x c,(cellsFrom h.objs.size names acc).lookup x=some c->∃ v,(pushCells h names).IsCell c v
|[],_,_,p=>p
|(y,k) :: r,h,acc,p=>by
  unfold cellsFrom pushCells
  split
  ·have q:=zvh r (h.push { cls:=.type "cell",data:=.cell none }) ((y,h.objs.size) :: acc) (by
    intro x c e
    rw [u4] at e
    split at e
    ·cases e;exact ⟨none,_,uT _ rfl,rfl⟩
    ·obtain ⟨v,z⟩:=p x c e
     exact ⟨v,z.keeps λ b o e=>uH _ e⟩)
   rwa [vE] at q
  ·exact zvh r h acc p
theorem zsd {x:Str} {k k':NameKind}:∀ {names:List (Str×NameKind)},(names.map (·.1)).Nodup->(x,k)∈names->(x,k')∈names->k=k'
|(y,j) :: r,h,a,b=>by
  obtain ⟨h1,h2⟩:=uQ.mp h
  rcases uD.mp a with e|a' <;> rcases uD.mp b with e'|b'
  ·cases e;cases e';rfl
  ·cases e;exact (h1 (uL.mpr ⟨_,b',rfl⟩)).elim
  ·cases e';exact (h1 (uL.mpr ⟨_,a',rfl⟩)).elim
  ·exact zsd h2 a' b'
theorem zvb {M:Model} {A:Around} {E:Value->Shared->Prop} {s:Shared} {scope:Scope} {globals:Addr} {cl:List (Str×Addr)} {qual:Str} {env:Env} {Q:Env->Shared->Prop}
  (h:Q { scope,locals:=s.heap.objs.size,globals,cells:=cellsFrom (s.heap.objs.size+1) scope.names cl,qual,func:=none,code:=env.code,frame:=env.frame,builtins:=env.builtins } { s with heap:=pushCells (s.heap.push { cls:=.type "dict",data:=.dict #[] }) scope.names }) :
  wpAny M A (newFunctionEnv scope globals cl [] qual none .none (some env)) Q E s:=by
 simp only [newFunctionEnv,zJ,if_true]
 refine wpAny_bind (wpAny_alloc ?_)
 refine wpAny_bind (wpAny_layCells _ (λ name kind cells=>by cases hkc:kind == NameKind.cell <;> simp [hkc]) _ _ _ _ ?_)
 rw [show ({ s with heap:=s.heap.push { cls:=.type "dict",data:=.dict #[] } }:Shared).heap.objs.size=s.heap.objs.size+1 from vE ..]
 rw [xP]
 exact wpAny_bind (wpAny_pure (wpAny_pure h))
section
variable {prog:Program} {w:World} {A:Around} {R:Result->Shared->Prop} {s:Shared}
theorem zxd {elt target iter:Expr} {ifs:List Expr} {scope:Scope} {pos:Pos} {it acc:Value} {env:Env} (I:Nat->Shared->Prop)
  (turn:∀ n s,I n s->wpAny (model prog w) A (pyNext it) (λ r s₁=>match r with
  |none=>R (.ok .next) s₁
  |some v=>wpAny (model prog w) A (letOwnedTupleGo target it v) (λ _ s₁'=>wpAny (model prog w) A (assign target env v) (λ _ s₂ =>
     wpAny (model prog w) A (forIn ifs true λ c r=>if r=true then do let ok <- isTrue c env (eval c env);pure (ForInStep.yield ok) else pure (ForInStep.yield r)) (λ ok s₃ =>
      if ok=true then wpAny (model prog w) A (eval elt env) (λ x s₄ =>
       wpAny (model prog w) A (call (.builtin "list.append") [acc,x]) (λ _ s₅=>∃ m,m < n/\I m s₅) (notedBy (model prog w) A env λ e s'=>R (.error e) s') s₄) (notedBy (model prog w) A env λ e s'=>R (.error e) s') s₃
      else ∃ m,m < n/\I m s₃) (notedBy (model prog w) A env λ e s'=>R (.error e) s') s₂) (notedBy (model prog w) A env λ e s'=>R (.error e) s') s₁') (notedBy (model prog w) A env λ e s'=>R (.error e) s') s₁) (notedBy (model prog w) A env λ e s'=>R (.error e) s') s)
  (n:Nat) (h:I n s) :
  codeAny (model prog w) A (.compLoop (.ListComp elt [⟨target,iter,ifs,0⟩] scope pos) 0 it acc env) R s:=by
 refine codeAny_loop rfl I (λ n s hI=>?_) n h
 show wpAny _ A ((compTurn (.ListComp elt [⟨target,iter,ifs,0⟩] scope pos) 0 it acc env).onRaise (λ x=>do noteFrame x env;theTreesLotGoes x)) _ _ s
 refine wpAny_noted ?_
 rw [compTurn_list]
 refine wpAny_bind (wpAny_standAt (wpAny_bind (wpAny_mono (turn n s hI) (λ r s₁ h₁=>?_) λ _ _ h'=>h')))
 cases r with
|none=>exact wpAny_pure h₁
|some v =>
  refine wpAny_bind (wpAny_mono h₁ (λ _ s₁' h₁'=>?_) λ _ _ h'=>h')
  refine wpAny_bind (wpAny_mono h₁' (λ _ s₂ h₂=>wpAny_bind (wpAny_mono h₂ (λ ok s₃ h₃=>?_) λ _ _ h'=>h')) λ _ _ h'=>h')
  cases ok with
 |false=>exact wpAny_pure ⟨rfl,h₃⟩
 |true =>
   exact wpAny_bind (wpAny_bind (wpAny_mono h₃ (λ x s₄ h₄=>wpAny_bind (wpAny_mono h₄ (λ _ s₅ h₅=>wpAny_pure (wpAny_pure ⟨rfl,h₅⟩)) λ _ _ h'=>h')) λ _ _ h'=>h'))
end
noncomputable abbrev zkk (X:Cx) (scope:Scope) (C:Addr):List (Str×Addr):=cellsFrom (C+1) scope.names (zh3 X.env scope.names [])
noncomputable def zx3 (X:Cx) (scope:Scope) (N:List Str) (s₀:Shared) (H₀:Hp) (C:Addr) (fp:List Addr):Cx where
 prog:=X.prog
 w:=X.w
 K:=X.K
 mg:=X.mg
 base:=X.base
 A:=X.A
 N:=N
 s₀:=s₀
 H₀:=H₀
 env:=compEnvC scope (zkk X scope C) C X.env
 outer:=X.stack
 stack:=X.stack
 ex:=fp
 fn:=λ x=>decide (scope.names.lookup x=some .cell)
 calm:=X.calm
 pn:=[]
 xe:=λ _ _=>False
def zbb (N:List Str) (own:List Str) (ix:List Nat):List Str:=own++ix.map λ i=>N.getD i ""
noncomputable def compY (n:Nat) (ix:List Nat) (Y:St):St:=uN n none++ix.map λ i=>Y.getD i none
structure CompSc (sc:Scope) (N own:List Str) (ix:List Nat) (scope:Scope):Prop where
 kind:scope.kind=.function
 cell:(scope.names.map (·.1)).Nodup
 names:∀ y∈scope.names,y.2=.local->scope.names.lookup y.1=some .local
 free:∀ y∈scope.names,y.2=.free->sc.names.lookup y.1=some .cell \/ sc.names.lookup y.1=some .free
 caps:∀ i∈ix,i < N.length/\scope.names.lookup (N.getD i "")≠some .local/\scope.names.lookup (N.getD i "")≠some .cell
theorem zf8 {env : Env} {x : Str} : ∀ (names : List (Str × NameKind)),
    ((names.map fun (n, k) => if (k == NameKind.free && env.scope.kind == .function && env.kindOf n == some .cell) then (n, NameKind.cell) else (n, k)).lookup x = some .cell ∨
     (names.map fun (n, k) => if (k == NameKind.free && env.scope.kind == .function && env.kindOf n == some .cell) then (n, NameKind.cell) else (n, k)).lookup x = some .free) → names.lookup x = some .free ∨ names.lookup x = some .cell
  | [], h => by rcases h with h | h <;> cases h
  | (n, k) :: r, h => by
    have ih := zf8 (env := env) (x := x) r
    rw [uK] at h
    by_cases hx : (x == n) = true
    · rw [u4, hx]
      dsimp only at h ⊢
      by_cases hcc : (k == NameKind.free && env.scope.kind == .function && env.kindOf n == some .cell) = true
      · have : k = .free := by
          have := (zK.mp (zK.mp hcc).1).1
          exact beq_iff_eq.mp this
        rw [this]; exact .inl rfl
      · rw [if_neg hcc, u4, hx] at h
        exact h.symm
    · have hx' : (x == n) = false := by simpa using hx
      rw [u4, hx']
      refine ih ?_
      by_cases hcc : (k == NameKind.free && env.scope.kind == .function && env.kindOf n == some .cell) = true
      · simp only [hcc, if_true] at h
        rw [u4, hx'] at h
        exact h
      · simp only [hcc, wM, if_false] at h
        rw [u4, hx'] at h
        exact h
section
variable {X:Cx} {pins:List (Addr×Obj)} {Y:St} {H H':Hp} {s:Shared}
theorem zeq {scope:Scope} {own:List Str} {ix:List Nat} {fp:List Addr} {h₁:Heap} {m:Str->Option Value} {t':Nat} (I:Inv X pins Y H s) (S:CompSc X.env.scope X.N own ix scope)
  (hns:h₁.Ns s.heap.objs.size m) (kc:∀ x c,(zkk X scope s.heap.objs.size).lookup x=some c->∃ v,h₁.IsCell c v) (k:∀ b o,s.heap.get? b=some o->h₁.get? b=some o) (hf:∀ b∈fp,FpOk X pins H b) (hfo:∀ b∈fp,b < s.heap.objs.size) :
  Inv (zx3 X scope (zbb X.N own ix) s H s.heap.objs.size fp) [] (compY own.length ix Y) H { s with heap:=h₁,toks:=t' }:=by
 have hcl:∀ x c,(zh3 X.env scope.names []).lookup x=some c->X.env.cells.lookup x=some c:=λ x c e=>zta scope.names [] (λ _ _ q=>by cases q) e
 have hcl2:∀ x c,(zkk X scope s.heap.objs.size).lookup x=some c->X.env.cells.lookup x=some c \/ s.heap.objs.size+1<=c:=λ x c e=>(zbt _ _ _ e).imp (hcl x c) And.right
 have hfree:∀ x,((relabel scope X.env).names.lookup x=some .cell \/ (relabel scope X.env).names.lookup x=some .free)->scope.names.lookup x=some .free \/ scope.names.lookup x=some .cell:=λ x hx=>zf8 scope.names hx
 have hX:∀ x,scope.names.lookup x=some .free->X.env.kindOf x=some .cell \/ X.env.kindOf x=some .free:=λ x hx=>S.free (x,.free) (PySem.mem_of_lookup hx) rfl
 refine ⟨⟨I.ok.mod,S.kind,I.ok.glob,I.ok.blt,uG _,zpo _ _ _ (λ x c e=>?_) (λ x y c e1 e2=>I.ok.inj x y c (hcl x c e1) (hcl y c e2)),λ x hx=>?_,λ x c z e=>?_,I.ok.hd,I.ok.frames,.inl rfl,λ b hb=>?_,I.bs,vQ I.ok.bsz I.sz,λ b o e hb=>?_,λ b hb hs=>?_,I.stack,I.stkFree⟩,
  rfl,I.bare,Un.kept k,⟨m,hns,λ i x v e1 e2 e3=>?_⟩,kc,I.hok.fresh (uG _),λ x c e=>(hcl2 x c e).elim (I.freeC x c) (λ z=>I.hok.fresh (xO z)),λ p hp=>absurd (show p∈([]:List (Addr×Obj)) from hp) (by simp),I.hok.kept k,?_⟩
 ·obtain ⟨v,z⟩:=I.cell x c (hcl x c e)
  exact xA z.lt
 ·refine v9.mp (PySem.W.cellsFrom_some _ _ _ ?_)
  rcases hfree x hx with hx1|hx1
  ·exact .inr (v9.mpr (zh7 scope.names [] (PySem.mem_of_lookup hx1) (I.ok.has x (hX x hx1))))
  ·exact .inl hx1
 ·rcases zbt _ _ _ e with q|q
  ·rcases zw9 _ _ q with q|q
   ·have:=zsd S.cell (PySem.mem_of_lookup (of_decide_eq_true z)) q
    cases this
   ·cases q
  ·exact xO q.2
 ·exact ⟨u3 (hfo b hb),λ x c e=>(hcl2 x c e).elim ((hf b hb).2.2.2.2.1 x c) λ z e2=>absurd (vH (hfo b hb) (xO (e2 ▸ z))) (vP _)⟩
 ·rcases (hf b hb).2.2.2.1 with z|z
  ·exact I.ok.noex b o e z
  ·exact absurd (vH (uO e) (vQ I.ok.bsz z)) (vP _)
 ·rcases uD.mp (I.stkSub b hs) with z|z
  ·exact (hf b hb).2.1 z
  ·exact (hf b hb).2.2.1 z
 ·-- a captured name
  have e2':(uN own.length (none:Option V)++ix.map λ i=>Y.getD i none)[i]?=some (some v):=e2
  have e1':(own++ix.map λ i=>X.N.getD i "")[i]?=some x:=e1
  by_cases hi:i < own.length
  ·rw [u6 (by simpa using hi),vT] at e2'
   split at e2' <;> cases e2'
  ·have hi':own.length<=i:=Nat.le_of_not_lt hi
   rw [u7 (by simpa using hi'),wL,uI] at e2'
   rw [u7 hi',uI] at e1'
   cases hq:ix[i - own.length]? with
  |none=>rw [hq] at e2';cases e2'
  |some q =>
    rw [hq] at e1' e2'
    have ex:X.N.getD q ""=x:=u8.inj e1'
    have ev:Y.getD q none=some v:=u8.inj e2'
    obtain ⟨hql,hnl⟩:=S.caps q (vM hq)
    rw [ex] at hnl
    have hnc:=hnl.2
    replace hnl:=hnl.1
    have e3':(relabel scope X.env).names.lookup x=some .local \/ (relabel scope X.env).names.lookup x=some .cell \/ (relabel scope X.env).names.lookup x=some .free:=e3
    have hcf:(relabel scope X.env).names.lookup x=some .cell \/ (relabel scope X.env).names.lookup x=some .free:=by
     rcases e3' with z|z
     ·exfalso
      cases hs:scope.names.lookup x with
     |none =>
       have:∀ (names:List (Str×NameKind)),names.lookup x=none->(names.map λ (n,k)=>if (k == NameKind.free && X.env.scope.kind == .function && X.env.kindOf n == some .cell) then (n,NameKind.cell) else (n,k)).lookup x=none:=by
        intro names
        induction names with
       |nil=>intro _;rfl
       |cons y r ih =>
         obtain ⟨n,kk⟩:=y
         intro hh
         rw [u4] at hh
         by_cases hxn:(x == n)=true
         ·rw [hxn] at hh;cases hh
         ·have hx':(x == n)=false:=by simpa using hxn
          rw [hx'] at hh
          rw [uK]
          by_cases hcc:(kk == NameKind.free && X.env.scope.kind == .function && X.env.kindOf n == some .cell)=true
          ·simp only [hcc,if_true];rw [u4,hx'];exact ih hh
          ·simp only [hcc,wM,if_false];rw [u4,hx'];exact ih hh
       have q0:=this scope.names hs
       have z':(scope.names.map λ (n,k)=>if (k == NameKind.free && X.env.scope.kind == .function && X.env.kindOf n == some .cell) then (n,NameKind.cell) else (n,k)).lookup x=some .local:=z
       rw [q0] at z';cases z'
     |some kk =>
       have:∀ (names:List (Str×NameKind)),names.lookup x=some kk->(names.map λ (n,k)=>if (k == NameKind.free && X.env.scope.kind == .function && X.env.kindOf n == some .cell) then (n,NameKind.cell) else (n,k)).lookup x=some .local->kk=.local:=by
        intro names
        induction names with
       |nil=>intro h;cases h
       |cons y r ih =>
         obtain ⟨n,k2⟩:=y
         intro hh hz
         rw [u4] at hh
         rw [uK] at hz
         by_cases hxn:(x == n)=true
         ·rw [hxn] at hh
          have hk2:k2=kk:=u8.inj hh
          by_cases hcc:(k2 == NameKind.free && X.env.scope.kind == .function && X.env.kindOf n == some .cell)=true
          ·simp only [hcc,if_true] at hz;rw [u4,hxn] at hz;cases hz
          ·simp only [hcc,wM,if_false] at hz;rw [u4,hxn] at hz
           rw [<- hk2];exact u8.inj hz
         ·have hx':(x == n)=false:=by simpa using hxn
          rw [hx'] at hh
          by_cases hcc:(k2 == NameKind.free && X.env.scope.kind == .function && X.env.kindOf n == some .cell)=true
          ·simp only [hcc,if_true] at hz;rw [u4,hx'] at hz;exact ih hh hz
          ·simp only [hcc,wM,if_false] at hz;rw [u4,hx'] at hz;exact ih hh hz
       have:=this scope.names hs z
       rw [this] at hs
       exact hnl hs
     ·exact z
    have hfr:=(hfree x hcf).resolve_right hnc
    have hkX:=hX x hfr
    obtain ⟨mX,hnX,hlX⟩:=I.loc
    have eN:X.N[q]?=some x:=by
     rw [<- ex,uR]
     rw [uC hql];rfl
    have eY:Y[q]?=some (some v):=by
     rw [uR] at ev
     cases hs:Y[q]? with
    |none=>rw [hs] at ev;cases ev
    |some o=>rw [hs] at ev;exact congrArg some ev
    obtain ⟨u,r,l⟩:=hlX q x v eN eY (.inr hkX)
    refine ⟨u,r,.inr ⟨hcf,?_⟩⟩
    rcases l with ⟨hk,_⟩|⟨_,c,ec,hcell⟩
    ·exfalso
     rcases hkX with z|z
     ·rw [hk] at z;cases z
     ·rw [hk] at z;cases z
    ·obtain ⟨c',ec'⟩:=zh7 scope.names [] (PySem.mem_of_lookup hfr) ⟨c,ec⟩
     have:=hcl x c' ec'
     rw [ec] at this
     cases this
     exact ⟨c,(zyp _ _ _ λ z=>by cases zsd S.cell z (PySem.mem_of_lookup hfr)).trans ec',hcell.keeps k⟩
 ·show (compY own.length ix Y).length=(zbb X.N own ix).length
  unfold compY zbb
  simp
theorem zgi {scope:Scope} {N:List Str} {pins':List (Addr×Obj)} {Y':St} {fp:List Addr} {s':Shared} {h'':Heap} (I:Inv X pins Y H s) (hf:∀ b∈fp,FpOk X pins H b)
  (I':Inv (zx3 X scope N s H s.heap.objs.size fp) pins' Y' H' s') (sb:Heap.SameBut s.heap.objs.size s'.heap h''):Inv X pins Y H' { s' with heap:=h'' }:=by
 have ext:∀ b o,b≠s.heap.objs.size->s'.heap.get? b=some o->h''.get? b=some o:=λ b o nb e=>by rw [sb.2 b nb];exact e
 have old:∀ b o,s.heap.get? b=some o->b≠s.heap.objs.size:=λ b o e=>u3 (uO e)
 have u:=I'.base
 refine I.call' (ch:=fp) I'.os ⟨λ b o e n hb hx=>ext b o (old b o e) (u.keep b o e n hb hx),λ b o e n hb hx=>?_,u.free,λ b o e hx=>?_,u.tups,u.frzs,u.tbls⟩ (λ b ob e=>?_) I'.bare λ b hb=>⟨(hf b hb).2.2.2.1,(hf b hb).2.1,(hf b hb).2.2.2.2.1,(hf b hb).2.2.2.2.2⟩
 ·obtain ⟨sl,q⟩:=u.slot b o e n hb hx
  exact ⟨sl,ext b _ (old b o e) q⟩
 ·obtain ⟨o',q⟩:=u.there b o e hx
  exact ⟨o',ext b _ (old b o e) q⟩
 ·have nC:∀ c v,H' c=some v->c≠s.heap.objs.size:=λ c v q z=>by
   have:=I'.free
   rw [z] at q
   have z2:H' s.heap.objs.size=none:=this
   rw [z2] at q;cases q
  refine (I'.hok b ob e).stay (λ c v hc q=>ext c v ?_ q) (λ _ q=>q) λ _ _ q=>q
  rcases hc with z|z
  ·rw [z];exact nC b ob e
  ·exact nC c _ z
end
noncomputable def zy51 (n:Nat) (ix:List Nat) (g:TG) (tt:TT) (te:TE) (Y:St) (J:It) (H1:Hp) (Q:VK):Prop:=∀ D,H1 D=none->∃ W:Nat->Nat->List V->St->Hp->Prop,(∃ m,W 0 m [] (compY n ix Y) (upd H1 D (.lst []))) /\
 ∀ i m acc Y' H',W i m acc Y' H'->(J.stop i H'/\Q (.ref D) H') \/ (J.go i H'/\∃ N:List V->St->Hp->Prop,(∀ acc' Y2 H2,N acc' Y2 H2->∃ m',m' < m/\W (i+1) m' acc' Y2 H2) /\
  ∀ x H2,J.yld i H' x H2->g x Y' H2 λ Y2 H3=>tt Y2 H3 λ b H4=>if b=true then te Y2 H4 λ y H5=>H5 D=some (.lst acc)/\acc.length < sizeLine/\N (acc++[y]) Y2 (upd H5 D (.lst (acc++[y]))) else N acc Y2 H4)
noncomputable def zgz (wi:TI) (n:Nat) (ix:List Nat) (g:TG) (tt:TT) (te:TE):TE:=λ Y H Q=>wi Y H λ J H1=>zy51 n ix g tt te Y J H1 Q
noncomputable def zq31:TT:=λ _ H Q=>Q true H
noncomputable def PIf (X:Cx) (ifs:List Expr) (t:TT):Prop :=
 ∀ (pins:List (Addr×Obj)) (s:Shared) (Y:St) (H:Hp) (Q:Bool->Hp->Prop),Inv X pins Y H s->t Y H Q ->
  wpAny (model X.prog X.w) X.A (forIn ifs true λ c r=>if r=true then do let ok <- isTrue c X.env (eval c X.env);pure (ForInStep.yield ok) else pure (ForInStep.yield r)) (TP X pins Y Q) X.xe s
theorem ze3 {X:Cx}:PIf X [] zq31:=λ pins s Y H Q I h=>wpAny_tests_nil ⟨H,I,h⟩
theorem zze {X:Cx} {c:Expr} {t:TT} (h:PT X c t):PIf X [c] t:=λ pins s Y H Q I q=>wpAny_tests_one (h pins s Y H Q I q)
section
variable {X:Cx} {tg iter elt:Expr} {ifs:List Expr} {scope:Scope} {pos:Pos} {own:List Str} {ix:List Nat} {wi:TI} {g:TG} {tt:TT} {te:TE} {sc:Scope} {N:List Str}
theorem znc {pins:List (Addr×Obj)} {Y:St} {s2:Shared} {itv:Value} {Q:VK} {RR:Value->Addr->Result->Shared->Prop} {E:Value->Shared->Prop} (hc:X.calm=true) (S:CompSc X.env.scope X.N own ix scope)
  (hb:∀ s₀ H₀ C fp,PG (zx3 X scope (zbb X.N own ix) s₀ H₀ C fp) tg g/\PIf (zx3 X scope (zbb X.N own ix) s₀ H₀ C fp) ifs tt/\PE (zx3 X scope (zbb X.N own ix) s₀ H₀ C fp) elt te)
  (h2:PIE X pins Y tg (λ J H1=>zy51 own.length ix g tt te Y J H1 Q) itv s2)
  (hR:∀ (D C:Addr) (m:Str->Option Value) (s':Shared) (H':Hp),s'.heap.Ns C m->C≠X.env.locals->(∀ x c,X.env.cells.lookup x=some c->c≠C)->H' C=none->(X.s₀.heap.objs.size<=C)->(∀ p∈X.pn++pins,p.1≠C) ->
   (∀ h'',Heap.SameBut C s'.heap h''->Inv X pins Y H' { s' with heap:=h'' })->Q (.ref D) H'->RR (.ref D) C (.ok .next) s') :
  wpAny (model X.prog X.w) X.A (newList []) (λ acc s₃=>wpAny (model X.prog X.w) X.A (newFunctionEnv scope X.env.globals (zh3 X.env scope.names []) [] X.env.qual none .none (some X.env)) (λ cenv s₄ =>
   codeAny (model X.prog X.w) X.A (.compStart (.ListComp elt [⟨tg,iter,ifs,0⟩] scope pos) 0 itv acc { cenv with scope:=relabel scope X.env }) (RR acc cenv.locals) s₄) E s₃) E s2:=by
 obtain ⟨it,fp,tn,J,H1,e,I2,T,st2,f2,h⟩:=h2
 subst e
 have hD:H1 s2.heap.objs.size=none:=I2.hok.fresh (uG _)
 obtain ⟨W,⟨m0,w0⟩,turn⟩:=h _ hD
 have hlt:∀ b∈fp,b < s2.heap.objs.size:=λ b hbf=>by obtain ⟨o,e,_⟩:=T.obj 0 _ st2 b hbf;exact uO e
 refine wpAny_newObj_type ?_
 -- the new list is tracked
 have I3:Inv X pins Y (upd H1 s2.heap.objs.size (.lst [])) { s2 with heap:=s2.heap.push { cls:=.type "list",dict:=none,data:=.seq ([]:List Value).toArray } }:=I2.lnew (ys:=[]) (its:=[]) .nil (vY _)
 generalize hs3:({ s2 with heap:=s2.heap.push { cls:=.type "list",dict:=none,data:=.seq ([]:List Value).toArray } }:Shared)=s3 at I3 ⊢
 have hsz:s3.heap.objs.size=s2.heap.objs.size+1:=by rw [<- hs3];exact vE ..
 have k3:∀ b o,s2.heap.get? b=some o->s3.heap.get? b=some o:=λ b o e=>by rw [<- hs3];exact uH _ e
 have neD:∀ b∈fp,b≠s2.heap.objs.size:=λ b hbf=>u3 (hlt b hbf)
 have f3:∀ b∈fp,FpOk X pins (upd H1 s2.heap.objs.size (.lst [])) b:=λ b hbf=>⟨by rw [zn0 (neD b hbf)];exact (f2 b hbf).1,(f2 b hbf).2⟩
 have hlt3:∀ b∈fp,b < s3.heap.objs.size:=λ b hbf=>by rw [hsz];exact xA (hlt b hbf)
 refine zvb ?_
 have hns₁:=(Heap.Ns.new s3.heap (.type "dict")).keeps (pushCells_keeps scope.names _)
 have k4:∀ b o,s3.heap.get? b=some o->(pushCells (s3.heap.push { cls:=.type "dict",data:=.dict #[] }) scope.names).get? b=some o:=λ b o e=>pushCells_keeps _ _ b o (uH _ e)
 have hcl:∀ x c,(zh3 X.env scope.names []).lookup x=some c->X.env.cells.lookup x=some c:=λ x c e=>zta scope.names [] (λ _ _ q=>by cases q) e
 have kc:=zvh scope.names (s3.heap.push { cls:=.type "dict",data:=.dict #[] }) (zh3 X.env scope.names []) (λ x c e=>by
  obtain ⟨v,z⟩:=I3.cell x c (hcl x c e)
  exact ⟨v,z.keeps λ b o e=>uH _ e⟩)
 rw [vE] at kc
 generalize pushCells (s3.heap.push { cls:=.type "dict",data:=.dict #[] }) scope.names=h₁ at hns₁ k4 kc ⊢
 have I4:=zeq (t':=s3.toks) I3 S hns₁ kc k4 f3 hlt3
 obtain ⟨hG,hT,hE⟩:=hb s3 (upd H1 s2.heap.objs.size (.lst [])) s3.heap.objs.size fp
 have fp':∀ {H':Hp},(∀ b∈fp,H' b=none)->∀ b∈fp,FpOk (zx3 X scope (zbb X.N own ix) s3 (upd H1 s2.heap.objs.size (.lst [])) s3.heap.objs.size fp) [] H' b:=λ {H'} hn b hbf=>by
  refine ⟨hn b hbf,u3 (hlt3 b hbf),?_,.inl hbf,λ x c e=>(zbt _ _ _ e).elim (λ q=>(f2 b hbf).2.2.2.2.1 x c (hcl x c q)) (λ q e2=>absurd (vH (hlt3 b hbf) (xO (e2 ▸ q.2))) (vP _)),λ p hp=>absurd (show p∈([]:List (Addr×Obj)) from hp) (by simp)⟩
  intro z
  rcases uD.mp (I3.stkSub b z) with z|z
  ·exact (f2 b hbf).2.1 z
  ·exact (f2 b hbf).2.2.1 z
 have st4:tn 0 h₁:=T.keep _ _ _ st2 λ b _ o e=>k4 b o (k3 b o e)
 have cne:∀ x c,X.env.cells.lookup x=some c->c≠s3.heap.objs.size:=λ x c e z=>by
  obtain ⟨v,q⟩:=I3.cell x c e
  exact absurd q.lt (by rw [z];exact vP _)
 have loop:codeAny (model X.prog X.w) X.A (.compLoop (.ListComp elt [⟨tg,iter,ifs,0⟩] scope pos) 0 (.ref it) (.ref s2.heap.objs.size) (compEnvC scope (zkk X scope s3.heap.objs.size) s3.heap.objs.size X.env)) (RR (.ref s2.heap.objs.size) s3.heap.objs.size) { s3 with heap:=h₁ }:=by
  refine zxd (λ n s'=>∃ i acc Y' H',Inv (zx3 X scope (zbb X.N own ix) s3 (upd H1 s2.heap.objs.size (.lst [])) s3.heap.objs.size fp) [] Y' H' s'/\tn i s'.heap/\(∀ b∈fp,H' b=none)/\W i n acc Y' H') ?_ m0 ⟨0,[],_,_,I4,st4,λ b hbf=>(f3 b hbf).1,w0⟩
  rintro n s5 ⟨i,acc,Y5,H5,I5,st5,fr5,w5⟩
  rcases turn i n acc Y5 H5 w5 with ⟨stop,qn⟩|⟨go,NN,hN,step⟩
  ·refine thn (T.done (zx3 X scope (zbb X.N own ix) s3 (upd H1 s2.heap.objs.size (.lst [])) s3.heap.objs.size fp) rfl rfl rfl hc i [] s5 Y5 H5 _ I5 (fp' fr5) st5 stop) λ r s6 ⟨hr,I6⟩=>?_
   subst hr
   obtain ⟨m6,hn6,_⟩:=I6.loc
   exact hR _ _ m6 s6 H5 hn6 (xX I3.lt) cne I6.free (I3.sz) (λ p hp z=>absurd (uO (I3.pin p hp).1) (by rw [z];exact vP _)) (λ h'' sb=>zgi I3 f3 I6 sb) qn
  ·refine thn (T.item (zx3 X scope (zbb X.N own ix) s3 (upd H1 s2.heap.objs.size (.lst [])) s3.heap.objs.size fp) rfl rfl rfl hc i [] s5 Y5 H5 _ I5 (fp' fr5) st5 go) λ r s6 ⟨u,hr,h6⟩=>?_
   subst hr
   refine thn h6 λ _ s7 ⟨x,H7,I7,r7,y7,st7,fr7⟩=>?_
   have I7':=I7.pinned (fp' fr7) (T.obj _ _ st7)
   have noE:∀ {α:Type} {t:Sem α} {Q1:α->Shared->Prop} {E1:Value->Shared->Prop} {sx:Shared},wpAny (model X.prog X.w) X.A t Q1 (λ _ _=>False) sx->wpAny (model X.prog X.w) X.A t Q1 E1 sx:=λ q=>wpAny_noRaise q
   refine noE (thn (hG _ s7 Y5 H7 x u _ I7' r7 (step x H7 y7)) λ _ s8 ⟨Y8,H8,I8,q8⟩=>?_)
   refine noE (thn (hT _ s8 Y8 H8 _ I8 q8) λ b s9 ⟨H9,I9,q9⟩=>?_)
   have again:∀ {Yz:St} {Hz:Hp} {sz:Shared} {accz:List V},Inv (zx3 X scope (zbb X.N own ix) s3 (upd H1 s2.heap.objs.size (.lst [])) s3.heap.objs.size fp) ([]++zih fp s7.heap) Yz Hz sz->NN accz Yz Hz->∃ m,m < n/\∃ i acc Y' H',Inv (zx3 X scope (zbb X.N own ix) s3 (upd H1 s2.heap.objs.size (.lst [])) s3.heap.objs.size fp) [] Y' H' sz/\tn i sz.heap/\(∀ b∈fp,H' b=none)/\W i m acc Y' H':=λ {Yz Hz sz accz} Iz nz=>by
    obtain ⟨m',hm,wz⟩:=hN accz Yz Hz nz
    refine ⟨m',hm,i+1,accz,Yz,Hz,Iz.unpinned,T.keep _ _ _ st7 λ b hbf o e=>(Iz.pin (b,o) (vW _ (vW _ (zt5 hbf e)))).1,λ b hbf=>?_,wz⟩
    obtain ⟨o,e,d⟩:=T.obj _ _ st7 b hbf
    exact (Iz.pin (b,o) (vW _ (vW _ (zt5 hbf e)))).2.1
   cases b with
  |false =>
    have q9':NN acc Y8 H9:=by simpa using q9
    simp only [wM,if_false]
    exact again I9 q9'
  |true =>
    have q9':te Y8 H9 λ y H5=>H5 s2.heap.objs.size=some (.lst acc)/\acc.length < sizeLine/\NN (acc++[y]) Y8 (upd H5 s2.heap.objs.size (.lst (acc++[y]))):=by simpa using q9
    simp only [if_true]
    refine noE (thn (hE _ s9 Y8 H9 _ I9 q9') λ y s10 ⟨yv,H10,I10,r10,hl,hz,q10⟩=>?_)
    refine noE (thn (zf1 _ s10 Y8 H10 (.ref s2.heap.objs.size) [yv] (.ref s2.heap.objs.size) [y] (λ _ H'=>NN (acc++[yv]) Y8 H') I10 rfl (.cons r10 .nil) ⟨_,acc,yv,rfl,rfl,hl,hz,q10⟩) λ _ s11 ⟨_,H11,I11,_,q11⟩=>?_)
    exact again I11 q11
 exact codeAny_compStart_list loop (T.self X.A 0 _ _ _ st4 loop)
theorem zw3 (hc:X.calm=true) (hsc:X.env.scope=sc) (hN:X.N=N) (S:CompSc sc N own ix scope) (hi:PI X tg iter wi)
  (hb:∀ s₀ H₀ C fp,PG (zx3 X scope (zbb N own ix) s₀ H₀ C fp) tg g/\PIf (zx3 X scope (zbb N own ix) s₀ H₀ C fp) ifs tt/\PE (zx3 X scope (zbb N own ix) s₀ H₀ C fp) elt te)
  (hs:∀ x,foldedSetIterable iter X.env x=pure x:=by intro _;rfl):PE X (.ListComp elt [⟨tg,iter,ifs,0⟩] scope pos) (zgz wi own.length ix g tt te):=by
 subst hsc hN
 intro pins s Y H Q I h
 rw [eval_ListComp]
 refine wpAny_comprehension_free (use:=none) (g:=⟨tg,iter,ifs,0⟩) (gs:=[]) rfl hs (zmb λ y hy hf=>I.ok.has y.1 (S.free y hy hf)) S.kind S.names ?_
 show wpAny _ _ (eval iter X.env) _ _ _
 refine thn (hi pins s Y H _ I h) λ v s1 h1=>thn h1 λ itv s2 h2=>?_
 refine znc (Q:=Q) (RR:=λ acc C=>compPost (model X.prog X.w) X.A X.xe none (EP X pins Y Q) acc C) hc S hb h2 ?_
 intro D C m s' H' hns _ _ _ _ _ hI q
 exact ⟨m,hns,λ h'' sb=>⟨.ref D,H',hI h'' sb,rfl,q⟩⟩
theorem zy2 {i:Nat} {x:Str} {pos' pos2:Pos} (hc:X.calm=true) (hsc:X.env.scope=sc) (hN:X.N=N) (S:CompSc sc N own ix scope) (hnd:X.N.Nodup) (hxi:X.N[i]?=some x) (hx:X.env.scope.names.lookup x=some .local) (hi:PI X tg iter wi)
  (hb:∀ s₀ H₀ C fp,PG (zx3 X scope (zbb N own ix) s₀ H₀ C fp) tg g/\PIf (zx3 X scope (zbb N own ix) s₀ H₀ C fp) ifs tt/\PE (zx3 X scope (zbb N own ix) s₀ H₀ C fp) elt te)
  (hsw:swapsWith (.ListComp elt [⟨tg,iter,ifs,0⟩] scope pos) (some (.Name x pos')) pos2.line X.env=pure true:=by rfl)
  (hs:∀ x,foldedSetIterable iter X.env x=pure x:=by intro _;rfl):PS X (.Assign [.Name x pos'] (.ListComp elt [⟨tg,iter,ifs,0⟩] scope pos) pos2) (tAsg (zgz wi own.length ix g tt te) (zfj i)):=by
 subst hsc hN
 intro pins s Y H D I h
 rw [exec_Assign_Name_used _ _ _ _ hsw]
 refine wpAny_bind (wpAny_standAt (wpAny_bind ?_))
 show wpAny _ X.A (do let _ <- comprehension (.ListComp elt [⟨tg,iter,ifs,0⟩] scope pos) scope X.env _ (newList []) false (eval iter X.env) (some (assign (.Name x pos') X.env))) _ _ s
 refine wpAny_bind (wpAny_mono (wpAny_comprehension_free (use:=some (assign (.Name x pos') X.env)) (g:=⟨tg,iter,ifs,0⟩) (gs:=[]) (Q:=λ _ s'=>SP X pins D .next s') rfl hs (zmb λ y hy hf=>I.ok.has y.1 (S.free y hy hf)) S.kind S.names
  (thn (hi pins s Y H _ I h) λ v s1 h1=>thn h1 λ itv s2 h2=>?_)) (λ _ s' hq=>wpAny_pure (wpAny_pure hq)) λ _ _ e=>e)
 refine znc (Q:=λ v H1=>zfj i v Y H1 D.nx) (RR:=λ acc C=>compPost (model X.prog X.w) X.A X.xe (some (assign (.Name x pos') X.env)) (λ _ s'=>SP X pins D .next s') acc C) hc S hb h2 ?_
 intro L C m s' H' hns nL nC hC hC0 hCp hI q
 show wpAny _ _ (assign (.Name x pos') X.env (.ref L)) _ _ s'
 have I':Inv X pins Y H' s':=hI s'.heap ⟨rfl,λ _ _=>rfl⟩
 refine wpAny_assign_Name (zhf I' hnd hxi (.inl hx) (v:=.ref L) rfl (λ s2 I2 hch=>?_) (.inr hx))
 obtain ⟨a,sba,ha⟩:=hch
 have naC:C≠a:=by
  rcases ha with z|z
  ·rw [z];exact nL
  ·exact λ e=>nC x a z e.symm
 refine ⟨m,hns.sameBut sba naC,λ h'' sb=>?_⟩
 refine ⟨_,H',I2.turned (t':=s2.toks) (it:=C) (λ b o nb e=>?_) hC nL (.inr hC0) nC hCp,q⟩
 rw [sb.2 b nb];exact e
end
noncomputable def zl61 (K:Fg):R2:=λ x y H Q=>rI0 (λ i j=>.int (i+j)) x y H Q \/ (∃ i j,x=.str i/\y=.str j/\i.length+j.length<=sizeLine/\Q (.str (i++j)) H) \/ rCat x y H Q \/ zs71 K x y H Q
noncomputable def zh71:R2:=λ x y H Q=>rI CMul (λ i j=>.int (i * j)) x y H Q \/ rRep x y H Q
noncomputable def rSlU (K:Fg):V->Option Int->Option Int->Hp->VK->Prop:=λ x lo hi H Q=>rSlL K x lo hi H Q \/ rSlT K x lo hi H Q
noncomputable def zu81 (K:Fg) (x:V) (H:Hp) (R:It->Hp->Prop):Prop:=(∃ a,x=.ref a/\(∃ xs,SqL K H a xs)/\R (Itl K a) H) \/ (∃ a,x=.ref a/\(∃ xs,SqT K H a xs)/\R (Itt K a) H)
noncomputable def rLen (K:Fg):List V->Hp->VK->Prop:=λ xs H Q=>∃ x n,xs=[x]/\LenV K x H n/\Q (.int (n:Nat)) H
noncomputable def zk81 (xs:List V) (H:Hp) (Q:VK):Prop:=xs.length<=sizeLine/\∀ p,H p=none->Q (.ref p) (upd H p (.tup xs))
noncomputable def zx71 (xs:List V) (H:Hp) (Q:VK):Prop:=xs.length<=sizeLine/\∀ p,H p=none->Q (.ref p) (upd H p (.lst xs))
noncomputable def zv31 (t:TA):TE:=λ Y H Q=>t Y H λ xs H1=>zk81 xs H1 Q
noncomputable def zzy (t:TA):TE:=λ Y H Q=>t Y H λ xs H1=>zx71 xs H1 Q
noncomputable def zo91 (x:V) (H:Hp) (Q:Option Int->Hp->Prop):Prop:=∃ i,x=.int i/\Q (some i) H
noncomputable def zqt (t:TE):TO:=λ Y H Q=>t Y H λ x H1=>zo91 x H1 Q
noncomputable def kFld (K:Fg) (f:Str) (x:V) (H:Hp) (Q:VK):Prop:=∃ a C dx fs v,x=.ref a/\H a=some (.ins C dx fs)/\Cls K C/\NoAttr K C f/\fs.lookup f=some v/\Q v H
noncomputable def zx61 (K:Fg) (ta:TE) (f:Str):TE:=λ Y H Q=>ta Y H λ x H1=>kFld K f x H1 Q
noncomputable def kBl (x:V) (H:Hp) (Q:Bool->Hp->Prop):Prop:=∃ k,x=.bl k/\Q k H
noncomputable def zmv (t:TE):TT:=λ Y H Q=>t Y H λ x H'=>kBl x H' Q
noncomputable def kTru (K:Fg) (x:V) (H:Hp) (Q:Bool->Hp->Prop):Prop:=∃ k,TruV K x H k/\Q k H
noncomputable def zb21 (K:Fg) (t:TE):TT:=λ Y H Q=>t Y H λ x H'=>kTru K x H' Q
section
variable {X:Cx} {tg:Expr}
theorem zay {K:Fg} (h:X.K=K):OpR X (binaryOp .Add) (zl61 K):=h ▸ zl11.or (zti.or (zxz.or zzs))
theorem zfw:OpR X (binaryOp .Mult) zh71:=zr21.or zew
theorem ix_U {K:Fg} (h:X.K=K):IxR X (rIx K):=h ▸ zm21
theorem sl_U {K:Fg} (h:X.K=K):SlR X (rSlU K):=h ▸ zku.or zv41
theorem zu1 {K:Fg} (h:X.K=K):CallR X (.builtin "len") (rLen K):=h ▸ zsn
theorem zk5 {es:List Expr} {t:TA} {x1} {pos:Pos} (h:PA X es t):PE X (.Tuple es x1 pos) (zv31 t):=zk31 h
theorem zg1 {es:List Expr} {t:TA} {pos:Pos} (h:PA X es t):PE X (.List es pos) (zzy t):=zn11 h
theorem zpa {e:Expr} {te:TE} (h:PE X e te):PO X (some e) (zqt te):=zos h
theorem zb2 {K:Fg} (h:X.K=K) {e:Expr} {f:Str} {pos:Pos} {ta:TE} (he:PE X e ta) (hb:attributeBase e f X.env (eval e X.env)=eval e X.env):PE X (.Attribute e f pos) (zx61 K ta f):=h ▸ zc01 he hb
theorem zz0 {a b:Expr} {ta tb:TE} {pos:Pos} {op:CmpOp} {r:R2} (ho:OpR X (compareOp op) r) (ha:PE X a ta) (hb:PE X b tb) (hm:behindInMarks op b=false):PT X (.Compare a [op] [b] pos) (zmv (tOp r ta tb)):=znw ho ha hb hm
theorem zp4 {K:Fg} (h:X.K=K) {a:Expr} {ta:TE} (ha:PE X a ta) (he:∀ whole,isTrue a X.env whole=(do let v <- whole;standAt a.pos;holding [v] (truthy v))):PT X a (zb21 K ta):=h ▸ zpp ha he
noncomputable def clsV:V->Option Value
|.ty n=>some (.type n)
|.ref a=>some (.ref a)
|_=>none
theorem zig {cV:V} {c v:Value} (h:clsV cV=some c) (r:RelV cV v):v=c:=by
 cases cV with
|ty n=>cases h;exact r
|ref a=>cases h;exact r
|_=>cases h
noncomputable def rIsI (K:Fg):List V->Hp->VK->Prop:=λ xs H Q=>∃ x cV c t b,xs=[x,cV]/\clsV cV=some c/\TyOf K H x t/\PySem.W.kitOne K t c=some b/\Q (.bl b) H
theorem zcg {K:Fg} (h:X.K=K):CallR X (.builtin "isinstance") (rIsI K):=by
 subst h
 intro pins s Y H xs us Q I r h
 obtain ⟨x,cV,c,t,b,rfl,rc,ty,e,q⟩:=h
 obtain ⟨u,v,rfl,ru,rv⟩:=r.two
 obtain rfl:=zig rc rv
 exact zdl I ru ty e λ tk=>⟨.bl b,H,I.tok tk,rfl,q⟩
end
noncomputable def Def (P:Program) (w:World) (K:Fg) (mg:Str->Option Value) (base:Heap) (x:Str) (k:Nat) (ps:List Str) (sp:Sp):Prop :=
 ∃ f fd,FnOk P w K mg base CX0 k f fd ps sp/\Binds K fd ps []/\PySem.W.keepIn K (.ref f)=true/\mg x=some (.ref f)
noncomputable def ziz (P:Program) (w:World) (K:Fg) (mg:Str->Option Value) (base:Heap) (x:Str) (C:Addr) (k:Nat) (ps:List Str) (sp:Sp):Prop :=
 ∃ f fd,Mk K C f/\FnOk P w K mg base CX0 k f fd ps sp/\Binds K fd ps []/\mg x=some (.ref C)
noncomputable def zjc (P:Program) (w:World) (K:Fg) (mg:Str->Option Value) (base:Heap) (C:Addr) (m:Str) (k:Nat) (ps:List Str) (sp:Sp):Prop :=
 ∃ f fd,Cls K C/\Meth K C m f/\FnOk P w K mg base CX0 k f fd ps sp/\Binds K fd ps []
section
variable {X:Cx} {k:Nat} {C:Addr} {ps:List Str} {sp:Sp} {x m:Str} {p pos apos:Pos} {e o:Expr} {es:List Expr} {ta:TE} {t:TA}
theorem zt0 (d:Def X.prog X.w X.K X.mg X.base x k ps sp) (hr:Room k X.A) (hg:Gl X x) (ha:PA X (e :: es) t) (hdb:(x == ("__debug__":Str))=false:=by decide)
  (he:starEach (e :: es) X.env=(false,eval e X.env) :: starEach es X.env:=by rfl) (hpl:(backTo pos (starEach es X.env)).any (·.1)=false:=by rfl):PE X (.Call (.Name x p) (e :: es) [] pos) (zhk sp [] E0 t):=by
 obtain ⟨f,fd,F,b,kp,m⟩:=d
 exact zwt F hr hg m kp b .nil zlz ha hdb he hpl
theorem zdp (d:ziz X.prog X.w X.K X.mg X.base x C k ps sp) (hr:Room (k+1) X.A) (hg:Gl X x) (ha:PA X (e :: es) t) (hdb:(x == ("__debug__":Str))=false:=by decide)
  (he:starEach (e :: es) X.env=(false,eval e X.env) :: starEach es X.env:=by rfl) (hpl:(backTo pos (starEach es X.env)).any (·.1)=false:=by rfl):PE X (.Call (.Name x p) (e :: es) [] pos) (zw41 C sp [] E0 t):=by
 obtain ⟨f,fd,M,F,b,m⟩:=d
 exact zsx M F hr hg m b .nil zlz ha hdb he hpl
theorem za4 {pl:Sem Bool} (d:zjc X.prog X.w X.K X.mg X.base C m k ps sp) (hr:Room k X.A) (he:PE X o ta) (ha:PA X (e :: es) t)
  (hst:starEach (e :: es) X.env=(false,eval e X.env) :: starEach es X.env:=by rfl) (hpl:(backTo pos (starEach es X.env)).any (·.1)=false:=by rfl)
  (ht:eval (.Call (.Attribute o m apos) (e :: es) [] pos) X.env=(do
   let ov <- eval o X.env
   standAt apos.atName
   let (f,first) <- holding [ov] (getMethod ov m pl)
   callWith pos f first (backTo pos (starEach (e :: es) X.env)) (backToKw pos (keywordEach [] X.env))):=by rfl) :
  PE X (.Call (.Attribute o m apos) (e :: es) [] pos) (zpr C m sp [] E0 ta t):=by
 obtain ⟨f,fd,c,M,F,b⟩:=d
 exact zny he c M F hr b .nil zlz ha hst hpl ht
end
theorem zx1 {H:Hp} {p:Addr} (h:H p=none) (o:HO):Same H (upd H p o):=λ b u q=>by rw [zn0 (zd3 q h)];exact q
theorem ztc {K:Fg} {H H':Hp} {a:Addr} {xs:List V} (e:Same H H') (h:SqT K H a xs):SqT K H' a xs:=by
 rcases h with (h|⟨o,h⟩)|h
 ·exact .inl (.inl (e _ _ h))
 ·exact .inl (.inr ⟨o,e _ _ h⟩)
 ·exact .inr h
section
variable {K:Fg} {Y:St} {H:Hp} {Q:VK} {D:Ends} {a b p:Addr} {i j k:Int} {x y v:V} {xs ys:List V} {ta tb te:TE} {t u:TS} {tA:TA} {tt tt':TT} {A B:Prop}
theorem za91 (h:SqT K H a xs) (e:atI xs i=some v) (q:Q v H):rIx K (.ref a) (.int i) H Q:=.inr (.inl ⟨a,xs,i,v,rfl,rfl,h,e,q⟩)
end
theorem zj7:bootBuiltins "len"=some (.builtin "len"):=by decide +kernel
theorem zcw:bootBuiltins "max"=some (.builtin "max"):=by decide +kernel
theorem zbs:bootBuiltins "min"=some (.builtin "min"):=by decide +kernel
theorem zy1:bootBuiltins "isinstance"=some (.builtin "isinstance"):=by decide +kernel
theorem zm11:bootBuiltins "int"=some (.type "int"):=by decide +kernel
theorem zkw:bootBuiltins "bool"=some (.type "bool"):=by decide +kernel
theorem zo5:bootBuiltins "list"=some (.type "list"):=by decide +kernel
theorem zro:bootBuiltins "tuple"=some (.type "tuple"):=by decide +kernel
structure Md (K:Fg) (mg:Str->Option Value):Prop where
 ex:∃ h:Heap,K.In h/\h.Ns mainGlobals mg
theorem Md.got {K:Fg} {mg:Str->Option Value} (M:Md K mg) {x:Str} {v:Value} (e:PySem.W.nsIn K mainGlobals x=some (some v)):mg x=some v:=let ⟨_,X,G⟩:=M.ex;PySem.W.mg_of X G e
theorem Md.not {K:Fg} {mg:Str->Option Value} (M:Md K mg) {x:Str} (e:PySem.W.nsIn K mainGlobals x=some none):mg x=none:=let ⟨_,X,G⟩:=M.ex;PySem.W.mg_none_of X G e
structure TopDef (K:Fg) (x:Str) (st:Stmt):Prop where
 ex:∃ f fd,PySem.W.nsIn K mainGlobals x=some (some (.ref f))/\Fun K x x st f fd
theorem zpj {K:Fg} {x:Str} {st:Stmt} {f:Addr} {oc:Value} {od an:Option Addr} {osl:Array (Option Value)} {kV doc pm cdv ct:Value} (a:PySem.W.nsIn K mainGlobals x=some (some (.ref f)))
  (l:K.lookup f=some ⟨oc,od,.func (PySem.W.fnOf x x (zo4 st) (zz1 st) (zf0 st) .none kV doc pm an cdv ct),osl⟩) (c:PySem.W.codeIn K cdv x=true) (k:PySem.W.keepIn K (.ref f)=true):TopDef K x st:=⟨⟨_,_,a,zxs l c k⟩⟩
structure TopMeth (K:Fg) (C:Addr) (m qual:Str) (st:Stmt):Prop where
 ex:∃ f fd,PySem.W.findIn K (.ref C) m=some (some (.ref f))/\PySem.W.isFn K (.ref f)=true/\Fun K m qual st f fd
theorem zai {K:Fg} {C:Addr} {x qual:Str} {st:Stmt} {f:Addr} {oc:Value} {od an:Option Addr} {osl:Array (Option Value)} {kV doc pm cdv ct:Value} (a:PySem.W.findIn K (.ref C) x=some (some (.ref f))) (i:PySem.W.isFn K (.ref f)=true)
  (l:K.lookup f=some ⟨oc,od,.func (PySem.W.fnOf x qual (zo4 st) (zz1 st) (zf0 st) .none kV doc pm an cdv ct),osl⟩) (c:PySem.W.codeIn K cdv qual=true) (k:PySem.W.keepIn K (.ref f)=true):TopMeth K C x qual st:=⟨⟨_,_,a,i,zxs l c k⟩⟩
structure TopCls (K:Fg) (x:Str) (C:Addr):Prop where
 at_:PySem.W.nsIn K mainGlobals x=some (some (.ref C))
 cls:Cls K C
 mkk:PySem.W.makesIn K C=true
 kp:PySem.W.keepIn K (.ref C)=true
theorem zwl {K:Fg} {x:Str} {C:Addr} (a:PySem.W.nsIn K mainGlobals x=some (some (.ref C))) (pg:PySem.W.plainGet K C Str.empty=true) (hd:PySem.W.hasDictIn K C=true) (po:PySem.W.plainOver K C=true)
  (sa:PySem.W.findIn K (.ref C) "__setattr__"=some (some (.builtin "object.__setattr__"))) (mk:PySem.W.makesIn K C=true) (kc:PySem.W.keepIn K (.ref C)=true):TopCls K x C:=⟨a,⟨pg,hd,po,sa⟩,mk,kc⟩
section
variable {P:Program} {w:World} {K:Fg} {mg:Str->Option Value} {base:Heap}
noncomputable abbrev zz7 (x qual:Str) (st:Stmt) (ps:List Str):Prop :=
 ∀ (kV doc pm:Value) (an:Option Addr) (cdv ct:Value) (us:List Value),us.length=ps.length->bindArgs (PySem.W.fnOf x qual (zo4 st) (zz1 st) (zf0 st) .none kV doc pm an cdv ct) ⟨us,[]⟩=pure (ps.zip us)
noncomputable abbrev zd4 (P:Program) (w:World) (K:Fg) (mg:Str->Option Value) (base:Heap) (qual:Str) (st:Stmt) (N:List Str) (k:Nat) (sp:Sp):Prop :=
 ∀ (f:Addr) (cdv:Value) (A:Around) (outer:List Env) (s:Shared) (H:Hp) (vs:List V) (Q:VK) (E:XK),Room k (A.deeper (envOfC qual (zf0 st) s.heap.objs.size f cdv))->sp vs H Q E ->
   ∃ t,PSs (cxOf CX0 P w K mg base N qual (zf0 st) f cdv A outer s H E).nox (zz1 st) t/\t { nx:=λ _ H'=>Q .non H',rt:=Q } (start N vs) H
theorem zn4 {x:Str} {st:Stmt} {N ps:List Str} {k:Nat} {sp:Sp} (M:Md K mg) (T:TopDef K x st) (S:FnScope N ps (zf0 st)) (hb:zz7 x x st ps) (len:∀ vs H Q E,sp vs H Q E->vs.length=ps.length)
  (body:zd4 P w K mg base x st N k sp):Def P w K mg base x (k+1) ps sp:=by
 obtain ⟨f,fd,a,F⟩:=T.ex
 exact ⟨f,fd,F.ok S len (λ cdv A outer s H vs Q E hr h=>body f cdv A outer s H vs Q E hr h),F.binds hb,F.kp,M.got a⟩
theorem za7 {C:Addr} {m qual:Str} {st:Stmt} {N ps:List Str} {k:Nat} {sp:Sp} (c:Cls K C) (T:TopMeth K C m qual st) (S:FnScope N ps (zf0 st)) (hb:zz7 m qual st ps) (len:∀ vs H Q E,sp vs H Q E->vs.length=ps.length)
  (body:zd4 P w K mg base qual st N k sp):zjc P w K mg base C m (k+1) ps sp:=by
 obtain ⟨f,fd,a,i,F⟩:=T.ex
 exact ⟨f,fd,c,⟨a,i,F.kp⟩,F.ok S len (λ cdv A outer s H vs Q E hr h=>body f cdv A outer s H vs Q E hr h),F.binds hb⟩
theorem zlu {x qual:Str} {C:Addr} {st:Stmt} {N ps:List Str} {k:Nat} {sp:Sp} (M:Md K mg) (c:TopCls K x C) (T:TopMeth K C "__init__" qual st) (S:FnScope N ps (zf0 st)) (hb:zz7 "__init__" qual st ps)
  (len:∀ vs H Q E,sp vs H Q E->vs.length=ps.length) (body:zd4 P w K mg base qual st N k sp):ziz P w K mg base x C (k+1) ps sp:=by
 obtain ⟨f,fd,a,i,F⟩:=T.ex
 exact ⟨f,fd,⟨c.mkk,a,i,c.kp⟩,F.ok S len (λ cdv A outer s H vs Q E hr h=>body f cdv A outer s H vs Q E hr h),F.binds hb,M.got c.at_⟩
theorem za11 {st:Stmt} {N:List Str} {k:Nat} {sp:Sp} {fa:Addr} (M:Md K mg) (T:TopDef K "law" st) (hfa:mg "law"=some (.ref fa)) (S:FnScope N ["script"] (zf0 st)) (hb:zz7 "law" "law" st ["script"]) (len:∀ vs H Q E,sp vs H Q E->vs.length=1)
  (body:∀ base:Heap,K.In base->base.Ns mainGlobals mg->zd4 P w K mg base "law" st N k sp) :
  ∃ fd:FuncData,(∀ (s:Shared) (v:Value),BindsTo s fd ⟨[v],[]⟩ [("script",v)])/\∀ base:Heap,K.In base->base.Ns mainGlobals mg->FnOk P w K mg base CX0 (k+1) fa fd ["script"] sp:=by
 obtain ⟨f,fd,a,F⟩:=T.ex
 have e:=hfa.symm.trans (M.got a)
 cases e
 obtain ⟨oc,od,kV,doc,pm,an,cdv,ct,osl,e1,lk,hcd⟩:=id F.ex
 refine ⟨fd,λ s v=>.of_eq ?_,λ base kb nb=>F.ok S len λ cdv A outer s H vs Q E hr h=>body base kb nb fa cdv A outer s H vs Q E hr h⟩
 rw [e1]
 exact hb kV doc pm an cdv ct [v] rfl
end
noncomputable def zvw:PyData->Bool
|.int _=>true
|.str _=>true
|_=>false
mutual
inductive Is (K:Fg) (H:Hp):V->PyData->Prop
|non:Is K H .non .none
|bl (b:Bool):Is K H (.bl b) (.bool b)
|int (i:Int):Is K H (.int i) (.int i)
|str (x:Str):Is K H (.str x) (.str x)
|lst {a:Addr} {xs:List V} {ds:List PyData}:SqL K H a xs->IsAll K H xs ds->Is K H (.ref a) (.list ds)
|tup {a:Addr} {xs:List V} {ds:List PyData}:H a=some (.tup xs)->IsAll K H xs ds->Is K H (.ref a) (.tuple ds)
|tuc {a:Addr} {xs:List V} {ds:List PyData}:SqT K H a xs->IsAll K H xs ds->ds.all zvw=false->Is K H (.ref a) (.tuple ds)
inductive IsAll (K:Fg) (H:Hp):List V->List PyData->Prop
|nil:IsAll K H [] []
|cons {x:V} {d:PyData} {xs:List V} {ds:List PyData}:Is K H x d->IsAll K H xs ds->IsAll K H (x :: xs) (d :: ds)
end
mutual
theorem Is.mono {K:Fg} {H H':Hp} (s:Same H H'):∀ {v:V} {d:PyData},Is K H v d->Is K H' v d
|_,_,.non=>.non
|_,_,.bl b=>.bl b
|_,_,.int i=>.int i
|_,_,.str x=>.str x
|_,_,.lst h r=>.lst (s.seq h) (IsAll.mono s r)
|_,_,.tup h r=>.tup (s _ _ h) (IsAll.mono s r)
|_,_,.tuc h r n=>.tuc (ztc s h) (IsAll.mono s r) n
theorem IsAll.mono {K:Fg} {H H':Hp} (s:Same H H'):∀ {v:List V} {d:List PyData},IsAll K H v d->IsAll K H' v d
|_,_,.nil=>.nil
|_,_,.cons h r=>.cons (Is.mono s h) (IsAll.mono s r)
end
section
variable {X:Cx} {pins:List (Addr×Obj)} {Y:St} {H:Hp} {s:Shared}
mutual
theorem zg7 (I:Inv X pins Y H s):∀ {v:V} {d:PyData} {u:Value},Is X.K H v d->RelV v u->∃ as,Reads s.heap u d as
|_,_,_,.non,r=>by cases r;exact ⟨_,.none⟩
|_,_,_,.bl b,r=>by cases r;exact ⟨_,.bool b⟩
|_,_,_,.int i,r=>by obtain ⟨t,rfl⟩:=r;exact ⟨_,.int i t⟩
|_,_,_,.str x,r=>by obtain ⟨t,rfl⟩:=r;exact ⟨_,.str x t⟩
|_,_,_,.lst h q,r=>by
  cases r
  obtain ⟨its,rv,p,_⟩:=I.list h
  obtain ⟨as,z⟩:=zi4 I q rv
  obtain ⟨o,ho,hc,n,hd⟩:=p.isList
  exact ⟨_,.list ho hc hd (by simpa using z)⟩
|_,_,_,.tup h q,r=>by
  cases r
  obtain ⟨its,rv,p,_⟩:=I.tuple (SqT.of h)
  obtain ⟨as,z⟩:=zi4 I q rv
  obtain ⟨o,ho,hc,n,hd⟩:=(show s.heap.IsTuple _ its.toArray from p)
  exact ⟨_,.tuple ho hc hd (by simpa using z)⟩
|_,_,_,.tuc h q _,r=>by
  cases r
  obtain ⟨its,rv,p,_⟩:=I.tuple h
  obtain ⟨as,z⟩:=zi4 I q rv
  obtain ⟨o,ho,hc,n,hd⟩:=(show s.heap.IsTuple _ its.toArray from p)
  exact ⟨_,.tuple ho hc hd (by simpa using z)⟩
theorem zi4 (I:Inv X pins Y H s):∀ {v:List V} {d:List PyData} {u:List Value},IsAll X.K H v d->Vals v u->∃ as,ReadsAll s.heap u d as
|_,_,_,.nil,r=>by cases r;exact ⟨_,.nil⟩
|_,_,_,.cons h q,r=>by
  cases r with
 |cons r1 r2 =>
   obtain ⟨as,z⟩:=zg7 I h r1
   obtain ⟨bs,y⟩:=zi4 I q r2
   exact ⟨_,.cons z y⟩
end
end
noncomputable def rEqU (K:Fg):R2:=λ x y H Q=>rEq x y H Q \/ (∃ d e,Is K H x d/\Is K H y e/\SeqAt.shaped d=true/\SeqAt.shaped e=true/\Q (.bl (x8 d e)) H)
noncomputable def rNeU (K:Fg):R2:=λ x y H Q=>rNe x y H Q \/ (∃ d e,Is K H x d/\Is K H y e/\SeqAt.shaped d=true/\SeqAt.shaped e=true/\Q (.bl (!PyData.eqv d e)) H)
section
variable {X:Cx}
theorem zbq {K:Fg} (h:X.K=K) (hu:X.A.units+64 < cLine):OpR X (compareOp .Eq) (rEqU K):=by
 subst h
 refine zv71.or ?_
 intro pins s Y H x y v u Q I rx ry q
 obtain ⟨d,e,hd,he,sd,se,q⟩:=q
 obtain ⟨as,r1⟩:=zg7 I hd rx
 obtain ⟨bs,r2⟩:=zg7 I he ry
 exact eq_dataH r1 r2 sd se hu ⟨.bl _,H,I,rfl,q⟩
theorem zfd {K:Fg} (h:X.K=K) (hu:X.A.units+64 < cLine):OpR X (compareOp .NotEq) (rNeU K):=by
 subst h
 refine zr91.or ?_
 intro pins s Y H x y v u Q I rx ry q
 obtain ⟨d,e,hd,he,sd,se,q⟩:=q
 obtain ⟨as,r1⟩:=zg7 I hd rx
 obtain ⟨bs,r2⟩:=zg7 I he ry
 exact ne_dataH r1 r2 sd se hu ⟨.bl _,H,I,rfl,q⟩
noncomputable def Its (z:Str):It:=⟨λ i _=>i < z.cps.size,λ i H x H'=>H'=H/\∃ c,z.cps[i]?=some c/\x=.str ⟨#[c]⟩,λ i _=>z.cps.size<=i⟩
theorem zdr {P:Program} {w:World} {K:Fg} {tg:Expr} (z:Str) (t:Tok) (it:Addr):Turn P w K tg (Its z) [it] it (λ i h=>h.IsStrIter it "str_ascii_iterator" z t i) where
 mem:=by simp
 obj:=λ i h st b hb=>by
  have e:b=it:=by simpa using hb
  subst e
  obtain ⟨o,e,c,d⟩:=st
  exact ⟨o,e,λ v z=>by rw [d] at z;cases z⟩
 keep:=λ i h h' st k=>by
  obtain ⟨o,e,c,d⟩:=st
  exact ⟨o,k it (by simp) o e,c,d⟩
 item:=by
  intro X hP hw hK hc i pins s Y H E I hf st hg
  subst hP hw hK
  have hg':i < z.cps.size:=hg
  obtain ⟨f0,f1,f2,f3,f4,f5⟩:=hf it (by simp)
  have hx:z.cps[i]?=some z.cps[i]:=by simp [hg']
  refine wpAny_pyNext_ascii_item st hx λ h' st' sb=>?_
  have I1:Inv X pins Y H { s with heap:=h',toks:=s.toks+1 }:=I.turned (t':=s.toks+1) (λ b o hb e=>(sb.2 b hb).trans e) f0 f1 f3 f4 f5
  obtain ⟨o,e,c,d⟩:=id st'
  exact ⟨_,rfl,ztu (s:={ s with heap:=h',toks:=s.toks+1 }) e c d (by decide) ⟨.str ⟨#[z.cps[i]]⟩,H,I1,⟨_,rfl⟩,⟨rfl,_,hx,rfl⟩,st',λ b hb=>(hf b hb).1⟩⟩
 done:=by
  intro X hP hw hK hc i pins s Y H E I hf st hg
  subst hP hw hK
  have hg':z.cps.size<=i:=hg
  obtain ⟨f0,f1,f2,f3,f4,f5⟩:=hf it (by simp)
  have hx:z.cps[i]?=none:=by simp [hg']
  exact wpAny_pyNext_ascii_end (I.ok.hd hc) st hx λ h' eb=>⟨rfl,I.turned (t':=s.toks) (λ b o hb e=>eb b o hb e) f0 f1 f3 f4 f5⟩
 self:=λ A i s Q E st h=>wpAny_pyIter_striter_ascii st h
noncomputable def rInU (K:Fg):R2:=λ x y H Q=>rIn K false x y H Q \/ ∃ c z,x=.str ⟨#[c]⟩/\y=.str z/\Q (.bl (decide (c∈z.cps.toList))) H
noncomputable def zqm (K:Fg):R2:=λ x y H Q=>rIn K true x y H Q \/ ∃ c z,x=.str ⟨#[c]⟩/\y=.str z/\Q (.bl (!decide (c∈z.cps.toList))) H
theorem zu21 {K:Fg} (hK:X.K=K):OpR X (compareOp .In) (rInU K):=by
 subst hK
 refine zmj.or ?_
 intro pins s Y H x y v u Q I rx ry h
 obtain ⟨c,z,rfl,rfl,q⟩:=h
 exact zsj pins s Y H _ _ v u Q I rx ry ⟨_,_,rfl,rfl,by rw [StrLaws.found_one];exact q⟩
theorem zmk {K:Fg} (hK:X.K=K):OpR X (compareOp .NotIn) (zqm K):=by
 subst hK
 refine zzc.or ?_
 intro pins s Y H x y v u Q I rx ry h
 obtain ⟨c,z,rfl,rfl,q⟩:=h
 exact zmd pins s Y H _ _ v u Q I rx ry ⟨_,_,rfl,rfl,by rw [StrLaws.found_one];exact q⟩
noncomputable def repS (x:Str) (n:Nat):Str:=⟨(uN n x.cps).foldl (·++·) #[]⟩
theorem zwq (c:List (Array Nat)):∀ a:Array Nat,c.foldl (·++·) a=a++(c.map yS).flatten.toArray:=by
 induction c with
|nil=>intro a;simp
|cons y r ih=>intro a;rw [List.foldl_cons,ih,zF];congr 1;apply Array.toList_inj.mp;simp
theorem zkq (x:Str) (n:Nat):(repS x n).cps.toList=(uN n x.cps.toList).flatten:=by
 unfold repS
 rw [zwq]
 simp
noncomputable def zr61:R2:=λ x y H Q=>∃ z n,x=.str z/\y=.int n/\0<=n/\z.length * n.toNat<=sizeLine/\n<=sizeLine/\Q (.str (repS z n.toNat)) H
theorem zrw:OpR X (binaryOp .Mult) zr61:=by
 intro pins s Y H x y v u Q I rx ry h
 obtain ⟨z,n,rfl,rfl,h1,h2,h3,q⟩:=h
 obtain ⟨t,rfl⟩:=rx
 obtain ⟨t',rfl⟩:=ry
 have hl:sizeLine=16777216:=sizeLine_eq
 have hz:z.length=z.cps.size:=rfl
 by_cases n0:n=0
 ·subst n0
  refine P.mul_str (by rw [decide_eq_false (by lia),decide_eq_false (by lia)];rfl) (λ a b hc=>?_) (λ a b=>?_) ?_
  ·exact absurd a (by decide)
  ·exact decide_eq_false (by simp)
  ·rw [if_pos (by decide)]
   exact ⟨by decide,.str (repS z 0),H,I.tok _,⟨_,rfl⟩,q⟩
 have h1:0 < n:=by lia
 refine P.mul_str (by rw [decide_eq_false (by lia),decide_eq_false (by lia)];rfl) (λ _ _ hc=>?_) (λ _ _=>?_) ?_
 ·have h4:(2 ^ 63 - 1:Int) / n ≥ z.length:=by
   refine (zL h1).mpr ?_
   have h5:((z.length * n.toNat:Nat):Int)=(z.length:Int) * n:=by rw [Int.natCast_mul,Int.toNat_of_nonneg (by lia)]
   have h6:((z.length * n.toNat:Nat):Int)<=(sizeLine:Nat):=by exact_mod_cast h2
   lia
  lia
 ·exact decide_eq_false (by lia)
 ·rw [if_neg (by lia)]
  by_cases hc:(n == 1 || z.length == 0)=true
  ·rw [if_pos hc]
   refine ⟨.str (repS z n.toNat),H,I,⟨t,?_⟩,q⟩
   have:repS z n.toNat=z:=by
    have e:(repS z n.toNat).cps.toList=z.cps.toList:=by
     rw [zkq]
     rcases (Bool.or_eq_true _ _).mp hc with hc|hc
     ·have:n=1:=by simpa using hc
      subst this;simp
     ·have:z.cps.toList=[]:=by
       have:z.cps.size=0:=by simpa [hz] using hc
       simpa using this
      rw [this];simp
    cases z with|mk c =>
     show repS ⟨c⟩ n.toNat=⟨c⟩
     have e2:(repS ⟨c⟩ n.toNat).cps=c:=Array.toList_inj.mp e
     cases hq:repS ⟨c⟩ n.toNat with|mk d=>rw [hq] at e2;cases e2;rfl
   rw [this]
  ·rw [if_neg hc]
   exact ⟨fits_reps (decide_eq_false (by lia)),.str (repS z n.toNat),H,I.tok _,⟨_,rfl⟩,q⟩
noncomputable def rSlS:V->Option Int->Option Int->Hp->VK->Prop:=λ x lo hi H Q=>∃ z,x=.str z/\z.length<=sizeLine/\Q (.str (Txt.slice z lo hi)) H
theorem zev:SlR X rSlS:=by
 intro pins s Y H x v vl vu lo hi sl Q I rx hs pl pu h
 obtain ⟨z,rfl,hz,q⟩:=h
 obtain ⟨t,rfl⟩:=rx
 obtain ⟨o,ho,hc,hd⟩:=hs
 have go:∀ (l u:Option (Int×Tok)),partValue l=vl->partValue u=vu->l.map (·.1)=lo->u.map (·.1)=hi->wpAny (model X.prog X.w) X.A (getItem (.str z t) (.ref sl)) (EP X pins Y Q) X.xe s:=λ l u e1 e2 e3 e4=>by
  subst e3 e4
  refine wpAny_getItem_str_slice (l:=l) (u:=u) (st:=none) ⟨o,ho,hc,by rw [e1,e2];exact hd⟩ rfl (post_val_or_str ⟨vQ (Txt.slice_le z _ _) hz,λ t' k=>?_⟩)
  exact ⟨.str (Txt.slice z (l.map (·.1)) (u.map (·.1))),H,I.tok _,⟨_,rfl⟩,q⟩
 refine ⟨"str",_,F.slot_str_getitem.lookup,typeIs_str _ _ _,?_⟩
 cases pl with
|none=>cases pu with
 |none=>exact go none none rfl rfl rfl rfl
 |int j u=>exact go none (some (j,u)) rfl rfl rfl rfl
|int i t=>cases pu with
 |none=>exact go (some (i,t)) none rfl rfl rfl rfl
 |int j u=>exact go (some (i,t)) (some (j,u)) rfl rfl rfl rfl
end
section
variable {prog:Program} {w:World} {A:Around} {E:Value->Shared->Prop} {s:Shared}
theorem zx6 {it t:Addr} {i:Nat} {items} {x:Value} {Q:Value->Shared->Prop} (hit:s.heap.IsTupleIter it t i)
  (ht:s.heap.IsTuple t items) (hx:items[i]?=some x) (hQ:∀ h',h'.IsTupleIter it t (i+1)->Heap.SameBut it s.heap h'->Q x { s with heap:=h' }) :
  wpAny (model prog w) A (Builtin.SmallTypes.nextOf (.ref it)) Q E s:=by
 obtain ⟨o,ho,hc,hd⟩:=id hit
 obtain ⟨ol,hol,_,nl,hdl⟩:=ht
 unfold Builtin.SmallTypes.nextOf
 refine wpAny_bind (wpAny_callSpecial?_slot (name:=uE "__next__") hit.typeIs F.slot_tuple_iterator_next
  (wpAny_call_entry F.slot_tuple_iterator_next hit.typeIs F.entry_tuple_iterator_next ?_ (F.args_tuple_iterator_next_1 _)))
 show wpAny _ _ (field (.ref it) 0 >>= _) _ _ s
 refine wpAny_bind (wpAny_field ho hd (x:=.ref t) rfl ?_)
 show wpAny _ _ (if (uS t == wB)=true then _ else _) _ _ s
 rw [if_neg (show ¬ ((uS t == wB)=true) from uX)]
 show wpAny _ _ (field (.ref it) 1 >>= _) _ _ s
 refine wpAny_bind (wpAny_field ho hd (x:=.int i 0) rfl ?_)
 show wpAny _ _ (seqItems? (.ref t) >>= _) _ _ s
 refine wpAny_bind (wpAny_seqItems hol hdl ?_)
 simp only [uY,hx]
 refine wpAny_bind (wpAny_setField ho hd (by simp) (wpAny_pure ⟨x,rfl,wpAny_pure (hQ _ ?_ (Heap.SameBut.update ..))⟩))
 exact ⟨_,xL _ ho (Obj.isFreed_of_fields (Obj.data_mapFields hd _)),(Obj.cls_mapFields ..).trans hc,by
  rw [Obj.data_mapFields hd];simp [rawInt]⟩
theorem zi7 {it t:Addr} {i:Nat} {items} {Q:Value->Shared->Prop} (hh:A.handled=none)
  (hit:s.heap.IsTupleIter it t i) (ht:s.heap.IsTuple t items) (hx:items[i]?=none)
  (hE:∀ h' e,Heap.ExtBut it s.heap h'->(∃ o,h'.get? e=some o/\o.cls=.type "StopIteration")->E (.ref e) { s with heap:=h' }) :
  wpAny (model prog w) A (Builtin.SmallTypes.nextOf (.ref it)) Q E s:=by
 obtain ⟨o,ho,hc,hd⟩:=id hit
 obtain ⟨ol,hol,_,nl,hdl⟩:=ht
 unfold Builtin.SmallTypes.nextOf
 refine wpAny_bind (wpAny_callSpecial?_slot (name:=uE "__next__") hit.typeIs F.slot_tuple_iterator_next
  (wpAny_call_entry F.slot_tuple_iterator_next hit.typeIs F.entry_tuple_iterator_next ?_ (F.args_tuple_iterator_next_1 _)))
 show wpAny _ _ (field (.ref it) 0 >>= _) _ _ s
 refine wpAny_bind (wpAny_field ho hd (x:=.ref t) rfl ?_)
 show wpAny _ _ (if (uS t == wB)=true then _ else _) _ _ s
 rw [if_neg (show ¬ ((uS t == wB)=true) from uX)]
 show wpAny _ _ (field (.ref it) 1 >>= _) _ _ s
 refine wpAny_bind (wpAny_field ho hd (x:=.int i 0) rfl ?_)
 show wpAny _ _ (seqItems? (.ref t) >>= _) _ _ s
 refine wpAny_bind (wpAny_seqItems hol hdl ?_)
 simp only [uY,hx]
 refine wpAny_bind (wpAny_rule (wpAny_bind (wpAny_setField ho hd (by simp) ?_)))
 show wpAny _ _ (newExc (.type "StopIteration") [] >>= _) _ _ _
 refine wpAny_bind ?_
 simp only [newExc,newTuple]
 refine wpAny_bind (wpAny_newObj_type ?_ (by size_fits))
 refine wpAny_bind (m:=firstArgMember _ _) (wpAny_of_eq (a:=wB) (by first|rfl|(simp only [firstArgMember];rfl)) ?_)
 refine wpAny_newObj_type ?_ (by size_fits)
 simp only [raiseNew]
 refine wpAny_bind (wpAny_handled ?_)
 first|rw [show A.in1.handled=none from hh]|rw [hh]
 refine wpAny_bind (wpAny_pure (wpAny_throw ?_))
 exact hE _ _ (((Heap.SameBut.update ..).extBut.push _).push _) ⟨_,uT _ rfl,rfl⟩
end
structure Nx (P:Program) (w:World) (K:Fg) (J:It) (it:Addr) (st:Nat->Heap->Prop):Prop where
 obj:∀ i h,st i h->∃ o,h.get? it=some o/\∀ v,o.data≠.cell v
 keep:∀ i h h',st i h->(∀ o,h.get? it=some o->h'.get? it=some o)->st i h'
 item:∀ (X:Cx),X.prog=P->X.w=w->X.K=K->∀ (A:Around) (i:Nat) (pins:List (Addr×Obj)) (s:Shared) (Y:St) (H:Hp) (Q:Value->Shared->Prop) (E:Value->Shared->Prop),Inv X pins Y H s->st i s.heap->J.go i H ->
  (∀ u x h' tk,RelV x u->J.yld i H x H->st (i+1) h'->Heap.SameBut it s.heap h'->Q u { s with heap:=h',toks:=tk })->wpAny (model P w) A (Builtin.SmallTypes.nextOf (.ref it)) Q E s
 done:∀ (X:Cx),X.prog=P->X.w=w->X.K=K->∀ (A:Around) (i:Nat) (pins:List (Addr×Obj)) (s:Shared) (Y:St) (H:Hp) (Q:Value->Shared->Prop) (E:Value->Shared->Prop),A.handled=none->Inv X pins Y H s->st i s.heap->J.stop i H ->
  (∀ h' e,Heap.ExtBut it s.heap h'->(∃ o,h'.get? e=some o/\o.cls=.type "StopIteration")->E (.ref e) { s with heap:=h' })->wpAny (model P w) A (Builtin.SmallTypes.nextOf (.ref it)) Q E s
theorem zgt {P:Program} {w:World} {K:Fg} (a it:Addr):Nx P w K (Itl K a) it (λ i h=>h.IsListIter it a i) where
 obj:=λ i h st=>by
  obtain ⟨o,e,c,d⟩:=st
  exact ⟨o,e,λ v z=>by rw [d] at z;cases z⟩
 keep:=λ i h h' st k=>st.at k
 item:=by
  intro X hP hw hK A i pins s Y H Q E I st hg hQ
  subst hP hw hK
  obtain ⟨xs,x,hq,hx⟩:=hg
  obtain ⟨its,rv,p,hz⟩:=I.list hq
  obtain ⟨u,hu,ru⟩:=rv.get hx
  exact wpAny_nextOf_list_item st p.isList (x:=u) (by simpa using hu) λ h' st' sb=>hQ u x h' s.toks ru ⟨rfl,λ ys hy=>by rw [I.list_inj hy hq];exact hx⟩ st' sb
 done:=by
  intro X hP hw hK A i pins s Y H Q E hh I st hg hE
  subst hP hw hK
  obtain ⟨xs,hq,hx⟩:=hg
  obtain ⟨its,rv,p,hz⟩:=I.list hq
  have hl:=rv.length
  exact wpAny_nextOf_list_end hh st p.isList (by simp;lia) hE
theorem zwz {P:Program} {w:World} {K:Fg} (a it:Addr):Nx P w K (Itt K a) it (λ i h=>h.IsTupleIter it a i) where
 obj:=λ i h st=>by
  obtain ⟨o,e,c,d⟩:=st
  exact ⟨o,e,λ v z=>by rw [d] at z;cases z⟩
 keep:=λ i h h' st k=>st.at k
 item:=by
  intro X hP hw hK A i pins s Y H Q E I st hg hQ
  subst hP hw hK
  obtain ⟨xs,x,hq,hx⟩:=hg
  obtain ⟨its,rv,p,hz⟩:=I.tuple hq
  obtain ⟨u,hu,ru⟩:=rv.get hx
  exact zx6 st (show s.heap.IsTuple a its.toArray from p) (x:=u) (by simpa using hu) λ h' st' sb=>hQ u x h' s.toks ru ⟨rfl,λ ys hy=>by rw [I.tuple_inj hy hq];exact hx⟩ st' sb
 done:=by
  intro X hP hw hK A i pins s Y H Q E hh I st hg hE
  subst hP hw hK
  obtain ⟨xs,hq,hx⟩:=hg
  obtain ⟨its,rv,p,hz⟩:=I.tuple hq
  have hl:=rv.length
  exact zi7 hh st (show s.heap.IsTuple a its.toArray from p) (by simp;lia) hE
theorem za1 {X:Cx} {pins:List (Addr×Obj)} {Y:St} {H:Hp} {s:Shared} {b:Addr} {h':Heap} {tk:Nat} (I:Inv X pins Y H s) (f:FpOk X pins H b) (k:Heap.SameBut b s.heap h'):Inv X pins Y H { s with heap:=h',toks:=tk } :=
 let ⟨f0,f1,_,f3,f4,f5⟩:=f
 I.turned (λ c o hc e=>(k.2 c hc).trans e) f0 f1 f3 f4 f5
theorem zpf {X:Cx} {pins:List (Addr×Obj)} {Y:St} {H:Hp} {s:Shared} {b:Addr} {h':Heap} {tk:Nat} (I:Inv X pins Y H s) (f:FpOk X pins H b) (k:Heap.ExtBut b s.heap h'):Inv X pins Y H { s with heap:=h',toks:=tk } :=
 let ⟨f0,f1,_,f3,f4,f5⟩:=f
 I.turned (λ c o hc e=>k c o hc e) f0 f1 f3 f4 f5
structure ZAp (z TI TO i1 i2:Addr):Prop where
 TIz:TI≠z
 TOz:TO≠z
 i1z:i1≠z
 i2z:i2≠z
 TITO:TI≠TO
 TIi1:TI≠i1
 TIi2:TI≠i2
 TOi1:TO≠i1
 TOi2:TO≠i2
 i12:i1≠i2
structure ZSt (z TI TO i1 i2:Addr) (f0:Value) (st1 st2:Nat->Heap->Prop) (i:Nat) (h:Heap):Prop where
 z:IsZip h z TI TO f0
 TI:IsPair h TI (.ref i1) (.ref i2)
 TO:∃ a b,IsPair h TO a b
 s1:st1 i h
 s2:st2 i h
section
variable {X:Cx} {pins:List (Addr×Obj)} {Y:St} {H:Hp} {s:Shared} {J1 J2:It} {z TI TO i1 i2:Addr} {st1 st2:Nat->Heap->Prop} {i:Nat}
theorem zmq {A:Around} {E:Value->Shared->Prop} {Q:Value->Shared->Prop} (N1:Nx X.prog X.w X.K J1 i1 st1) (N2:Nx X.prog X.w X.K J2 i2 st2) (D:ZAp z TI TO i1 i2) (I:Inv X pins Y H s)
  (fz:FpOk X pins H z) (fTO:FpOk X pins H TO) (f1:FpOk X pins H i1) (f2:FpOk X pins H i2) (S:ZSt z TI TO i1 i2 .none st1 st2 i s.heap) (g1:J1.go i H) (g2:J2.go i H)
  (hQ:∀ p x1 x2 s',H p=none->p≠z->p≠TI->p≠TO->p≠i1->p≠i2->J1.yld i H x1 H->J2.yld i H x2 H->Inv X pins Y (upd H p (.tup [x1,x2])) s'->ZSt z TI TO i1 i2 (rawInt p) st1 st2 (i+1) s'.heap->Q (.ref p) s') :
  wpAny (model X.prog X.w) A (Builtin.«zip.__next__» ⟨[.ref z],[]⟩) (λ fin s'=>∃ v,fin=.done (.ret v)/\Q v s') E s:=by
 obtain ⟨hz,hTI,⟨a,b,hTO⟩,h1,h2⟩:=S
 show wpAny _ _ (field (.ref z) 2 >>= _) _ _ _
 refine wpAny_bind (wpAny_field hz rfl (x:=.bool false) rfl ?_)
 show wpAny _ _ (field (.ref z) 3 >>= _) _ _ _
 refine wpAny_bind (wpAny_field hz rfl (x:=.ref TI) rfl ?_)
 refine wpAny_bind (wpAny_seqItems hTI rfl ?_)
 show wpAny _ _ (Builtin.SmallTypes.ownedTupleIsFree (.ref z) >>= _) _ _ _
 refine wpAny_bind ?_
 unfold Builtin.SmallTypes.ownedTupleIsFree
 refine wpAny_bind (wpAny_field hz rfl (x:=.none) rfl (wpAny_pure ?_))
 simp only [if_true]
 refine wpAny_bind (wpAny_rule ?_)
 refine wpAny_bind (wpAny_field hz rfl (x:=.ref TO) rfl ?_)
 refine wpAny_bind (wpAny_setField_rec hz (by simp) λ h₁ hz₁ hs₁=>?_)
 replace hz₁:IsZip h₁ z TI TO .ellipsis:=hz₁
 have I1:Inv X pins Y H { s with heap:=h₁ }:=za1 (tk:=s.toks) I fz hs₁
 refine wpAny_bind ?_
 simp only [x9,yA,xN,xP]
 refine wpAny_bind (wpAny_bind (wpAny_onRaise ?_))
 show wpAny _ _ (Builtin.SmallTypes.nextOf (.ref i1) >>= _) _ _ _
 have a1:st1 i h₁:=N1.keep _ _ _ h1 λ o e=>hs₁.extBut _ _ D.i1z e
 refine wpAny_bind (N1.item X rfl rfl rfl _ i pins _ Y H _ _ I1 a1 g1 λ x x1 h₂ tk₂ r1 y1 b1 hs₂=>wpAny_pure ?_)
 replace hs₂:Heap.SameBut i1 h₁ h₂:=hs₂
 have I2:Inv X pins Y H { s with heap:=h₂,toks:=tk₂ }:=za1 (s:={ s with heap:=h₁ }) (tk:=tk₂) I1 f1 hs₂
 have hTO₂:IsPair h₂ TO a b:=hs₂.extBut _ _ D.TOi1 (hs₁.extBut _ _ D.TOz hTO)
 refine wpAny_bind (wpAny_seqItems hTO₂ rfl ?_)
 refine wpAny_bind (wpAny_updateSeq_pair (s:={ s with heap:=h₂,toks:=tk₂ }) hTO₂ λ h₃ hTO₃ hs₃=>?_)
 replace hTO₃:IsPair h₃ TO x b:=hTO₃
 replace hs₃:Heap.SameBut TO h₂ h₃:=hs₃
 have I3:Inv X pins Y H { s with heap:=h₃,toks:=tk₂ }:=za1 (s:={ s with heap:=h₂,toks:=tk₂ }) (tk:=tk₂) I2 fTO hs₃
 refine wpAny_bind (wpAny_letGo (wpAny_pure ?_))
 refine wpAny_bind (wpAny_bind (wpAny_onRaise ?_))
 show wpAny _ _ (Builtin.SmallTypes.nextOf (.ref i2) >>= _) _ _ _
 have a2:st2 i h₃:=N2.keep _ _ _ h2 λ o e=>hs₃.extBut _ _ D.TOi2.symm (hs₂.extBut _ _ D.i12.symm (hs₁.extBut _ _ D.i2z e))
 refine wpAny_bind (N2.item X rfl rfl rfl _ i pins _ Y H _ _ I3 a2 g2 λ y x2 h₄ tk₄ r2 y2 b2 hs₄=>wpAny_pure ?_)
 replace hs₄:Heap.SameBut i2 h₃ h₄:=hs₄
 have I4:Inv X pins Y H { s with heap:=h₄,toks:=tk₄ }:=za1 (s:={ s with heap:=h₃,toks:=tk₂ }) (tk:=tk₄) I3 f2 hs₄
 have hTO₄:IsPair h₄ TO x b:=hs₄.extBut _ _ D.TOi2 hTO₃
 refine wpAny_bind (wpAny_seqItems hTO₄ rfl ?_)
 refine wpAny_bind (wpAny_updateSeq_pair (s:={ s with heap:=h₄,toks:=tk₄ }) hTO₄ λ h₅ hTO₅ hs₅=>?_)
 replace hTO₅:IsPair h₅ TO x y:=hTO₅
 replace hs₅:Heap.SameBut TO h₄ h₅:=hs₅
 have I5:Inv X pins Y H { s with heap:=h₅,toks:=tk₄ }:=za1 (s:={ s with heap:=h₄,toks:=tk₄ }) (tk:=tk₄) I4 fTO hs₅
 refine wpAny_bind (wpAny_letGo (wpAny_pure (wpAny_pure ?_)))
 refine wpAny_bind (wpAny_seqItems hTO₅ rfl ?_)
 refine wpAny_bind (wpAny_newTuple ?_)
 have hz₅:IsZip h₅ z TI TO .ellipsis:=hs₅.extBut _ _ D.TOz.symm (hs₄.extBut _ _ D.i2z.symm (hs₃.extBut _ _ D.TOz.symm (hs₂.extBut _ _ D.i1z.symm hz₁)))
 have hTI₅:IsPair h₅ TI (.ref i1) (.ref i2):=hs₅.extBut _ _ D.TITO (hs₄.extBut _ _ D.TIi2 (hs₃.extBut _ _ D.TITO (hs₂.extBut _ _ D.TIi1 (hs₁.extBut _ _ D.TIz hTI))))
 have c1:st1 (i+1) h₅:=N1.keep _ _ _ b1 λ o e=>hs₅.extBut _ _ D.TOi1.symm (hs₄.extBut _ _ D.i12 (hs₃.extBut _ _ D.TOi1.symm e))
 have c2:st2 (i+1) h₅:=N2.keep _ _ _ b2 λ o e=>hs₅.extBut _ _ D.TOi2.symm e
 have hp:H h₅.objs.size=none:=I5.hok.fresh (uG _)
 have I6:Inv X pins Y (upd H h₅.objs.size (.tup [x1,x2])) { s with heap:=h₅.push { cls:=.type "tuple",data:=.seq #[x,y] },toks:=tk₄ }:=by
  refine I5.laid (t':=tk₄) (o:=.tup [x1,x2]) (λ b ob q=>uH _ q) (uG _) ?_
  exact ⟨by show 2<=sizeLine;rw [sizeLine_eq];decide,[x,y],.cons r1 (.cons r2 .nil),_,uT _ rfl,rfl,0,rfl⟩
 have lt:∀ {c:Addr} {o:Obj},h₅.get? c=some o->h₅.objs.size≠c:=λ e=>xX (uO e)
 obtain ⟨o1,e1,_⟩:=N1.obj _ _ c1
 obtain ⟨o2,e2,_⟩:=N2.obj _ _ c2
 have fz':FpOk X pins (upd H h₅.objs.size (.tup [x1,x2])) z:=⟨by rw [zn0 (lt hz₅).symm];exact fz.1,fz.2⟩
 show wpAny _ _ (Builtin.SmallTypes.ownedTupleHandOut (.ref z) (.ref h₅.objs.size) >>= _) _ _ _
 refine wpAny_bind ?_
 unfold Builtin.SmallTypes.ownedTupleHandOut
 have hz₆:IsZip (h₅.push { cls:=.type "tuple",data:=.seq #[x,y] }) z TI TO .ellipsis:=uH _ hz₅
 refine wpAny_bind (wpAny_setField_rec hz₆ (by simp) λ h₇ hz₇ hs₇=>?_)
 replace hz₇:IsZip h₇ z TI TO (rawInt h₅.objs.size):=hz₇
 have I7:Inv X pins Y (upd H h₅.objs.size (.tup [x1,x2])) { s with heap:=h₇,toks:=tk₄ }:=za1 (s:={ s with heap:=h₅.push { cls:=.type "tuple",data:=.seq #[x,y] },toks:=tk₄ }) (tk:=tk₄) I6 fz' hs₇
 refine wpAny_setField_rec hz₇ (by simp) λ h₈ hz₈ hs₈=>?_
 replace hz₈:IsZip h₈ z TI TO (rawInt h₅.objs.size):=hz₈
 have I8:Inv X pins Y (upd H h₅.objs.size (.tup [x1,x2])) { s with heap:=h₈,toks:=tk₄ }:=za1 (s:={ s with heap:=h₇,toks:=tk₄ }) (tk:=tk₄) I7 fz' hs₈
 have up:∀ c o,c≠z->h₅.get? c=some o->h₈.get? c=some o:=λ c o c1 e=>hs₈.extBut _ _ c1 (hs₇.extBut _ _ c1 (uH _ e))
 refine wpAny_pure ⟨_,rfl,?_⟩
 exact hQ h₅.objs.size x1 x2 _ hp (lt hz₅) (lt hTI₅) (lt hTO₅) (lt e1) (lt e2) y1 y2 I8 ⟨hz₈,up _ _ D.TIz hTI₅,⟨_,_,up _ _ D.TOz hTO₅⟩,N1.keep _ _ _ c1 λ o e=>up _ o D.i1z e,N2.keep _ _ _ c2 λ o e=>up _ o D.i2z e⟩
theorem ziy {A:Around} {E:Value->Shared->Prop} {Q:Fin->Shared->Prop} (hh:A.handled=none) (N1:Nx X.prog X.w X.K J1 i1 st1) (N2:Nx X.prog X.w X.K J2 i2 st2) (D:ZAp z TI TO i1 i2) (I:Inv X pins Y H s)
  (fz:FpOk X pins H z) (fTO:FpOk X pins H TO) (f1:FpOk X pins H i1) (f2:FpOk X pins H i2) (S:ZSt z TI TO i1 i2 .none st1 st2 i s.heap) (g:J1.stop i H \/ (J1.go i H/\J2.stop i H))
  (hE:∀ h' e tk,Inv X pins Y H { s with heap:=h',toks:=tk }->(∃ o,h'.get? e=some o/\o.cls=.type "StopIteration")->E (.ref e) { s with heap:=h',toks:=tk }) :
  wpAny (model X.prog X.w) A (Builtin.«zip.__next__» ⟨[.ref z],[]⟩) Q E s:=by
 obtain ⟨hz,hTI,⟨a,b,hTO⟩,h1,h2⟩:=S
 show wpAny _ _ (field (.ref z) 2 >>= _) _ _ _
 refine wpAny_bind (wpAny_field hz rfl (x:=.bool false) rfl ?_)
 show wpAny _ _ (field (.ref z) 3 >>= _) _ _ _
 refine wpAny_bind (wpAny_field hz rfl (x:=.ref TI) rfl ?_)
 refine wpAny_bind (wpAny_seqItems hTI rfl ?_)
 show wpAny _ _ (Builtin.SmallTypes.ownedTupleIsFree (.ref z) >>= _) _ _ _
 refine wpAny_bind ?_
 unfold Builtin.SmallTypes.ownedTupleIsFree
 refine wpAny_bind (wpAny_field hz rfl (x:=.none) rfl (wpAny_pure ?_))
 simp only [if_true]
 refine wpAny_bind (wpAny_rule ?_)
 refine wpAny_bind (wpAny_field hz rfl (x:=.ref TO) rfl ?_)
 refine wpAny_bind (wpAny_setField_rec hz (by simp) λ h₁ hz₁ hs₁=>?_)
 replace hz₁:IsZip h₁ z TI TO .ellipsis:=hz₁
 have I1:Inv X pins Y H { s with heap:=h₁ }:=za1 (tk:=s.toks) I fz hs₁
 refine wpAny_bind ?_
 simp only [x9,yA,xN,xP]
 refine wpAny_bind (wpAny_bind (wpAny_onRaise ?_))
 show wpAny _ _ (Builtin.SmallTypes.nextOf (.ref i1) >>= _) _ _ _
 have a1:st1 i h₁:=N1.keep _ _ _ h1 λ o e=>hs₁.extBut _ _ D.i1z e
 rcases g with g|⟨g1,g2⟩
 ·refine wpAny_bind (N1.done X rfl rfl rfl _ i pins _ Y H _ _ hh I1 a1 g λ h₂ e hs₂ he=>?_)
  replace hs₂:Heap.ExtBut i1 h₁ h₂:=hs₂
  have I2:Inv X pins Y H { s with heap:=h₂ }:=zpf (s:={ s with heap:=h₁ }) (tk:=s.toks) I1 f1 hs₂
  obtain ⟨oe,hoe,hce⟩:=he
  have hz₂:IsZip h₂ z TI TO .ellipsis:=hs₂ _ _ D.i1z.symm hz₁
  have hez:e≠z:=λ x=>by subst x;rw [hz₂] at hoe;cases hoe;simp at hce
  exact wpAny_setField_rec hz₂ (by simp) λ h₃ _ hs₃=>hE h₃ e s.toks (za1 (s:={ s with heap:=h₂ }) (tk:=s.toks) I2 fz hs₃) ⟨oe,hs₃.extBut _ _ hez hoe,hce⟩
 ·refine wpAny_bind (N1.item X rfl rfl rfl _ i pins _ Y H _ _ I1 a1 g1 λ x x1 h₂ tk₂ r1 y1 b1 hs₂=>wpAny_pure ?_)
  replace hs₂:Heap.SameBut i1 h₁ h₂:=hs₂
  have I2:Inv X pins Y H { s with heap:=h₂,toks:=tk₂ }:=za1 (s:={ s with heap:=h₁ }) (tk:=tk₂) I1 f1 hs₂
  have hTO₂:IsPair h₂ TO a b:=hs₂.extBut _ _ D.TOi1 (hs₁.extBut _ _ D.TOz hTO)
  refine wpAny_bind (wpAny_seqItems hTO₂ rfl ?_)
  refine wpAny_bind (wpAny_updateSeq_pair (s:={ s with heap:=h₂,toks:=tk₂ }) hTO₂ λ h₃ hTO₃ hs₃=>?_)
  replace hs₃:Heap.SameBut TO h₂ h₃:=hs₃
  have I3:Inv X pins Y H { s with heap:=h₃,toks:=tk₂ }:=za1 (s:={ s with heap:=h₂,toks:=tk₂ }) (tk:=tk₂) I2 fTO hs₃
  refine wpAny_bind (wpAny_letGo (wpAny_pure ?_))
  refine wpAny_bind (wpAny_bind (wpAny_onRaise ?_))
  show wpAny _ _ (Builtin.SmallTypes.nextOf (.ref i2) >>= _) _ _ _
  have a2:st2 i h₃:=N2.keep _ _ _ h2 λ o e=>hs₃.extBut _ _ D.TOi2.symm (hs₂.extBut _ _ D.i12.symm (hs₁.extBut _ _ D.i2z e))
  refine wpAny_bind (N2.done X rfl rfl rfl _ i pins _ Y H _ _ hh I3 a2 g2 λ h₄ e hs₄ he=>?_)
  replace hs₄:Heap.ExtBut i2 h₃ h₄:=hs₄
  have I4:Inv X pins Y H { s with heap:=h₄,toks:=tk₂ }:=zpf (s:={ s with heap:=h₃,toks:=tk₂ }) (tk:=tk₂) I3 f2 hs₄
  obtain ⟨oe,hoe,hce⟩:=he
  have hz₄:IsZip h₄ z TI TO .ellipsis:=hs₄ _ _ D.i2z.symm (hs₃.extBut _ _ D.TOz.symm (hs₂.extBut _ _ D.i1z.symm hz₁))
  have hez:e≠z:=λ x=>by subst x;rw [hz₄] at hoe;cases hoe;simp at hce
  exact wpAny_setField_rec hz₄ (by simp) λ h₅ _ hs₅=>hE h₅ e tk₂ (za1 (s:={ s with heap:=h₄,toks:=tk₂ }) (tk:=tk₂) I4 fz hs₅) ⟨oe,hs₅.extBut _ _ hez hoe,hce⟩
end
noncomputable def Itz (J1 J2:It):It:=⟨λ i H=>J1.go i H/\J2.go i H,λ i H x H'=>∃ x1 x2 p,J1.yld i H x1 H/\J2.yld i H x2 H/\H p=none/\x=.ref p/\H'=upd H p (.tup [x1,x2]),λ i H=>J1.stop i H \/ (J1.go i H/\J2.stop i H)⟩
theorem zlp {P:Program} {w:World} {K:Fg} {elts:List Expr} {c:_} {pos:Pos} {J1 J2:It} {z TI TO i1 i2:Addr} {st1 st2:Nat->Heap->Prop} (N1:Nx P w K J1 i1 st1) (N2:Nx P w K J2 i2 st2) (D:ZAp z TI TO i1 i2) :
  Turn P w K (.Tuple elts c pos) (Itz J1 J2) [z,TI,TO,i1,i2] z (ZSt z TI TO i1 i2 .none st1 st2) where
 mem:=by simp
 obj:=λ i h S b hb=>by
  obtain ⟨hz,hTI,⟨a,b',hTO⟩,h1,h2⟩:=S
  simp at hb
  rcases hb with rfl|rfl|rfl|rfl|rfl
  ·exact ⟨_,hz,λ v q=>by cases q⟩
  ·exact ⟨_,hTI,λ v q=>by cases q⟩
  ·exact ⟨_,hTO,λ v q=>by cases q⟩
  ·exact N1.obj _ _ h1
  ·exact N2.obj _ _ h2
 keep:=λ i h h' S k=>by
  obtain ⟨hz,hTI,⟨a,b',hTO⟩,h1,h2⟩:=S
  exact ⟨k _ (by simp) _ hz,k _ (by simp) _ hTI,⟨a,b',k _ (by simp) _ hTO⟩,N1.keep _ _ _ h1 λ o e=>k _ (by simp) _ e,N2.keep _ _ _ h2 λ o e=>k _ (by simp) _ e⟩
 item:=by
  intro X hP hw hK hc i pins s Y H E I hf S hg
  subst hP hw hK
  have hT:s.TypeIs (.ref z) "zip":=⟨_,S.z,rfl⟩
  unfold pyNext
  refine wpAny_bind (wpAny_attempt (wpAny_callSpecial?_slot (name:=uE "__next__") hT F.slot_zip_next
   (wpAny_call_entry F.slot_zip_next hT F.entry_zip_next
    (zmq N1 N2 D I (hf _ (by simp)) (hf _ (by simp)) (hf _ (by simp)) (hf _ (by simp)) S hg.1 hg.2 λ p x1 x2 s' hp n1 n2 n3 n4 n5 y1 y2 I' S'=>wpAny_pure ?_) (F.args_zip_next_1 _))))
  refine ⟨.ref p,rfl,wpAny_letOwnedTupleGo_zip S'.z λ h' hz' hs'=>?_⟩
  have nn:∀ b∈[z,TI,TO,i1,i2],b≠p:=λ b hb=>by
   simp at hb
   rcases hb with rfl|rfl|rfl|rfl|rfl
   ·exact n1.symm
   ·exact n2.symm
   ·exact n3.symm
   ·exact n4.symm
   ·exact n5.symm
  have fz:FpOk X pins (upd H p (.tup [x1,x2])) z:=⟨by rw [zn0 n1.symm];exact (hf z (by simp)).1,(hf z (by simp)).2⟩
  obtain ⟨_,hTI,⟨a,b',hTO⟩,h1,h2⟩:=S'
  refine ⟨.ref p,_,za1 (tk:=s'.toks) I' fz hs',rfl,⟨x1,x2,p,y1,y2,hp,rfl,rfl⟩,⟨hz',hs'.extBut _ _ D.TIz hTI,⟨a,b',hs'.extBut _ _ D.TOz hTO⟩,N1.keep _ _ _ h1 λ o e=>hs'.extBut _ _ D.i1z e,N2.keep _ _ _ h2 λ o e=>hs'.extBut _ _ D.i2z e⟩,λ b hb=>?_⟩
  rw [zn0 (nn b hb)]
  exact (hf b hb).1
 done:=by
  intro X hP hw hK hc i pins s Y H E I hf S hg
  subst hP hw hK
  have hT:s.TypeIs (.ref z) "zip":=⟨_,S.z,rfl⟩
  unfold pyNext
  refine wpAny_bind (wpAny_attempt (wpAny_callSpecial?_slot (name:=uE "__next__") hT F.slot_zip_next
   (wpAny_call_entry F.slot_zip_next hT F.entry_zip_next (ziy (I.ok.hd hc) N1 N2 D I (hf _ (by simp)) (hf _ (by simp)) (hf _ (by simp)) (hf _ (by simp)) S hg λ h' e tk I' he=>?_) (F.args_zip_next_1 _))))
  obtain ⟨o,ho,hc⟩:=he
  refine wpAny_bind (wpAny_isInstance (T := "StopIteration") (b:=true) ⟨o,ho,hc⟩ isSubtype_stop ?_)
  exact wpAny_pure ⟨rfl,I'⟩
 self:=λ _ _ _ _ _ S h=>wpAny_pyIter_zip S.z h
noncomputable def zbi (h:Heap) (v:Value) (ob:Obj):Prop:=∀ (prog:Program) (w:World) (A:Around) (s:Shared) (Q E:Value->Shared->Prop),(∀ c o,h.get? c=some o->s.heap.get? c=some o)->Q (.ref s.heap.objs.size) { s with heap:=s.heap.push ob }->wpAny (model prog w) A (pyIter v) Q E s
noncomputable def zipO (h:Heap) (o1 o2:Obj):Heap:=((((h.push o1).push o2).push { cls:=.type "tuple",data:=.seq #[.ref h.objs.size,.ref (h.push o1).objs.size] }).push { cls:=.type "tuple",data:=.seq #[.none,.none] }).push
 { cls:=.type "zip",data:=.fields #[.none,.bool false,.bool false,.ref ((h.push o1).push o2).objs.size,.ref (((h.push o1).push o2).push { cls:=.type "tuple",data:=.seq #[.ref h.objs.size,.ref (h.push o1).objs.size] }).objs.size] }
theorem zbk (v1 v2:Value) (o1 o2:Obj) :
  Meets (Builtin.«zip.__new__» ⟨[.type "zip",v1,v2],[]⟩) (λ _ R s=>zbi s.heap v1 o1/\zbi s.heap v2 o2 /\
   R (.ok (.ret (.ref ((((s.heap.push o1).push o2).push { cls:=.type "tuple",data:=.seq #[.ref s.heap.objs.size,.ref (s.heap.push o1).objs.size] }).push { cls:=.type "tuple",data:=.seq #[.none,.none] }).objs.size))) { s with heap:=zipO s.heap o1 o2 }) :=
 .of_wp λ prog w A R s h=>by
  obtain ⟨hp,g,d,tk,os⟩:=s;obtain ⟨q1,q2,h⟩:=h
  have hsub:=sub_zip
  have p1:∀ {A:Around} {Q E:Value->Shared->Prop},Q (.ref hp.objs.size) ⟨hp.push o1,g,d,tk,os⟩->wpAny (model prog w) A (pyIter v1) Q E ⟨hp,g,d,tk,os⟩:=λ {A Q E} z=>q1 prog w A ⟨hp,g,d,tk,os⟩ Q E (λ _ _ e=>e) z
  have p2:∀ {A:Around} {Q E:Value->Shared->Prop},Q (.ref (hp.push o1).objs.size) ⟨(hp.push o1).push o2,g,d,tk,os⟩->wpAny (model prog w) A (pyIter v2) Q E ⟨hp.push o1,g,d,tk,os⟩:=λ {A Q E} z=>q2 prog w A ⟨hp.push o1,g,d,tk,os⟩ Q E (λ _ _ e=>uH _ e) z
  wp_walk using p1,p2
  exact ⟨_,rfl,h⟩
theorem zar {prog:Program} {w:World} {A:Around} {E:Value->Shared->Prop} {s:Shared} {v1 v2:Value} {o1 o2:Obj} {Q:Value->Shared->Prop} (h1:zbi s.heap v1 o1) (h2:zbi s.heap v2 o2)
  (h:∀ h',IsZip h' (s.heap.objs.size+4) (s.heap.objs.size+2) (s.heap.objs.size+3) .none->IsPair h' (s.heap.objs.size+2) (.ref s.heap.objs.size) (.ref (s.heap.objs.size+1)) ->
   IsPair h' (s.heap.objs.size+3) .none .none->h'.get? s.heap.objs.size=some o1->h'.get? (s.heap.objs.size+1)=some o2->(∀ c o,s.heap.get? c=some o->h'.get? c=some o)->Q (.ref (s.heap.objs.size+4)) { s with heap:=h' })
  (f1:o1.isFreed=false) (f2:o2.isFreed=false):wpAny (model prog w) A (call (.type "zip") [v1,v2]) Q E s:=by
 refine callType_new F.called_zip (by decide) (F.typeCall_zip_2 _ _) (F.newCall_zip_2 _ _) (λ obj=>F.args_object_init_3 obj _ _) F.entry_zip_new (zbk v1 v2 o1 o2) ⟨h1,h2,?_⟩
 have z1:(s.heap.push o1).objs.size=s.heap.objs.size+1:=vE ..
 have z2:((s.heap.push o1).push o2).objs.size=s.heap.objs.size+2:=by rw [vE,z1]
 have z3:(((s.heap.push o1).push o2).push { cls:=.type "tuple",data:=.seq #[.ref s.heap.objs.size,.ref (s.heap.push o1).objs.size] }).objs.size=s.heap.objs.size+3:=by rw [vE,z2]
 have z4:((((s.heap.push o1).push o2).push { cls:=.type "tuple",data:=.seq #[.ref s.heap.objs.size,.ref (s.heap.push o1).objs.size] }).push { cls:=.type "tuple",data:=.seq #[.none,.none] }).objs.size=s.heap.objs.size+4:=by rw [vE,z3]
 have g5:(zipO s.heap o1 o2).get? ((((s.heap.push o1).push o2).push { cls:=.type "tuple",data:=.seq #[.ref s.heap.objs.size,.ref (s.heap.push o1).objs.size] }).push { cls:=.type "tuple",data:=.seq #[.none,.none] }).objs.size=some _:=uT _ rfl
 have g4:(zipO s.heap o1 o2).get? (((s.heap.push o1).push o2).push { cls:=.type "tuple",data:=.seq #[.ref s.heap.objs.size,.ref (s.heap.push o1).objs.size] }).objs.size=some _:=uH _ (uT _ rfl)
 have g3:(zipO s.heap o1 o2).get? ((s.heap.push o1).push o2).objs.size=some _:=uH _ (uH _ (uT _ rfl))
 have g2:(zipO s.heap o1 o2).get? (s.heap.push o1).objs.size=some o2:=uH _ (uH _ (uH _ (uT _ f2)))
 have g1:(zipO s.heap o1 o2).get? s.heap.objs.size=some o1:=uH _ (uH _ (uH _ (uH _ (uT _ f1))))
 show _/\_
 rw [z2,z3,z4] at g5
 rw [z1,z2] at g3
 rw [z3] at g4
 rw [z1] at g2
 rw [z4]
 exact ⟨⟨_,g5,rfl⟩,h _ g5 g3 g4 g1 g2 λ c o x=>uH _ (uH _ (uH _ (uH _ (uH _ x))))⟩
noncomputable def kSrc (K:Fg) (x:V) (H:Hp) (R:It->Prop):Prop:=(∃ a,x=.ref a/\(∃ xs,SqL K H a xs)/\R (Itl K a)) \/ (∃ a,x=.ref a/\(∃ xs,SqT K H a xs)/\R (Itt K a))
theorem za8 {X:Cx} {pins:List (Addr×Obj)} {Y:St} {H:Hp} {s:Shared} {x:V} {v:Value} {R:It->Prop} (I:Inv X pins Y H s) (r:RelV x v) (h:kSrc X.K x H R) :
  ∃ (J:It) (ob:Obj) (st:Addr->Nat->Heap->Prop),R J/\zbi s.heap v ob/\ob.isFreed=false/\(∀ it,Nx X.prog X.w X.K J it (st it))/\∀ it h,h.get? it=some ob->st it 0 h:=by
 rcases h with ⟨a,rfl,⟨xs,hq⟩,hR⟩|⟨a,rfl,⟨xs,hq⟩,hR⟩
 ·cases r
  obtain ⟨its,rv,p,hz⟩:=I.list hq
  refine ⟨_,{ cls:=.type "list_iterator",data:=.fields #[.ref a,.int 0 0] },λ it i h=>h.IsListIter it a i,hR,λ prog w A s1 Q E k q=>?_,rfl,λ it=>zgt a it,λ it h e=>⟨_,e,rfl,rfl⟩⟩
  exact wpAny_pyIter_list (p.isList.at λ o e=>k a o e) q
 ·cases r
  obtain ⟨its,rv,p,hz⟩:=I.tuple hq
  refine ⟨_,{ cls:=.type "tuple_iterator",data:=.fields #[.ref a,.int 0 0] },λ it i h=>h.IsTupleIter it a i,hR,λ prog w A s1 Q E k q=>?_,rfl,λ it=>zwz a it,λ it h e=>⟨_,e,rfl,rfl⟩⟩
  obtain ⟨o,e,t⟩:=p
  exact wpAny_pyIter_tuple (show s1.heap.IsTuple a its.toArray from ⟨o,k a o e,t⟩) q
theorem zap (n:Nat):ZAp (n+4) (n+2) (n+3) n (n+1):=by
 constructor <;> (refine λ (h:(_:Nat)=_)=>?_;lia)
theorem five (n:Nat) (b:Nat) (h:b=n+4 \/ b=n+2 \/ b=n+3 \/ b=n \/ b=n+1):n<=b:=by lia
theorem zty:bootBuiltins "zip"=some (.type "zip"):=by decide +kernel
section
variable {X:Cx} {elts:List Expr}
noncomputable def zv91 (K:Fg) (vs:List V) (H:Hp) (R:It->Hp->Prop):Prop:=∃ x1 x2,vs=[x1,x2]/\kSrc K x1 H λ J1=>kSrc K x2 H λ J2=>R (Itz J1 J2) H
noncomputable def iZip (K:Fg) (ta:TA):TI:=λ Y H R=>ta Y H λ vs H1=>zv91 K vs H1 R
theorem zhi {K:Fg} (hK:X.K=K) {c:_} {tpos:Pos} {a b:Expr} {ta:TA} {p pos:Pos} (hg:Gl X "zip") (hm:X.mg "zip"=none) (ha:PA X [a,b] ta) (hs:starEach [a,b] X.env=[(false,eval a X.env),(false,eval b X.env)]:=by rfl) (hs2:starEach [b] X.env=[(false,eval b X.env)]:=by rfl) :
  PI X (.Tuple elts c tpos) (.Call (.Name "zip" p) [a,b] [] pos) (iZip K ta):=by
 subst hK
 intro pins s Y H R I h
 refine Call_ (zia I hg hm zty (PyProof.Rows.callWith_type1 (thn (ha pos pins s Y H _ I h) λ us s1 ⟨vs,H1,I1,r1,q1⟩=>?_) (by rw [hs,hs2]) (by rw [hs2];rfl)))
 obtain ⟨x1,x2,e,q1⟩:=q1
 subst e
 obtain ⟨u1,u2,rfl,r1,r2⟩:=zn51 r1
 obtain ⟨J1,o1,st1,q2,op1,fr1,n1,z1⟩:=za8 I1 r1 q1
 obtain ⟨J2,o2,st2,q,op2,fr2,n2,z2⟩:=za8 I1 r2 q2
 refine zar op1 op2 (λ h' hz hTI hTO g1 g2 kk=>wpAny_pyIter_zip hz ?_) fr1 fr2
 have I2:Inv X pins Y H1 { s1 with heap:=h' }:=I1.kept (t':=s1.toks) kk
 refine ⟨s1.heap.objs.size+4,[s1.heap.objs.size+4,s1.heap.objs.size+2,s1.heap.objs.size+3,s1.heap.objs.size,s1.heap.objs.size+1],_,_,H1,rfl,I2,
  zlp (n1 s1.heap.objs.size) (n2 (s1.heap.objs.size+1)) (zap _),⟨hz,hTI,⟨_,_,hTO⟩,z1 _ _ g1,z2 _ _ g2⟩,λ b hb=>?_,q⟩
 have hb':s1.heap.objs.size<=b:=by
  simp at hb
  exact five _ _ hb
 exact I1.fpOk hb' (I1.hok.fresh hb')
end
noncomputable def entM (w:World) (e:Str×Tok×Value):DictEntry:=⟨PyData.keyHash w.params e.1,.str e.1 e.2.1,e.2.2⟩
structure KD (w:World) (K:Fg) (d:Addr) (kvs:List (Str×V)):Prop where
 ne:(d == sysModules)=false
 ex:∃ (l:List (Str×Tok×Value)) (n:Nat),K.lookup d=some { cls:=.type "dict",data:=.dict (l.map (entM w)).toArray n }/\Paired (λ (p:Str×V) (q:Str×Tok×Value)=>p.1=q.1/\RelV p.2 q.2.2) kvs l
theorem ztv {w:World} {k:Str}:∀ {kvs:List (Str×V)} {l:List (Str×Tok×Value)},Paired (λ (p:Str×V) (q:Str×Tok×Value)=>p.1=q.1/\RelV p.2 q.2.2) kvs l ->
  RelO (kvs.lookup k) (((l.map (entM w)).find? λ e=>wH k e.key).map (·.val))
|_,_,.nil=>trivial
|_,_,.cons (a:=p) (b:=q) h r=>by
  obtain ⟨x,v⟩:=p
  obtain ⟨y,t,u⟩:=q
  obtain ⟨e,rv⟩:=h
  cases e
  have ih:=ztv (w:=w) (k:=k) r
  show RelO (vX k ((x,v) :: _)) (((entM w (x,t,u) :: _).find? λ e=>wH k e.key).map (·.val))
  rw [u4,wN]
  by_cases hk:k=x
  ·subst hk
   have h1:(k == k)=true:=beq_self_eq_true k
   have h2:wH k (entM w (k,t,u)).key=true:=by simp [entM,wH]
   rw [h1,h2]
   exact rv
  ·have h1:(k == x)=false:=beq_eq_false_iff_ne.mpr hk
   have h2:wH k (entM w (x,t,u)).key=false:=by
    show (x == k)=false
    exact beq_eq_false_iff_ne.mpr λ e=>hk e.symm
   rw [h1,h2]
   exact ih
section
variable {X:Cx} {pins:List (Addr×Obj)} {Y:St} {H:Hp} {s:Shared} {d:Addr} {kvs:List (Str×V)}
theorem KD.map (D:KD X.w X.K d kvs) (I:Inv X pins Y H s):∃ f:Str->Option Value,s.heap.MapOf (PySem.strKind X.prog X.w) d f/\∀ k,RelO (kvs.lookup k) (f k):=by
 obtain ⟨l,n,e,r⟩:=D.ex
 refine ⟨λ k=>((l.map (entM X.w)).find? λ e=>wH k e.key).map (·.val),⟨_,(l.map (entM X.w)).toArray,n,I.kIn d _ e,⟨rfl,rfl,rfl⟩,rfl,λ e he=>?_,λ k=>?_⟩,λ k=>ztv r⟩
 ·obtain ⟨q,_,rfl⟩:=uL.mp (by simpa using he:e∈l.map (entM X.w))
  exact ⟨q.1,by simp [entM,PySem.strKind,wH],rfl⟩
 ·show findBy (PySem.strKind X.prog X.w).is _ k=_
  unfold findBy
  rw [List.find?_toArray]
  rfl
noncomputable def rInM (w:World) (K:Fg):R2:=λ x y H Q=>∃ d kvs z,x=.str z/\y=.ref d/\KD w K d kvs/\Q (.bl (kvs.lookup z).isSome) H
noncomputable def zam (w:World) (K:Fg):R2:=λ x y H Q=>∃ d kvs z,x=.str z/\y=.ref d/\KD w K d kvs/\Q (.bl (!(kvs.lookup z).isSome)) H
noncomputable def rIxM (w:World) (K:Fg):R2:=λ x y H Q=>∃ d kvs z v,x=.ref d/\y=.str z/\KD w K d kvs/\kvs.lookup z=some v/\Q v H
theorem zv9 {a:Option V} {b:Option Value} (r:RelO a b):b.isSome=a.isSome:=by
 cases a <;> cases b <;> first|rfl|exact False.elim r
theorem zq21 {w:World} {K:Fg} (hw:X.w=w) (hK:X.K=K):OpR X (compareOp .In) (rInM w K):=by
 subst hw hK
 intro pins s Y H x y v u Q I rx ry h
 obtain ⟨d,kvs,z,rfl,rfl,D,q⟩:=h
 obtain ⟨t,rfl⟩:=rx
 cases ry
 obtain ⟨f,m,r⟩:=D.map I
 refine wpAny_in_of (k:=z) (PySem.strKind_is X.prog X.w z t) D.ne m ?_
 rw [zv9 (r z)]
 exact ⟨.bl _,H,I.tok _,rfl,q⟩
theorem zqj {w:World} {K:Fg} (hw:X.w=w) (hK:X.K=K):OpR X (compareOp .NotIn) (zam w K):=by
 subst hw hK
 intro pins s Y H x y v u Q I rx ry h
 obtain ⟨d,kvs,z,rfl,rfl,D,q⟩:=h
 obtain ⟨t,rfl⟩:=rx
 cases ry
 obtain ⟨f,m,r⟩:=D.map I
 refine wpAny_notIn_of (k:=z) (PySem.strKind_is X.prog X.w z t) D.ne m ?_
 rw [zv9 (r z)]
 exact ⟨.bl _,H,I.tok _,rfl,q⟩
theorem ix_M {w:World} {K:Fg} (hw:X.w=w) (hK:X.K=K):IxR X (rIxM w K):=by
 subst hw hK
 intro value slice pins s Y H x y v u Q I rx ry h hs
 obtain ⟨d,kvs,z,r0,rfl,rfl,D,e,q⟩:=h
 cases rx
 obtain ⟨t,rfl⟩:=ry
 obtain ⟨f,m,r⟩:=D.map I
 have rz:=r z
 rw [e] at rz
 obtain ⟨u,eu,ru⟩:=rz.some_of
 exact tail_any m.typeIs PySem.F.slot_dict_getitem.lookup (wpAny_getItem_of (k:=z) (PySem.strKind_is X.prog X.w z t) m eu ⟨r0,H,I.tok _,ru,q⟩) hs
end
noncomputable def Walks (J:It) (H:Hp) (n:Nat) (Yv:Nat->V->Hp->Prop):Prop:=∀ H',Same H H'->(∀ i,i < n->J.go i H')/\J.stop n H'/\∀ i x H2,i < n->J.yld i H' x H2->Same H' H2/\Yv i x H2
noncomputable def zr51:R2:=λ x y H Q=>zh71 x y H Q \/ zr61 x y H Q
noncomputable def rInW (w:World) (K:Fg):R2:=λ x y H Q=>rInU K x y H Q \/ rInM w K x y H Q
noncomputable def zbm (w:World) (K:Fg):R2:=λ x y H Q=>zqm K x y H Q \/ zam w K x y H Q
noncomputable def rIxW (w:World) (K:Fg):R2:=λ x y H Q=>rIx K x y H Q \/ rIxM w K x y H Q
noncomputable def rSlW (K:Fg):V->Option Int->Option Int->Hp->VK->Prop:=λ x lo hi H Q=>rSlU K x lo hi H Q \/ rSlS x lo hi H Q
noncomputable def zp31 (K:Fg) (x:V) (H:Hp) (R:It->Hp->Prop):Prop:=zu81 K x H R \/ ∃ z:Str,x=.str z/\z.cps.all (· < 128)=true/\R (Its z) H
noncomputable def iW (K:Fg) (tl:TE):TI:=λ Y H R=>tl Y H λ x H1=>zp31 K x H1 R
section
variable {X:Cx} {w:World} {K:Fg} {tg:Expr}
theorem zut:OpR X (binaryOp .Mult) zr51:=zfw.or zrw
theorem zz41 (hw:X.w=w) (hK:X.K=K):OpR X (compareOp .In) (rInW w K):=(zu21 hK).or (zq21 hw hK)
theorem zek (hw:X.w=w) (hK:X.K=K):OpR X (compareOp .NotIn) (zbm w K):=(zmk hK).or (zqj hw hK)
theorem ix_W (hw:X.w=w) (hK:X.K=K):IxR X (rIxW w K):=(ix_U hK).or (ix_M hw hK)
theorem sl_W (hK:X.K=K):SlR X (rSlW K):=(sl_U hK).or zev
theorem pi_W (h:X.K=K) {l:Expr} {tl:TE} (hl:PE X l tl):PI X tg l (iW K tl):=by
 subst h
 intro pins s Y H R I h
 refine thn (hl pins s Y H _ I h) λ v s1 ⟨x,H1,I1,r1,q1⟩=>?_
 rcases q1 with (⟨a,e,⟨xs,hq⟩,q⟩|⟨a,e,⟨xs,hq⟩,q⟩)|⟨z,rfl,ha,q⟩
 ·subst e
  cases r1
  obtain ⟨its,rv,p,hz⟩:=I1.list hq
  refine wpAny_pyIter_list p.isList ?_
  refine ⟨s1.heap.objs.size,[s1.heap.objs.size],_,_,H1,rfl,I1.kept (t':=s1.toks) λ b o e=>uH _ e,zfl a _,⟨_,uT _ rfl,rfl,rfl⟩,λ b hb=>?_,q⟩
  have e:b=s1.heap.objs.size:=by simpa using hb
  subst e
  exact I1.fpOk (uG _) (I1.hok.fresh (uG _))
 ·subst e
  cases r1
  obtain ⟨its,rv,p,hz⟩:=I1.tuple hq
  refine wpAny_pyIter_tuple (show s1.heap.IsTuple a its.toArray from p) ?_
  refine ⟨s1.heap.objs.size,[s1.heap.objs.size],_,_,H1,rfl,I1.kept (t':=s1.toks) λ b o e=>uH _ e,zfh a _,⟨_,uT _ rfl,rfl,rfl⟩,λ b hb=>?_,q⟩
  have e:b=s1.heap.objs.size:=by simpa using hb
  subst e
  exact I1.fpOk (uG _) (I1.hok.fresh (uG _))
 ·obtain ⟨t,rfl⟩:=r1
  refine wpAny_pyIter_ascii ha ?_
  refine ⟨s1.heap.objs.size,[s1.heap.objs.size],_,_,H1,rfl,I1.kept (t':=s1.toks) λ b o e=>uH _ e,zdr z t _,⟨_,uT _ rfl,rfl,rfl⟩,λ b hb=>?_,q⟩
  have e:b=s1.heap.objs.size:=by simpa using hb
  subst e
  exact I1.fpOk (uG _) (I1.hok.fresh (uG _))
noncomputable def zl51 (K:Fg):List V->Hp->VK->Prop:=λ xs H Q=>∃ p ys,xs=[.ref p]/\(SqL K H p ys \/ SqT K H p ys)/\∀ l,H l=none->Q (.ref l) (upd H l (.lst ys))
theorem zx2 (h:X.K=K):CallR X (.type "list") (zl51 K):=h ▸ zvc
end
section
variable {K:Fg} {w:World} {H:Hp} {Q:VK} {a b:Addr} {xs ys:List V} {i:Int} {v:V} {z:Str} {kvs:List (Str×V)} {d:Addr}
theorem zj71 (h:SqT K H a xs) (e:atI xs i=some v) (q:Q v H):rIxW w K (.ref a) (.int i) H Q:=.inl (za91 h e q)
end
theorem sIx_nat {n d a:Nat} (h:a<=n):HT.sIx n d (some (a:Int))=a:=by
 unfold HT.sIx
 simp
 rw [if_neg (by lia)]
 lia
theorem zf2 {X:Cx} {pos:Pos} {K:Fg} {n:Nat} (hK:X.K=K) {es:List Expr} {k:Nat} {t:TGs} (hc:X.calm=true) (h:PGs X es t)
  (hn:(assignEach es X.env).length=n:=by rfl) (hst:(assignEach es X.env).findIdx? (·.1)=none:=by rfl):PG X (.Tuple es k pos) (gTup K n t):=by
 subst hK
 exact zq41 hc h hn hst
noncomputable def kBM (K:Fg) (T:String) (r:V->List V->Hp->VK->Prop) (t:TA) (Y:St) (x:V) (H:Hp) (Q:VK):Prop:=tyV K T x H/\t Y H λ xs H2=>r x xs H2 Q
noncomputable def tBMU (K:Fg) (T:String) (r:V->List V->Hp->VK->Prop) (to:TE) (t:TA):TE:=λ Y H Q=>to Y H λ x H1=>kBM K T r t Y x H1 Q
theorem zj3 {X:Cx} {K:Fg} (hK:X.K=K) {o e:Expr} {es:List Expr} {to:TE} {t:TA} {name:Str} {apos cpos:Pos} {T id:String} {r:V->List V->Hp->VK->Prop} (pa:PlainAttrs T) (slot:Slot T name id) (hty:typeOf (.builtin id)=pure (.type "method_descriptor")) (hm:MtR X id r) (ho:PE X o to) (ha:PA X (e :: es) t)
  (hbase:attributeBase o name X.env (eval o X.env)=eval o X.env:=by rfl)
  (hfew:((backTo cpos (starEach (e :: es) X.env)).all (λ x=>!x.1) && (backToKw cpos (keywordEach [] X.env)).all (λ x=>x.1.isSome)
   && decide ((e :: es).length+([]:List Keyword).length+(if ([]:List Keyword).isEmpty then 0 else 1) < 30))=true:=by rfl)
  (hline:(apos.endLine == cpos.line)=true:=by rfl) (hs:starEach (e :: es) X.env=(false,eval e X.env) :: starEach es X.env:=by rfl) (hplain:(backTo cpos (starEach es X.env)).any (·.1)=false:=by rfl) :
  PE X (.Call (.Attribute o name apos) (e :: es) [] cpos) (tBMU K T r to t):=by
 subst hK
 exact zj81 pa slot hty hm ho ha hbase hfew hline hs hplain
noncomputable def zaz (_ j:Int):Prop:=0 < j/\j < 2 ^ 200
theorem zxp {j:Int} (h0:0 < j) (h1:j < 2 ^ 200):j.natAbs.log2 < 9000:=by
 have h:j.natAbs.log2 < 200:=(yW (by lia)).mpr (by lia)
 lia
theorem zw4 {X:Cx}:OpR X (binaryOp .FloorDiv) (rI zaz λ i j=>.int (i / j)):=opI λ i j _ _ _ _ _ hc q=>by
 have h1:(0:Int) < j:=hc.1
 exact floordiv_int (by lia) (by rw [zH i (by lia)];exact q) (.inl (PyProof.noPylong_of_log2 (zxp hc.1 hc.2)))
noncomputable def zrh {α:Type} (xs:List α) (lo hi st:Option Int):List α:=(sliceRange (sliceBounds lo hi st xs.length).1 (sliceBounds lo hi st xs.length).2.1 (sliceBounds lo hi st xs.length).2.2).filterMap (xs[·]?)
theorem zq9 {xs:List V} {vs:List Value} (h:Vals xs vs):∀ js:List Nat,Vals (js.filterMap (xs[·]?)) (js.filterMap (vs[·]?))
|[]=>.nil
|j :: js=>by
  have ih:=zq9 h js
  cases hn:xs[j]? with
 |some n =>
   obtain ⟨u,hu,r⟩:=h.get hn
   simp only [wD,hn,hu]
   exact .cons r ih
 |none =>
   have hv:=h.none_of hn
   simp only [wD,hn,hv]
   exact ih
theorem ztk {xs:List V} {vs:List Value} (h:Vals xs vs) (lo hi st:Option Int):Vals (zrh xs lo hi st) (slicePick vs.toArray lo hi st).toList:=by
 have e:(slicePick vs.toArray lo hi st).toList=(sliceRange (sliceBounds lo hi st xs.length).1 (sliceBounds lo hi st xs.length).2.1 (sliceBounds lo hi st xs.length).2.2).filterMap (vs[·]?):=by
  simp [slicePick,h.length]
 rw [e]
 exact zq9 h _
noncomputable def rSl3 (K:Fg):V->Option Int->Option Int->Option Int->Hp->VK->Prop:=λ x lo hi st H Q=>∃ a xs,x=.ref a/\SqL K H a xs/\st≠some 0/\∀ p,H p=none->Q (.ref p) (upd H p (.lst (zrh xs lo hi st)))
noncomputable def tSl3 (K:Fg) (te:TE) (tl th tk:TO):TE:=λ Y H Q=>te Y H λ x H1=>tl Y H1 λ l H2=>th Y H2 λ u H3=>tk Y H3 λ st H4=>rSl3 K x l u st H4 Q
theorem zql {X:Cx} {K:Fg} (hK:X.K=K) {e:Expr} {te:TE} {lo hi:Option Expr} {st:Expr} {tl th tk:TO} {pos p2:Pos} (he:PE X e te) (hl:PO X lo tl) (hu:PO X hi th) (hs:PO X (some st) tk):PE X (.Subscript e (.Slice lo hi (some st) p2) pos) (tSl3 K te tl th tk):=by
 subst hK
 intro pins s Y H Q I h
 refine Subscript_ (thn (he pins s Y H _ I h) λ v s1 ⟨x,H1,I1,r1,q1⟩=>?_)
 refine wpAny_Slice (thn (hl pins s1 Y H1 _ I1 q1) λ vl s2 ⟨l,H2,I2,pl,q2⟩=>thn (hu pins s2 Y H2 _ I2 q2) λ vu s3 ⟨u,H3,I3,pu,q3⟩=>thn (hs pins s3 Y H3 _ I3 q3) λ vk s4 ⟨k,H4,I4,pk,q4⟩=>?_)
 obtain ⟨a,xs,rfl,hx,h0,q⟩:=q4
 cases r1
 have I5:Inv X pins Y H4 { s4 with heap:=s4.heap.push { cls:=.type "slice",data:=.fields #[vl,vu,vk] } }:=I4.kept (t':=s4.toks) λ b ob q=>uH _ q
 obtain ⟨its,r,ht,hz⟩:=I5.list hx
 have hlen:=r.length
 refine tail_any (T := "list") (ops:=[.ref a,.ref s4.heap.objs.size]) ht.isList.typeIs slot_list_getitem.lookup (wpAny_getItem_list_slice ht.isList (Heap.IsSliceOf.new ..) pl pu pk h0 ?_ (by rw [uV] <;> lia)) (by with_unfolding_all rfl)
 have rv:=ztk r l u k
 refine ⟨.ref _,_,I5.laid (t':=s4.toks) (o:=.lst (zrh xs l u k)) (λ b ob q=>uH _ q) (uG _) ?_,rfl,q _ (I5.hok.fresh (uG _))⟩
 refine ⟨?_,_,0,rv,?_⟩
 ·have:=slicePick_size_le its.toArray l u k
  have e:=rv.length
  simp only [v8,uV] at this e
  lia
 ·rw [Array.toArray_toList]
  exact uT _ rfl
noncomputable def rSum (K:Fg):List V->Hp->VK->Prop:=λ vs H Q=>∃ (a:Addr) (ns:List Int),vs=[.ref a]/\SqL K H a (ns.map V.int)/\Q (.int ns.sum) H
theorem zml {X:Cx} {K:Fg} (h:X.K=K) (hc:X.calm=true):CallR X (.builtin "sum") (rSum K):=by
 subst h
 intro pins s Y H xs us Q I r h
 obtain ⟨a,ns,rfl,hx,q⟩:=h
 obtain ⟨u,rfl,r1⟩:=zkf r
 cases r1
 obtain ⟨its,rv,p,hz⟩:=I.list hx
 have hi:IntsAre its ns:=zp5 rv
 obtain ⟨ys,hy⟩:=hi.allInts.items
 have hl:s.heap.IsList a (intItems ys):=hy ▸ p.isList
 refine sum_intListG (I.ok.hd hc) hl λ h' tk t' hk=>?_
 have e1:ns=ys.toList.map (·.1):=by
  rw [<- nums_intItems,<- hy]
  exact (show numsOf its.toArray.toList=ns from hi.numsOf).symm
 have e2:preSum (numAt ys) ys.size=ns.sum:=by
  rw [preSum_eq,zM (by simp),e1]
 rw [e2]
 exact ⟨.int ns.sum,H,I.kept hk,⟨_,rfl⟩,q⟩
theorem zw11:bootBuiltins "sum"=some (.builtin "sum"):=by decide +kernel
theorem znj:bootBuiltins "sorted"=some (.builtin "sorted"):=by decide +kernel
noncomputable def Fit (n:Nat) (d:PyData):Prop:=d.canLay0=true/\d.depth<=n
theorem zf5:∀ {ds:List PyData},(∀ d∈ds,d.canLay0=true)->yB ds=true
|[],_=>rfl
|d :: ds,h=>by
  show (d.canLay0 && yB ds)=true
  rw [h d (by simp),zf5 λ e he=>h e (u9 _ he)];rfl
theorem zv5 {n:Nat}:∀ {ds:List PyData},(∀ d∈ds,d.depth<=n)->yC ds<=n
|[],_=>vY _
|d :: ds,h=>by
  show max d.depth (yC ds)<=n
  have:=h d (by simp)
  have:=zv5 λ e he=>h e (u9 d he)
  lia
theorem Fit.tup {n:Nat} {ds:List PyData} (h:∀ d∈ds,Fit n d):Fit (n+1) (.tuple ds):=⟨by show yB ds=true;exact zf5 λ d hd=>(h d hd).1,by show yC ds+1<=n+1;have:=zv5 λ d hd=>(h d hd).2;lia⟩
theorem Fit.lst {n:Nat} {ds:List PyData} (h:∀ d∈ds,Fit n d):Fit (n+1) (.list ds):=⟨by show yB ds=true;exact zf5 λ d hd=>(h d hd).1,by show yC ds+1<=n+1;have:=zv5 λ d hd=>(h d hd).2;lia⟩
theorem Fit.int {n:Nat} (i:Int):Fit n (.int i):=⟨rfl,vY _⟩
theorem Fit.shaped {n:Nat} {d:PyData} (h:Fit n d) (hn:n<=64):SeqAt.shaped d=true:=by
 unfold SeqAt.shaped
 rw [h.1,decide_eq_true (vQ h.2 hn)];rfl
theorem Fit.eqv {n:Nat} {d:PyData} (h:Fit n d):x8 d d=true:=SeqAt.eqv_refl d h.1
noncomputable def zoz (K:Fg):Sp:=λ vs H Q _=>∃ (a:Addr) (ns:List Int),vs=[.ref a]/\SqL K H a (ns.map V.int)/\ns.length<=63/\∀ H',Q (.bl true) H'
theorem law_walk {k:Nat} {l:PySem.W.OpenLaw} {q:Program} {loose:List Str} {XP:(Str->Option Value)->Heap->Prop} {YP:World->Heap->Prop} {d:DefRec} {K:Params->Fg} (hk:Room k callerA) (hn:l.most=some 63) (hdf:d.params.defaults=[])
  (hY:∀ (w:World) (h:Heap),YP w h->(K w.params).In h)
  (F:∀ (w:World) (mg:Str->Option Value) (fa:Addr) (h:Heap),(K w.params).In h->h.Ns mainGlobals mg->mg d.name=some (.ref fa) ->
   ∃ fd:FuncData,(∀ (s:Shared) (u:Value),BindsTo s fd ⟨[u],[]⟩ [("script",u)])/\∀ base:Heap,(K w.params).In base->base.Ns mainGlobals mg->FnOk l.prog w (K w.params) mg base CX0 k fa fd ["script"] (zoz (K w.params))) :
  PySem.W.WalkO q loose XP YP l.row.toRowW d [] (λ f vs=>PySem.call f vs) :=
 _2.walk_of (n:=63) (k:=k) (x := "script") (CX:=λ _=>CX0) (sp:=λ w=>zoz (K w.params)) hn (by decide) hdf hk hY F (λ _ _ a ns hl _ hS=>⟨a,ns,rfl,hS,hl,λ _=>rfl⟩) λ _ _ _ _ _ z=>z
end _3
namespace _2
open PySem PySem.Spec PyProof.Rows
section
variable {κ:Type} [DecidableEq κ]
noncomputable def valV (kvs:List (κ×V)) (k:κ):Option V:=(kvs.find? λ kv=>decide (kv.1=k)).map (·.2)
noncomputable def putK (kvs:List (κ×V)) (k:κ) (v:V):List (κ×V) :=
 if (kvs.any λ kv=>decide (kv.1=k))=true then kvs.map (λ kv=>if kv.1=k then (kv.1,v) else kv) else kvs++[(k,v)]
noncomputable def zgj (kvs:List (κ×V)) (k:κ):List (κ×V):=kvs.filter λ kv=>decide (kv.1≠k)
theorem zwa {p:κ×V} {r:List (κ×V)} {k:κ} (e:p.1=k):valV (p :: r) k=some p.2:=by simp [valV,wN,e]
theorem zqd {p:κ×V} {r:List (κ×V)} {k:κ} (e:¬ p.1=k):valV (p :: r) k=valV r k:=by simp [valV,wN,e]
theorem zpd (k:κ):∀ kvs:List (κ×V),(kvs.any λ kv=>decide (kv.1=k))=(valV kvs k).isSome
|[]=>rfl
|p :: r=>by
  rw [wS]
  by_cases e:p.1=k
  ·simp only [zwa e,decide_eq_true e,Bool.true_or,zJ]
  ·rw [zqd e,decide_eq_false e,Bool.false_or];exact zpd k r
theorem zf4 (kvs:List (κ×V)) (k:κ) (v:V):(putK kvs k v).length<=kvs.length+1:=by
 unfold putK
 split
 ·rw [uA];lia
 ·rw [vB,vS,xQ];lia
theorem zwn {kvs:List (κ×V)} {k:κ} (v:V) (h:valV kvs k=none):putK kvs k v=kvs++[(k,v)]:=by
 unfold putK
 rw [zpd,h]
 exact if_neg (by decide)
theorem RelO.isSome_eq {o:Option V} {u:Option Value} (r:RelO o u):o.isSome=u.isSome:=by
 cases o with
|none=>cases u with
 |none=>rfl
 |some _=>exact (show False from r).elim
|some _=>cases u with
 |none=>exact (show False from r).elim
 |some _=>rfl
theorem RelO.getD {o:Option V} {u:Option Value} {d:V} {d':Value} (r:RelO o u) (rd:RelV d d'):RelV (o.getD d) (u.getD d'):=by
 cases o with
|none=>cases u with
 |none=>exact rd
 |some _=>exact (show False from r).elim
|some _=>cases u with
 |none=>exact (show False from r).elim
 |some _=>exact r
theorem KV.val {kvs:List (κ×V)} {vs:List (κ×Value)} (r:KV kvs vs) (k:κ):RelO (valV kvs k) (valueAt vs k):=by
 unfold KV at r
 induction r with
|nil=>exact True.intro
|@cons p q ps qs h t ih =>
  obtain ⟨h1,h2⟩:=h
  by_cases e:p.1=k
  ·have e':q.1=k:=h1.symm.trans e
   have b:valueAt (q :: qs) k=some q.2:=by simp [valueAt,wN,e']
   rw [zwa e,b];exact h2
  ·have e':¬ q.1=k:=λ z=>e (h1.trans z)
   have b:valueAt (q :: qs) k=valueAt qs k:=by simp [valueAt,wN,e']
   rw [zqd e,b];exact ih
theorem KV.any {kvs:List (κ×V)} {vs:List (κ×Value)} (r:KV kvs vs) (k:κ):(kvs.any λ kv=>decide (kv.1=k))=vs.any λ kv=>decide (kv.1=k):=by
 unfold KV at r
 induction r with
|nil=>rfl
|cons h t ih=>rw [wS,wS,ih,h.1]
theorem KV.repl {kvs:List (κ×V)} {vs:List (κ×Value)} (r:KV kvs vs) (k:κ) {y:V} {u:Value} (ry:RelV y u) :
  KV (kvs.map λ kv=>if kv.1=k then (kv.1,y) else kv) (vs.map λ kv=>if kv.1=k then (kv.1,u) else kv):=by
 unfold KV at r ⊢
 induction r with
|nil=>exact .nil
|@cons p q ps qs h t ih =>
  rw [uK,uK]
  refine .cons ?_ ih
  obtain ⟨h1,h2⟩:=h
  by_cases e:p.1=k
  ·rw [if_pos e,if_pos (h1.symm.trans e)];exact ⟨h1,ry⟩
  ·rw [if_neg e,if_neg (λ z=>e (h1.trans z))];exact ⟨h1,h2⟩
theorem KV.put {kvs:List (κ×V)} {vs:List (κ×Value)} (r:KV kvs vs) (k:κ) {y:V} {u:Value} (ry:RelV y u):KV (putK kvs k y) (stored vs k u):=by
 unfold putK stored
 rw [r.any k]
 by_cases e:(vs.any λ kv=>decide (kv.1=k))=true
 ·rw [if_pos e,if_pos e];exact r.repl k ry
 ·rw [if_neg e,if_neg e];exact Paired.snoc r ⟨rfl,ry⟩
theorem KV.drop {kvs:List (κ×V)} {vs:List (κ×Value)} (r:KV kvs vs) (k:κ):KV (zgj kvs k) (without vs k):=by
 unfold KV at r ⊢
 unfold zgj without
 induction r with
|nil=>exact .nil
|@cons p q ps qs h t ih =>
  obtain ⟨h1,h2⟩:=h
  rw [List.filter_cons,List.filter_cons]
  by_cases e:p.1=k
  ·have a:¬ decide (p.1≠k)=true:=by simp [e]
   have b:¬ decide (q.1≠k)=true:=by simp [h1.symm.trans e]
   rw [if_neg a,if_neg b];exact ih
  ·have e':¬ q.1=k:=λ z=>e (h1.trans z)
   have a:decide (p.1≠k)=true:=by simp [e]
   have b:decide (q.1≠k)=true:=by simp [e']
   rw [if_pos a,if_pos b];exact .cons ⟨h1,h2⟩ ih
theorem KV.length {kvs:List (κ×V)} {vs:List (κ×Value)} (r:KV kvs vs):kvs.length=vs.length:=Paired.length r
theorem zvg (kvs:List (κ×V)) (k:κ):(zgj kvs k).length<=kvs.length:=zN _ _
end
theorem zij {P:Program} {w:World} {k:Key} {u:Value} (r:RelV (kV k) u):(zx0 P w).is k u=true:=by
 cases k with
|inl i=>obtain ⟨t,e⟩:=(show ∃ t,u=wX i t from r);subst e;exact zxf P w i t
|inr x=>obtain ⟨t,e⟩:=(show ∃ t,u=wY x t from r);subst e;exact zyf P w x t
theorem zve {P:Program} {w:World}:∀ {ks:List Key} {us:List Value},Vals (ks.map kV) us->ItemsAre (zx0 P w) ks us
|[],_,r=>by rw [wZ] at r;cases r;exact .nil
|k :: ks,_,r=>by
  rw [uK] at r
  cases r with
 |cons h t=>exact .cons (zij h) (zve t)
noncomputable abbrev KT (H:Hp):List (List Key×V)->List (List Key×Addr×Value)->Prop:=Paired λ p q=>p.1=q.1/\H q.2.1=some (.tup (p.1.map kV))/\RelV p.2 q.2.2
theorem KT.val {H:Hp} {kvs:List (List Key×V)} {xs:List (List Key×Addr×Value)} (r:KT H kvs xs) (k:List Key):RelO (valV kvs k) ((atKey xs k).map (·.2)):=by
 induction r with
|nil=>exact True.intro
|@cons p q ps qs h t ih =>
  obtain ⟨h1,_,h2⟩:=h
  by_cases e:p.1=k
  ·have e':q.1=k:=h1.symm.trans e
   have b:atKey (q :: qs) k=some q.2:=by simp [atKey,wN,e']
   rw [zwa e,b];exact h2
  ·have e':¬ q.1=k:=λ z=>e (h1.trans z)
   have b:atKey (q :: qs) k=atKey qs k:=by simp [atKey,wN,e']
   rw [zqd e,b];exact ih
theorem KT.repl {H:Hp} {kvs:List (List Key×V)} {xs:List (List Key×Addr×Value)} (r:KT H kvs xs) (k:List Key) {y:V} {u:Value} (ry:RelV y u) :
  KT H (kvs.map λ kv=>if kv.1=k then (kv.1,y) else kv) (xs.map (putAt k u)):=by
 induction r with
|nil=>exact .nil
|@cons p q ps qs h t ih =>
  rw [uK,uK]
  refine .cons ?_ ih
  obtain ⟨h1,h2,h3⟩:=h
  unfold putAt
  by_cases e:p.1=k
  ·rw [if_pos e,if_pos (h1.symm.trans e)];exact ⟨h1,h2,ry⟩
  ·rw [if_neg e,if_neg (λ z=>e (h1.trans z))];exact ⟨h1,h2,h3⟩
theorem KT.put {H:Hp} {kvs:List (List Key×V)} {xs:List (List Key×Addr×Value)} (r:KT H kvs xs) (k:List Key) {b:Addr} {y:V} {u:Value} (hb:H b=some (.tup (k.map kV))) (ry:RelV y u) :
  KT H (putK kvs k y) (storedH xs k b u):=by
 have e:(kvs.any λ kv=>decide (kv.1=k))=(atKey xs k).isSome:=by
  rw [zpd,(r.val k).isSome_eq,xR]
 unfold putK storedH
 rw [e]
 by_cases q:(atKey xs k).isSome=true
 ·rw [if_pos q,if_pos q];exact r.repl k ry
 ·rw [if_neg q,if_neg q];exact Paired.snoc r ⟨rfl,hb,ry⟩
theorem KT.keeps {H H':Hp} {kvs:List (List Key×V)} {xs:List (List Key×Addr×Value)} (r:KT H kvs xs) (ht:∀ b ys,H b=some (.tup ys)->H' b=some (.tup ys)):KT H' kvs xs :=
 Paired.mapP r λ _ _ z=>⟨z.1,ht _ _ z.2.1,z.2.2⟩
section
variable {P:Program} {w:World} {H:Hp} {h:Heap} {a:Addr}
theorem zm51 {u:HO} (ok:HOk P w H h) (e:Rd H a u):ObjOk P w H h a u:=e.ok ok
theorem zor {kvs:List (Key×V)} (ok:HOk P w H h) (e:Rd H a (.dK kvs)):kvs.length<=sizeLine/\(a == sysModules)=false/\∃ vs,KV kvs vs/\h.DictOf (zx0 P w) a vs :=
 show ObjOk P w H h a (.dK kvs) from zm51 ok e
theorem zvn {kvs:List (Key×V)} (ok:HOk P w H h) (e:H a=some (.dK kvs)):kvs.length<=sizeLine/\(a == sysModules)=false/\∃ vs,KV kvs vs/\h.DictOf (zx0 P w) a vs:=zor ok (.inl e)
theorem zzf {ks:List Key} (ok:HOk P w H h) (e:H a=some (.tup (ks.map kV))):(tupleKind (zx0 P w)).is h ks a:=by
 obtain ⟨_,its,r,o,h1,h2,n,h3⟩:=(show ObjOk P w H h a (.tup (ks.map kV)) from ok a _ e)
 exact ⟨o,its.toArray,n,h1,h2,h3,by simpa using zve r⟩
theorem zqr {kvs:List (List Key×V)} (ok:HOk P w H h) (e:Rd H a (.dT kvs)):kvs.length<=sizeLine/\(a == sysModules)=false /\
  ∃ xs,KT H kvs xs/\h.DictOfH (tupleKind (zx0 P w)) a xs:=by
 obtain ⟨z,y,xs,r,o,es,ep,h1,h2,h3,h4,h5⟩:=(show ObjOk P w H h a (.dT kvs) from zm51 ok e)
 refine ⟨z,y,xs,r,o,es,ep,h1,h2,h3,h4,λ x hx=>?_,h5⟩
 have all:∀ {l:List (List Key×V)} {m:List (List Key×Addr×Value)},KT H l m->∀ x∈m,(tupleKind (zx0 P w)).is h x.1 x.2.1:=by
  intro l m q
  induction q with
 |nil=>intro x hx;exact nomatch hx
 |@cons p q ps qs hq t ih =>
   intro x hx
   rcases uD.mp hx with e|hx
   ·subst e
    exact zzf ok (by rw [<- hq.1];exact hq.2.1)
   ·exact ih x hx
 exact all r x hx
theorem zx91 {kvs:List (List Key×V)} (ok:HOk P w H h) (e:H a=some (.dT kvs)):kvs.length<=sizeLine/\(a == sysModules)=false /\
  ∃ xs,KT H kvs xs/\h.DictOfH (tupleKind (zx0 P w)) a xs:=zqr ok (.inl e)
end
noncomputable def DGet (H:Hp) (a:Addr) (y:V) (r:Option V):Prop :=
 (∃ kvs k,Rd H a (.dK kvs)/\y=kV k/\r=valV kvs k) \/ ∃ kvs k b,Rd H a (.dT kvs)/\y=.ref b/\H b=some (.tup (k.map kV))/\r=valV kvs k
noncomputable def DPut (H:Hp) (a:Addr) (y v:V) (H':Hp):Prop :=
 (∃ kvs k,H a=some (.dK kvs)/\y=kV k/\kvs.length < sizeLine/\H'=upd H a (.dK (putK kvs k v))) \/
 ∃ kvs k b,H a=some (.dT kvs)/\y=.ref b/\H b=some (.tup (k.map kV))/\kvs.length < sizeLine/\H'=upd H a (.dT (putK kvs k v))
theorem DGet.k {H:Hp} {a:Addr} {kvs:List (Key×V)} {k:Key} (e:H a=some (.dK kvs)):DGet H a (kV k) (valV kvs k):=.inl ⟨kvs,k,.inl e,rfl,rfl⟩
theorem DGet.t {H:Hp} {a b:Addr} {kvs:List (List Key×V)} {k:List Key} (e:H a=some (.dT kvs)) (eb:H b=some (.tup (k.map kV))):DGet H a (.ref b) (valV kvs k):=.inr ⟨kvs,k,b,.inl e,rfl,eb,rfl⟩
theorem DPut.k {H:Hp} {a:Addr} {kvs:List (Key×V)} {k:Key} {v:V} (e:H a=some (.dK kvs)) (hl:kvs.length < sizeLine):DPut H a (kV k) v (upd H a (.dK (putK kvs k v))):=.inl ⟨kvs,k,e,rfl,hl,rfl⟩
theorem DPut.t {H:Hp} {a b:Addr} {kvs:List (List Key×V)} {k:List Key} {v:V} (e:H a=some (.dT kvs)) (eb:H b=some (.tup (k.map kV))) (hl:kvs.length < sizeLine) :
  DPut H a (.ref b) v (upd H a (.dT (putK kvs k v))):=.inr ⟨kvs,k,b,e,rfl,eb,hl,rfl⟩
section
variable {X:Cx} {pins:List (Addr×Obj)} {Y:St} {H:Hp} {s:Shared} {a:Addr} {y v:V} {u r:Value} {o:Option V} {A:Around} {E:Value->Shared->Prop}
theorem Inv.big (I:Inv X pins Y H s):sysModules < s.heap.objs.size:=by
 have h:mainGlobals < s.heap.objs.size:=(I.mod.glob.keeps I.bk).lt
 exact Nat.lt_trans (by decide) h
theorem zue {Q:Value->Shared->Prop} (hu:A.units+1 < cLine) (I:Inv X pins Y H s) (g:DGet H a y (some v)) (ry:RelV y u) (h:∀ w' s',Inv X pins Y H s'->RelV v w'->Q w' s') :
  wpAny (model X.prog X.w) A (getItem (.ref a) u) Q E s:=by
 rcases g with ⟨kvs,k,e,ey,l⟩|⟨kvs,k,b,e,ey,eb,l⟩
 ·subst ey
  obtain ⟨z,hd,vs,rel,dd⟩:=zor I.hok e
  obtain ⟨w',hw,rw'⟩:=RelO.some_of (v:=v) (o:=valueAt vs k) (by rw [l];exact rel.val k)
  exact wpAny_getItem_of (zij ry) dd.mapOf hw (h w' _ (I.tok _) rw')
 ·subst ey
  cases (show u=uS b from ry)
  obtain ⟨z,hd,xs,rel,dd⟩:=zqr I.hok e
  obtain ⟨w',hw,rw'⟩:=RelO.some_of (v:=v) (o:=(atKey xs k).map (·.2)) (by rw [l];exact rel.val k)
  obtain ⟨p,hp,hp2⟩:=u5.mp hw
  refine wpAny_getItem_heap (tupleKind_room_in1 hu) (zzf I.hok eb) dd hp ?_
  rw [hp2]
  exact h w' _ (I.tok _) rw'
theorem d_in {Q:Value->Shared->Prop} (hu:A.units+1 < cLine) (I:Inv X pins Y H s) (g:DGet H a y o) (ry:RelV y u) (h:∀ s',Inv X pins Y H s'->Q (.bool o.isSome) s') :
  wpAny (model X.prog X.w) A (compareOp .In u (.ref a)) Q E s:=by
 rcases g with ⟨kvs,k,e,ey,l⟩|⟨kvs,k,b,e,ey,eb,l⟩
 ·subst ey
  obtain ⟨z,hd,vs,rel,dd⟩:=zor I.hok e
  refine wpAny_in_of (zij ry) hd dd.mapOf ?_
  rw [<- (rel.val k).isSome_eq,<- l]
  exact h _ (I.tok _)
 ·subst ey
  cases (show u=uS b from ry)
  obtain ⟨z,hd,xs,rel,dd⟩:=zqr I.hok e
  refine wpAny_in_heap (tupleKind_room_in1 hu) (zzf I.hok eb) hd dd ?_
  have q:=(rel.val k).isSome_eq
  rw [xR] at q
  rw [<- q,<- l]
  exact h _ (I.tok _)
theorem zvr {Q:Value->Shared->Prop} (hu:A.units+1 < cLine) (I:Inv X pins Y H s) (g:DGet H a y o) (ry:RelV y u) (h:∀ s',Inv X pins Y H s'->Q (.bool (!o.isSome)) s') :
  wpAny (model X.prog X.w) A (compareOp .NotIn u (.ref a)) Q E s:=by
 rcases g with ⟨kvs,k,e,ey,l⟩|⟨kvs,k,b,e,ey,eb,l⟩
 ·subst ey
  obtain ⟨z,hd,vs,rel,dd⟩:=zor I.hok e
  refine wpAny_notIn_of (zij ry) hd dd.mapOf ?_
  rw [<- (rel.val k).isSome_eq,<- l]
  exact h _ (I.tok _)
 ·subst ey
  cases (show u=uS b from ry)
  obtain ⟨z,hd,xs,rel,dd⟩:=zqr I.hok e
  refine wpAny_notIn_heap (tupleKind_room_in1 hu) (zzf I.hok eb) hd dd ?_
  have q:=(rel.val k).isSome_eq
  rw [xR] at q
  rw [<- q,<- l]
  exact h _ (I.tok _)
theorem zs9 {h':Heap} {t':Nat} {ob:HO} (I:Inv X pins Y H s) (mu:Mut (H a)) (hs:Heap.SameBut a s.heap h') (he:∃ q,h'.get? a=some q) (new:ObjOk X.prog X.w (upd H a ob) h' a ob) :
  Inv X pins Y (upd H a ob) { s with heap:=h',toks:=t' } :=
 I.write (x:=a) (e:=a) mu (.inl rfl) (λ b q hb z=>(hs.2 b hb).trans z) he new
theorem zfi {P:Program} {w:World} {H':Hp} {h':Heap} {kvs:List (Key×V)} {vs:List (Key×Value)} (z:kvs.length<=sizeLine) (hd:(a == sysModules)=false) (rel:KV kvs vs) (dd:h'.DictOf (zx0 P w) a vs) :
  ObjOk P w H' h' a (.dK kvs):=⟨z,hd,vs,rel,dd⟩
theorem zll {H':Hp} {Q:Unit->Shared->Prop} (hu:A.units+1 < cLine) (I:Inv X pins Y H s) (g:DPut H a y v H') (ry:RelV y u) (rv:RelV v r) (h:∀ s',Inv X pins Y H' s'->Q () s') :
  wpAny (model X.prog X.w) A (setItem (.ref a) u r) Q E s:=by
 rcases g with ⟨kvs,k,e,ey,l,eH⟩|⟨kvs,k,b,e,ey,eb,l,eH⟩
 ·subst ey eH
  obtain ⟨z,hd,vs,rel,dd⟩:=zvn I.hok e
  have hz:vs.length<=sizeLine:=by rw [<- rel.length];exact z
  have hl:(putK kvs k v).length<=sizeLine:=by have:=zf4 kvs k v;lia
  refine wpAny_setItem_pairs (hsz:=hz) (zij ry) dd λ h' dd' hs=>h _ ?_
  have he:∃ q,h'.get? a=some q:=let ⟨q,_,_,hq,_⟩:=dd';⟨q,hq⟩
  exact zs9 I (by rw [e];exact True.intro) hs he (zfi hl hd (rel.put k rv) dd')
 ·subst ey eH
  cases (show u=uS b from ry)
  obtain ⟨z,hd,xs,rel,dd⟩:=zx91 I.hok e
  have hz:xs.length<=sizeLine:=by rw [<- Paired.length rel];exact z
  have hl:(putK kvs k v).length<=sizeLine:=by have:=zf4 kvs k v;lia
  refine wpAny_setItem_heap (hsz:=hz) (tupleKind_room_in1 hu) (zzf I.hok eb) dd λ h' dd' hs=>h _ ?_
  obtain ⟨q,es,ep,hq,h2,h3,h4,_,h5⟩:=dd'
  refine zs9 I (by rw [e];exact True.intro) hs ⟨q,hq⟩ ⟨hl,hd,_,(rel.put k eb rv).keeps λ c ys ec=>?_,q,es,ep,hq,h2,h3,h4,h5⟩
  rw [zn0 (zw91 ec e (λ z=>nomatch z))]
  exact ec
end
section
variable {X:Cx} {pins:List (Addr×Obj)} {Y:St} {H:Hp} {s:Shared} {a:Addr} {kvs:List (Key×V)} {k:Key} {u:Value} {A:Around} {E:Value->Shared->Prop}
theorem zea1 {v:V} {more:List Value} {Q:Value->Shared->Prop} (I:Inv X pins Y H s) (e:H a=some (.dK kvs)) (ry:RelV (kV k) u) (l:valV kvs k=some v) (hm:more=[] \/ ∃ x,more=[x])
  (h:∀ w' s',Inv X pins Y (upd H a (.dK (zgj kvs k))) s'->RelV v w'->Q w' s'):wpAny (model X.prog X.w) A (call (.builtin "dict.pop") (.ref a :: u :: more)) Q E s:=by
 obtain ⟨z,hd,vs,rel,dd⟩:=zvn I.hok e
 obtain ⟨w',hw,rw'⟩:=RelO.some_of (v:=v) (o:=valueAt vs k) (by rw [<- l];exact rel.val k)
 have hp:(keyPart u).isSome=true:=by
  cases k with
 |inl i=>obtain ⟨t,q⟩:=(show ∃ t,u=wX i t from ry);subst q;rfl
 |inr x=>obtain ⟨t,q⟩:=(show ∃ t,u=wY x t from ry);subst q;rfl
 have ha:argsOk "dict.pop" ⟨.ref a :: u :: more,[]⟩:=by
  rcases hm with q|⟨x,q⟩
  ·subst q;exact PySem.F.args_dict_pop_2 _ _
  ·subst q;exact PySem.F.args_dict_pop_3 _ _ _
 refine call_meetsIn PySem.F.slot_dict_pop dd.typeIs PySem.F.entry_dict_pop ha (meets_dict_pop_there (zx0 X.prog X.w) a (zij ry) more hm hp)
  ⟨vs,w',dd,by rw [<- rel.length];exact z,hw,λ h' dd' hs=>h w' _ ?_ rw'⟩
 have he:∃ q,h'.get? a=some q:=let ⟨q,_,_,hq,_⟩:=dd';⟨q,hq⟩
 exact zs9 I (by rw [e];exact True.intro) hs he (zfi (vQ (zvg kvs k) z) hd (rel.drop k) dd')
end
theorem zfg {X:Cx} {pins:List (Addr×Obj)} {Y:St} {H:Hp} {s:Shared} {a:Addr} {y:V} {o:Option V} (I:Inv X pins Y H s) (g:DGet H a y o):s.TypeIs (.ref a) "dict":=by
 rcases g with ⟨kvs,k,e,_,_⟩|⟨kvs,k,b,e,_,_,_⟩
 ·obtain ⟨_,_,vs,_,dd⟩:=zor I.hok e
  exact dd.typeIs
 ·obtain ⟨_,_,xs,_,dd⟩:=zqr I.hok e
  exact dd.typeIs
theorem zxi {P:Program} {w:World} {H:Hp} (h:Heap) (hb:sysModules < h.objs.size):ObjOk P w H (h.push { cls:=.type "dict",data:=.dict #[] }) h.objs.size (.dK []) :=
 ⟨vY _,beq_eq_false_iff_ne.mpr (Ne.symm (u3 hb)),[],.nil,Heap.DictOf.new h⟩
noncomputable def zdu:TE:=λ _ H Q=>∀ p,H p=none->Q (.ref p) (upd H p (.dK []))
section
variable {X:Cx} {pos:Pos}
theorem zqo:PE X (.Dict [] [] pos) zdu:=λ pins s Y H Q I h =>
 wpAny_Dict_empty ⟨.ref s.heap.objs.size,_,I.laid (a:=s.heap.objs.size) (o:=.dK []) (t':=s.toks) (λ _ _ q=>uH _ q) (uG _) (zxi s.heap I.big),rfl,h _ (I.hok.fresh (uG _))⟩
end
noncomputable def zoo:List (TE×TE)->St->Hp->(List (V×V)->Hp->Prop)->Prop
|[],_,H,Q=>Q [] H
|(tk,tv) :: r,Y,H,Q=>tk Y H λ x H1=>tv Y H1 λ y H2=>zoo r Y H2 λ ps H3=>Q ((x,y) :: ps) H3
noncomputable abbrev VV:List (V×V)->List (Value×Value)->Prop:=Paired λ p q=>RelV p.1 q.1/\RelV p.2 q.2
noncomputable def PPs (X:Cx) (pos:Pos) (keys:List (Option Expr)) (values:List Expr) (trs:List (TE×TE)):Prop :=
 ∀ (pins:List (Addr×Obj)) (s:Shared) (Y:St) (H:Hp) (Q:List (V×V)->Hp->Prop),Inv X pins Y H s->zoo trs Y H Q ->
  wpAny (model X.prog X.w) X.A (evalPairs (pairTrees keys values X.env pos)) (λ vs s'=>∃ ps H',Inv X pins Y H' s'/\VV ps vs/\Q ps H') X.xe s
theorem zan {X:Cx} {pos:Pos}:PPs X pos [] [] []:=λ pins s Y H Q I h=>pairTrees_nil_walk ⟨[],H,I,.nil,h⟩
theorem zii {X:Cx} {pos:Pos} {k v:Expr} {ks:List (Option Expr)} {vs:List Expr} {tk tv:TE} {trs:List (TE×TE)} (hk:PE X k tk) (hv:PE X v tv) (hr:PPs X pos ks vs trs) :
  PPs X pos (some k :: ks) (v :: vs) ((tk,tv) :: trs):=λ pins s Y H Q I h =>
 pairTrees_cons_walk (thn (hk pins s Y H _ I h) λ u s1 ⟨x,H1,I1,rx,q1⟩=>thn (hv pins s1 Y H1 _ I1 q1) λ w2 s2 ⟨y,H2,I2,ry,q2⟩ =>
  thn (hr pins s2 Y H2 _ I2 q2) λ ws s3 ⟨ps,H3,I3,rel,q3⟩=>⟨(x,y) :: ps,H3,I3,.cons ⟨rx,ry⟩ rel,q3⟩)
noncomputable def zxa (kvs more:List (Key×V)):List (Key×V):=more.foldl (λ acc kv=>putK acc kv.1 kv.2) kvs
theorem KV.merge:∀ {more:List (Key×V)} {rs:List (Key×Value)} {kvs:List (Key×V)} {vs:List (Key×Value)},KV more rs->KV kvs vs->KV (zxa kvs more) (merged vs rs):=by
 intro more rs kvs vs r
 unfold KV at r
 induction r generalizing kvs vs with
|nil=>intro q;exact q
|@cons p q ps qs h t ih =>
  intro r0
  have e:KV (putK kvs p.1 p.2) (stored vs q.1 q.2):=by
   have:=r0.put p.1 h.2
   rw [<- h.1];exact this
  exact ih e
theorem zq6:∀ (more kvs:List (Key×V)),(zxa kvs more).length<=kvs.length+more.length
|[],kvs=>by show kvs.length<=kvs.length+0;lia
|p :: r,kvs=>by
  have h1:=zq6 r (putK kvs p.1 p.2)
  have h2:=zf4 kvs p.1 p.2
  show (zxa (putK kvs p.1 p.2) r).length<=_
  rw [vS];lia
theorem zhc {P:Program} {w:World}:∀ {kvs:List (Key×V)} {ws:List (Value×Value)},VV (kvs.map λ kv=>(kV kv.1,kv.2)) ws->∃ rs,Carries (zx0 P w) ws rs/\KV kvs rs
|[],_,r=>by rw [wZ] at r;cases r;exact ⟨[],True.intro,.nil⟩
|p :: kvs,_,r=>by
  rw [uK] at r
  cases r with
 |@cons a b as bs h t =>
   obtain ⟨rs,c,q⟩:=zhc (P:=P) (w:=w) t
   obtain ⟨b1,b2⟩:=b
   exact ⟨(p.1,b2) :: rs,⟨zij h.1,rfl,c⟩,.cons ⟨rfl,h.2⟩ q⟩
noncomputable def zo01 (trs:List (TE×TE)):TE:=λ Y H Q=>∀ p,H p=none->zoo trs Y (upd H p (.dK [])) λ ps H2=>H2 p=some (.dK [])/\∃ kvs:List (Key×V),ps=kvs.map (λ kv=>(kV kv.1,kv.2))/\kvs.length<=15/\Q (.ref p) (upd H2 p (.dK (zxa [] kvs)))
theorem zdn {X:Cx} {pos:Pos} {keys:List (Option Expr)} {values:List Expr} {trs:List (TE×TE)} (h:PPs X pos keys values trs) (hall:keys.all (·.isSome)=true) (hl:keys.length=values.length) (h0:keys≠[])
  (h15:keys.length<=15):PE X (.Dict keys values pos) (zo01 trs):=by
 intro pins s Y H Q I q
 have hn:=I.hok.fresh (uG s.heap.objs.size)
 have I1:=I.laid (a:=s.heap.objs.size) (o:=.dK []) (h':=s.heap.push { cls:=.type "dict",data:=.dict #[] }) (t':=s.toks) (λ _ _ q=>uH _ q) (uG _) (zxi s.heap I.big)
 refine wpAny_Dict_walk (knd:=zx0 X.prog X.w) hall hl h0 h15 (thn (h pins _ Y _ _ I1 (q _ hn)) λ ws s2 ⟨ps,H2,I2,rel,e,kvs,ep,lk,q2⟩=>?_)
 subst ep
 obtain ⟨rs,c,rk⟩:=zhc (P:=X.prog) (w:=X.w) rel
 obtain ⟨z,hd,vs0,r0,dd⟩:=zvn I2.hok e
 cases r0
 refine ⟨rs,c,dd,λ h' dd' hs=>⟨.ref s.heap.objs.size,_,?_,rfl,q2⟩⟩
 have hz:(zxa [] kvs).length<=sizeLine:=by
  have h1:=zq6 kvs []
  rw [xQ] at h1
  rw [sizeLine_eq];lia
 have he:∃ q,h'.get? s.heap.objs.size=some q:=let ⟨q,_,_,hq,_⟩:=dd';⟨q,hq⟩
 exact zs9 I2 (by rw [e];exact True.intro) hs he (zfi hz hd (rk.merge .nil) dd')
structure M1 (X:Cx) (o:Expr) (m:Str) (apos:Pos) (e:Expr) (cpos:Pos):Prop where
 base:attributeBase o m X.env (eval o X.env)=eval o X.env
 few:((backTo cpos (starEach [e] X.env)).all (λ x=>!x.1) && (backToKw cpos (keywordEach [] X.env)).all (λ x=>x.1.isSome)
  && decide (([e]:List Expr).length+([]:List Keyword).length+(if ([]:List Keyword).isEmpty then 0 else 1) < 30))=true
 line:(apos.endLine == cpos.line)=true
 trees:backTo cpos (starEach [e] X.env)=[(false,eval e X.env)]
structure M2 (X:Cx) (o:Expr) (m:Str) (apos:Pos) (e f:Expr) (cpos:Pos):Prop where
 base:attributeBase o m X.env (eval o X.env)=eval o X.env
 few:((backTo cpos (starEach [e,f] X.env)).all (λ x=>!x.1) && (backToKw cpos (keywordEach [] X.env)).all (λ x=>x.1.isSome)
  && decide (([e,f]:List Expr).length+([]:List Keyword).length+(if ([]:List Keyword).isEmpty then 0 else 1) < 30))=true
 line:(apos.endLine == cpos.line)=true
 trees:backTo cpos (starEach [e,f] X.env)=[(false,eval e X.env),(false,eval f X.env)]
section
variable {X:Cx} {pins:List (Addr×Obj)} {Y:St} {H:Hp} {s:Shared} {a:Addr} {y d:V} {u r:Value} {o:Option V} {A:Around} {E:Value->Shared->Prop}
theorem zh31 {Q:Value->Shared->Prop} (hu:A.units+1 < cLine) (I:Inv X pins Y H s) (g:DGet H a y o) (ry:RelV y u) (rd:RelV d r) (h:∀ w' s',Inv X pins Y H s'->RelV (o.getD d) w'->Q w' s') :
  wpAny (model X.prog X.w) A (call (.builtin "dict.get") [.ref a,u,r]) Q E s:=by
 rcases g with ⟨kvs,k,e,ey,l⟩|⟨kvs,k,b,e,ey,eb,l⟩
 ·subst ey
  obtain ⟨z,hd,vs,rel,dd⟩:=zor I.hok e
  refine call_meetsIn PySem.F.slot_dict_get dd.typeIs PySem.F.entry_dict_get (PySem.F.args_dict_get_3 _ _ _) (meets_dict_get_default (zx0 X.prog X.w) a (zij ry) hd r) ⟨_,dd.mapOf,h _ _ (I.tok _) ?_⟩
  rw [l]
  exact (rel.val k).getD rd
 ·subst ey
  cases (show u=uS b from ry)
  obtain ⟨z,hd,xs,rel,dd⟩:=zqr I.hok e
  refine call_meetsIn PySem.F.slot_dict_get dd.typeIs PySem.F.entry_dict_get (PySem.F.args_dict_get_3 _ _ _) (meetsH_dict_get_default (tupleKind (zx0 X.prog X.w)) a b hd r) ⟨tupleKind_room_in1 hu,k,xs,zzf I.hok eb,dd,h _ _ (I.tok _) ?_⟩
  rw [l]
  exact (rel.val k).getD rd
end
end _2
namespace _3
open PySem PySem.Spec PyProof.Rows _2
noncomputable def rInD:R2:=λ x y H Q=>∃ a o,y=.ref a/\DGet H a x o/\Q (.bl o.isSome) H
noncomputable def zbn:R2:=λ x y H Q=>∃ a o,y=.ref a/\DGet H a x o/\Q (.bl (!o.isSome)) H
noncomputable def rIxD:R2:=λ x y H Q=>∃ a v,x=.ref a/\DGet H a y (some v)/\Q v H
noncomputable def zc71:V->V->V->Hp->(Hp->Prop)->Prop:=λ o i v H Q=>∃ a H',o=.ref a/\DPut H a i v H'/\Q H'
section
variable {X:Cx}
theorem zs01 (hu:X.A.units+64 < cLine):OpR X (compareOp .In) rInD:=by
 intro pins s Y H x y v u Q I rx ry h
 obtain ⟨a,o,rfl,g,q⟩:=h
 obtain rfl:u=uS a:=ry
 exact d_in (by lia) I g rx λ s3 I3=>⟨.bl o.isSome,H,I3,rfl,q⟩
theorem zyk (hu:X.A.units+64 < cLine):OpR X (compareOp .NotIn) zbn:=by
 intro pins s Y H x y v u Q I rx ry h
 obtain ⟨a,o,rfl,g,q⟩:=h
 obtain rfl:u=uS a:=ry
 exact zvr (by lia) I g rx λ s3 I3=>⟨.bl (!o.isSome),H,I3,rfl,q⟩
theorem ix_D (hu:X.A.units+64 < cLine):IxR X rIxD:=by
 intro value slice pins s Y H x y v u Q I rx ry h hs
 obtain ⟨a,v',rfl,g,q⟩:=h
 obtain rfl:v=uS a:=rx
 exact tail_any (zfg I g) PySem.F.slot_dict_getitem.lookup (zue (by lia) I g ry λ w' s3 I3 rw'=>⟨v',H,I3,rw',q⟩) hs
theorem zba1 (hu:X.A.units+64 < cLine):PSet X zc71:=by
 intro pins s Y H o i v ov iv u Q I ro ri rv h
 obtain ⟨a,H',rfl,g,q⟩:=h
 obtain rfl:ov=uS a:=ro
 exact zll (by lia) I g ri rv λ s4 I4=>⟨H',I4,q⟩
theorem zs81 (hu:X.A.units+64 < cLine):PGet X rIxD:=by
 intro pins s Y H o i ov iv Q I ro ri h
 obtain ⟨a,v',rfl,g,q⟩:=h
 obtain rfl:ov=uS a:=ro
 exact zue (by lia) I g ri λ w' s3 I3 rw'=>⟨v',H,I3,rw',q⟩
noncomputable def zh61 (K:Fg):R2:=λ x y H Q=>∃ a xs j v,x=.ref a/\y=.int j/\0<=j/\SqL K H a xs/\xs[j.toNat]?=some v/\Q v H
theorem zf91 {K:Fg} (hK:X.K=K):PGet X (zh61 K):=by
 subst hK
 intro pins s Y H o i ov iv Q I ro ri h
 obtain ⟨a,xs,j,v,rfl,rfl,h0,hq,he,q⟩:=h
 obtain rfl:ov=uS a:=ro
 obtain ⟨t,rfl⟩:=ri
 obtain ⟨its,r,pl,hz⟩:=I.list hq
 obtain ⟨u,eu,ru⟩:=r.get he
 have hl:=r.length
 have hn:=zjd
 have hj:=(uZ.mp he).1
 refine wpAny_getItem_list pl.isList h0 (by lia) (by simpa using eu) ⟨v,H,I,ru,q⟩
theorem PGet.or {r r':R2} (h:PGet X r) (h':PGet X r'):PGet X (λ x y H Q=>r x y H Q \/ r' x y H Q):=by
 intro pins s Y H o i ov iv Q I ro ri q
 rcases q with q|q
 ·exact h pins s Y H o i ov iv Q I ro ri q
 ·exact h' pins s Y H o i ov iv Q I ro ri q
theorem PSet.or {r r':TSet} (h:PSet X r) (h':PSet X r'):PSet X (λ o i v H Q=>r o i v H Q \/ r' o i v H Q):=by
 intro pins s Y H o i v ov iv u Q I ro ri rv q
 rcases q with q|q
 ·exact h pins s Y H o i v ov iv u Q I ro ri rv q
 ·exact h' pins s Y H o i v ov iv u Q I ro ri rv q
end
noncomputable def rInV (w:World) (K:Fg):R2:=λ x y H Q=>rInW w K x y H Q \/ rInD x y H Q
noncomputable def zwm (w:World) (K:Fg):R2:=λ x y H Q=>zbm w K x y H Q \/ zbn x y H Q
noncomputable def rIxV (w:World) (K:Fg):R2:=λ x y H Q=>rIxW w K x y H Q \/ rIxD x y H Q
noncomputable def zi01 (K:Fg):R2:=λ x y H Q=>zh61 K x y H Q \/ rIxD x y H Q
noncomputable def zxy:V->V->V->Hp->(Hp->Prop)->Prop:=λ o i v H Q=>zq61 o i v H Q \/ zc71 o i v H Q
section
variable {X:Cx} {w:World} {K:Fg}
theorem zn31 (hu:X.A.units+64 < cLine) (hw:X.w=w) (hK:X.K=K):OpR X (compareOp .In) (rInV w K):=(zz41 hw hK).or (zs01 hu)
theorem zja (hu:X.A.units+64 < cLine) (hw:X.w=w) (hK:X.K=K):OpR X (compareOp .NotIn) (zwm w K):=(zek hw hK).or (zyk hu)
theorem ix_V (hu:X.A.units+64 < cLine) (hw:X.w=w) (hK:X.K=K):IxR X (rIxV w K):=(ix_W hw hK).or (ix_D hu)
theorem zsr (hu:X.A.units+64 < cLine) (hK:X.K=K):PGet X (zi01 K):=PGet.or (zf91 hK) (zs81 hu)
theorem zdj (hu:X.A.units+64 < cLine):PSet X zxy:=PSet.or ztp (zba1 hu)
end
noncomputable def kBM0 (K:Fg) (T:String) (r:V->List V->Hp->VK->Prop) (x:V) (H:Hp) (Q:VK):Prop:=tyV K T x H/\r x [] H Q
noncomputable def zkz (K:Fg) (T:String) (r:V->List V->Hp->VK->Prop) (to:TE):TE:=λ Y H Q=>to Y H λ x H1=>kBM0 K T r x H1 Q
theorem zfc {X:Cx} {K:Fg} (hK:X.K=K) {o:Expr} {to:TE} {name:Str} {apos cpos:Pos} {T id:String} {r:V->List V->Hp->VK->Prop} (pa:PlainAttrs T) (slot:Slot T name id) (hty:typeOf (.builtin id)=pure (.type "method_descriptor")) (hm:MtR X id r) (ho:PE X o to)
  (hbase:attributeBase o name X.env (eval o X.env)=eval o X.env:=by rfl) (hline:(apos.endLine == cpos.line)=true:=by rfl):PE X (.Call (.Attribute o name apos) [] [] cpos) (zkz K T r to):=by
 subst hK
 exact zs41 pa slot hty hm ho hbase hline
theorem zlw {X:Cx} {pins:List (Addr×Obj)} {Y:_2.St} {H:Hp} {s:Shared} {h':Heap} {t':Nat} {a c:Addr} (I:_2.Inv X pins Y H s) (k:∀ b o,b≠a->b≠c->s.heap.get? b=some o->h'.get? b=some o)
  (fa:FpOk X pins H a) (fc:FpOk X pins H c):_2.Inv X pins Y H { s with heap:=h',toks:=t' }:=by
 obtain ⟨a0,a1,_,a3,a4,a5⟩:=fa
 obtain ⟨c0,c1,_,c3,c4,c5⟩:=fc
 have na:∀ b u,H b=some u->b≠a:=λ b u e z=>by rw [z,a0] at e;cases e
 have nc:∀ b u,H b=some u->b≠c:=λ b u e z=>by rw [z,c0] at e;cases e
 refine I.step (g':=s.gens) (d':=s.drawn) (ch:=[a,c]) (λ b hb=>?_) (λ b o _ _ hc e _=>k b o (λ z=>hc (by simp [z])) (λ z=>hc (by simp [z])) e) (λ b o _ _ hc e _=>⟨o.slots,k b o (λ z=>hc (by simp [z])) (λ z=>hc (by simp [z])) e⟩) (λ _ _ _ _ n=>n)
  (λ b o hc e=>⟨o,k b o (λ z=>hc (by simp [z])) (λ z=>hc (by simp [z])) e⟩) (λ _ _ e=>e) (λ _ _ _ e=>e) (λ b ps e=>⟨#[],by rw [e];simp⟩) (λ m hm=>?_) (λ b u e=>?_) I.bare
 ·simp at hb
  rcases hb with e|e
  ·subst e;exact ⟨a3,a1,a4,a5⟩
  ·subst e;exact ⟨c3,c1,c4,c5⟩
 ·obtain ⟨o,es,ep,ho,r⟩:=hm
  exact ⟨o,es,ep,k _ o (Ne.symm a1) (Ne.symm c1) ho,r⟩
 ·refine (I.hok b u e).stay (λ d v hc q=>k d v ?_ ?_ q) (λ _ q=>q) λ _ _ q=>q
  ·rcases hc with z|z
   ·rw [z];exact na b u e
   ·exact na d _ z
  ·rcases hc with z|z
   ·rw [z];exact nc b u e
   ·exact nc d _ z
theorem zqs {h:Heap} {ob o:Obj} {b:Addr} (e:(h.push ob).get? b=some o) (n:b≠h.objs.size):h.get? b=some o:=by
 obtain ⟨e1,e2⟩:=zO.mp e
 refine zO.mpr ⟨?_,e2⟩
 cases h
 simpa [Heap.push,Array.getElem?_push,n] using e1
noncomputable def Ite (K:Fg) (a:Addr):It:=⟨λ i H=>∃ xs x,SqL K H a xs/\xs[i]?=some x,λ i H x H'=>∃ y p,(∀ ys,SqL K H a ys->ys[i]?=some y)/\H p=none/\x=.ref p/\H'=upd H p (.tup [.int (i:Int),y]),λ i H=>∃ xs,SqL K H a xs/\xs.length<=i⟩
theorem zyj {P:Program} {w:World} {K:Fg} {elts:List Expr} {c:_} {pos:Pos} {a e it:Addr} (hne:e≠it) :
  Turn P w K (.Tuple elts c pos) (Ite K a) [e,it] e (λ i h=>(∃ old,IsEnum h e it (i:Int) old)/\h.IsListIter it a i) where
 mem:=by simp
 obj:=λ i h S b hb=>by
  obtain ⟨⟨old,he⟩,hi⟩:=S
  simp at hb
  rcases hb with rfl|rfl
  ·exact ⟨_,he,λ v q=>by cases q⟩
  ·obtain ⟨o,e1,c1,d1⟩:=hi
   exact ⟨o,e1,λ v z=>by rw [d1] at z;cases z⟩
 keep:=λ i h h' S k=>by
  obtain ⟨⟨old,he⟩,hi⟩:=S
  exact ⟨⟨old,k _ (by simp) _ he⟩,hi.at λ o e1=>k it (by simp) o e1⟩
 item:=by
  intro X hP hw hK hc i pins s Y H E I hf S hg
  subst hP hw hK
  obtain ⟨⟨old,he⟩,hi⟩:=S
  obtain ⟨xs,x,hq,hx⟩:=hg
  obtain ⟨its,rv,p,hz⟩:=I.list hq
  obtain ⟨u,hu,ru⟩:=rv.get hx
  refine wpAny_pyNext_enum_item he hi p.isList (x:=u) (by simpa using hu) hne λ h' ho hi' ht hsz hk=>?_
  have eL:e < s.heap.objs.size:=uO he
  have iL:it < s.heap.objs.size:=by obtain ⟨o,e1,_⟩:=hi;exact uO e1
  have hfr:=I.hok.fresh (uG s.heap.objs.size)
  have I1:_2.Inv X pins Y (upd H s.heap.objs.size (.tup [.int (i:Int),x])) { s with heap:=s.heap.push { cls:=.type "tuple",data:=.seq #[.int i s.toks,u] },toks:=s.toks+1 } :=
   I.laid (t':=s.toks+1) (o:=.tup [.int (i:Int),x]) (λ b ob q=>uH _ q) (uG _) ⟨by show 2<=sizeLine;rw [sizeLine_eq];decide,[.int i s.toks,u],.cons ⟨_,rfl⟩ (.cons ru .nil),IsTup.new _ _⟩
  have fe:=hf e (by simp)
  have fi:=hf it (by simp)
  have fe1:FpOk X pins (upd H s.heap.objs.size (.tup [.int (i:Int),x])) e:=⟨by rw [zn0 (u3 eL)];exact fe.1,fe.2⟩
  have fi1:FpOk X pins (upd H s.heap.objs.size (.tup [.int (i:Int),x])) it:=⟨by rw [zn0 (u3 iL)];exact fi.1,fi.2⟩
  have I2:_2.Inv X pins Y (upd H s.heap.objs.size (.tup [.int (i:Int),x])) { s with heap:=h',toks:=s.toks+1 } :=
   zlw (s:={ s with heap:=s.heap.push { cls:=.type "tuple",data:=.seq #[.int i s.toks,u] },toks:=s.toks+1 }) I1 (λ b o nb1 nb2 q=>by
    by_cases z:b=s.heap.objs.size
    ·subst z
     have q':(s.heap.push { cls:=.type "tuple",data:=.seq #[.int i s.toks,u] }).get? s.heap.objs.size=some o:=q
     rw [uT _ rfl] at q'
     cases q'
     exact ht
    ·exact hk b o nb1 nb2 (zqs q z)) fe1 fi1
  refine ⟨.ref s.heap.objs.size,rfl,wpAny_letOwnedTupleGo_enum ho λ h2 he2 hs2=>?_⟩
  refine ⟨.ref s.heap.objs.size,_,za1 (tk:=s.toks+1) I2 fe1 hs2,rfl,⟨x,s.heap.objs.size,λ ys hy=>by rw [I.list_inj hy hq];exact hx,hfr,rfl,rfl⟩,⟨⟨u,by simpa using he2⟩,hi'.at λ o e1=>hs2.extBut _ _ (Ne.symm hne) e1⟩,λ b hb=>?_⟩
  simp at hb
  rcases hb with rfl|rfl
  ·exact fe1.1
  ·exact fi1.1
 done:=by
  intro X hP hw hK hc i pins s Y H E I hf S hg
  subst hP hw hK
  obtain ⟨⟨old,he⟩,hi⟩:=S
  obtain ⟨xs,hq,hx⟩:=hg
  obtain ⟨its,rv,p,hz⟩:=I.list hq
  have hl:=rv.length
  exact wpAny_pyNext_enum_end (I.ok.hd hc) he hi p.isList (by simp;lia) λ h' eb=>⟨rfl,zpf (tk:=s.toks) I (hf it (by simp)) eb⟩
 self:=λ _ _ _ _ _ S h=>wpAny_pyIter_enum S.1.choose_spec h
theorem zkd:bootBuiltins "enumerate"=some (.type "enumerate"):=by decide +kernel
section
variable {X:Cx} {elts:List Expr}
noncomputable def zc81 (K:Fg) (vs:List V) (H:Hp) (R:It->Hp->Prop):Prop:=∃ a xs,vs=[.ref a]/\SqL K H a xs/\R (Ite K a) H
noncomputable def zw01 (K:Fg) (ta:TA):TI:=λ Y H R=>ta Y H λ vs H1=>zc81 K vs H1 R
theorem zl8 {K:Fg} (hK:X.K=K) {c:_} {tpos:Pos} {a:Expr} {ta:TA} {p pos:Pos} (hg:Gl X "enumerate") (hm:X.mg "enumerate"=none) (ha:PA X [a] ta) (hs:starEach [a] X.env=[(false,eval a X.env)]:=by rfl) :
  PI X (.Tuple elts c tpos) (.Call (.Name "enumerate" p) [a] [] pos) (zw01 K ta):=by
 subst hK
 intro pins s Y H R I h
 refine Call_ (zia I hg hm zkd (PyProof.Rows.callWith_type1 (thn (ha pos pins s Y H _ I h) λ us s1 ⟨vs,H1,I1,r1,q1⟩=>?_) (by rw [hs];rfl) (by rfl)))
 obtain ⟨l,xs,e,hq,q⟩:=q1
 subst e
 obtain ⟨u1,rfl,ru⟩:=zkf r1
 obtain rfl:u1=uS l:=ru
 obtain ⟨its,rv,pl,hz⟩:=I1.list hq
 refine call_enumerate_list pl.isList ?_
 intro h' he hi hsz kk
 refine wpAny_pyIter_enum he ?_
 have I2:_2.Inv X pins Y H1 { s1 with heap:=h' }:=I1.kept (t':=s1.toks) kk
 refine ⟨s1.heap.objs.size+1,[s1.heap.objs.size+1,s1.heap.objs.size],_,_,H1,rfl,I2,zyj (Nat.succ_ne_self _),⟨⟨.none,he⟩,hi⟩,λ b hb=>?_,q⟩
 have hb':s1.heap.objs.size<=b:=by
  simp at hb
  rcases hb with z|z
  ·exact z ▸ xJ _
  ·exact z ▸ uG _
 exact I1.fpOk hb' (I1.hok.fresh hb')
end
noncomputable def zvz:R2:=λ x y H Q=>zr51 x y H Q \/ rRep x y H Q
theorem zn3 {X:Cx}:OpR X (binaryOp .Mult) zvz:=zut.or zew
noncomputable def zcr:V->List V->Hp->VK->Prop:=λ x vs H Q=>∃ a k d o,x=.ref a/\vs=[k,d]/\DGet H a k o/\Q (o.getD d) H
theorem zgy {X:Cx} (hu:X.A.units+64 < cLine):MtR X "dict.get" zcr:=by
 intro pins s Y H x xs v us Q I rx rv h
 obtain ⟨a,k,d,o,rfl,rfl,g,q⟩:=h
 obtain ⟨u,r,rfl,ru,rr⟩:=zn51 rv
 obtain rfl:v=uS a:=rx
 exact zh31 (by lia) I g ru rr λ w' s3 I3 rw'=>⟨o.getD d,H,I3,rw',q⟩
section
variable {X:Cx}
noncomputable def zi71 (K:Fg):R2:=λ x y H Q=>∃ l b xs zs,x=.ref l/\y=.ref b/\SqL K H l xs/\SqL K H b zs/\xs.length+zs.length<=sizeLine/\∀ p,H p=none->Q (.ref p) (upd H p (.lst (xs++zs)))
theorem zsy {K:Fg} (hK:X.K=K):OpR X (binaryOp .Add) (zi71 K):=by
 subst hK
 intro pins s Y H x y v u Q I rx ry h
 obtain ⟨l,b,xs,zs,rfl,rfl,hH,hB,hz,q⟩:=h
 cases rx
 cases ry
 obtain ⟨its,r,⟨⟨cls,dd,data,sl⟩,n,ho,hc,_,hd⟩,z1⟩:=I.list hH
 obtain ⟨its2,r2,⟨⟨cls2,dd2,data2,sl2⟩,n2,ho2,hc2,_,hd2⟩,z2⟩:=I.list hB
 simp only at hc hd hc2 hd2
 subst hc hd hc2 hd2
 have e1:=r.length
 have e2:=r2.length
 refine concat_meets ⟨_,ho,rfl⟩ ⟨_,ho2,rfl⟩ noFill_list_add seq_list_add PySem.F.slot_list_add PySem.F.entry_list_add (PySem.F.args_list_add_2 _ _) (list_addW l b its.toArray its2.toArray n n2 dd dd2 sl sl2 (by simp;lia)) ⟨ho,ho2,?_⟩
 have ea:its.toArray++its2.toArray=(its++its2).toArray:=by simp
 rw [ea]
 exact ⟨.ref _,_,I.lnew (t':=s.toks) (r.append r2) (by rw [vB];lia),rfl,q _ I.fresh⟩
noncomputable def zh01 (K:Fg):R2:=λ x y H Q=>zl61 K x y H Q \/ zi71 K x y H Q
theorem zw1 {K:Fg} (hK:X.K=K):OpR X (binaryOp .Add) (zh01 K):=(zay hK).or (zsy hK)
noncomputable def rIsS (K:Fg):List V->Hp->VK->Prop:=λ vs H Q=>∃ a cV c b,vs=[.ref a,cV]/\clsV cV=some c/\(((∃ xs,SqL K H a xs)/\PySem.W.kitOne K (.type "list") c=some b) \/ ((∃ xs,SqT K H a xs)/\PySem.W.kitOne K (.type "tuple") c=some b))/\Q (.bl b) H
theorem zhq {K:Fg} (h:X.K=K):CallR X (.builtin "isinstance") (rIsS K):=by
 subst h
 intro pins s Y H xs us Q I r h
 obtain ⟨a,cV,c,b,rfl,rc,hh,q⟩:=h
 obtain ⟨u,v,rfl,ru,rv⟩:=r.two
 obtain rfl:=zig rc rv
 cases (show u=uS a from ru)
 rcases hh with ⟨⟨xs,hx⟩,e⟩|⟨⟨xs,hx⟩,e⟩
 ·obtain ⟨its,_,⟨o,n,ho,hc,_,hd⟩,_⟩:=I.list hx
  exact PySem.W.kia_one PySem.W.kitx_list I.kIn ⟨o,ho,hc⟩ e (λ z=>nomatch z) λ tk=>⟨.bl b,H,I.tok tk,rfl,q⟩
 ·obtain ⟨its,_,⟨o,h1,h2,_⟩,_⟩:=I.tuple hx
  exact PySem.W.kia_one PySem.W.kitx_tuple I.kIn ⟨o,h1,h2⟩ e (λ z=>nomatch z) λ tk=>⟨.bl b,H,I.tok tk,rfl,q⟩
noncomputable def rIsW (K:Fg):List V->Hp->VK->Prop:=λ vs H Q=>rIsI K vs H Q \/ rIsS K vs H Q
theorem zb7 {K:Fg} (h:X.K=K):CallR X (.builtin "isinstance") (rIsW K):=(zcg h).or (zhq h)
theorem zee (l:Addr) (items:Array Value) (n:Nat) (b:Addr) (items2:Array Value) (n2:Nat) (dd2:Option Addr) (sl2:Array (Option Value)) (hc0:¬(!items.isEmpty && Builtin.List.listTooLong (items.size+items2.size))=true) (hc1:items.size<=sizeLine) (hs2:items.size+items2.size<=sizeLine+1) :
  Meets (Builtin.«list.extend» ⟨[.ref l,.ref b],[]⟩) (λ _ R s=>s.heap.get? l=some { cls:=.type "list",dict:=none,data:=.seq items n,slots:=#[] }/\s.heap.get? b=some { cls:=.type "list",dict:=dd2,data:=.seq items2 n2,slots:=sl2 }/\R (.ok (.ret wB)) { s with heap:=s.heap.update l (Obj.mapSeq λ x=>x++items2),toks:=s.toks }) :=
 .of_wp λ prog w A R s h=>by
  obtain ⟨hp,g,d,tk,os⟩:=s;obtain ⟨hl,hb,h⟩:=h;have f1:=AutoSeq1.idx_int;have f2:=AutoSeq1.sub_tuple_tuple;have f3:=AutoSeq1.sub_list_list;have f4:=AutoSeq1.sub_tuple_list;have f5:=AutoSeq1.sub_list_tuple
  have hz':(items++items2).size<=sizeLine+1:=by rw [Array.size_append];exact hs2
  wp_walk using (wpAny_updateSeq hl rfl (hz:=hc1) (_hz':=hz')),wpAny_loadPart' hl,wpAny_loadPart' hb;exact ⟨_,rfl,h⟩
noncomputable def zlh (K:Fg):V->List V->Hp->VK->Prop:=λ x vs H Q=>∃ l b xs zs,x=.ref l/\vs=[.ref b]/\H l=some (.lst xs)/\SqL K H b zs/\xs.length+zs.length<=sizeLine/\Q .non (upd H l (.lst (xs++zs)))
theorem zk8 {K:Fg} (hK:X.K=K):MtM X "list.extend" (zlh K):=by
 subst hK
 intro pins s Y H x vs v us Q I rx rv h
 obtain ⟨l,b,xs,zs,rfl,rfl,hH,hB,hz,q⟩:=h
 cases rx
 obtain ⟨u,rfl,ru⟩:=rv.one
 cases ru
 obtain ⟨z,its,n,r,hl,e⟩:=I.lstM hH
 obtain ⟨its2,r2,⟨⟨cls2,dd2,data2,sl2⟩,n2,ho2,hc2,_,hd2⟩,z2⟩:=I.list hB
 simp only at hc2 hd2
 subst hc2 hd2
 have hl2:=r2.length
 have hsz:its.toArray.size+its2.toArray.size<=sizeLine:=by rw [uV,uV];lia
 have hlong:¬ (!its.toArray.isEmpty && Builtin.List.listTooLong (its.toArray.size+its2.toArray.size))=true:=by
  rw [zed hsz,Bool.and_false]
  exact uX
 refine call_meets F.slot_list_extend ⟨_,e,rfl⟩ F.entry_list_extend (F.args_list_extend_2 _ _)
  (zee l its.toArray n b its2.toArray n2 dd2 sl2 hlong (by rw [uV];lia) (by lia)) ⟨e,ho2,?_⟩
 refine ⟨.non,_,I.lset (its':=its++its2) hH e (by simp) (r.append r2) ?_,rfl,q⟩
 rw [vB]
 lia
end
theorem IsAll.dlen {K:Fg} {F:Hp}:∀ {xs:List V} {ds:List PyData},IsAll K F xs ds->xs.length=ds.length
|_,_,.nil=>rfl
|_,_,.cons _ r=>congrArg (·+1) (IsAll.dlen r)
theorem IsAll.dget {K:Fg} {F:Hp}:∀ {xs:List V} {ds:List PyData} {i:Nat} {d:PyData},IsAll K F xs ds->ds[i]?=some d->∃ x,xs[i]?=some x/\Is K F x d
|_,_,_,_,.nil,e=>by simp at e
|_,_,0,_,.cons h _,e=>by simp at e;subst e;exact ⟨_,rfl,h⟩
|_,_,i+1,d,.cons _ r,e=>by
  obtain ⟨x,h1,h2⟩:=IsAll.dget (i:=i) (d:=d) r (by simpa using e)
  exact ⟨x,by simpa using h1,h2⟩
theorem IsAll.dapp {K:Fg} {F:Hp}:∀ {xs ys:List V} {ds es:List PyData},IsAll K F xs ds->IsAll K F ys es->IsAll K F (xs++ys) (ds++es)
|_,_,_,_,.nil,s=>s
|_,_,_,_,.cons h r,s=>.cons h (IsAll.dapp r s)
theorem IsAll.dtake {K:Fg} {F:Hp}:∀ (n:Nat) {xs:List V} {ds:List PyData},IsAll K F xs ds->IsAll K F (xs.take n) (ds.take n)
|0,_,_,_=>.nil
|_+1,_,_,.nil=>.nil
|n+1,_,_,.cons h r=>.cons h (IsAll.dtake n r)
theorem IsAll.ddrop {K:Fg} {F:Hp}:∀ (n:Nat) {xs:List V} {ds:List PyData},IsAll K F xs ds->IsAll K F (xs.drop n) (ds.drop n)
|0,_,_,h=>h
|_+1,_,_,.nil=>.nil
|n+1,_,_,.cons _ r=>IsAll.ddrop n r
theorem IsAll.dset {K:Fg} {F:Hp} {x:V} {d:PyData} (hx:Is K F x d):∀ (n:Nat) {xs:List V} {ds:List PyData},IsAll K F xs ds->IsAll K F (xs.set n x) (ds.set n d)
|_,_,_,.nil=>.nil
|0,_,_,.cons _ r=>.cons hx r
|n+1,_,_,.cons h r=>.cons h (IsAll.dset hx n r)
theorem Is.list_inv {K:Fg} {F:Hp} {v:V} {ds:List PyData} (h:Is K F v (.list ds)):∃ a xs,v=.ref a/\SqL K F a xs/\IsAll K F xs ds:=by
 cases h with
|lst h1 h2=>exact ⟨_,_,rfl,h1,h2⟩
theorem Is.tuple_inv {K:Fg} {F:Hp} {v:V} {ds:List PyData} (h:Is K F v (.tuple ds)):∃ a xs,v=.ref a/\SqT K F a xs/\IsAll K F xs ds:=by
 cases h with
|tup h1 h2=>exact ⟨_,_,rfl,SqT.of h1,h2⟩
|tuc h1 h2 _=>exact ⟨_,_,rfl,h1,h2⟩
theorem Is.int_inv {K:Fg} {F:Hp} {v:V} {i:Int} (h:Is K F v (.int i)):v=.int i:=by cases h;rfl
theorem Is.bl_inv {K:Fg} {F:Hp} {v:V} {b:Bool} (h:Is K F v (.bool b)):v=.bl b:=by cases h;rfl
theorem Is.str_inv {K:Fg} {F:Hp} {v:V} {b:Str} (h:Is K F v (.str b)):v=.str b:=by cases h;rfl
theorem Is.non_inv {K:Fg} {F:Hp} {v:V} (h:Is K F v .none):v=.non:=by cases h;rfl
end _3
namespace _4
open PySem PySem.Spec PyProof.Rows _2 _3
noncomputable abbrev D:=PyData
noncomputable def HD (x:Option HO):Prop:=x≠none/\∀ ks:List Key,x≠some (.tup (ks.map kV))
theorem HD.mono {H H':Hp} {a:Addr} (h:HD (H a)) (s:Same H H'):HD (H' a):=by
 cases e:H a with
|none=>exact absurd e h.1
|some o=>rw [s a o e,<- e];exact h
theorem HD.of {H:Hp} {a:Addr} {o:HO} (h:H a=some o) (n:∀ ks:List Key,o≠.tup (ks.map kV)):HD (H a):=by
 rw [h];exact ⟨by simp,λ ks z=>n ks (u8.inj z)⟩
theorem zji {H:Hp} {a:Addr} {o:HO} (h:HD (upd H a o a)):∀ b,(H b≠none->upd H a o b≠none)/\(HD (H b)->HD (upd H a o b)):=λ b=>by
 by_cases z:b=a
 ·rw [z];exact ⟨λ _=>h.1,λ _=>h⟩
 ·rw [zn0 z];exact ⟨id,id⟩
theorem zrz {a:Addr} {r:List V}:∀ ks:List Key,V.ref a :: r≠ks.map kV:=λ ks z=>by
 cases ks with
|nil=>cases z
|cons k ks=>cases k <;> cases z
structure Ext (F H F' H':Hp):Prop where
 h:Same H H'
 f:Same F F'
 fh:Same F' H'
 nw:∀ a,HD (H a)->F a=none->F' a=none
theorem Ext.refl {F H:Hp} (s:Same F H):Ext F H F H:=⟨λ _ _ z=>z,λ _ _ z=>z,s,λ _ _ z=>z⟩
theorem Ext.trans {F H F1 H1 F2 H2:Hp} (a:Ext F H F1 H1) (b:Ext F1 H1 F2 H2):Ext F H F2 H2 :=
 ⟨a.h.trans b.h,a.f.trans b.f,b.fh,λ c hc fc=>b.nw c (hc.mono a.h) (a.nw c hc fc)⟩
theorem Ext.nwo {F H F' H':Hp} {a:Addr} {o:HO} (e:Ext F H F' H') (h:H a=some o) (n:∀ ks:List Key,o≠.tup (ks.map kV)) (f:F a=none):F' a=none:=e.nw a (.of h n) f
inductive T where
|fz (d:D)|li (ds:List D)|ls (ts:List T)|ob (C:Addr) (fs:List (Str×T))|dk (kvs:List (Key×D))|dt (kvs:List (List Key×D))|tp (ts:List T)|wh|dd (ts:List (Key×T))
inductive KvIs (K:Fg) (F:Hp) {κ:Type}:List (κ×V)->List (κ×D)->Prop
|nil:KvIs K F [] []
|cons {k:κ} {v:V} {d:D} {r:List (κ×V)} {s:List (κ×D)}:Is K F v d->KvIs K F r s->KvIs K F ((k,v) :: r) ((k,d) :: s)
theorem KvIs.mono {K:Fg} {F F':Hp} {κ:Type} (s:Same F F'):∀ {r:List (κ×V)} {t:List (κ×D)},KvIs K F r t->KvIs K F' r t
|_,_,.nil=>.nil
|_,_,.cons h r=>.cons (h.mono s) (r.mono s)
mutual
inductive Rt (K:Fg) (F H:Hp):V->T->List Addr->Prop
|fz {v:V} {d:D}:Is K F v d->Rt K F H v (.fz d) []
|li {a:Addr} {xs:List V} {ds:List D}:H a=some (.lst xs)->F a=none->IsAll K F xs ds->Rt K F H (.ref a) (.li ds) [a]
|ls {a:Addr} {xs:List V} {ts:List T} {fp:List Addr}:H a=some (.lst xs)->F a=none->RtAll K F H xs ts fp->Rt K F H (.ref a) (.ls ts) (a :: fp)
|ob {a C dx:Addr} {fs:List (Str×V)} {ts:List (Str×T)} {fp:List Addr}:H a=some (.ins C dx fs)->H dx=some (.own a)->F a=none->F dx=none->RtFs K F H fs ts fp->Rt K F H (.ref a) (.ob C ts) (a :: dx :: fp)
|dk {a:Addr} {kvs:List (Key×V)} {ds:List (Key×D)}:H a=some (.dK kvs)->F a=none->KvIs K F kvs ds->Rt K F H (.ref a) (.dk ds) [a]
|dt {a:Addr} {kvs:List (List Key×V)} {ds:List (List Key×D)}:H a=some (.dT kvs)->F a=none->KvIs K F kvs ds->Rt K F H (.ref a) (.dt ds) [a]
|tp {a:Addr} {xs:List V} {ts:List T} {fp:List Addr}:H a=some (.tup xs)->F a=none->(∀ ks:List Key,xs≠ks.map kV)->RtAll K F H xs ts fp->Rt K F H (.ref a) (.tp ts) (a :: fp)
|wh {a:Addr}:Rt K F H (.ref a) .wh []
|dd {a:Addr} {kvs:List (Key×V)} {ts:List (Key×T)} {fp:List Addr}:H a=some (.dK kvs)->F a=none->kvs.map (·.1)=ts.map (·.1)->RtAll K F H (kvs.map (·.2)) (ts.map (·.2)) fp->Rt K F H (.ref a) (.dd ts) (a :: fp)
inductive RtAll (K:Fg) (F H:Hp):List V->List T->List Addr->Prop
|nil:RtAll K F H [] [] []
|cons {x:V} {t:T} {xs:List V} {ts:List T} {fp fq:List Addr}:Rt K F H x t fp->RtAll K F H xs ts fq->RtAll K F H (x :: xs) (t :: ts) (fp++fq)
inductive RtFs (K:Fg) (F H:Hp):List (Str×V)->List (Str×T)->List Addr->Prop
|nil:RtFs K F H [] [] []
|cons {f:Str} {x:V} {t:T} {xs:List (Str×V)} {ts:List (Str×T)} {fp fq:List Addr}:Rt K F H x t fp->RtFs K F H xs ts fq->RtFs K F H ((f,x) :: xs) ((f,t) :: ts) (fp++fq)
end
section
variable {K:Fg} {F H F' H':Hp}
theorem Rt.ind {P : V → T → List Addr → Prop} {Q : List V → List T → List Addr → Prop} {R : List (Str × V) → List (Str × T) → List Addr → Prop}
    (c1 : ∀ {v : V} {d : D}, Is K F v d → P v (.fz d) [])
    (c2 : ∀ {a : Addr} {xs : List V} {ds : List D}, H a = some (.lst xs) → F a = none → IsAll K F xs ds → P (.ref a) (.li ds) [a])
    (c3 : ∀ {a : Addr} {xs : List V} {ts : List T} {fp : List Addr}, H a = some (.lst xs) → F a = none → Q xs ts fp → P (.ref a) (.ls ts) (a :: fp))
    (c4 : ∀ {a C dx : Addr} {fs : List (Str × V)} {ts : List (Str × T)} {fp : List Addr}, H a = some (.ins C dx fs) → H dx = some (.own a) → F a = none → F dx = none → R fs ts fp → P (.ref a) (.ob C ts) (a :: dx :: fp))
    (c5 : ∀ {a : Addr} {kvs : List (Key × V)} {ds : List (Key × D)}, H a = some (.dK kvs) → F a = none → KvIs K F kvs ds → P (.ref a) (.dk ds) [a])
    (c6 : ∀ {a : Addr} {kvs : List (List Key × V)} {ds : List (List Key × D)}, H a = some (.dT kvs) → F a = none → KvIs K F kvs ds → P (.ref a) (.dt ds) [a])
    (ct : ∀ {a : Addr} {xs : List V} {ts : List T} {fp : List Addr}, H a = some (.tup xs) → F a = none → (∀ ks : List Key, xs ≠ ks.map kV) → Q xs ts fp → P (.ref a) (.tp ts) (a :: fp))
    (cw : ∀ {a : Addr}, P (.ref a) .wh [])
    (cd : ∀ {a : Addr} {kvs : List (Key × V)} {ts : List (Key × T)} {fp : List Addr}, H a = some (.dK kvs) → F a = none → kvs.map (·.1) = ts.map (·.1) → Q (kvs.map (·.2)) (ts.map (·.2)) fp → P (.ref a) (.dd ts) (a :: fp))
    (c7 : Q [] [] []) (c8 : ∀ {x : V} {t : T} {xs : List V} {ts : List T} {fp fq : List Addr}, P x t fp → Q xs ts fq → Q (x :: xs) (t :: ts) (fp ++ fq))
    (c9 : R [] [] []) (c0 : ∀ {f : Str} {x : V} {t : T} {xs : List (Str × V)} {ts : List (Str × T)} {fp fq : List Addr}, P x t fp → R xs ts fq → R ((f, x) :: xs) ((f, t) :: ts) (fp ++ fq)) :
    (∀ {v : V} {t : T} {fp : List Addr}, Rt K F H v t fp → P v t fp) ∧ (∀ {v : List V} {t : List T} {fp : List Addr}, RtAll K F H v t fp → Q v t fp) ∧ (∀ {v : List (Str × V)} {t : List (Str × T)} {fp : List Addr}, RtFs K F H v t fp → R v t fp) :=
  ⟨fun h => Rt.rec (motive_1 := fun v t fp _ => P v t fp) (motive_2 := fun v t fp _ => Q v t fp) (motive_3 := fun v t fp _ => R v t fp) c1 c2 (fun a b _ => c3 a b) (fun a b c d _ => c4 a b c d) c5 c6 (fun a b c _ => ct a b c) cw (fun a b c _ => cd a b c) c7 (fun _ _ => c8) c9 (fun _ _ => c0) h,
   fun h => RtAll.rec (motive_1 := fun v t fp _ => P v t fp) (motive_2 := fun v t fp _ => Q v t fp) (motive_3 := fun v t fp _ => R v t fp) c1 c2 (fun a b _ => c3 a b) (fun a b c d _ => c4 a b c d) c5 c6 (fun a b c _ => ct a b c) cw (fun a b c _ => cd a b c) c7 (fun _ _ => c8) c9 (fun _ _ => c0) h,
   fun h => RtFs.rec (motive_1 := fun v t fp _ => P v t fp) (motive_2 := fun v t fp _ => Q v t fp) (motive_3 := fun v t fp _ => R v t fp) c1 c2 (fun a b _ => c3 a b) (fun a b c d _ => c4 a b c d) c5 c6 (fun a b c _ => ct a b c) cw (fun a b c _ => cd a b c) c7 (fun _ _ => c8) c9 (fun _ _ => c0) h⟩
noncomputable def Keep (F' H H':Hp) (fp:List Addr):Prop:=∀ a∈fp,H' a=H a/\F' a=none
theorem Keep.hd {a:Addr} {fp:List Addr} {o:HO} (k:Keep F' H H' (a :: fp)) (h:H a=some o):H' a=some o:=(k a vN).1.trans h
theorem Keep.no {a:Addr} {fp:List Addr} (k:Keep F' H H' (a :: fp)):F' a=none:=(k a vN).2
theorem Keep.tl {a:Addr} {fp:List Addr} (k:Keep F' H H' (a :: fp)):Keep F' H H' fp:=λ b hb=>k b (u9 _ hb)
theorem Keep.l {fp fq:List Addr} (k:Keep F' H H' (fp++fq)):Keep F' H H' fp:=λ b hb=>k b (xV _ hb)
theorem Keep.r {fp fq:List Addr} (k:Keep F' H H' (fp++fq)):Keep F' H H' fq:=λ b hb=>k b (vW _ hb)
theorem zyd (s:Same F F'):(∀ {v:V} {t:T} {fp:List Addr},Rt K F H v t fp->Keep F' H H' fp->Rt K F' H' v t fp)/\(∀ {v:List V} {t:List T} {fp:List Addr},RtAll K F H v t fp->Keep F' H H' fp->RtAll K F' H' v t fp)/\(∀ {v:List (Str×V)} {t:List (Str×T)} {fp:List Addr},RtFs K F H v t fp->Keep F' H H' fp->RtFs K F' H' v t fp) :=
 Rt.ind (P:=λ v t fp=>Keep F' H H' fp->Rt K F' H' v t fp) (Q:=λ v t fp=>Keep F' H H' fp->RtAll K F' H' v t fp) (R:=λ v t fp=>Keep F' H H' fp->RtFs K F' H' v t fp)
  (λ h _=>.fz (h.mono s)) (λ h _ i k=>.li (k.hd h) k.no (i.mono s)) (λ h _ i k=>.ls (k.hd h) k.no (i k.tl)) (λ h h2 _ _ i k=>.ob (k.hd h) (k.tl.hd h2) k.no k.tl.no (i k.tl.tl))
  (λ h _ i k=>.dk (k.hd h) k.no (i.mono s)) (λ h _ i k=>.dt (k.hd h) k.no (i.mono s)) (λ h _ nk i k=>.tp (k.hd h) k.no nk (i k.tl)) (λ _=>.wh) (λ h _ e i k=>.dd (k.hd h) k.no e (i k.tl)) (λ _=>.nil) (λ a b k=>.cons (a k.l) (b k.r)) (λ _=>.nil) (λ a b k=>.cons (a k.l) (b k.r))
theorem Rt.frame (s:Same F F') {v:V} {t:T} {fp:List Addr} (h:Rt K F H v t fp) (k:∀ a∈fp,H' a=H a/\F' a=none):Rt K F' H' v t fp:=(zyd s).1 h k
theorem RtAll.frame (s:Same F F') {v:List V} {t:List T} {fp:List Addr} (h:RtAll K F H v t fp) (k:∀ a∈fp,H' a=H a/\F' a=none):RtAll K F' H' v t fp:=(zyd s).2.1 h k
theorem RtFs.frame (s:Same F F') {v:List (Str×V)} {t:List (Str×T)} {fp:List Addr} (h:RtFs K F H v t fp) (k:∀ a∈fp,H' a=H a/\F' a=none):RtFs K F' H' v t fp:=(zyd s).2.2 h k
noncomputable def Dom (F H:Hp) (fp:List Addr):Prop:=∀ a∈fp,HD (H a)/\F a=none
theorem Dom.nil:Dom F H []:=λ _ h=>nomatch h
theorem Dom.cons {a:Addr} {o:HO} {fp:List Addr} (h:H a=some o) (n:∀ ks:List Key,o≠.tup (ks.map kV)) (f:F a=none) (r:Dom F H fp):Dom F H (a :: fp):=λ b hb=>by
 rcases uD.mp hb with e|e
 ·rw [e];exact ⟨.of h n,f⟩
 ·exact r b e
theorem Dom.app {fp fq:List Addr} (a:Dom F H fp) (b:Dom F H fq):Dom F H (fp++fq):=λ c hc=>(uF.mp hc).elim (a c) (b c)
theorem zrb:(∀ {v:V} {t:T} {fp:List Addr},Rt K F H v t fp->Dom F H fp)/\(∀ {v:List V} {t:List T} {fp:List Addr},RtAll K F H v t fp->Dom F H fp)/\(∀ {v:List (Str×V)} {t:List (Str×T)} {fp:List Addr},RtFs K F H v t fp->Dom F H fp) :=
 Rt.ind (P:=λ _ _ fp=>Dom F H fp) (Q:=λ _ _ fp=>Dom F H fp) (R:=λ _ _ fp=>Dom F H fp) (λ _=>.nil) (λ h f _=>.cons h (λ _=>nofun) f .nil) (λ h f r=>.cons h (λ _=>nofun) f r) (λ h h2 f f2 r=>.cons h (λ _=>nofun) f (.cons h2 (λ _=>nofun) f2 r))
  (λ h f _=>.cons h (λ _=>nofun) f .nil) (λ h f _=>.cons h (λ _=>nofun) f .nil) (λ h f n r=>.cons h (λ ks z=>n ks (by cases z;rfl)) f r) .nil (λ h f _ r=>.cons h (λ _=>nofun) f r) .nil .app .nil .app
theorem Rt.dom {v:V} {t:T} {fp:List Addr} (h:Rt K F H v t fp):∀ a∈fp,H a≠none/\F a=none:=λ a ha=>⟨(zrb.1 h a ha).1.1,(zrb.1 h a ha).2⟩
theorem RtAll.dom {v:List V} {t:List T} {fp:List Addr} (h:RtAll K F H v t fp):∀ a∈fp,H a≠none/\F a=none:=λ a ha=>⟨(zrb.2.1 h a ha).1.1,(zrb.2.1 h a ha).2⟩
theorem RtFs.dom {v:List (Str×V)} {t:List (Str×T)} {fp:List Addr} (h:RtFs K F H v t fp):∀ a∈fp,H a≠none/\F a=none:=λ a ha=>⟨(zrb.2.2 h a ha).1.1,(zrb.2.2 h a ha).2⟩
theorem Rt.hdd {v:V} {t:T} {fp:List Addr} (h:Rt K F H v t fp):∀ a∈fp,HD (H a):=λ a ha=>(zrb.1 h a ha).1
theorem RtAll.hdd {v:List V} {t:List T} {fp:List Addr} (h:RtAll K F H v t fp):∀ a∈fp,HD (H a):=λ a ha=>(zrb.2.1 h a ha).1
end
theorem Rt.ext {K:Fg} {F H F' H':Hp} {v:V} {t:T} {fp:List Addr} (e:Ext F H F' H') (h:Rt K F H v t fp):Rt K F' H' v t fp :=
 h.frame e.f λ a ha=>by
  obtain ⟨h1,h2⟩:=h.dom a ha
  cases q:H a with
 |none=>exact absurd q h1
 |some o=>exact ⟨e.h a o q,e.nw a (h.hdd a ha) h2⟩
inductive Sl where
|un|sh (d:D)|ow (t:T)|bo (t:T)|io (a:Addr) (t:T)
noncomputable abbrev DSt:=List Sl
noncomputable abbrev DE:=DSt->(D->Prop)->Prop
noncomputable abbrev DF:=DSt->(List D->Prop)->Prop
noncomputable abbrev DT:=DSt->(Bool->Prop)->Prop
noncomputable def RSl (K:Fg) (F H:Hp) (v:Option V):Sl->Prop
|.un=>True
|.sh d=>∃ x,v=some x/\Is K F x d
|.ow t=>∃ x fp,v=some x/\Rt K F H x t fp/\fp.Nodup
|.bo t=>∃ x fp,v=some x/\Rt K F H x t fp/\fp.Nodup
|.io a t=>∃ fp,v=some (.ref a)/\Rt K F H (.ref a) t fp/\fp.Nodup
theorem RSl.ext {K:Fg} {F H F' H':Hp} {v:Option V} (e:Ext F H F' H'):∀ {s:Sl},RSl K F H v s->RSl K F' H' v s
|.un,_=>trivial
|.sh _,⟨x,a,b⟩=>⟨x,a,b.mono e.f⟩
|.ow _,⟨a,xs,h1,h2,h3⟩=>⟨a,xs,h1,h2.ext e,h3⟩
|.bo _,⟨a,xs,h1,h2,h3⟩=>⟨a,xs,h1,h2.ext e,h3⟩
|.io _ _,⟨xs,h1,h2,h3⟩=>⟨xs,h1,h2.ext e,h3⟩
structure RV (K:Fg) (F H:Hp) (Y:_2.St) (U:DSt):Prop where
 len:Y.length=U.length
 sl:∀ i s,U[i]?=some s->RSl K F H (Y.getD i none) s
theorem RV.ext {K:Fg} {F H F' H':Hp} {Y:_2.St} {U:DSt} (e:Ext F H F' H') (r:RV K F H Y U):RV K F' H' Y U:=⟨r.len,λ i s h=>(r.sl i s h).ext e⟩
noncomputable def Vw (K:Fg) (F H:Hp) (v:V) (d:D):Prop:=Is K F v d \/ ∃ a xs ds,v=.ref a/\d=.list ds/\H a=some (.lst xs)/\IsAll K F xs ds
theorem Vw.ext {K:Fg} {F H F' H':Hp} {v:V} {d:D} (e:Ext F H F' H') (h:Vw K F H v d):Vw K F' H' v d:=by
 rcases h with h|⟨a,xs,ds,h1,h2,h3,h4⟩
 ·exact .inl (h.mono e.f)
 ·exact .inr ⟨a,xs,ds,h1,h2,e.h _ _ h3,h4.mono e.f⟩
theorem Vw.is {K:Fg} {F H:Hp} {v:V} {d:D} (s:Same F H) (h:Vw K F H v d):Is K H v d:=by
 rcases h with h|⟨a,xs,ds,rfl,rfl,h3,h4⟩
 ·exact h.mono s
 ·exact .lst (SqL.of h3) (h4.mono s)
theorem Vw.list {K:Fg} {F H:Hp} {v:V} {ds:List D} (s:Same F H) (h:Vw K F H v (.list ds)):∃ a xs,v=.ref a/\SqL K H a xs/\IsAll K F xs ds:=by
 rcases h with h|⟨a,xs,ds',rfl,e,h3,h4⟩
 ·cases h with
 |lst h1 h2=>exact ⟨_,_,rfl,s.seq h1,h2⟩
 ·cases e;exact ⟨a,xs,rfl,SqL.of h3,h4⟩
theorem Vw.tuple {K:Fg} {F H:Hp} {v:V} {ds:List D} (s:Same F H) (h:Vw K F H v (.tuple ds)):∃ a xs,v=.ref a/\SqT K H a xs/\SqT K F a xs/\IsAll K F xs ds:=by
 rcases h with h|⟨a,xs,ds',rfl,e,h3,h4⟩
 ·cases h with
 |tup h1 h2=>exact ⟨_,_,rfl,ztc s (SqT.of h1),SqT.of h1,h2⟩
 |tuc h1 h2 _=>exact ⟨_,_,rfl,ztc s h1,h1,h2⟩
 ·cases e
theorem Vw.int {K:Fg} {F H:Hp} {v:V} {i:Int} (h:Vw K F H v (.int i)):v=.int i:=by
 rcases h with h|⟨a,xs,ds',rfl,e,h3,h4⟩
 ·exact h.int_inv
 ·cases e
theorem Vw.str {K:Fg} {F H:Hp} {v:V} {i:Str} (h:Vw K F H v (.str i)):v=.str i:=by
 rcases h with h|⟨a,xs,ds',rfl,e,h3,h4⟩
 ·exact h.str_inv
 ·cases e
theorem Vw.bl {K:Fg} {F H:Hp} {v:V} {i:Bool} (h:Vw K F H v (.bool i)):v=.bl i:=by
 rcases h with h|⟨a,xs,ds',rfl,e,h3,h4⟩
 ·exact h.bl_inv
 ·cases e
section
variable (K:Fg)
noncomputable def RfE (te:TE) (de:DE):Prop:=∀ {F H:Hp} {Y:_2.St} {U:DSt} {Qd:D->Prop} {Q:VK},Same F H->RV K F H Y U->de U Qd->(∀ d,Qd d->∀ v F' H',Ext F H F' H'->Is K F' v d->Q v H')->te Y H Q
noncomputable def RfV (te:TE) (de:DE):Prop:=∀ {F H:Hp} {Y:_2.St} {U:DSt} {Qd:D->Prop} {Q:VK},Same F H->RV K F H Y U->de U Qd->(∀ d,Qd d->∀ v F' H',Ext F H F' H'->Vw K F' H' v d->Q v H')->te Y H Q
noncomputable def RfF (te:TE) (df:DF):Prop:=∀ {F H:Hp} {Y:_2.St} {U:DSt} {Qd:List D->Prop} {Q:VK},Same F H->RV K F H Y U->df U Qd->(∀ ds,Qd ds->∀ a xs F' H',Ext F H F' H'->H a=none->H' a=some (.lst xs)->F' a=none->IsAll K F' xs ds->Q (.ref a) H')->te Y H Q
noncomputable def RfT (tt:TT) (dt:DT):Prop:=∀ {F H:Hp} {Y:_2.St} {U:DSt} {Qd:Bool->Prop} {Q:Bool->Hp->Prop},Same F H->RV K F H Y U->dt U Qd->(∀ b,Qd b->∀ F' H',Ext F H F' H'->Q b H')->tt Y H Q
noncomputable def RfA (ta:TA) (da:DF):Prop:=∀ {F H:Hp} {Y:_2.St} {U:DSt} {Qd:List D->Prop} {Q:List V->Hp->Prop},Same F H->RV K F H Y U->da U Qd->(∀ ds,Qd ds->∀ vs F' H',Ext F H F' H'->IsAll K F' vs ds->Q vs H')->ta Y H Q
inductive VwAll (F H:Hp):List V->List D->Prop
|nil:VwAll F H [] []
|cons {v:V} {d:D} {vs:List V} {ds:List D}:Vw K F H v d->VwAll F H vs ds->VwAll F H (v :: vs) (d :: ds)
noncomputable def RfAV (ta:TA) (da:DF):Prop:=∀ {F H:Hp} {Y:_2.St} {U:DSt} {Qd:List D->Prop} {Q:List V->Hp->Prop},Same F H->RV K F H Y U->da U Qd->(∀ ds,Qd ds->∀ vs F' H',Ext F H F' H'->VwAll K F' H' vs ds->Q vs H')->ta Y H Q
noncomputable def RfO (to:TO) (dO:DSt->(Option Int->Prop)->Prop):Prop:=∀ {F H:Hp} {Y:_2.St} {U:DSt} {Qd:Option Int->Prop} {Q:Option Int->Hp->Prop},Same F H->RV K F H Y U->dO U Qd->(∀ o,Qd o->∀ F' H',Ext F H F' H'->Q o H')->to Y H Q
end
section
variable {K:Fg} {te ta tb tc:TE} {de da db dc:DE} {tt tu:TT} {dt du:DT} {tA:TA} {dA:DF}
theorem zqg {F H F' H':Hp} {a:Addr} {xs:List V} {ds:List D} (e:Ext F H F' H') (hn:H a=none) (h1:H' a=some (.lst xs)) (h2:F' a=none) (h3:IsAll K F' xs ds) :
  Ext F H (upd F' a (.lst xs)) H'/\Is K (upd F' a (.lst xs)) (.ref a) (.list ds):=by
 have s:Same F' (upd F' a (.lst xs)):=λ b o z=>by
  by_cases hb:b=a
  ·subst hb;rw [h2] at z;cases z
  ·rw [zn0 hb];exact z
 refine ⟨⟨e.h,e.f.trans s,λ b o z=>?_,λ b hb fb=>?_⟩,.lst (SqL.of zi0) (h3.mono s)⟩
 ·by_cases hb:b=a
  ·subst hb;rw [zi0] at z;cases z;exact h1
  ·rw [zn0 hb] at z;exact e.fh b o z
 ·have:b≠a:=λ z=>hb.1 (by rw [z];exact hn)
  rw [zn0 this];exact e.nw b hb fb
theorem zx9 {F H:Hp} {p:Addr} {xs:List V} {ds:List D} (s:Same F H) (hn:H p=none) (h3:IsAll K F xs ds) :
  Ext F H (upd F p (.tup xs)) (upd H p (.tup xs))/\Is K (upd F p (.tup xs)) (.ref p) (.tuple ds):=by
 have fn:F p=none:=by
  cases e:F p with
 |none=>rfl
 |some o=>rw [s p o e] at hn;cases hn
 have sF:Same F (upd F p (.tup xs)):=zx1 fn _
 refine ⟨⟨zx1 hn _,sF,λ b o z=>?_,λ b hb fb=>?_⟩,.tup zi0 (h3.mono sF)⟩
 ·by_cases hb:b=p
  ·subst hb;rw [zi0] at z ⊢;exact z
  ·rw [zn0 hb] at z ⊢;exact s b o z
 ·have:b≠p:=λ z=>hb.1 (by rw [z];exact hn)
  rw [zn0 this];exact fb
theorem zb3 {F H:Hp} {p:Addr} {xs:List V} (s:Same F H) (hn:H p=none):Ext F H F (upd H p (.lst xs))/\F p=none:=by
 have fn:F p=none:=by
  cases e:F p with
 |none=>rfl
 |some o=>rw [s p o e] at hn;cases hn
 refine ⟨⟨zx1 hn _,λ _ _ z=>z,λ b o z=>?_,λ _ _ z=>z⟩,fn⟩
 exact zx1 hn _ b o (s b o z)
theorem RfE.v (h:RfE K te de):RfV K te de:=λ s r d k=>h s r d λ x q v F' H' e i=>k x q v F' H' e (.inl i)
noncomputable def dF (df:DF):DE:=λ U Q=>df U λ ds=>Q (.list ds)
theorem RfF.e {df:DF} (h:RfF K te df):RfE K te (dF df):=λ s r d k=>h s r d λ ds q a xs F' H' e hn h1 h2 h3=>by
 obtain ⟨e2,i2⟩:=zqg e hn h1 h2 h3
 exact k _ q _ _ _ e2 i2
noncomputable def Sl.tree:Sl->Option T
|.ow t=>some t
|.bo t=>some t
|.io _ t=>some t
|.sh d=>some (.fz d)
|.un=>none
noncomputable def fzT:T->(D->Prop)->Prop
|.fz d,Q=>Q d
|_,_=>False
noncomputable def vwT:T->(D->Prop)->Prop
|.fz d,Q=>Q d
|.li ds,Q=>Q (.list ds)
|_,_=>False
noncomputable def dVar (i:Nat):DE:=λ U Q=>∃ s t,U[i]?=some s/\s.tree=some t/\fzT t Q
noncomputable def zx51 (i:Nat):DE:=λ U Q=>∃ s t,U[i]?=some s/\s.tree=some t/\vwT t Q
theorem zg2 {F H:Hp} {Y:_2.St} {U:DSt} {i:Nat} {x:V} (e:Y.getD i none=some x):Y[i]?=some (some x):=by
 rw [uR] at e
 cases q:Y[i]? with
|none=>rw [q] at e;cases e
|some v=>rw [q] at e;exact congrArg some e
theorem RSl.rt {F H:Hp} {v:Option V}:∀ {s:Sl} {t:T},RSl K F H v s->s.tree=some t->∃ x fp,v=some x/\Rt K F H x t fp/\fp.Nodup
|.un,_,_,e=>by cases e
|.sh d,_,⟨x,h1,h2⟩,e=>by cases e;exact ⟨x,[],h1,.fz h2,.nil⟩
|.ow _,_,⟨x,fp,h1,h2⟩,e=>by cases e;exact ⟨x,fp,h1,h2⟩
|.bo _,_,⟨x,fp,h1,h2⟩,e=>by cases e;exact ⟨x,fp,h1,h2⟩
|.io a _,_,⟨fp,h1,h2⟩,e=>by cases e;exact ⟨_,fp,h1,h2⟩
theorem zo61 {F H:Hp} {x:V} {t:T} {fp:List Addr} {Q:D->Prop} (h:Rt K F H x t fp) (q:vwT t Q):∃ d,Q d/\Vw K F H x d:=by
 cases h with
|fz i=>exact ⟨_,q,.inl i⟩
|li h1 h2 h3=>exact ⟨_,q,.inr ⟨_,_,_,rfl,rfl,h1,h3⟩⟩
|ls _ _ _=>exact q.elim
|ob _ _ _ _ _=>exact q.elim
|dk _ _ _=>exact q.elim
|dt _ _ _=>exact q.elim
|tp _ _ _ _=>exact q.elim
|wh=>exact q.elim
|dd _ _ _ _=>exact q.elim
theorem zhv {F H:Hp} {x:V} {t:T} {fp:List Addr} {Q:D->Prop} (h:Rt K F H x t fp) (q:fzT t Q):∃ d,Q d/\Is K F x d:=by
 cases h with
|fz i=>exact ⟨_,q,i⟩
|li _ _ _=>exact q.elim
|ls _ _ _=>exact q.elim
|ob _ _ _ _ _=>exact q.elim
|dk _ _ _=>exact q.elim
|dt _ _ _=>exact q.elim
|tp _ _ _ _=>exact q.elim
|wh=>exact q.elim
|dd _ _ _ _=>exact q.elim
theorem zh0 (i:Nat):RfE K (tVar i) (dVar i):=by
 intro F H Y U Qd Q s r h k
 obtain ⟨sl,t,q,et,f⟩:=h
 obtain ⟨x,fp,e,hr,_⟩:=(r.sl i _ q).rt et
 obtain ⟨d,qd,hi⟩:=zhv hr f
 exact ⟨x,zg2 (F:=F) (H:=H) (U:=U) e,k d qd x F H (Ext.refl s) hi⟩
theorem zb0 (i:Nat):RfV K (tVar i) (zx51 i):=by
 intro F H Y U Qd Q s r h k
 obtain ⟨sl,t,q,et,f⟩:=h
 obtain ⟨x,fp,e,hr,_⟩:=(r.sl i _ q).rt et
 obtain ⟨d,qd,hi⟩:=zo61 hr f
 exact ⟨x,zg2 (F:=F) (H:=H) (U:=U) e,k d qd x F H (Ext.refl s) hi⟩
noncomputable def dC (d:D):DE:=λ _ Q=>Q d
theorem zh1 {i:Int}:RfE K (tC (.int i)) (dC (.int i)):=λ s r h k=>k _ h _ _ _ (Ext.refl s) (.int i)
theorem znr {b:Bool}:RfE K (tC (.bl b)) (dC (.bool b)):=λ s r h k=>k _ h _ _ _ (Ext.refl s) (.bl b)
theorem zxq:RfE K (tC .non) (dC .none):=λ s r h k=>k _ h _ _ _ (Ext.refl s) .non
noncomputable def dOp (f:D->D->(D->Prop)->Prop) (da db:DE):DE:=λ U Q=>da U λ x=>db U λ y=>f x y Q
noncomputable def R2E (K:Fg) (r:R2) (f:D->D->(D->Prop)->Prop):Prop:=∀ {F H:Hp} {x y:V} {d e:D} {Qd:D->Prop} {Q:VK},Same F H->Vw K F H x d->Vw K F H y e->f d e Qd->(∀ z,Qd z->∀ v F' H',Ext F H F' H'->Is K F' v z->Q v H')->r x y H Q
noncomputable def R2F (K:Fg) (r:R2) (f:D->D->(List D->Prop)->Prop):Prop:=∀ {F H:Hp} {x y:V} {d e:D} {Qd:List D->Prop} {Q:VK},Same F H->Vw K F H x d->Vw K F H y e->f d e Qd->(∀ ds,Qd ds->∀ a xs F' H',Ext F H F' H'->H a=none->H' a=some (.lst xs)->F' a=none->IsAll K F' xs ds->Q (.ref a) H')->r x y H Q
theorem zr0 {r:R2} {f:D->D->(D->Prop)->Prop} (hr:R2E K r f) (ha:RfV K ta da) (hb:RfV K tb db):RfE K (tOp r ta tb) (dOp f da db):=by
 intro F H Y U Qd Q s rv h k
 refine ha s rv h λ x hx v F1 H1 e1 i1=>hb e1.fh (rv.ext e1) hx λ y hy u F2 H2 e2 i2=>?_
 exact hr e2.fh (i1.ext e2) i2 hy λ z hz w F3 H3 e3 i3=>k z hz w F3 H3 ((e1.trans e2).trans e3) i3
end
section
variable {K:Fg} {te ta tb tc:TE} {de da db dc:DE} {tt tu:TT} {dt du:DT} {tA:TA} {dA:DF} {w:World}
noncomputable def fAdd:D->D->(D->Prop)->Prop
|.int i,.int j,Q=>Q (.int (i+j))
|.str a,.str b,Q=>a.length+b.length<=sizeLine/\Q (.str (a++b))
|.list a,.list b,Q=>a.length+b.length<=sizeLine/\Q (.list (a++b))
|.tuple a,.tuple b,Q=>a≠[]/\b≠[]/\a.length+b.length<=sizeLine/\Q (.tuple (a++b))
|_,_,_=>False
noncomputable def fCat:D->D->(List D->Prop)->Prop
|.list a,.list b,Q=>a.length+b.length<=sizeLine/\Q (a++b)
|_,_,_=>False
theorem zr81:R2F K (zh01 K) fCat:=by
 intro F H x y d e Qd Q s hx hy h k
 unfold fCat at h
 split at h
 ·rename_i a b
  obtain ⟨p,xs,rfl,h1,i1⟩:=hx.list s
  obtain ⟨q,ys,rfl,h2,i2⟩:=hy.list s
  have e1:=i1.dlen
  have e2:=i2.dlen
  refine .inr ⟨p,q,xs,ys,rfl,rfl,h1,h2,by lia,λ l hl=>?_⟩
  obtain ⟨ex,fn⟩:=zb3 (xs:=xs++ys) s hl
  exact k _ h.2 l _ F _ ex hl zi0 fn (i1.dapp i2)
 ·exact h.elim
theorem zab:R2E K (zh01 K) fAdd:=by
 intro F H x y d e Qd Q s hx hy h k
 unfold fAdd at h
 split at h
 ·cases hx.int;cases hy.int
  exact .inl (.inl ⟨_,_,rfl,rfl,k _ h _ F H (Ext.refl s) (.int _)⟩)
 ·cases hx.str;cases hy.str
  exact .inl (.inr (.inl ⟨_,_,rfl,rfl,h.1,k _ h.2 _ F H (Ext.refl s) (.str _)⟩))
 ·rename_i a b
  refine zr81 (Qd:=λ ds=>Qd (.list ds)) s hx hy h λ ds q l xs F' H' ex hn h1 h2 h3=>?_
  obtain ⟨e2,i2⟩:=zqg ex hn h1 h2 h3
  exact k _ q _ _ _ e2 i2
 ·rename_i a b
  obtain ⟨p,xs,rfl,h1,_,i1⟩:=hx.tuple s
  obtain ⟨q,ys,rfl,h2,_,i2⟩:=hy.tuple s
  have e1:=i1.dlen
  have e2:=i2.dlen
  have n1:xs≠[]:=λ z=>h.1 (zP.mp (by rw [<- e1,z];rfl))
  have n2:ys≠[]:=λ z=>h.2.1 (zP.mp (by rw [<- e2,z];rfl))
  refine .inl (.inr (.inr (.inr ⟨p,q,xs,ys,rfl,rfl,h1,h2,n1,by lia,λ z=>absurd z n2,λ _ l hl=>?_⟩)))
  obtain ⟨ex,ii⟩:=zx9 (K:=K) (ds:=a++b) s hl (i1.dapp i2)
  exact k _ h.2.2.2 _ _ _ ex ii
 ·exact h.elim
noncomputable def fI (C:Int->Int->Prop) (g:Int->Int->D):D->D->(D->Prop)->Prop
|.int i,.int j,Q=>C i j/\Q (g i j)
|_,_,_=>False
noncomputable def fI0 (g:Int->Int->D):D->D->(D->Prop)->Prop
|.int i,.int j,Q=>Q (g i j)
|_,_,_=>False
theorem r_I {C:Int->Int->Prop} {g:Int->Int->V} {g':Int->Int->D} (hg:∀ i j (F:Hp),Is K F (g i j) (g' i j)):R2E K (rI C g) (fI C g'):=by
 intro F H x y d e Qd Q s hx hy h k
 unfold fI at h
 split at h
 ·cases hx.int;cases hy.int
  exact ⟨_,_,rfl,rfl,h.1,k _ h.2 _ F H (Ext.refl s) (hg _ _ _)⟩
 ·exact h.elim
theorem r_I0 {g:Int->Int->V} {g':Int->Int->D} (hg:∀ i j (F:Hp),Is K F (g i j) (g' i j)):R2E K (rI0 g) (fI0 g'):=by
 intro F H x y d e Qd Q s hx hy h k
 unfold fI0 at h
 split at h
 ·cases hx.int;cases hy.int
  exact ⟨_,_,rfl,rfl,k _ h _ F H (Ext.refl s) (hg _ _ _)⟩
 ·exact h.elim
noncomputable abbrev fSub:=fI0 λ i j=>.int (i - j)
noncomputable abbrev fDiv:=fI zaz λ i j=>.int (i / j)
noncomputable abbrev fMod:=fI (λ _ j=>0 < j) λ i j=>.int (i % j)
noncomputable abbrev fPow:=fI CPow λ i j=>.int (i ^ j.toNat)
noncomputable abbrev fLt:=fI0 λ i j=>.bool (decide (i < j))
noncomputable abbrev fGt:=fI0 λ i j=>.bool (decide (j < i))
theorem zzm:R2E K (rI0 λ i j=>V.int (i - j)) fSub:=r_I0 λ _ _ _=>.int _
theorem zbo:R2E K (rI zaz λ i j=>V.int (i / j)) fDiv:=r_I λ _ _ _=>.int _
theorem zhj:R2E K (rI (λ _ j=>0 < j) λ i j=>V.int (i % j)) fMod:=r_I λ _ _ _=>.int _
theorem zm81:R2E K (rI CPow λ i j=>V.int (i ^ j.toNat)) fPow:=r_I λ _ _ _=>.int _
theorem r_lt:R2E K (rI0 λ i j=>V.bl (decide (i < j))) fLt:=r_I0 λ _ _ _=>.bl _
theorem r_gt:R2E K (rI0 λ i j=>V.bl (decide (j < i))) fGt:=r_I0 λ _ _ _=>.bl _
noncomputable def fMul:D->D->(D->Prop)->Prop
|.int i,.int j,Q=>CMul i j/\Q (.int (i * j))
|.str z,.int n,Q=>0<=n/\z.length * n.toNat<=sizeLine/\n<=sizeLine/\Q (.str (repS z n.toNat))
|_,_,_=>False
theorem ztq:R2E K zvz fMul:=by
 intro F H x y d e Qd Q s hx hy h k
 unfold fMul at h
 split at h
 ·cases hx.int;cases hy.int
  exact .inl (.inl (.inl ⟨_,_,rfl,rfl,h.1,k _ h.2 _ F H (Ext.refl s) (.int _)⟩))
 ·cases hx.str;cases hy.int
  exact .inl (.inr ⟨_,_,rfl,rfl,h.1,h.2.1,h.2.2.1,k _ h.2.2.2 _ F H (Ext.refl s) (.str _)⟩)
 ·exact h.elim
noncomputable def fRep:List D->D->(List D->Prop)->Prop
|ds,.int n,Q=>n < 2 ^ 62/\-(2 ^ 62)<=n/\ds.length * n.toNat<=sizeLine/\Q (uN n.toNat ds).flatten
|_,_,_=>False
noncomputable def dRep (df:DF) (db:DE):DF:=λ U Q=>df U λ ds=>db U λ y=>fRep ds y Q
theorem zum {F:Hp} {xs:List V} {ds:List D} (h:IsAll K F xs ds):∀ n:Nat,IsAll K F (uN n xs).flatten (uN n ds).flatten
|0=>.nil
|n+1=>by rw [wT,wT,w8,w8];exact h.dapp (zum h n)
theorem zqh {df:DF} (ha:RfF K ta df) (hb:RfE K tb db):RfF K (tOp zvz ta tb) (dRep df db):=by
 intro F H Y U Qd Q s rv h k
 refine ha s rv h λ ds hx a xs F1 H1 e1 hn h1 h2 h3=>hb e1.fh (rv.ext e1) hx λ y hy u F2 H2 e2 i2=>?_
 unfold fRep at hy
 split at hy
 ·rename_i n
  cases i2.int_inv
  have el:=h3.dlen
  refine .inr ⟨a,n,xs,rfl,rfl,e2.h _ _ h1,by lia,by lia,by rw [el];exact hy.2.2.1,λ p hp=>?_⟩
  obtain ⟨ex,fn⟩:=zb3 (xs:=(uN n.toNat xs).flatten) e2.fh hp
  refine k _ hy.2.2.2 p _ F2 _ ((e1.trans e2).trans ex) ?_ zi0 fn (zum (h3.mono e2.f) _)
  cases q:H p with
 |none=>rfl
 |some o=>rw [(e1.trans e2).h p o q] at hp;cases hp
 ·exact hy.elim
noncomputable def fEq:D->D->(D->Prop)->Prop
|.int i,.int j,Q=>Q (.bool (decide (i=j)))
|.str i,.str j,Q=>Q (.bool (decide (i=j)))
|.bool i,.bool j,Q=>Q (.bool (decide (i=j)))
|d,e,Q=>SeqAt.shaped d=true/\SeqAt.shaped e=true/\Q (.bool (x8 d e))
noncomputable def fNe:D->D->(D->Prop)->Prop
|.int i,.int j,Q=>Q (.bool (!decide (i=j)))
|.str i,.str j,Q=>Q (.bool (!decide (i=j)))
|.bool i,.bool j,Q=>Q (.bool (!decide (i=j)))
|d,e,Q=>SeqAt.shaped d=true/\SeqAt.shaped e=true/\Q (.bool (!PyData.eqv d e))
theorem zlc (i j:Int):decide (V.int i=V.int j)=decide (i=j):=by simp
theorem zgb (i j:Str):decide (V.str i=V.str j)=decide (i=j):=by simp
theorem zwg (i j:Bool):decide (V.bl i=V.bl j)=decide (i=j):=by simp
noncomputable def zsw:D->Bool
|.none=>true
|_=>false
noncomputable def fIsN:D->D->(D->Prop)->Prop
|d,.none,Q=>Q (.bool (zsw d))
|_,_,_=>False
noncomputable def zi41:D->D->(D->Prop)->Prop
|d,.none,Q=>Q (.bool (!zsw d))
|_,_,_=>False
theorem zfu {F H:Hp} {x:V} {d:D} (s:Same F H) (hx:Vw K F H x d):decide (x=.non)=zsw d:=by
 cases hx.is s <;> simp [zsw]
theorem zxr {F H:Hp} {x:V} (s:Same F H) (hx:Vw K F H x .none):x=.non:=by
 cases hx.is s;rfl
theorem zn81:R2E K (λ x y H Q=>y=V.non/\Q (V.bl (decide (x=V.non))) H) fIsN:=by
 intro F H x y d e Qd Q s hx hy h k
 unfold fIsN at h
 split at h
 ·refine ⟨zxr s hy,k _ h _ F H (Ext.refl s) ?_⟩
  rw [zfu s hx];exact .bl _
 ·exact h.elim
theorem zy11:R2E K (λ x y H Q=>y=V.non/\Q (V.bl (!decide (x=V.non))) H) zi41:=by
 intro F H x y d e Qd Q s hx hy h k
 unfold zi41 at h
 split at h
 ·refine ⟨zxr s hy,k _ h _ F H (Ext.refl s) ?_⟩
  rw [zfu s hx];exact .bl _
 ·exact h.elim
noncomputable def fIx:D->D->(D->Prop)->Prop
|.list ds,.int i,Q=>∃ d,atI ds i=some d/\Q d
|.tuple ds,.int i,Q=>∃ d,atI ds i=some d/\Q d
|.str z,.int i,Q=>z.length<=sizeLine/\∃ c,atI z.cps.toList i=some c/\Q (.str ⟨#[c]⟩)
|_,_,_=>False
theorem zax {F:Hp} {xs:List V} {ds:List D} {i:Int} {d:D} (h:IsAll K F xs ds) (e:atI ds i=some d):∃ x,atI xs i=some x/\Is K F x d:=by
 unfold atI at e ⊢
 rw [h.dlen]
 cases q:ixN ds.length i with
|none=>rw [q] at e;cases e
|some j =>
  rw [q] at e
  obtain ⟨x,h1,h2⟩:=h.dget (show ds[j]?=some d from e)
  exact ⟨x,h1,h2⟩
theorem r_ix:R2E K (rIxV w K) fIx:=by
 intro F H x y d e Qd Q s hx hy h k
 unfold fIx at h
 split at h
 ·obtain ⟨z,ez,q⟩:=h
  obtain ⟨p,xs,rfl,h1,i1⟩:=hx.list s
  cases hy.int
  obtain ⟨v,ev,iv⟩:=zax i1 ez
  exact .inl (.inl (.inl ⟨p,xs,_,v,rfl,rfl,h1,ev,k _ q _ F H (Ext.refl s) iv⟩))
 ·obtain ⟨z,ez,q⟩:=h
  obtain ⟨p,xs,rfl,h1,_,i1⟩:=hx.tuple s
  cases hy.int
  obtain ⟨v,ev,iv⟩:=zax i1 ez
  exact .inl (.inl (.inr (.inl ⟨p,xs,_,v,rfl,rfl,h1,ev,k _ q _ F H (Ext.refl s) iv⟩)))
 ·obtain ⟨hz,c,ec,q⟩:=h
  cases hx.str;cases hy.int
  exact .inl (.inl (.inr (.inr ⟨_,_,c,rfl,rfl,hz,ec,k _ q _ F H (Ext.refl s) (.str _)⟩)))
 ·exact h.elim
noncomputable def zbl:D->Bool
|.none=>true
|.bool _=>true
|.int _=>true
|.str _=>true
|_=>false
noncomputable def dUn (f:D->(D->Prop)->Prop) (da:DE):DE:=λ U Q=>da U λ x=>f x Q
noncomputable def fNeg:D->(D->Prop)->Prop
|.int i,Q=>Q (.int (-i))
|_,_=>False
theorem zyt (ha:RfE K ta da):RfE K (tUn (rU λ i=>V.int (-i)) ta) (dUn fNeg da):=by
 intro F H Y U Qd Q s rv h k
 refine ha s rv h λ x hx v F1 H1 e1 i1=>?_
 unfold fNeg at hx
 split at hx
 ·cases i1.int_inv
  exact ⟨_,rfl,k _ hx _ F1 H1 e1 (.int _)⟩
 ·exact hx.elim
noncomputable def fB (d:D) (Q:Bool->Prop):Prop:=match d with
|.bool b=>Q b
|_=>False
theorem ze11 {F:Hp} {v:V} {d:D} {Q:Bool->Prop} (i:Is K F v d) (h:fB d Q):∃ b,v=.bl b/\Q b:=by
 unfold fB at h
 split at h
 ·exact ⟨_,i.bl_inv,h⟩
 ·exact h.elim
noncomputable def zo51 (da:DE):DE:=λ U Q=>da U λ x=>fB x λ b=>Q (.bool (!b))
theorem zzv (ha:RfE K ta da):RfE K (zu51 ta) (zo51 da):=by
 intro F H Y U Qd Q s rv h k
 refine ha s rv h λ x hx v F1 H1 e1 i1=>?_
 obtain ⟨b,rfl,q⟩:=ze11 i1 hx
 exact ⟨b,rfl,k _ q _ F1 H1 e1 (.bl _)⟩
noncomputable def zv51 (da db:DE):DE:=λ U Q=>da U λ x=>fB x λ b=>if b=true then db U Q else Q (.bool false)
theorem zkx (ha:RfE K ta da) (hb:RfE K tb db):RfE K (zm71 ta tb) (zv51 da db):=by
 intro F H Y U Qd Q s rv h k
 refine ha s rv h λ x hx v F1 H1 e1 i1=>?_
 obtain ⟨b,rfl,q⟩:=ze11 i1 hx
 refine ⟨b,rfl,?_⟩
 cases b with
|true =>
  rw [if_pos rfl] at q ⊢
  exact hb e1.fh (rv.ext e1) q λ y hy u F2 H2 e2 i2=>k y hy u F2 H2 (e1.trans e2) i2
|false =>
  rw [if_neg uX] at q ⊢
  exact k _ q _ F1 H1 e1 (.bl _)
noncomputable def zp61 (de:DE):DT:=λ U Q=>de U λ d=>fB d Q
theorem zy0 (h:RfE K te de):RfT K (zmv te) (zp61 de):=by
 intro F H Y U Qd Q s rv hd k
 refine h s rv hd λ x hx v F1 H1 e1 i1=>?_
 obtain ⟨b,rfl,q⟩:=ze11 i1 hx
 exact ⟨b,rfl,k b q F1 H1 e1⟩
noncomputable def fTru:D->(Bool->Prop)->Prop
|.none,Q=>Q false
|.bool b,Q=>Q b
|.int i,Q=>Q (i != 0)
|.str z,Q=>z.length<=sizeLine/\Q ((z.length:Int) != 0)
|.list ds,Q=>Q (!ds.isEmpty)
|.tuple ds,Q=>Q (!ds.isEmpty)
|.dict _,_=>False
noncomputable def dTru (de:DE):DT:=λ U Q=>de U λ d=>fTru d Q
theorem zhe {F:Hp} {xs:List V} {ds:List D} (h:IsAll K F xs ds):xs.isEmpty=ds.isEmpty:=by cases h <;> rfl
theorem zya (h:RfV K te de):RfT K (zb21 K te) (dTru de):=by
 intro F H Y U Qd Q s rv hd k
 refine h s rv hd λ x hx v F1 H1 e1 i1=>?_
 unfold fTru at hx
 split at hx
 ·cases i1.is e1.fh;exact ⟨false,rfl,k _ hx F1 H1 e1⟩
 ·cases i1.bl;exact ⟨_,rfl,k _ hx F1 H1 e1⟩
 ·cases i1.int;exact ⟨_,rfl,k _ hx F1 H1 e1⟩
 ·cases i1.str;exact ⟨_,⟨hx.1,rfl⟩,k _ hx.2 F1 H1 e1⟩
 ·obtain ⟨p,xs,rfl,h1,i2⟩:=i1.list e1.fh
  refine ⟨_,.inl ⟨xs,h1,rfl⟩,?_⟩
  rw [zhe i2];exact k _ hx F1 H1 e1
 ·obtain ⟨p,xs,rfl,h1,_,i2⟩:=i1.tuple e1.fh
  refine ⟨_,.inr (.inl ⟨xs,h1,rfl⟩),?_⟩
  rw [zhe i2];exact k _ hx F1 H1 e1
 ·exact hx.elim
noncomputable def dAnd (dt du:DT):DT:=λ U Q=>dt U λ b=>if b=true then du U Q else Q false
noncomputable def dOr (dt du:DT):DT:=λ U Q=>dt U λ b=>if b=true then Q true else du U Q
noncomputable def dNot (dt:DT):DT:=λ U Q=>dt U λ b=>Q (!b)
theorem zey (ht:RfT K tt dt) (hu:RfT K tu du):RfT K (tAnd tt tu) (dAnd dt du):=by
 intro F H Y U Qd Q s rv h k
 refine ht s rv h λ b hb F1 H1 e1=>?_
 cases b with
|true =>
  rw [if_pos rfl] at hb ⊢
  exact hu e1.fh (rv.ext e1) hb λ c hc F2 H2 e2=>k c hc F2 H2 (e1.trans e2)
|false =>
  rw [if_neg uX] at hb ⊢
  exact k _ hb F1 H1 e1
theorem zir (ht:RfT K tt dt) (hu:RfT K tu du):RfT K (tOr tt tu) (dOr dt du):=by
 intro F H Y U Qd Q s rv h k
 refine ht s rv h λ b hb F1 H1 e1=>?_
 cases b with
|false =>
  rw [if_neg uX] at hb ⊢
  exact hu e1.fh (rv.ext e1) hb λ c hc F2 H2 e2=>k c hc F2 H2 (e1.trans e2)
|true =>
  rw [if_pos rfl] at hb ⊢
  exact k _ hb F1 H1 e1
theorem zxj (ht:RfT K tt dt):RfT K (tNot tt) (dNot dt):=λ s rv h k=>ht s rv h λ b hb F1 H1 e1=>k _ hb F1 H1 e1
noncomputable def dIfE (dt:DT) (da db:DE):DE:=λ U Q=>dt U λ b=>if b=true then da U Q else db U Q
theorem zit (ht:RfT K tt dt) (ha:RfE K ta da) (hb:RfE K tb db):RfE K (tIf tt ta tb) (dIfE dt da db):=by
 intro F H Y U Qd Q s rv h k
 refine ht s rv h λ b hb' F1 H1 e1=>?_
 cases b with
|true =>
  rw [if_pos rfl] at hb' ⊢
  exact ha e1.fh (rv.ext e1) hb' λ y hy u F2 H2 e2 i2=>k y hy u F2 H2 (e1.trans e2) i2
|false =>
  rw [if_neg uX] at hb' ⊢
  exact hb e1.fh (rv.ext e1) hb' λ y hy u F2 H2 e2 i2=>k y hy u F2 H2 (e1.trans e2) i2
noncomputable def dNil:DF:=λ _ Q=>Q []
noncomputable def zhx (da:DE) (dr:DF):DF:=λ U Q=>da U λ x=>dr U λ xs=>Q (x :: xs)
theorem zq0:RfA K tNil dNil:=λ s rv h k=>k _ h _ _ _ (Ext.refl s) .nil
theorem ze0 (ha:RfE K ta da) (hr:RfA K tA dA):RfA K (zl4 ta tA) (zhx da dA):=by
 intro F H Y U Qd Q s rv h k
 refine ha s rv h λ x hx v F1 H1 e1 i1=>hr e1.fh (rv.ext e1) hx λ xs hxs vs F2 H2 e2 i2=>?_
 exact k _ hxs _ F2 H2 (e1.trans e2) (.cons (i1.mono e2.f) i2)
theorem zv1:RfAV K tNil dNil:=λ s rv h k=>k _ h _ _ _ (Ext.refl s) .nil
theorem zw0 (ha:RfV K ta da) (hr:RfAV K tA dA):RfAV K (zl4 ta tA) (zhx da dA):=by
 intro F H Y U Qd Q s rv h k
 refine ha s rv h λ x hx v F1 H1 e1 i1=>hr e1.fh (rv.ext e1) hx λ xs hxs vs F2 H2 e2 i2=>?_
 exact k _ hxs _ F2 H2 (e1.trans e2) (.cons (i1.ext e2) i2)
noncomputable def dTup (dA:DF):DE:=λ U Q=>dA U λ xs=>xs.length<=sizeLine/\Q (.tuple xs)
theorem zac (h:RfA K tA dA):RfE K (zv31 tA) (dTup dA):=by
 intro F H Y U Qd Q s rv hd k
 refine h s rv hd λ xs hx vs F1 H1 e1 i1=>⟨by rw [i1.dlen];exact hx.1,λ p hp=>?_⟩
 obtain ⟨ex,ii⟩:=zx9 (K:=K) e1.fh hp i1
 exact k _ hx.2 _ _ _ (e1.trans ex) ii
noncomputable def dLst (dA:DF):DF:=λ U Q=>dA U λ xs=>xs.length<=sizeLine/\Q xs
theorem zw2 (h:RfA K tA dA):RfF K (zzy tA) (dLst dA):=by
 intro F H Y U Qd Q s rv hd k
 refine h s rv hd λ xs hx vs F1 H1 e1 i1=>⟨by rw [i1.dlen];exact hx.1,λ p hp=>?_⟩
 obtain ⟨ex,fn⟩:=zb3 (xs:=vs) e1.fh hp
 refine k _ hx.2 p vs F1 _ (e1.trans ex) ?_ zi0 fn i1
 cases q:H p with
|none=>rfl
|some o=>rw [e1.h p o q] at hp;cases hp
noncomputable abbrev DSp:=List D->(D->Prop)->Prop
noncomputable def spD (K:Fg) (p:DSp):Sp:=λ vs H Q _=>∃ F ds Qd,Same F H/\IsAll K F vs ds/\p ds Qd/\∀ d,Qd d->∀ v F' H',Ext F H F' H'->Is K F' v d->Q v H'
noncomputable def zd51 (p:DSp) (dA:DF):DE:=λ U Q=>dA U λ ds=>p ds Q
theorem zs5 {p:DSp} {E:XK} (h:RfA K tA dA):RfE K (zhk (spD K p) [] E tA) (zd51 p dA):=by
 intro F H Y U Qd Q s rv hd k
 refine h s rv hd λ ds hp vs F1 H1 e1 i1=>?_
 rw [vL]
 exact ⟨F1,ds,Qd,e1.fh,i1,hp,λ d q v F' H' e2 i2=>k d q v F' H' (e1.trans e2) i2⟩
noncomputable def zbw (p:DSp) (dA:DF):DE:=λ U Q=>dA U λ ds=>p ds λ d=>zbl d=true/\Q d
theorem zpg {F F':Hp} {v:V} {d:D} (f:zbl d=true) (h:Is K F v d):Is K F' v d:=by
 cases h with
|non=>exact .non
|bl b=>exact .bl b
|int i=>exact .int i
|str x=>exact .str x
|lst _ _=>exact absurd f (by simp [zbl])
|tup _ _=>exact absurd f (by simp [zbl])
|tuc _ _ _=>exact absurd f (by simp [zbl])
noncomputable def CB (K:Fg) (r:List V->Hp->VK->Prop) (f:List D->(D->Prop)->Prop):Prop:=∀ {F H:Hp} {vs:List V} {ds:List D} {Qd:D->Prop} {Q:VK},Same F H->VwAll K F H vs ds->f ds Qd->(∀ z,Qd z->∀ v F' H',Ext F H F' H'->Is K F' v z->Q v H')->r vs H Q
noncomputable def CF (K:Fg) (r:List V->Hp->VK->Prop) (f:List D->(List D->Prop)->Prop):Prop:=∀ {F H:Hp} {vs:List V} {ds:List D} {Qd:List D->Prop} {Q:VK},Same F H->VwAll K F H vs ds->f ds Qd->(∀ z,Qd z->∀ a xs F' H',Ext F H F' H'->H a=none->H' a=some (.lst xs)->F' a=none->IsAll K F' xs z->Q (.ref a) H')->r vs H Q
noncomputable def dCB (f:List D->(D->Prop)->Prop) (dA:DF):DE:=λ U Q=>dA U λ ds=>f ds Q
noncomputable def dCF (f:List D->(List D->Prop)->Prop) (dA:DF):DF:=λ U Q=>dA U λ ds=>f ds Q
theorem zef {r:List V->Hp->VK->Prop} {f:List D->(D->Prop)->Prop} (hr:CB K r f) (h:RfAV K tA dA):RfE K (tCB r tA) (dCB f dA):=by
 intro F H Y U Qd Q s rv hd k
 refine h s rv hd λ ds hp vs F1 H1 e1 i1=>hr e1.fh i1 hp λ z q v F' H' e2 i2=>k z q v F' H' (e1.trans e2) i2
theorem zfr {r:List V->Hp->VK->Prop} {f:List D->(List D->Prop)->Prop} (hr:CF K r f) (h:RfAV K tA dA):RfF K (tCB r tA) (dCF f dA):=by
 intro F H Y U Qd Q s rv hd k
 refine h s rv hd λ ds hp vs F1 H1 e1 i1=>hr e1.fh i1 hp λ z q a xs F' H' e2 hn h1 h2 h3=>k z q a xs F' H' (e1.trans e2) ?_ h1 h2 h3
 cases z:H a with
|none=>rfl
|some o=>rw [e1.h a o z] at hn;cases hn
theorem vw1 {F H:Hp} {vs:List V} {d:D} (h:VwAll K F H vs [d]):∃ v,vs=[v]/\Vw K F H v d:=by
 cases h with
|cons h r=>cases r;exact ⟨_,rfl,h⟩
theorem vw2 {F H:Hp} {vs:List V} {d e:D} (h:VwAll K F H vs [d,e]):∃ v u,vs=[v,u]/\Vw K F H v d/\Vw K F H u e:=by
 cases h with
|cons h r=>obtain ⟨u,rfl,r2⟩:=vw1 r;exact ⟨_,u,rfl,h,r2⟩
noncomputable def fLen:List D->(D->Prop)->Prop
|[.list ds],Q=>Q (.int (ds.length:Nat))
|[.tuple ds],Q=>Q (.int (ds.length:Nat))
|[.str z],Q=>z.length<=sizeLine/\Q (.int (z.length:Nat))
|_,_=>False
theorem zej:CB K (rLen K) fLen:=by
 intro F H vs ds Qd Q s hv h k
 unfold fLen at h
 split at h
 ·obtain ⟨v,rfl,hw⟩:=vw1 hv
  obtain ⟨p,xs,rfl,h1,i1⟩:=hw.list s
  refine ⟨_,_,rfl,.inl ⟨xs,h1,rfl⟩,?_⟩
  rw [i1.dlen];exact k _ h _ F H (Ext.refl s) (.int _)
 ·obtain ⟨v,rfl,hw⟩:=vw1 hv
  obtain ⟨p,xs,rfl,h1,_,i1⟩:=hw.tuple s
  refine ⟨_,_,rfl,.inr ⟨xs,h1,rfl⟩,?_⟩
  rw [i1.dlen];exact k _ h _ F H (Ext.refl s) (.int _)
 ·obtain ⟨v,rfl,hw⟩:=vw1 hv
  cases hw.str
  exact ⟨_,_,rfl,⟨h.1,rfl⟩,k _ h.2 _ F H (Ext.refl s) (.int _)⟩
 ·exact h.elim
noncomputable def zjj:List D->Option (List Int)
|[]=>some []
|.int i :: r=>(zjj r).map (i :: ·)
|_ :: _=>none
theorem zj8 {F:Hp}:∀ {xs:List V} {ds:List D} {ns:List Int},IsAll K F xs ds->zjj ds=some ns->xs=ns.map V.int
|_,_,_,.nil,e=>by cases e;rfl
|_,_,_,.cons h r,e=>by
  cases h with
 |int i =>
   unfold zjj at e
   obtain ⟨ms,e1,rfl⟩:=u5.mp e
   rw [zj8 r e1];rfl
 |_=>cases e
theorem ints_map (ns:List Int):zjj (ns.map uB)=some ns:=by
 induction ns with
|nil=>rfl
|cons n r ih=>simp [zjj,ih]
noncomputable def fSum:List D->(D->Prop)->Prop
|[.list ds],Q=>∃ ns,zjj ds=some ns/\Q (.int ns.sum)
|_,_=>False
theorem ze91:CB K (rSum K) fSum:=by
 intro F H vs ds Qd Q s hv h k
 unfold fSum at h
 split at h
 ·obtain ⟨v,rfl,hw⟩:=vw1 hv
  obtain ⟨p,xs,rfl,h1,i1⟩:=hw.list s
  obtain ⟨ns,e,q⟩:=h
  have:=zj8 i1 e
  subst this
  exact ⟨p,ns,rfl,h1,k _ q _ F H (Ext.refl s) (.int _)⟩
 ·exact h.elim
noncomputable def zh41:List D->(List D->Prop)->Prop
|[.list ds],Q=>Q ds
|[.tuple ds],Q=>Q ds
|_,_=>False
theorem zwf:CF K (zl51 K) zh41:=by
 intro F H vs ds Qd Q s hv h k
 unfold zh41 at h
 split at h
 ·obtain ⟨v,rfl,hw⟩:=vw1 hv
  obtain ⟨p,xs,rfl,h1,i1⟩:=hw.list s
  refine ⟨p,xs,rfl,.inl h1,λ l hl=>?_⟩
  obtain ⟨ex,fn⟩:=zb3 (xs:=xs) s hl
  exact k _ h l xs F _ ex hl zi0 fn i1
 ·obtain ⟨v,rfl,hw⟩:=vw1 hv
  obtain ⟨p,xs,rfl,h1,_,i1⟩:=hw.tuple s
  refine ⟨p,xs,rfl,.inr h1,λ l hl=>?_⟩
  obtain ⟨ex,fn⟩:=zb3 (xs:=xs) s hl
  exact k _ h l xs F _ ex hl zi0 fn i1
 ·exact h.elim
noncomputable def tyD:D->String
|.none => "NoneType"|.bool _ => "bool"|.int _ => "int"|.str _ => "str"|.list _ => "list"|.tuple _ => "tuple"|.dict _ => "dict"
noncomputable def isT (T:String) (d:D):Bool:=tyD d == T || (T == "int" && tyD d == "bool")
structure Kit (K:Fg):Prop where
 ok:∀ t∈["NoneType", "bool", "int", "str", "list", "tuple"],∀ T∈["int", "bool", "list", "tuple", "str"],PySem.W.kitOne K (.type t) (.type T)=some (t == T || (T == "int" && t == "bool"))
noncomputable def dIs (T:String) (da:DE):DE:=λ U Q=>da U λ d=>(∀ kvs,d≠.dict kvs)/\Q (.bool (isT T d))
theorem zmz {T:String} (kt:Kit K) (hT:T∈["int", "bool", "list", "tuple", "str"]) (ha:RfV K ta da):RfE K (tCB (rIsW K) (zl4 ta (zl4 (tC (.ty T)) tNil))) (dIs T da):=by
 intro F H Y U Qd Q s rv hd k
 refine ha s rv hd λ d hd v F1 H1 e1 i1=>?_
 have q:=k _ hd.2 (.bl (isT T d)) F1 H1 e1 (.bl _)
 have i2:=i1.is e1.fh
 show rIsW K [v,.ty T] H1 Q
 cases i2 with
|non=>exact .inl ⟨_,_,_,_,_,rfl,rfl,.non,kt.ok _ (by simp) T hT,q⟩
|bl b=>exact .inl ⟨_,_,_,_,_,rfl,rfl,.bl b,kt.ok _ (by simp) T hT,q⟩
|int b=>exact .inl ⟨_,_,_,_,_,rfl,rfl,.int b,kt.ok _ (by simp) T hT,q⟩
|str b=>exact .inl ⟨_,_,_,_,_,rfl,rfl,.str b,kt.ok _ (by simp) T hT,q⟩
|lst h1 h2=>exact .inr ⟨_,_,_,_,rfl,rfl,.inl ⟨⟨_,h1⟩,kt.ok _ (by simp) T hT⟩,q⟩
|tup h1 h2=>exact .inr ⟨_,_,_,_,rfl,rfl,.inr ⟨⟨_,SqT.of h1⟩,kt.ok _ (by simp) T hT⟩,q⟩
|tuc h1 h2 _=>exact .inr ⟨_,_,_,_,rfl,rfl,.inr ⟨⟨_,h1⟩,kt.ok _ (by simp) T hT⟩,q⟩
noncomputable abbrev DO:=DSt->(Option Int->Prop)->Prop
noncomputable def zin:DO:=λ _ Q=>Q none
noncomputable def zd71 (de:DE):DO:=λ U Q=>de U λ d=>match d with
|.int i=>Q (some i)
|_=>False
theorem zxt:RfO K zfm zin:=λ s rv h k=>k _ h _ _ (Ext.refl s)
theorem zif (h:RfE K te de):RfO K (zqt te) (zd71 de):=by
 intro F H Y U Qd Q s rv hd k
 refine h s rv hd λ d hx v F1 H1 e1 i1=>?_
 split at hx
 ·cases i1.int_inv;exact ⟨_,rfl,k _ hx F1 H1 e1⟩
 ·exact hx.elim
noncomputable def cutD (xs:List D) (lo hi:Option Int):List D:=(xs.drop (HT.sIx xs.length 0 lo)).take (HT.sIx xs.length xs.length hi - HT.sIx xs.length 0 lo)
theorem zfn {F:Hp} {xs:List V} {ds:List D} (h:IsAll K F xs ds) (lo hi:Option Int):IsAll K F (cutV xs lo hi) (cutD ds lo hi):=by
 unfold cutV cutD
 rw [h.dlen]
 exact (h.ddrop _).dtake _
noncomputable def fSl (d:D) (lo hi:Option Int) (Q:D->Prop):Prop:=match d with
|.list ds=>Q (.list (cutD ds lo hi))
|.str z=>z.length<=sizeLine/\Q (.str (Txt.slice z lo hi))
|.tuple ds=>¬(HT.sIx ds.length 0 lo=0/\HT.sIx ds.length ds.length hi=ds.length)/\Q (.tuple (cutD ds lo hi))
|_=>False
noncomputable def fSlF (d:D) (lo hi:Option Int) (Q:List D->Prop):Prop:=match d with
|.list ds=>Q (cutD ds lo hi)
|_=>False
variable {tl th tk:TO} {dl dh dk:DO}
noncomputable def dSl (de:DE) (dl dh:DO):DE:=λ U Q=>de U λ d=>dl U λ lo=>dh U λ hi=>fSl d lo hi Q
theorem zd1 {F H F' H':Hp} {p:Addr} (e:Ext F H F' H') (h:H' p=none):H p=none:=by
 cases q:H p with
|none=>rfl
|some o=>rw [e.h p o q] at h;cases h
theorem zaa1 (he:RfV K te de) (hl:RfO K tl dl) (hh:RfO K th dh):RfE K (tSl (rSlW K) te tl th) (dSl de dl dh):=by
 intro F H Y U Qd Q s rv h k
 refine he s rv h λ d hd v F1 H1 e1 i1=>hl e1.fh (rv.ext e1) hd λ lo hlo F2 H2 e2=>hh e2.fh (rv.ext (e1.trans e2)) hlo λ hi hhi F3 H3 e3=>?_
 have e13:=(e1.trans e2).trans e3
 have i3:=i1.ext (e2.trans e3)
 unfold fSl at hhi
 split at hhi
 ·obtain ⟨p,xs,rfl,h1,i2⟩:=i3.list e3.fh
  refine .inl (.inl ⟨p,xs,rfl,h1,λ l hl=>?_⟩)
  obtain ⟨ex,fn⟩:=zb3 (xs:=cutV xs lo hi) e3.fh hl
  obtain ⟨ex2,ii⟩:=zqg (K:=K) ex hl zi0 fn (zfn i2 lo hi)
  exact k _ hhi _ _ _ (e13.trans ex2) ii
 ·cases i3.str
  exact .inr ⟨_,rfl,hhi.1,k _ hhi.2 _ F3 H3 e13 (.str _)⟩
 ·obtain ⟨p,xs,rfl,h1,_,i2⟩:=i3.tuple e3.fh
  refine .inl (.inr ⟨p,xs,rfl,h1,by rw [i2.dlen];exact hhi.1,λ l hl=>?_⟩)
  obtain ⟨ex,ii⟩:=zx9 (K:=K) e3.fh hl (zfn i2 lo hi)
  exact k _ hhi.2 _ _ _ (e13.trans ex) ii
 ·exact hhi.elim
theorem zcc {F:Hp} {xs:List V} {ds:List D} (h:IsAll K F xs ds):∀ js:List Nat,IsAll K F (js.filterMap (xs[·]?)) (js.filterMap (ds[·]?))
|[]=>.nil
|j :: js=>by
  have ih:=zcc h js
  cases hn:ds[j]? with
 |some n =>
   obtain ⟨u,hu,r⟩:=h.dget hn
   simp only [wD,hn,hu]
   exact .cons r ih
 |none =>
   have hv:xs[j]?=none:=by
    rw [yQ] at hn ⊢
    rw [h.dlen];exact hn
   simp only [wD,hn,hv]
   exact ih
theorem zto {F:Hp} {xs:List V} {ds:List D} (h:IsAll K F xs ds) (lo hi st:Option Int):IsAll K F (zrh xs lo hi st) (zrh ds lo hi st):=by
 unfold zrh
 rw [h.dlen]
 exact zcc h _
noncomputable def dSl3 (de:DE) (dl dh dk:DO):DF:=λ U Q=>de U λ d=>dl U λ lo=>dh U λ hi=>dk U λ st=>match d with
|.list ds=>st≠some 0/\Q (zrh ds lo hi st)
|_=>False
theorem zf11 (he:RfV K te de) (hl:RfO K tl dl) (hh:RfO K th dh) (hk:RfO K tk dk):RfF K (tSl3 K te tl th tk) (dSl3 de dl dh dk):=by
 intro F H Y U Qd Q s rv h k
 refine he s rv h λ d hd v F1 H1 e1 i1=>hl e1.fh (rv.ext e1) hd λ lo hlo F2 H2 e2=>hh e2.fh (rv.ext (e1.trans e2)) hlo λ hi hhi F3 H3 e3=>hk e3.fh (rv.ext ((e1.trans e2).trans e3)) hhi λ st hst F4 H4 e4=>?_
 split at hst
 ·have e14:=((e1.trans e2).trans e3).trans e4
  obtain ⟨p,xs,rfl,h1,i2⟩:=(i1.ext ((e2.trans e3).trans e4)).list e4.fh
  refine ⟨p,xs,rfl,h1,hst.1,λ l hl=>?_⟩
  obtain ⟨ex,fn⟩:=zb3 (xs:=zrh xs lo hi st) e4.fh hl
  exact k _ hst.2 l _ F4 _ (e14.trans ex) (zd1 e14 hl) zi0 fn (zto i2 lo hi st)
 ·exact hst.elim
noncomputable def W0 (K:Fg) (J:It) (F H:Hp) (items:List D):Prop:=(∀ i,i < items.length->J.go i H)/\J.stop items.length H/\∀ i x H3 d,items[i]?=some d->J.yld i H x H3->H3=H/\Is K F x d
noncomputable def W1 (K:Fg) (J:It) (F H:Hp) (items:List D):Prop:=(∀ i,i < items.length->J.go i H)/\J.stop items.length H/\∀ i x H3 d,items[i]?=some d->J.yld i H x H3->∃ F3,Ext F H F3 H3/\Is K F3 x d
noncomputable def WD (K:Fg) (J:It) (F:Hp) (items:List D):Prop:=∀ F2 H2,Same F F2->Same F2 H2->W1 K J F2 H2 items
noncomputable def WV (K:Fg) (J:It) (F H:Hp) (items:List D):Prop:=∀ F2 H2,Ext F H F2 H2->W1 K J F2 H2 items
theorem W0.w1 {J:It} {F H:Hp} {items:List D} (s:Same F H) (h:W0 K J F H items):W1 K J F H items:=⟨h.1,h.2.1,λ i x H3 d e y=>by
 obtain ⟨rfl,r⟩:=h.2.2 i x H3 d e y
 exact ⟨F,Ext.refl s,r⟩⟩
noncomputable def RfI (K:Fg) (ti:TI) (di:DF):Prop:=∀ {F H:Hp} {Y:_2.St} {U:DSt} {Qd:List D->Prop} {R:It->Hp->Prop},Same F H->RV K F H Y U->di U Qd->(∀ ds,Qd ds->∀ J F' H',Ext F H F' H'->WD K J F' ds->R J H')->ti Y H R
noncomputable def RfJ (K:Fg) (ti:TI) (di:DF):Prop:=∀ {F H:Hp} {Y:_2.St} {U:DSt} {Qd:List D->Prop} {R:It->Hp->Prop},Same F H->RV K F H Y U->di U Qd->(∀ ds,Qd ds->∀ J F' H',Ext F H F' H'->WV K J F' H' ds->R J H')->ti Y H R
theorem zz2 {F H:Hp} {a:Addr} {xs:List V} {ds:List D} (h:SqL K H a xs) (i:IsAll K F xs ds):W0 K (Itl K a) F H ds:=by
 have el:=i.dlen
 refine ⟨λ j hj=>⟨xs,xs[j]'(by lia),h,uC _⟩,⟨xs,h,by lia⟩,λ j x H3 d e y=>?_⟩
 obtain ⟨e3,y⟩:=y
 obtain ⟨x',h1,h2⟩:=i.dget e
 have:=y xs h
 rw [h1] at this;cases this
 exact ⟨e3,h2⟩
theorem zof {F H:Hp} {a:Addr} {xs:List V} {ds:List D} (h:SqT K H a xs) (i:IsAll K F xs ds):W0 K (Itt K a) F H ds:=by
 have el:=i.dlen
 refine ⟨λ j hj=>⟨xs,xs[j]'(by lia),h,uC _⟩,⟨xs,h,by lia⟩,λ j x H3 d e y=>?_⟩
 obtain ⟨e3,y⟩:=y
 obtain ⟨x',h1,h2⟩:=i.dget e
 have:=y xs h
 rw [h1] at this;cases this
 exact ⟨e3,h2⟩
noncomputable def zgw:D->(List D->Prop)->Prop
|.list ds,Q=>Q ds
|.tuple ds,Q=>Q ds
|.str z,Q=>z.cps.all (· < 128)=true/\Q (z.cps.toList.map λ c=>.str ⟨#[c]⟩)
|_,_=>False
noncomputable def dIt (de:DE):DF:=λ U Q=>de U λ d=>zgw d Q
theorem zht {F H:Hp} (z:Str) (s:Same F H):W1 K (Its z) F H (z.cps.toList.map λ c=>.str ⟨#[c]⟩):=by
 have el:(z.cps.toList.map λ c=>(PyData.str ⟨#[c]⟩)).length=z.cps.size:=by simp
 refine ⟨λ j hj=>by rw [el] at hj;exact hj,by rw [el];exact uG _,λ j x H3 d e y=>?_⟩
 obtain ⟨e3,c,e1,e2⟩:=y
 subst e3
 rw [uI,x6,e1] at e
 simp at e
 subst e
 exact ⟨F,Ext.refl s,by rw [e2];exact .str _⟩
theorem zhp (h:RfV K te de):RfJ K (iW K te) (dIt de):=by
 intro F H Y U Qd R s rv hd k
 refine h s rv hd λ d hx v F1 H1 e1 i1=>?_
 unfold zgw at hx
 split at hx
 ·obtain ⟨p,xs,rfl,h1,i2⟩:=i1.list e1.fh
  exact .inl (.inl ⟨p,rfl,⟨xs,h1⟩,k _ hx _ F1 H1 e1 λ F2 H2 e2=>(zz2 (e2.h.seq h1) (i2.mono e2.f)).w1 e2.fh⟩)
 ·obtain ⟨p,xs,rfl,h1,_,i2⟩:=i1.tuple e1.fh
  exact .inl (.inr ⟨p,rfl,⟨xs,h1⟩,k _ hx _ F1 H1 e1 λ F2 H2 e2=>(zof (ztc e2.h h1) (i2.mono e2.f)).w1 e2.fh⟩)
 ·cases i1.str
  exact .inr ⟨_,rfl,hx.1,k _ hx.2 _ F1 H1 e1 λ F2 H2 e2=>zht _ e2.fh⟩
 ·exact hx.elim
theorem zkr (h:RfE K te de):RfI K (iW K te) (dIt de):=by
 intro F H Y U Qd R s rv hd k
 refine h s rv hd λ d hx v F1 H1 e1 i1=>?_
 unfold zgw at hx
 split at hx
 ·obtain ⟨p,xs,rfl,h1,i2⟩:=i1.list_inv
  exact .inl (.inl ⟨p,rfl,⟨xs,e1.fh.seq h1⟩,k _ hx _ F1 H1 e1 λ F2 H2 s2 t2=>(zz2 (t2.seq (s2.seq h1)) (i2.mono s2)).w1 t2⟩)
 ·obtain ⟨p,xs,rfl,h1,i2⟩:=i1.tuple_inv
  exact .inl (.inr ⟨p,rfl,⟨xs,ztc e1.fh h1⟩,k _ hx _ F1 H1 e1 λ F2 H2 s2 t2=>(zof (ztc t2 (ztc s2 h1)) (i2.mono s2)).w1 t2⟩)
 ·cases i1.str_inv
  exact .inr ⟨_,rfl,hx.1,k _ hx.2 _ F1 H1 e1 λ F2 H2 s2 t2=>zht _ t2⟩
 ·exact hx.elim
theorem RfI.j {ti:TI} {di:DF} (h:RfI K ti di):RfJ K ti di:=λ s rv hd k=>h s rv hd λ ds q J F' H' e w=>k ds q J F' H' e λ F2 H2 e2=>w F2 H2 e2.f e2.fh
noncomputable def rngD (lo:Int) (n:Nat):List D:=(uM n).map λ i=>.int (lo+(i:Nat))
theorem zcj (lo:Int) (n:Nat):(rngD lo n).length=n:=by simp [rngD]
theorem zho {lo:Int} {n i:Nat} {d:D} (e:(rngD lo n)[i]?=some d):i < n/\d=.int (lo+(i:Nat)):=by
 unfold rngD at e
 rw [uI] at e
 obtain ⟨j,hj,rfl⟩:=u5.mp e
 obtain ⟨h1,h2⟩:=uZ.mp hj
 simp at h1 h2
 subst h2
 exact ⟨h1,rfl⟩
theorem zv11 {F H:Hp} (lo:Int) (n:Nat) (s:Same F H):W1 K (Itr lo n) F H (rngD lo n):=by
 refine ⟨λ j hj=>by rw [zcj] at hj;exact hj,by rw [zcj];exact uG _,λ j x H3 d e y=>?_⟩
 obtain ⟨e3,y⟩:=y
 subst e3
 obtain ⟨_,rfl⟩:=zho e
 exact ⟨F,Ext.refl s,by rw [y];exact .int _⟩
noncomputable def zq71 (dA:DF):DF:=λ U Q=>dA U λ ds=>match ds with
|[.int j]=>-(2 ^ 62)<=j/\j < 2 ^ 62/\Q (rngD 0 j.toNat)
|_=>False
theorem ztb (h:RfA K tA dA):RfI K (zk71 tA) (zq71 dA):=by
 intro F H Y U Qd R s rv hd k
 refine h s rv hd λ ds hx vs F1 H1 e1 i1=>?_
 split at hx
 ·cases i1 with
 |cons h1 r1 =>
   cases r1
   cases h1.int_inv
   exact ⟨_,rfl,hx.1,hx.2.1,k _ hx.2.2 _ F1 H1 e1 λ F2 H2 s2 t2=>zv11 _ _ t2⟩
 ·exact hx.elim
noncomputable def zipD (ds es:List D):List D:=List.zipWith (λ a b=>.tuple [a,b]) ds es
theorem ztf {F H:Hp} {J1 J2:It} {ds es:List D} (s:Same F H) (h1:W0 K J1 F H ds) (h2:W0 K J2 F H es):W1 K (Itz J1 J2) F H (zipD ds es):=by
 have el:(zipD ds es).length=min ds.length es.length:=by simp [zipD]
 refine ⟨λ j hj=>⟨h1.1 j (by lia),h2.1 j (by lia)⟩,?_,λ j x H3 d e y=>?_⟩
 ·rw [el]
  by_cases h:ds.length<=es.length
  ·rw [yX h];exact .inl h1.2.1
  ·rw [Nat.min_eq_right (by lia)];exact .inr ⟨h1.1 es.length (by lia),h2.2.1⟩
 ·obtain ⟨x1,x2,p,y1,y2,hp,e1,e2⟩:=y
  subst e2
  unfold zipD at e
  rw [List.getElem?_zipWith] at e
  cases q1:ds[j]? with
 |none=>rw [q1] at e;cases e
 |some d1 =>
   cases q2:es[j]? with
  |none=>rw [q1,q2] at e;cases e
  |some d2 =>
    rw [q1,q2] at e
    cases e
    obtain ⟨_,i1⟩:=h1.2.2 j x1 H d1 q1 y1
    obtain ⟨_,i2⟩:=h2.2.2 j x2 H d2 q2 y2
    obtain ⟨ex,ii⟩:=zx9 (K:=K) (ds:=[d1,d2]) s hp (.cons i1 (.cons i2 .nil))
    exact ⟨_,ex,by rw [e1];exact ii⟩
noncomputable def fZip:List D->(List D->Prop)->Prop
|[.list a,.list b],Q=>Q (zipD a b)
|[.list a,.tuple b],Q=>Q (zipD a b)
|[.tuple a,.list b],Q=>Q (zipD a b)
|_,_=>False
noncomputable def dZip (dA:DF):DF:=λ U Q=>dA U λ ds=>fZip ds Q
theorem zao (h:RfAV K tA dA):RfJ K (iZip K tA) (dZip dA):=by
 intro F H Y U Qd R s rv hd k
 refine h s rv hd λ ds hx vs F1 H1 e1 i1=>?_
 unfold fZip at hx
 split at hx
 ·obtain ⟨v,u,rfl,w1,w2⟩:=vw2 i1
  obtain ⟨p,xs,rfl,h1,j1⟩:=w1.list e1.fh
  obtain ⟨q,ys,rfl,h2,j2⟩:=w2.list e1.fh
  exact ⟨_,_,rfl,.inl ⟨p,rfl,⟨xs,h1⟩,.inl ⟨q,rfl,⟨ys,h2⟩,k _ hx _ F1 H1 e1 λ F2 H2 e2=>ztf e2.fh (zz2 (e2.h.seq h1) (j1.mono e2.f)) (zz2 (e2.h.seq h2) (j2.mono e2.f))⟩⟩⟩
 ·obtain ⟨v,u,rfl,w1,w2⟩:=vw2 i1
  obtain ⟨p,xs,rfl,h1,j1⟩:=w1.list e1.fh
  obtain ⟨q,ys,rfl,h2,_,j2⟩:=w2.tuple e1.fh
  exact ⟨_,_,rfl,.inl ⟨p,rfl,⟨xs,h1⟩,.inr ⟨q,rfl,⟨ys,h2⟩,k _ hx _ F1 H1 e1 λ F2 H2 e2=>ztf e2.fh (zz2 (e2.h.seq h1) (j1.mono e2.f)) (zof (ztc e2.h h2) (j2.mono e2.f))⟩⟩⟩
 ·obtain ⟨v,u,rfl,w1,w2⟩:=vw2 i1
  obtain ⟨p,xs,rfl,h1,_,j1⟩:=w1.tuple e1.fh
  obtain ⟨q,ys,rfl,h2,j2⟩:=w2.list e1.fh
  exact ⟨_,_,rfl,.inr ⟨p,rfl,⟨xs,h1⟩,.inl ⟨q,rfl,⟨ys,h2⟩,k _ hx _ F1 H1 e1 λ F2 H2 e2=>ztf e2.fh (zof (ztc e2.h h1) (j1.mono e2.f)) (zz2 (e2.h.seq h2) (j2.mono e2.f))⟩⟩⟩
 ·exact hx.elim
theorem all2 {F:Hp} {vs:List V} {d e:D} (h:IsAll K F vs [d,e]):∃ v u,vs=[v,u]/\Is K F v d/\Is K F u e:=by
 cases h with
|cons h r=>cases r with
 |cons h2 r2=>cases r2;exact ⟨_,_,rfl,h,h2⟩
theorem all1 {F:Hp} {vs:List V} {d:D} (h:IsAll K F vs [d]):∃ v,vs=[v]/\Is K F v d:=by
 cases h with
|cons h r=>cases r;exact ⟨_,rfl,h⟩
theorem zuu (h:RfA K tA dA):RfI K (iZip K tA) (dZip dA):=by
 intro F H Y U Qd R s rv hd k
 refine h s rv hd λ ds hx vs F1 H1 e1 i1=>?_
 unfold fZip at hx
 split at hx
 ·obtain ⟨v,u,rfl,w1,w2⟩:=all2 i1
  obtain ⟨p,xs,rfl,h1,j1⟩:=w1.list_inv
  obtain ⟨q,ys,rfl,h2,j2⟩:=w2.list_inv
  exact ⟨_,_,rfl,.inl ⟨p,rfl,⟨xs,e1.fh.seq h1⟩,.inl ⟨q,rfl,⟨ys,e1.fh.seq h2⟩,k _ hx _ F1 H1 e1 λ F2 H2 s2 t2=>ztf t2 (zz2 (t2.seq (s2.seq h1)) (j1.mono s2)) (zz2 (t2.seq (s2.seq h2)) (j2.mono s2))⟩⟩⟩
 ·obtain ⟨v,u,rfl,w1,w2⟩:=all2 i1
  obtain ⟨p,xs,rfl,h1,j1⟩:=w1.list_inv
  obtain ⟨q,ys,rfl,h2,j2⟩:=w2.tuple_inv
  exact ⟨_,_,rfl,.inl ⟨p,rfl,⟨xs,e1.fh.seq h1⟩,.inr ⟨q,rfl,⟨ys,ztc e1.fh h2⟩,k _ hx _ F1 H1 e1 λ F2 H2 s2 t2=>ztf t2 (zz2 (t2.seq (s2.seq h1)) (j1.mono s2)) (zof (ztc t2 (ztc s2 h2)) (j2.mono s2))⟩⟩⟩
 ·obtain ⟨v,u,rfl,w1,w2⟩:=all2 i1
  obtain ⟨p,xs,rfl,h1,j1⟩:=w1.tuple_inv
  obtain ⟨q,ys,rfl,h2,j2⟩:=w2.list_inv
  exact ⟨_,_,rfl,.inr ⟨p,rfl,⟨xs,ztc e1.fh h1⟩,.inl ⟨q,rfl,⟨ys,e1.fh.seq h2⟩,k _ hx _ F1 H1 e1 λ F2 H2 s2 t2=>ztf t2 (zof (ztc t2 (ztc s2 h1)) (j1.mono s2)) (zz2 (t2.seq (s2.seq h2)) (j2.mono s2))⟩⟩⟩
 ·exact hx.elim
noncomputable def zrj (ds:List D):List D:=ds.mapIdx λ i d=>.tuple [.int (i:Nat),d]
theorem zea (ds:List D):(zrj ds).length=ds.length:=by simp [zrj]
theorem zwe {ds:List D} {i:Nat} {d:D} (e:(zrj ds)[i]?=some d):∃ x,ds[i]?=some x/\d=.tuple [.int (i:Nat),x]:=by
 unfold zrj at e
 rw [xS] at e
 obtain ⟨x,h1,h2⟩:=u5.mp e
 exact ⟨x,h1,h2.symm⟩
theorem zxm {F H:Hp} {a:Addr} {xs:List V} {ds:List D} (s:Same F H) (h:SqL K H a xs) (i:IsAll K F xs ds):W1 K (Ite K a) F H (zrj ds):=by
 have el:=i.dlen
 have el2:=zea ds
 refine ⟨λ j hj=>⟨xs,xs[j]'(by lia),h,uC _⟩,⟨xs,h,by lia⟩,λ j x H3 d e y=>?_⟩
 obtain ⟨v,p,y1,hp,e1,e2⟩:=y
 subst e2
 obtain ⟨x',hx',rfl⟩:=zwe e
 obtain ⟨u,hu,iu⟩:=i.dget hx'
 have:=y1 xs h
 rw [hu] at this;cases this
 obtain ⟨ex,ii⟩:=zx9 (K:=K) (ds:=[.int (j:Nat),x']) s hp (.cons (.int _) (.cons iu .nil))
 exact ⟨_,ex,by rw [e1];exact ii⟩
noncomputable def zj01 (dA:DF):DF:=λ U Q=>dA U λ ds=>match ds with
|[.list a]=>Q (zrj a)
|_=>False
theorem zxb (h:RfAV K tA dA):RfJ K (zw01 K tA) (zj01 dA):=by
 intro F H Y U Qd R s rv hd k
 refine h s rv hd λ ds hx vs F1 H1 e1 i1=>?_
 split at hx
 ·obtain ⟨v,rfl,w1⟩:=vw1 i1
  obtain ⟨p,xs,rfl,h1,j1⟩:=w1.list e1.fh
  exact ⟨p,xs,rfl,h1,k _ hx _ F1 H1 e1 λ F2 H2 e2=>zxm e2.fh (e2.h.seq h1) (j1.mono e2.f)⟩
 ·exact hx.elim
theorem ztm (h:RfA K tA dA):RfI K (zw01 K tA) (zj01 dA):=by
 intro F H Y U Qd R s rv hd k
 refine h s rv hd λ ds hx vs F1 H1 e1 i1=>?_
 split at hx
 ·obtain ⟨v,rfl,w1⟩:=all1 i1
  obtain ⟨p,xs,rfl,h1,j1⟩:=w1.list_inv
  exact ⟨p,xs,rfl,e1.fh.seq h1,k _ hx _ F1 H1 e1 λ F2 H2 s2 t2=>zxm t2 (t2.seq (s2.seq h1)) (j1.mono s2)⟩
 ·exact hx.elim
end
inductive Upd (K:Fg) (F:Hp) (n:Nat):_2.St->DSt->_2.St->DSt->Prop
|refl {Y:_2.St} {U:DSt}:Upd K F n Y U Y U
|set {Y Y':_2.St} {U U':DSt} {i:Nat} {v:V} {d:D}:i < n->Is K F v d->Upd K F n (Y.set i (some v)) (U.set i (.sh d)) Y' U'->Upd K F n Y U Y' U'
theorem zx5 {Y:_2.St} {i j:Nat} {v:Option V}:(Y.set i v).getD j none=if i=j/\j < Y.length then v else Y.getD j none:=by
 rw [uR,uR,vU]
 by_cases h:i=j
 ·subst h
  by_cases h2:i < Y.length
  ·simp [h2]
  ·simp [h2]
 ·simp [h]
theorem RV.set {K:Fg} {F H:Hp} {Y:_2.St} {U:DSt} {i:Nat} {v:V} {sl:Sl} (r:RV K F H Y U) (h:RSl K F H (some v) sl):RV K F H (Y.set i (some v)) (U.set i sl):=by
 refine ⟨by rw [uU,uU];exact r.len,λ j s e=>?_⟩
 rw [vU] at e
 rw [zx5,r.len]
 by_cases hij:i=j
 ·subst hij
  by_cases hl:i < U.length
  ·simp [hl] at e ⊢;subst e;exact h
  ·simp [hl] at e
 ·simp [hij] at e ⊢;exact r.sl j s e
theorem Upd.rv {K:Fg} {F H:Hp} {n:Nat} {Y Y':_2.St} {U U':DSt} (u:Upd K F n Y U Y' U') (r:RV K F H Y U):RV K F H Y' U':=by
 induction u with
|refl=>exact r
|set hi hv _ ih=>exact ih (r.set ⟨_,rfl,hv⟩)
theorem Upd.keep {K:Fg} {F:Hp} {n:Nat} {Y Y':_2.St} {U U':DSt} (u:Upd K F n Y U Y' U'):Y'.length=Y.length/\∀ i,n<=i->Y'.getD i none=Y.getD i none:=by
 induction u with
|refl=>exact ⟨rfl,λ _ _=>rfl⟩
|set hi hv _ ih =>
  refine ⟨by rw [ih.1,uU],λ j hj=>?_⟩
  rw [ih.2 j hj,zx5,if_neg (by lia)]
noncomputable abbrev DG:=D->DSt->(DSt->Prop)->Prop
noncomputable abbrev DGs:=List D->DSt->(DSt->Prop)->Prop
noncomputable def RfG (K:Fg) (n:Nat) (g:TG) (dg:DG):Prop:=∀ {F H:Hp} {Y:_2.St} {U:DSt} {v:V} {d:D} {Gd:DSt->Prop} {G:_2.St->Hp->Prop},Same F H->Is K F v d->dg d U Gd->(∀ Y' U',Gd U'->Upd K F n Y U Y' U'->G Y' H)->g v Y H G
noncomputable def RfGs (K:Fg) (n:Nat) (g:TGs) (dg:DGs):Prop:=∀ {F H:Hp} {Y:_2.St} {U:DSt} {vs:List V} {ds:List D} {Gd:DSt->Prop} {G:_2.St->Hp->Prop},Same F H->IsAll K F vs ds->dg ds U Gd->(∀ Y' U',Gd U'->Upd K F n Y U Y' U'->G Y' H)->g vs Y H G
noncomputable def gN (i:Nat):DG:=λ d U G=>G (U.set i (.sh d))
noncomputable def zg41:DGs:=λ ds U G=>match ds with
|[]=>G U
|_=>False
noncomputable def zcq (g:DG) (gs:DGs):DGs:=λ ds U G=>match ds with
|d :: r=>g d U λ U'=>gs r U' G
|[]=>False
noncomputable def gT (n:Nat) (gs:DGs):DG:=λ d U G=>match d with
|.tuple ds=>ds.length=n/\gs ds U G
|_=>False
section
variable {K:Fg} {n m:Nat}
theorem zc1 {i:Nat} (hi:i < n):RfG K n (zfj i) (gN i):=λ s h hd k=>k _ _ hd (.set hi h .refl)
theorem zh2:RfGs K n gNil zg41:=by
 intro F H Y U vs ds Gd G s h hd k
 unfold zg41 at hd
 split at hd
 ·cases h;exact ⟨rfl,k _ _ hd .refl⟩
 ·exact hd.elim
theorem Upd.trans {F:Hp} {Y Y1 Y2:_2.St} {U U1 U2:DSt} (a:Upd K F n Y U Y1 U1) (b:Upd K F n Y1 U1 Y2 U2):Upd K F n Y U Y2 U2:=by
 induction a with
|refl=>exact b
|set hi hv _ ih=>exact .set hi hv (ih b)
theorem zo0 {g:TG} {dg:DG} {gs:TGs} {dgs:DGs} (h1:RfG K n g dg) (h2:RfGs K n gs dgs):RfGs K n (ze61 g gs) (zcq dg dgs):=by
 intro F H Y U vs ds Gd G s h hd k
 unfold zcq at hd
 split at hd
 ·cases h with
 |cons hx hr =>
   refine ⟨_,_,rfl,h1 s hx hd λ Y1 U1 hd1 u1=>h2 s hr hd1 λ Y2 U2 hd2 u2=>k _ _ hd2 (u1.trans u2)⟩
 ·exact hd.elim
theorem zd5 {gs:TGs} {dgs:DGs} (h:RfGs K n gs dgs):RfG K n (gTup K m gs) (gT m dgs):=by
 intro F H Y U v d Gd G s hv hd k
 unfold gT at hd
 split at hd
 ·obtain ⟨a,xs,rfl,h1,h2⟩:=hv.tuple_inv
  exact ⟨a,xs,rfl,ztc s h1,by rw [h2.dlen];exact hd.1,h s h2 hd.2 k⟩
 ·exact hd.elim
end
noncomputable def cST (n:Nat) (ix:List Nat) (U:DSt):DSt:=uN n .un++ix.map λ i=>U.getD i .un
theorem zpw {K:Fg} {F H:Hp} {Y:_2.St} {U:DSt} (n:Nat) (ix:List Nat) (r:RV K F H Y U):RV K F H (compY n ix Y) (cST n ix U):=by
 refine ⟨by simp [compY,cST],λ i s e=>?_⟩
 unfold cST at e
 unfold compY
 by_cases h:i < n
 ·rw [u6 (by simpa using h)] at e
  simp [vT,h] at e
  subst e;trivial
 ·rw [u7 (by simpa using h)] at e
  rw [uR,u7 (by simpa using h)]
  simp only [wL,uI] at e ⊢
  obtain ⟨j,hj,rfl⟩:=u5.mp e
  rw [hj]
  show RSl K F H (Y.getD j none) _
  cases q:U[j]? with
 |none=>rw [show U.getD j .un=.un by rw [uR,q];rfl];trivial
 |some t=>rw [show U.getD j .un=t by rw [uR,q];rfl];exact r.sl j t q
theorem RV.caps {K:Fg} {F H:Hp} {Y Y':_2.St} {n:Nat} {ix:List Nat} {U:DSt} (r:RV K F H Y (cST n ix U)) (hl:Y'.length=Y.length) (hk:∀ i,n<=i->Y'.getD i none=Y.getD i none):RV K F H Y' (cST n ix U):=by
 refine ⟨by rw [hl];exact r.len,λ i s e=>?_⟩
 by_cases h:i < n
 ·unfold cST at e
  rw [u6 (by simpa using h)] at e
  simp [vT,h] at e
  subst e;trivial
 ·rw [hk i (by lia)];exact r.sl i s e
noncomputable def zt71 (di:DF) (n:Nat) (ix:List Nat) (dg:DG) (dt:DT) (de:DE):DF:=λ U Q=>di U λ items=>items.length<=sizeLine/\∃ R:Nat->Option D->Prop,
 (∀ i d,items[i]?=some d->dg d (cST n ix U) λ U'=>dt U' λ b=>if b=true then de U' λ r=>R i (some r) else R i none) /\
 ∀ os:List (Option D),os.length=items.length->(∀ (j:Nat) o,os[j]?=some o->R j o)->Q (os.filterMap id)
noncomputable def zl01:DT:=λ _ Q=>Q true
section
variable {K:Fg} {wi:TI} {di:DF} {n:Nat} {ix:List Nat} {g:TG} {dg:DG} {tt:TT} {dt:DT} {te:TE} {de:DE}
theorem zq4:RfT K zq31 zl01:=λ s rv h k=>k _ h _ _ (Ext.refl s)
theorem zn2 (hi:RfJ K wi di) (hg:RfG K n g dg) (ht:RfT K tt dt) (he:RfE K te de):RfF K (zgz wi n ix g tt te) (zt71 di n ix dg dt de):=by
 intro F H Y U Qd Q s rv hd k
 refine hi s rv hd λ items hx J F1 H1 e1 wj D hD=>?_
 obtain ⟨hz,R,hR,hQ⟩:=hx
 have rv1:=zpw n ix (rv.ext e1)
 have F1D:F1 D=none:=by
  cases q:F1 D with
 |none=>rfl
 |some o=>rw [e1.fh D o q] at hD;cases hD
 refine ⟨λ i m acc Y' H'=>m=items.length - i/\i<=items.length/\Y'.length=(compY n ix Y).length/\(∀ j,n<=j->Y'.getD j none=(compY n ix Y).getD j none)/\∃ (F':Hp) (os:List (Option PyData)),Ext F1 H1 F' H'/\F' D=none/\H' D=some (.lst acc)/\os.length=i/\(∀ (j:Nat) o,os[j]?=some o->R j o)/\IsAll K F' acc (os.filterMap id),⟨items.length,rfl,vY _,rfl,λ _ _=>rfl,F1,[],?_,F1D,zi0,rfl,λ j o e=>by simp at e,.nil⟩,?_⟩
 ·exact (zb3 (xs:=[]) e1.fh hD).1
 rintro i m acc Y' H' ⟨rfl,hi',hl,hk,F',os,ex,fD,hDD,hos,hRs,hall⟩
 obtain ⟨go,stop,yld⟩:=wj F' H' ex
 by_cases hlt:i < items.length
 ·refine .inr ⟨go i hlt,λ acc' Y2 H2=>i+1<=items.length/\Y2.length=(compY n ix Y).length/\(∀ j,n<=j->Y2.getD j none=(compY n ix Y).getD j none)/\∃ (F':Hp) (os:List (Option PyData)),Ext F1 H1 F' H2/\F' D=none/\H2 D=some (.lst acc')/\os.length=i+1/\(∀ (j:Nat) o,os[j]?=some o->R j o)/\IsAll K F' acc' (os.filterMap id),λ acc' Y2 H2 p=>⟨items.length - (i+1),by lia,rfl,p⟩,λ x H2 y=>?_⟩
  have hit:items[i]?=some items[i]:=uC hlt
  obtain ⟨F2,ex2,ix2⟩:=yld i x H2 _ hit y
  have rv2:RV K F2 H2 Y' (cST n ix U):=RV.caps (rv1.ext (ex.trans ex2)) hl hk
  have hRn:∀ o,R i o->∀ (j:Nat) o',(os++[o])[j]?=some o'->R j o':=λ o ho j o' e=>by
   rcases Nat.lt_trichotomy j os.length with h|h|h
   ·rw [u6 h] at e;exact hRs j o' e
   ·subst h;rw [u7 (uG _)] at e;simp at e;subst e;rw [hos];exact ho
   ·rw [u7 (xH h)] at e
    cases q:j - os.length with
   |zero=>lia
   |succ z=>rw [q] at e;simp at e
  refine hg ex2.fh ix2 (hR i _ hit) λ Y2 U2 hd2 u2=>?_
  have rv3:=u2.rv rv2
  have kp:=u2.keep
  have hl2:Y2.length=(compY n ix Y).length:=by rw [kp.1,hl]
  have hk2:∀ j,n<=j->Y2.getD j none=(compY n ix Y).getD j none:=λ j hj=>by rw [kp.2 j hj,hk j hj]
  refine ht ex2.fh rv3 hd2 λ b hb F4 H4 e4=>?_
  have e24:=ex2.trans e4
  have hD4:H4 D=some (.lst acc):=e24.h _ _ hDD
  have fD4:F4 D=none:=e24.nwo hDD (λ _=>nofun) fD
  cases b with
 |true =>
   rw [if_pos rfl] at hb ⊢
   refine he e4.fh (rv3.ext e4) hb λ r hr v F5 H5 e5 i5=>?_
   have e25:=e24.trans e5
   have hD5:H5 D=some (.lst acc):=e25.h _ _ hDD
   have fD5:F5 D=none:=e25.nwo hDD (λ _=>nofun) fD
   have hlen:acc.length<=i:=by
    rw [hall.dlen,<- hos];exact List.length_filterMap_le _ _
   have e15:=ex.trans e25
   refine ⟨hD5,by lia,hlt,hl2,hk2,F5,os++[some r],⟨λ b o hb=>?_,e15.f,λ b o hb=>?_,e15.nw⟩,fD5,zi0,by simp [hos],hRn _ hr,?_⟩
   ·have:b≠D:=λ z=>by subst z;rw [hD] at hb;cases hb
    rw [zn0 this];exact e15.h b o hb
   ·have:b≠D:=λ z=>by subst z;rw [fD5] at hb;cases hb
    rw [zn0 this];exact e15.fh b o hb
   ·rw [zQ]
    exact (hall.mono e25.f).dapp (.cons i5 .nil)
 |false =>
   rw [if_neg uX] at hb ⊢
   refine ⟨hlt,hl2,hk2,F4,os++[none],ex.trans e24,fD4,hD4,by simp [hos],hRn _ hb,?_⟩
   rw [zQ]
   have:yY id [(none:Option PyData)]=[]:=rfl
   rw [this,vL]
   exact hall.mono e24.f
 ·have e:i=items.length:=by lia
  refine .inl ⟨by rw [e];exact stop,k _ (hQ os (by lia) hRs) D acc F' H' (e1.trans ex) ?_ hDD fD hall⟩
  exact zd1 e1 hD
end
theorem at_nat' {α:Type} {xs:List α} {i:Int} {x:α} (h0:0<=i) (h:xs[i.toNat]?=some x):atI xs i=some x:=by
 have e:((i.toNat:Nat):Int)=i:=by lia
 have:=zr7 (xs:=xs) (j:=i.toNat) (v:=x) h
 rwa [e] at this
inductive Stp where
|ix (j:Nat)|fl (f:Str)
noncomputable abbrev Pth:=List Stp
noncomputable def putA (f:Str) (t:T):List (Str×T)->List (Str×T)
|[]=>[(f,t)]
|(g,x) :: r=>if g=f then (g,t) :: r else (g,x) :: putA f t r
noncomputable def setP:T->Pth->T->T
|_,[],u=>u
|.ls ts,.ix j :: p,u=>match ts[j]? with
 |some t=>.ls (ts.set j (setP t p u))
 |none=>.ls ts
|.tp ts,.ix j :: p,u=>match ts[j]? with
 |some t=>.tp (ts.set j (setP t p u))
 |none=>.tp ts
|.ob C fs,.fl f :: p,u=>match fs.lookup f with
 |some t=>.ob C (putA f (setP t p u) fs)
 |none=>.ob C fs
|t,_,_=>t
inductive At (H:Hp):V->T->Pth->V->T->Prop
|nil {v:V} {t:T}:At H v t [] v t
|ix {a:Addr} {xs:List V} {ts:List T} {j:Nat} {x v:V} {t u:T} {p:Pth}:H a=some (.lst xs)->xs[j]?=some x->ts[j]?=some t->At H x t p v u->At H (.ref a) (.ls ts) (.ix j :: p) v u
|tx {a:Addr} {xs:List V} {ts:List T} {j:Nat} {x v:V} {t u:T} {p:Pth}:H a=some (.tup xs)->xs[j]?=some x->ts[j]?=some t->At H x t p v u->At H (.ref a) (.tp ts) (.ix j :: p) v u
|fl {a C dx:Addr} {fs:List (Str×V)} {ts:List (Str×T)} {f:Str} {x v:V} {t u:T} {p:Pth}:H a=some (.ins C dx fs)->fs.lookup f=some x->ts.lookup f=some t->At H x t p v u->At H (.ref a) (.ob C ts) (.fl f :: p) v u
theorem At.mono {H H':Hp} (s:Same H H') {v v':V} {t t':T} {p:Pth} (h:At H v t p v' t'):At H' v t p v' t':=by
 induction h with
|nil=>exact .nil
|ix h1 h2 h3 _ ih=>exact .ix (s _ _ h1) h2 h3 ih
|tx h1 h2 h3 _ ih=>exact .tx (s _ _ h1) h2 h3 ih
|fl h1 h2 h3 _ ih=>exact .fl (s _ _ h1) h2 h3 ih
theorem At.snoc_ix {H:Hp} {v x y:V} {t u:T} {ts:List T} {a:Addr} {xs:List V} {j:Nat} {p:Pth} (h:At H v t p (.ref a) (.ls ts)) (h1:H a=some (.lst xs)) (h2:xs[j]?=some x) (h3:ts[j]?=some u):At H v t (p++[.ix j]) x u:=by
 generalize e:V.ref a=w at h
 generalize e2:T.ls ts=z at h
 induction h with
|nil=>subst e e2;exact .ix h1 h2 h3 .nil
|ix g1 g2 g3 _ ih=>exact .ix g1 g2 g3 (ih e e2)
|tx g1 g2 g3 _ ih=>exact .tx g1 g2 g3 (ih e e2)
|fl g1 g2 g3 _ ih=>exact .fl g1 g2 g3 (ih e e2)
theorem At.snoc_tx {H:Hp} {v x y:V} {t u:T} {ts:List T} {a:Addr} {xs:List V} {j:Nat} {p:Pth} (h:At H v t p (.ref a) (.tp ts)) (h1:H a=some (.tup xs)) (h2:xs[j]?=some x) (h3:ts[j]?=some u):At H v t (p++[.ix j]) x u:=by
 generalize e:V.ref a=w at h
 generalize e2:T.tp ts=z at h
 induction h with
|nil=>subst e e2;exact .tx h1 h2 h3 .nil
|ix g1 g2 g3 _ ih=>exact .ix g1 g2 g3 (ih e e2)
|tx g1 g2 g3 _ ih=>exact .tx g1 g2 g3 (ih e e2)
|fl g1 g2 g3 _ ih=>exact .fl g1 g2 g3 (ih e e2)
theorem At.snoc_fl {H:Hp} {v x:V} {t u:T} {ts:List (Str×T)} {a C dx:Addr} {fs:List (Str×V)} {f:Str} {p:Pth} (h:At H v t p (.ref a) (.ob C ts)) (h1:H a=some (.ins C dx fs)) (h2:fs.lookup f=some x) (h3:ts.lookup f=some u):At H v t (p++[.fl f]) x u:=by
 generalize e:V.ref a=w at h
 generalize e2:T.ob C ts=z at h
 induction h with
|nil=>subst e e2;exact .fl h1 h2 h3 .nil
|ix g1 g2 g3 _ ih=>exact .ix g1 g2 g3 (ih e e2)
|tx g1 g2 g3 _ ih=>exact .tx g1 g2 g3 (ih e e2)
|fl g1 g2 g3 _ ih=>exact .fl g1 g2 g3 (ih e e2)
section
variable {K:Fg}
theorem RtAll.len {F H:Hp}:∀ {xs:List V} {ts:List T} {fp:List Addr},RtAll K F H xs ts fp->xs.length=ts.length
|_,_,_,.nil=>rfl
|_,_,_,.cons _ r=>congrArg (·+1) (RtAll.len r)
theorem RtAll.split {F H:Hp}:∀ {xs:List V} {ts:List T} {fp:List Addr} {j:Nat} {x:V} {t:T},RtAll K F H xs ts fp->xs[j]?=some x->ts[j]?=some t ->
  ∃ fA fj fB,fp=fA++(fj++fB)/\Rt K F H x t fj/\∀ {F2 H2:Hp} {u:T} {fq:List Addr},Same F F2->(∀ b∈fA++fB,H2 b=H b/\F2 b=none)->Rt K F2 H2 x u fq->RtAll K F2 H2 xs (ts.set j u) (fA++(fq++fB))
|_,_,_,_,_,_,.nil,e,_=>by simp at e
|_,_,_,0,x,t,.cons (fp:=fp) (fq:=fq) h r,e1,e2=>by
  simp at e1 e2;subst e1 e2
  exact ⟨[],fp,fq,rfl,h,λ s k g=>(by have z:=RtAll.cons g (r.frame s λ b hb=>k b (by simp [hb]));exact z)⟩
|_,_,_,j+1,x,t,.cons (fp:=fp) (fq:=fq) h r,e1,e2=>by
  obtain ⟨fA,fj,fB,e,hr,g⟩:=RtAll.split (j:=j) r (by simpa using e1) (by simpa using e2)
  refine ⟨fp++fA,fj,fB,by rw [e,wI],hr,λ s k hu=>?_⟩
  rw [wI]
  exact .cons (h.frame s λ b hb=>k b (by simp [hb])) (g s (λ b hb=>k b (by rcases uF.mp hb with z|z <;> simp [z])) hu)
theorem RtFs.split {F H:Hp}:∀ {xs:List (Str×V)} {ts:List (Str×T)} {fp:List Addr} {f:Str} {x:V} {t:T},RtFs K F H xs ts fp->xs.lookup f=some x->ts.lookup f=some t ->
  ∃ fA fj fB,fp=fA++(fj++fB)/\Rt K F H x t fj/\(∀ {F2 H2:Hp} {u:T} {fq:List Addr},Same F F2->(∀ b∈fA++fB,H2 b=H b/\F2 b=none)->Rt K F2 H2 x u fq->RtFs K F2 H2 xs (putA f u ts) (fA++(fq++fB))) /\
   (∀ {F2 H2:Hp} {y:V} {u:T} {fq:List Addr},Same F F2->(∀ b∈fA++fB,H2 b=H b/\F2 b=none)->Rt K F2 H2 y u fq->RtFs K F2 H2 (putF f y xs) (putA f u ts) (fA++(fq++fB)))
|_,_,_,_,_,_,.nil,e,_=>by cases e
|_,_,_,f,x,t,.cons (f:=g) (x:=x') (t:=t') (fp:=fp) (fq:=fq) h r,e1,e2=>by
  by_cases hg:f=g
  ·subst hg
   simp [vX] at e1 e2
   subst e1 e2
   refine ⟨[],fp,fq,rfl,h,λ s k u=>?_,λ s k u=>?_⟩
   ·show RtFs K _ _ _ (putA f _ ((f,_) :: _)) _
    rw [show putA f _ ((f,t') :: _)=(f,_) :: _ from if_pos rfl]
    have z:=RtFs.cons (f:=f) u (r.frame s λ b hb=>k b (by simp [hb]));exact z
   ·rw [show putA f _ ((f,t') :: _)=(f,_) :: _ from if_pos rfl,show putF f _ ((f,x') :: _)=(f,_) :: _ from if_pos rfl]
    have z:=RtFs.cons (f:=f) u (r.frame s λ b hb=>k b (by simp [hb]));exact z
  ·have hb:(f == g)=false:=beq_eq_false_iff_ne.mpr hg
   simp only [vX,hb] at e1 e2
   obtain ⟨fA,fj,fB,e,hr,q1,q2⟩:=RtFs.split r e1 e2
   have hgf:¬g=f:=λ z=>hg z.symm
   refine ⟨fp++fA,fj,fB,by rw [e,wI],hr,λ s k u=>?_,λ s k u=>?_⟩
   ·rw [show putA f _ ((g,t') :: _)=(g,t') :: putA f _ _ from if_neg hgf,wI]
    exact .cons (h.frame s λ b hb=>k b (by simp [hb])) (q1 s (λ b hb=>k b (by rcases uF.mp hb with z|z <;> simp [z])) u)
   ·rw [show putA f _ ((g,t') :: _)=(g,t') :: putA f _ _ from if_neg hgf,show putF f _ ((g,x') :: _)=(g,x') :: putF f _ _ from if_neg hgf,wI]
    exact .cons (h.frame s λ b hb=>k b (by simp [hb])) (q2 s (λ b hb=>k b (by rcases uF.mp hb with z|z <;> simp [z])) u)
theorem RtFs.add {F H F2 H2:Hp} {y:V} {u:T} {fq:List Addr} (s:Same F F2) (hu:Rt K F2 H2 y u fq):∀ {xs:List (Str×V)} {ts:List (Str×T)} {fp:List Addr} {f:Str},RtFs K F H xs ts fp->ts.lookup f=none->(∀ b∈fp,H2 b=H b/\F2 b=none)->RtFs K F2 H2 (putF f y xs) (putA f u ts) (fp++fq)
|_,_,_,f,.nil,_,_=>by
  show RtFs K F2 H2 [(f,y)] [(f,u)] fq
  have:=RtFs.cons (f:=f) hu (.nil (K:=K) (F:=F2) (H:=H2))
  rwa [vL] at this
|_,_,_,f,.cons (f:=g) (x:=x') (t:=t') (fp:=fp) (fq:=fq') h r,e,k=>by
  have hg:¬f=g:=λ z=>by subst z;simp [vX] at e
  have hb:(f == g)=false:=beq_eq_false_iff_ne.mpr hg
  simp only [vX,hb] at e
  have hgf:¬g=f:=λ z=>hg z.symm
  rw [show putA f u ((g,t') :: _)=(g,t') :: putA f u _ from if_neg hgf,show putF f y ((g,x') :: _)=(g,x') :: putF f y _ from if_neg hgf,wI]
  exact .cons (h.frame s λ b hb=>k b (by simp [hb])) (RtFs.add s hu r e λ b hb=>k b (by simp [hb]))
theorem RtFs.keys {F H:Hp} {xs:List (Str×V)} {ts:List (Str×T)} {fp:List Addr} (f:Str) (h:RtFs K F H xs ts fp):(ts.lookup f=none->xs.lookup f=none)/\(∀ t,ts.lookup f=some t->∃ x,xs.lookup f=some x)/\xs.length=ts.length :=
 (Rt.ind (P:=λ _ _ _=>True) (Q:=λ _ _ _=>True) (R:=λ xs ts _=>(ts.lookup f=none->xs.lookup f=none)/\(∀ t,ts.lookup f=some t->∃ x,xs.lookup f=some x)/\xs.length=ts.length)
  (λ _=>trivial) (λ _ _ _=>trivial) (λ _ _ _=>trivial) (λ _ _ _ _ _=>trivial) (λ _ _ _=>trivial) (λ _ _ _=>trivial) (λ _ _ _ _=>trivial) trivial (λ _ _ _ _=>trivial) trivial (λ _ _=>trivial) ⟨λ _=>rfl,(λ t e=>by cases e),rfl⟩
  λ {g x _ _ _ _ _} _ ⟨k1,k2,k3⟩=>by
   rw [vS,vS,k3,u4,u4]
   cases f == g with
  |true=>exact ⟨(λ e=>by cases e),λ _ _=>⟨x,rfl⟩,rfl⟩
  |false=>exact ⟨k1,k2,rfl⟩).2.2 h
theorem zd21 {F H:Hp} {x v:V} {t u:T} {p:Pth} (h:At H x t p v u):∀ {fp:List Addr},Rt K F H x t fp->fp.Nodup->∃ fn,Rt K F H v u fn/\(∀ a∈fn,a∈fp)/\fn.Nodup /\
  ∀ {F2 H2:Hp} {u2:T} {fq:List Addr},Same F F2->(∀ b∈fp,b ∉ fn->H2 b=H b/\F2 b=none)->Rt K F2 H2 v u2 fq->fq.Nodup->(∀ b∈fq,b∈fn \/ b ∉ fp)->∃ fp2,Rt K F2 H2 x (setP t p u2) fp2/\fp2.Nodup/\∀ b∈fp2,(b∈fp/\b ∉ fn) \/ b∈fq:=by
 induction h with
|nil =>
  intro fp hr nd
  refine ⟨fp,hr,λ a z=>z,nd,λ {F2 H2 u2 fq} _ _ h2 n2 _=>⟨fq,?_,n2,λ b hb=>.inr hb⟩⟩
  cases u2 <;> exact h2
|@ix a0 xs0 ts0 j0 x0 v0 t0 u0 p0 h1 h2 h3 _ ih =>
  intro fp hr nd
  cases hr with
 |ls g1 g2 g3 =>
   rw [h1] at g1;cases g1
   obtain ⟨fA,fj,fB,e,hj,rep⟩:=g3.split h2 h3
   subst e
   have ndR:=(uQ.mp nd).2
   have nA:=(uQ.mp nd).1
   obtain ⟨ndA,ndJB,djA⟩:=uW.mp ndR
   obtain ⟨ndj,ndB,djB⟩:=uW.mp ndJB
   obtain ⟨fn,hn,sub,ndn,back⟩:=ih hj ndj
   refine ⟨fn,hn,λ a ha=>by simp [sub a ha],ndn,λ {F2 H2 u2 fq} s k hu nq hq=>?_⟩
   obtain ⟨f2,r2,n2,m2⟩:=back s (λ b hb hnb=>k b (by simp [hb]) hnb) hu nq λ b hb=>by
    rcases hq b hb with z|z
    ·exact .inl z
    ·exact .inr λ y=>z (by simp [y])
   have notin:∀ b,b∈fA \/ b∈fB->b ∉ fn:=λ b hb hn'=>by
    have:=sub b hn'
    rcases hb with z|z
    ·exact djA b z b (by simp [this]) rfl
    ·exact djB b this b z rfl
   have rA:=rep s (λ b hb=>by
    have hb':=uF.mp hb
    refine k b (by rcases hb' with z|z <;> simp [z]) (notin b hb')) r2
   have hnotq:∀ b,(b∈fA \/ b∈fB \/ b=a0)->b ∉ fq:=λ b hb hbq=>by
    rcases hq b hbq with z|z
    ·rcases hb with y|y|y
     ·exact notin b (.inl y) z
     ·exact notin b (.inr y) z
     ·subst y;exact nA (by simp [sub _ z])
    ·apply z
     rcases hb with y|y|y
     ·simp [y]
     ·simp [y]
     ·simp [y]
   have ha2:=k _ (vN) (λ z=>nA (by simp [sub _ z]))
   refine ⟨a0 :: (fA++(f2++fB)),?_,?_,?_⟩
   ·unfold setP
    rw [h3]
    exact .ls (by rw [ha2.1];exact h1) ha2.2 rA
   ·refine uQ.mpr ⟨λ z=>?_,?_⟩
    ·rcases uF.mp z with y|y
     ·exact nA (by simp [y])
     ·rcases uF.mp y with y|y
      ·rcases m2 _ y with ⟨y1,_⟩|y1
       ·exact nA (by simp [y1])
       ·exact hnotq _ (.inr (.inr rfl)) y1
      ·exact nA (by simp [y])
    ·refine uW.mpr ⟨ndA,uW.mpr ⟨n2,ndB,λ a ha b hb=>?_⟩,λ a ha b hb=>?_⟩
     ·rcases m2 a ha with ⟨y,_⟩|y
      ·exact djB a y b hb
      ·intro z;subst z;exact hnotq a (.inr (.inl hb)) y
     ·rcases uF.mp hb with y|y
      ·rcases m2 b y with ⟨y,_⟩|y
       ·exact djA a ha b (by simp [y])
       ·intro z;subst z;exact hnotq a (.inl ha) y
      ·exact djA a ha b (by simp [y])
   ·intro b hb
    rcases uD.mp hb with y|y
    ·subst y;exact .inl ⟨by simp,λ z=>nA (by simp [sub _ z])⟩
    ·rcases uF.mp y with y|y
     ·exact .inl ⟨by simp [y],notin b (.inl y)⟩
     ·rcases uF.mp y with y|y
      ·rcases m2 b y with ⟨y1,y2⟩|y1
       ·exact .inl ⟨by simp [y1],y2⟩
       ·exact .inr y1
      ·exact .inl ⟨by simp [y],notin b (.inr y)⟩
|@tx a0 xs0 ts0 j0 x0 v0 t0 u0 p0 h1 h2 h3 _ ih =>
  intro fp hr nd
  cases hr with
 |tp g1 g2 gk g3 =>
   rw [h1] at g1;cases g1
   obtain ⟨fA,fj,fB,e,hj,rep⟩:=g3.split h2 h3
   subst e
   have ndR:=(uQ.mp nd).2
   have nA:=(uQ.mp nd).1
   obtain ⟨ndA,ndJB,djA⟩:=uW.mp ndR
   obtain ⟨ndj,ndB,djB⟩:=uW.mp ndJB
   obtain ⟨fn,hn,sub,ndn,back⟩:=ih hj ndj
   refine ⟨fn,hn,λ a ha=>by simp [sub a ha],ndn,λ {F2 H2 u2 fq} s k hu nq hq=>?_⟩
   obtain ⟨f2,r2,n2,m2⟩:=back s (λ b hb hnb=>k b (by simp [hb]) hnb) hu nq λ b hb=>by
    rcases hq b hb with z|z
    ·exact .inl z
    ·exact .inr λ y=>z (by simp [y])
   have notin:∀ b,b∈fA \/ b∈fB->b ∉ fn:=λ b hb hn'=>by
    have:=sub b hn'
    rcases hb with z|z
    ·exact djA b z b (by simp [this]) rfl
    ·exact djB b this b z rfl
   have rA:=rep s (λ b hb=>by
    have hb':=uF.mp hb
    refine k b (by rcases hb' with z|z <;> simp [z]) (notin b hb')) r2
   have hnotq:∀ b,(b∈fA \/ b∈fB \/ b=a0)->b ∉ fq:=λ b hb hbq=>by
    rcases hq b hbq with z|z
    ·rcases hb with y|y|y
     ·exact notin b (.inl y) z
     ·exact notin b (.inr y) z
     ·subst y;exact nA (by simp [sub _ z])
    ·apply z
     rcases hb with y|y|y
     ·simp [y]
     ·simp [y]
     ·simp [y]
   have ha2:=k _ (vN) (λ z=>nA (by simp [sub _ z]))
   refine ⟨a0 :: (fA++(f2++fB)),?_,?_,?_⟩
   ·unfold setP
    rw [h3]
    exact .tp (by rw [ha2.1];exact h1) ha2.2 gk rA
   ·refine uQ.mpr ⟨λ z=>?_,?_⟩
    ·rcases uF.mp z with y|y
     ·exact nA (by simp [y])
     ·rcases uF.mp y with y|y
      ·rcases m2 _ y with ⟨y1,_⟩|y1
       ·exact nA (by simp [y1])
       ·exact hnotq _ (.inr (.inr rfl)) y1
      ·exact nA (by simp [y])
    ·refine uW.mpr ⟨ndA,uW.mpr ⟨n2,ndB,λ a ha b hb=>?_⟩,λ a ha b hb=>?_⟩
     ·rcases m2 a ha with ⟨y,_⟩|y
      ·exact djB a y b hb
      ·intro z;subst z;exact hnotq a (.inr (.inl hb)) y
     ·rcases uF.mp hb with y|y
      ·rcases m2 b y with ⟨y,_⟩|y
       ·exact djA a ha b (by simp [y])
       ·intro z;subst z;exact hnotq a (.inl ha) y
      ·exact djA a ha b (by simp [y])
   ·intro b hb
    rcases uD.mp hb with y|y
    ·subst y;exact .inl ⟨by simp,λ z=>nA (by simp [sub _ z])⟩
    ·rcases uF.mp y with y|y
     ·exact .inl ⟨by simp [y],notin b (.inl y)⟩
     ·rcases uF.mp y with y|y
      ·rcases m2 b y with ⟨y1,y2⟩|y1
       ·exact .inl ⟨by simp [y1],y2⟩
       ·exact .inr y1
      ·exact .inl ⟨by simp [y],notin b (.inr y)⟩
|@fl a0 C0 dx0 fs0 ts0 f0 x0 v0 t0 u0 p0 h1 h2 h3 _ ih =>
  intro fp hr nd
  cases hr with
 |ob g1 g2 g3 g4 g5 =>
   rw [h1] at g1;cases g1
   obtain ⟨fA,fj,fB,e,hj,rep,_⟩:=g5.split h2 h3
   subst e
   have nd1:=uQ.mp nd
   have nd2:=uQ.mp nd1.2
   have ndR:=nd2.2
   have nA:_ ∉ fA++(fj++fB):=λ z=>nd1.1 (u9 _ z)
   have nX:=nd2.1
   obtain ⟨ndA,ndJB,djA⟩:=uW.mp ndR
   obtain ⟨ndj,ndB,djB⟩:=uW.mp ndJB
   obtain ⟨fn,hn,sub,ndn,back⟩:=ih hj ndj
   refine ⟨fn,hn,λ a ha=>by simp [sub a ha],ndn,λ {F2 H2 u2 fq} s k hu nq hq=>?_⟩
   obtain ⟨f2,r2,n2,m2⟩:=back s (λ b hb hnb=>k b (by simp [hb]) hnb) hu nq λ b hb=>by
    rcases hq b hb with z|z
    ·exact .inl z
    ·exact .inr λ y=>z (by simp [y])
   have notin:∀ b,b∈fA \/ b∈fB->b ∉ fn:=λ b hb hn'=>by
    have:=sub b hn'
    rcases hb with z|z
    ·exact djA b z b (by simp [this]) rfl
    ·exact djB b this b z rfl
   have rA:=rep s (λ b hb=>by
    have hb':=uF.mp hb
    refine k b (by rcases hb' with z|z <;> simp [z]) (notin b hb')) r2
   have hnotq:∀ b,(b∈fA \/ b∈fB)->b ∉ fq:=λ b hb hbq=>by
    rcases hq b hbq with z|z
    ·exact notin b hb z
    ·apply z
     rcases hb with y|y <;> simp [y]
   have hnq2:∀ b,b∈fn->b∈fA++(fj++fB):=λ b hb=>by simp [sub _ hb]
   have ha2:=k _ (vN) (λ z=>nA (hnq2 _ z))
   have hx2:=k _ (u9 _ vN) (λ z=>nX (hnq2 _ z))
   have hf2:∀ b∈f2,b∈fj \/ b∈fq:=λ b hb=>by
    rcases m2 b hb with ⟨y,_⟩|y
    ·exact .inl y
    ·exact .inr y
   refine ⟨a0 :: dx0 :: (fA++(f2++fB)),?_,?_,?_⟩
   ·unfold setP
    rw [h3]
    exact .ob (by rw [ha2.1];exact h1) (by rw [hx2.1];exact g2) ha2.2 hx2.2 rA
   ·have inR:∀ b,b∈fA++(f2++fB)->b∈fA++(fj++fB) \/ b∈fq:=λ b hb=>by
     rcases uF.mp hb with y|y
     ·exact .inl (by simp [y])
     ·rcases uF.mp y with y|y
      ·rcases hf2 b y with y|y
       ·exact .inl (by simp [y])
       ·exact .inr y
      ·exact .inl (by simp [y])
    refine uQ.mpr ⟨λ z=>?_,uQ.mpr ⟨λ z=>?_,?_⟩⟩
    ·rcases uD.mp z with y|y
     ·exact nd1.1 (by rw [y];simp)
     ·rcases inR _ y with y|y
      ·exact nA y
      ·rcases hq _ y with w|w
       ·exact nA (hnq2 _ w)
       ·exact w (by simp)
    ·rcases inR _ z with y|y
     ·exact nX y
     ·rcases hq _ y with w|w
      ·exact nX (hnq2 _ w)
      ·exact w (by simp)
    ·refine uW.mpr ⟨ndA,uW.mpr ⟨n2,ndB,λ a ha b hb=>?_⟩,λ a ha b hb=>?_⟩
     ·rcases m2 a ha with ⟨y,_⟩|y
      ·exact djB a y b hb
      ·intro z;subst z;exact hnotq a (.inr hb) y
     ·rcases uF.mp hb with y|y
      ·rcases m2 b y with ⟨y,_⟩|y
       ·exact djA a ha b (by simp [y])
       ·intro z;subst z;exact hnotq a (.inl ha) y
      ·exact djA a ha b (by simp [y])
   ·intro b hb
    rcases uD.mp hb with y|y
    ·subst y;exact .inl ⟨by simp,λ z=>nA (hnq2 _ z)⟩
    ·rcases uD.mp y with y|y
     ·subst y;exact .inl ⟨by simp,λ z=>nX (hnq2 _ z)⟩
     ·rcases uF.mp y with y|y
      ·exact .inl ⟨by simp [y],notin b (.inl y)⟩
      ·rcases uF.mp y with y|y
       ·rcases m2 b y with ⟨y1,y2⟩|y1
        ·exact .inl ⟨by simp [y1],y2⟩
        ·exact .inr y1
       ·exact .inl ⟨by simp [y],notin b (.inr y)⟩
end
noncomputable def AtS (H:Hp) (Y:_2.St) (U:DSt) (i:Nat) (p:Pth) (v:V) (u:T):Prop:=∃ s t x,U[i]?=some s/\s.tree=some t/\Y.getD i none=some x/\At H x t p v u
noncomputable abbrev DP:=DSt->(Nat->Pth->T->Prop)->Prop
noncomputable def RfP (K:Fg) (te:TE) (dp:DP):Prop:=∀ {F H:Hp} {Y:_2.St} {U:DSt} {Qd:Nat->Pth->T->Prop} {Q:VK},Same F H->RV K F H Y U->dp U Qd->(∀ i p u,Qd i p u->∀ v F' H',Ext F H F' H'->AtS H' Y U i p v u->Q v H')->te Y H Q
section
variable {K:Fg} {te ti:TE} {dp:DP} {di:DE}
theorem zv81 {F H:Hp} {x v:V} {t u:T} {p:Pth} (h:At H x t p v u):∀ {fp:List Addr},Rt K F H x t fp->∃ fn,Rt K F H v u fn:=by
 induction h with
|nil=>intro fp hr;exact ⟨fp,hr⟩
|ix h1 h2 h3 _ ih =>
  intro fp hr
  cases hr with
 |ls g1 g2 g3 =>
   rw [h1] at g1;cases g1
   obtain ⟨fA,fj,fB,e,hj,_⟩:=g3.split h2 h3
   exact ih hj
|tx h1 h2 h3 _ ih =>
  intro fp hr
  cases hr with
 |tp g1 g2 gk g3 =>
   rw [h1] at g1;cases g1
   obtain ⟨fA,fj,fB,e,hj,_⟩:=g3.split h2 h3
   exact ih hj
|fl h1 h2 h3 _ ih =>
  intro fp hr
  cases hr with
 |ob g1 g2 g3 g4 g5 =>
   rw [h1] at g1;cases g1
   obtain ⟨fA,fj,fB,e,hj,_⟩:=g5.split h2 h3
   exact ih hj
theorem AtS.rt {F H:Hp} {Y:_2.St} {U:DSt} {i:Nat} {p:Pth} {v:V} {u:T} (h:AtS H Y U i p v u) (r:RV K F H Y U):∃ fn,Rt K F H v u fn:=by
 obtain ⟨s,t,x,h1,h2,h3,h4⟩:=h
 obtain ⟨y,fp,e,hr,_⟩:=(r.sl i s h1).rt h2
 rw [h3] at e;cases e
 exact zv81 h4 hr
theorem AtS.mono {H H':Hp} {Y:_2.St} {U:DSt} {i:Nat} {p:Pth} {v:V} {u:T} (s:Same H H') (h:AtS H Y U i p v u):AtS H' Y U i p v u:=by
 obtain ⟨s',t,x,h1,h2,h3,h4⟩:=h
 exact ⟨s',t,x,h1,h2,h3,h4.mono s⟩
noncomputable def pVar (i:Nat):DP:=λ U Q=>∃ s t,U[i]?=some s/\s.tree=some t/\Q i [] t
theorem zm0 (i:Nat):RfP K (tVar i) (pVar i):=by
 intro F H Y U Qd Q s r h k
 obtain ⟨sl,t,q,et,f⟩:=h
 obtain ⟨x,fp,e,hr,_⟩:=(r.sl i _ q).rt et
 exact ⟨x,zg2 (F:=F) (H:=H) (U:=U) e,k i [] t f x F H (Ext.refl s) ⟨sl,t,x,q,et,e,.nil⟩⟩
noncomputable def nFld (f:Str) (u:T) (Q:T->Prop):Prop:=match u with
|.ob _ fs=>∃ t,fs.lookup f=some t/\Q t
|_=>False
noncomputable def nCls (C:Addr) (u:T):Prop:=match u with
|.ob C' _=>C'=C
|_=>False
noncomputable def pFld (C:Addr) (f:Str) (dp:DP):DP:=λ U Q=>dp U λ i p u=>nCls C u/\nFld f u λ t=>Q i (p++[.fl f]) t
theorem zk4 {C:Addr} {f:Str} (c:Cls K C) (na:NoAttr K C f) (h:RfP K te dp):RfP K (zx61 K te f) (pFld C f dp):=by
 intro F H Y U Qd Q s r hd k
 refine h s r hd λ i p u hu v F1 H1 e1 at1=>?_
 obtain ⟨hc,hf⟩:=hu
 obtain ⟨fn,hr⟩:=at1.rt (r.ext e1)
 cases hr with
|ob g1 g2 g3 g4 g5 =>
  cases (show _=C from hc)
  obtain ⟨t,et,q⟩:=hf
  obtain ⟨y,ey⟩:=(g5.keys f).2.1 t et
  refine ⟨_,_,_,_,y,rfl,g1,c,na,ey,k i _ t q y F1 H1 e1 ?_⟩
  obtain ⟨sl,t0,x,a1,a2,a3,a4⟩:=at1
  exact ⟨sl,t0,x,a1,a2,a3,a4.snoc_fl g1 ey et⟩
|fz _=>exact hc.elim
|li _ _ _=>exact hc.elim
|ls _ _ _=>exact hc.elim
|dk _ _ _=>exact hc.elim
|dt _ _ _=>exact hc.elim
|tp _ _ _ _=>exact hc.elim
|wh=>exact hc.elim
|dd _ _ _ _=>exact hc.elim
noncomputable def nIx (u:T) (k:D) (Q:Nat->T->Prop):Prop:=match u,k with
|.ls ts,.int z=>∃ j t,ixN ts.length z=some j/\ts[j]?=some t/\Q j t
|.tp ts,.int z=>∃ j t,ixN ts.length z=some j/\ts[j]?=some t/\Q j t
|_,_=>False
noncomputable def pIx (dp:DP) (di:DE):DP:=λ U Q=>dp U λ i p u=>di U λ k=>nIx u k λ j t=>Q i (p++[.ix j]) t
theorem zkn {w:World} (h:RfP K te dp) (hi:RfE K ti di):RfP K (tOp (rIxV w K) te ti) (pIx dp di):=by
 intro F H Y U Qd Q s r hd k
 refine h s r hd λ i p u hu v F1 H1 e1 at1=>hi e1.fh (r.ext e1) hu λ kd hk kv F2 H2 e2 i2=>?_
 have e12:=e1.trans e2
 have at2:=at1.mono e2.h
 obtain ⟨fn,hr⟩:=at2.rt (r.ext e12)
 unfold nIx at hk
 split at hk
 ·rename_i ts z
  obtain ⟨j,t,ej,et,q⟩:=hk
  cases i2.int_inv
  cases hr with
 |ls g1 g2 g3 =>
   have el:=g3.len
   have hj:j < ts.length:=by
    rcases vI j ts.length with y|y
    ·exact y
    ·rw [vC y] at et;cases et
   rename_i a xs fp
   obtain ⟨y,hx⟩:∃ y,xs[j]?=some y:=⟨xs[j]'(by lia),uC _⟩
   refine .inl (.inl (.inl ⟨a,xs,z,y,rfl,rfl,SqL.of g1,?_,k i _ t q _ F2 H2 e12 ?_⟩))
   ·unfold atI
    rw [el,ej]
    exact hx
   ·obtain ⟨sl,t0,x,a1,a2,a3,a4⟩:=at2
    exact ⟨sl,t0,x,a1,a2,a3,a4.snoc_ix (y:=x) g1 hx et⟩
 ·rename_i ts z
  obtain ⟨j,t,ej,et,q⟩:=hk
  cases i2.int_inv
  cases hr with
 |tp g1 g2 gk g3 =>
   have el:=g3.len
   have hj:j < ts.length:=by
    rcases vI j ts.length with y|y
    ·exact y
    ·rw [vC y] at et;cases et
   rename_i a xs fp
   obtain ⟨y,hx⟩:∃ y,xs[j]?=some y:=⟨xs[j]'(by lia),uC _⟩
   refine .inl (zj71 (SqT.of g1) (v:=y) ?_ (k i _ t q _ F2 H2 e12 ?_))
   ·unfold atI
    rw [el,ej]
    exact hx
   ·obtain ⟨sl,t0,x,a1,a2,a3,a4⟩:=at2
    exact ⟨sl,t0,x,a1,a2,a3,a4.snoc_tx (y:=x) g1 hx et⟩
 ·exact hk.elim
noncomputable def dPV (dp:DP):DE:=λ U Q=>dp U λ _ _ u=>vwT u Q
noncomputable def dPE (dp:DP):DE:=λ U Q=>dp U λ _ _ u=>fzT u Q
theorem RfP.v (h:RfP K te dp):RfV K te (dPV dp):=λ s r d k=>h s r d λ i p u hu v F1 H1 e1 at1=>by
 obtain ⟨fn,hr⟩:=at1.rt (r.ext e1)
 obtain ⟨d,qd,vw⟩:=zo61 hr hu
 exact k d qd v F1 H1 e1 vw
theorem RfP.e (h:RfP K te dp):RfE K te (dPE dp):=λ s r d k=>h s r d λ i p u hu v F1 H1 e1 at1=>by
 obtain ⟨fn,hr⟩:=at1.rt (r.ext e1)
 obtain ⟨d,qd,vw⟩:=zhv hr hu
 exact k d qd v F1 H1 e1 vw
end
structure Bs where
 F0:Hp
 H0:Hp
 G:List Addr
noncomputable def Sl.own:Sl->Bool
|.ow _=>true
|.io _ _=>true
|_=>false
noncomputable def Sl.has:Sl->Bool
|.ow _=>true
|.io _ _=>true
|.bo _=>true
|_=>false
noncomputable def Sl.wth:Sl->T->Sl
|.ow _,u=>.ow u
|.io a _,u=>.io a u
|s,_=>s
structure RS (K:Fg) (B:Bs) (F H:Hp) (Y:_2.St) (U:DSt) (fps:Nat->List Addr):Prop where
 hh:∀ b o,b ∉ B.G->B.H0 b=some o->H b=some o
 ff:Same B.F0 F
 fh:Same F H
 nw:∀ b,HD (B.H0 b)->B.F0 b=none->F b=none
 al:∀ b,(B.H0 b≠none->H b≠none)/\(HD (B.H0 b)->HD (H b))
 len:Y.length=U.length
 sh:∀ (i:Nat) d,U[i]?=some (.sh d)->∃ x,Y.getD i none=some x/\Is K F x d
 rt:∀ (i:Nat) s,U[i]?=some s->s.has=true->∃ x t,Y.getD i none=some x/\s.tree=some t/\Rt K F H x t (fps i)/\(∀ a u,s=.io a u->x=.ref a)/\(fps i).Nodup
 fr:∀ (i:Nat) s,U[i]?=some s->s.own=true->∀ a∈fps i,B.H0 a=none \/ (a∈B.G/\∀ t,s≠.ow t)
 dj:∀ (i j:Nat) s s',i≠j->U[i]?=some s->U[j]?=some s'->s.own=true->s'.has=true->∀ a∈fps i,a ∉ fps j
section
variable {K:Fg} {B:Bs} {F H F' H':Hp} {Y:_2.St} {U:DSt} {fps:Nat->List Addr}
theorem zt3:∀ {s:Sl},s.own=true->s.has=true
|.ow _,_=>rfl
|.io _ _,_=>rfl
|.un,e=>by cases e
|.sh _,e=>by cases e
|.bo _,e=>by cases e
theorem RS.rv (r:RS K B F H Y U fps):RV K F H Y U:=⟨r.len,λ i s e=>by
 cases s with
|un=>trivial
|sh d=>exact r.sh i d e
|ow t =>
  obtain ⟨x,t',h1,h2,h3,h4,h5⟩:=r.rt i _ e rfl
  cases h2;exact ⟨x,_,h1,h3,h5⟩
|bo t =>
  obtain ⟨x,t',h1,h2,h3,h4,h5⟩:=r.rt i _ e rfl
  cases h2;exact ⟨x,_,h1,h3,h5⟩
|io a t =>
  obtain ⟨x,t',h1,h2,h3,h4,h5⟩:=r.rt i _ e rfl
  cases h2
  cases h4 a t rfl
  exact ⟨_,h1,h3,h5⟩⟩
theorem RS.grow (r:RS K B F H Y U fps) (e:Ext F H F' H'):RS K B F' H' Y U fps where
 hh:=λ b o hb ho=>e.h b o (r.hh b o hb ho)
 ff:=r.ff.trans e.f
 fh:=e.fh
 nw:=λ b hb fb=>e.nw b ((r.al b).2 hb) (r.nw b hb fb)
 al:=λ b=>⟨(λ hb z=>by
  cases q:H b with
 |none=>exact (r.al b).1 hb q
 |some o=>rw [e.h b o q] at z;cases z),λ h=>((r.al b).2 h).mono e.h⟩
 len:=r.len
 sh:=λ i d h=>by obtain ⟨x,h1,h2⟩:=r.sh i d h;exact ⟨x,h1,h2.mono e.f⟩
 rt:=λ i s h1 h2=>by obtain ⟨x,t,a1,a2,a3,a4,a5⟩:=r.rt i s h1 h2;exact ⟨x,t,a1,a2,a3.ext e,a4,a5⟩
 fr:=r.fr
 dj:=r.dj
theorem RS.setS (r:RS K B F H Y U fps) {i:Nat} {v:V} {d:D} (h:Is K F v d):RS K B F H (Y.set i (some v)) (U.set i (.sh d)) fps:=by
 have key:∀ (j:Nat) s,(U.set i (.sh d))[j]?=some s->(j=i/\s=.sh d/\(Y.set i (some v)).getD j none=some v) \/ (j≠i/\U[j]?=some s/\(Y.set i (some v)).getD j none=Y.getD j none):=λ j s e=>by
  rw [vU] at e
  by_cases hij:i=j
  ·subst hij
   by_cases hl:i < U.length
   ·simp [hl] at e;exact .inl ⟨rfl,e.symm,by rw [zx5,r.len,if_pos ⟨rfl,hl⟩]⟩
   ·simp [hl] at e
  ·simp [hij] at e
   exact .inr ⟨λ z=>hij z.symm,e,by rw [zx5,if_neg (by lia)]⟩
 refine ⟨r.hh,r.ff,r.fh,r.nw,r.al,by rw [uU,uU];exact r.len,λ j d' e=>?_,λ j s e hs=>?_,λ j s e hs=>?_,λ j k s s' hjk e1 e2 o1 o2=>?_⟩
 ·rcases key j _ e with ⟨_,e2,e3⟩|⟨_,e2,e3⟩
  ·cases e2;exact ⟨v,e3,h⟩
  ·obtain ⟨x,h1,h2⟩:=r.sh j d' e2;exact ⟨x,by rw [e3];exact h1,h2⟩
 ·rcases key j _ e with ⟨_,e2,e3⟩|⟨_,e2,e3⟩
  ·rw [e2] at hs;cases hs
  ·rw [e3];exact r.rt j s e2 hs
 ·rcases key j _ e with ⟨_,e2,e3⟩|⟨_,e2,e3⟩
  ·rw [e2] at hs;cases hs
  ·exact r.fr j s e2 hs
 ·rcases key j _ e1 with ⟨_,z,_⟩|⟨_,z1,_⟩
  ·rw [z] at o1;cases o1
  ·rcases key k _ e2 with ⟨_,z,_⟩|⟨_,z2,_⟩
   ·rw [z] at o2;cases o2
   ·exact r.dj j k s s' hjk z1 z2 o1 o2
theorem RS.byUpd {n:Nat} {Y':_2.St} {U':DSt} (u:Upd K F n Y U Y' U') (r:RS K B F H Y U fps):RS K B F H Y' U' fps:=by
 induction u with
|refl=>exact r
|set hi hv _ ih=>exact ih (r.setS hv)
theorem RS.forget (r:RS K B F H Y U fps) (i:Nat):RS K B F H Y (U.set i .un) fps:=by
 have key:∀ (j:Nat) s,(U.set i .un)[j]?=some s->s=.un \/ (j≠i/\U[j]?=some s):=λ j s e=>by
  rw [vU] at e
  by_cases hij:i=j
  ·subst hij
   by_cases hl:i < U.length
   ·simp [hl] at e;exact .inl e.symm
   ·simp [hl] at e
  ·simp [hij] at e;exact .inr ⟨λ z=>hij z.symm,e⟩
 refine ⟨r.hh,r.ff,r.fh,r.nw,r.al,by rw [uU];exact r.len,λ j d' e=>?_,λ j s e hs=>?_,λ j s e hs=>?_,λ j k s s' hjk e1 e2 o1 o2=>?_⟩
 ·rcases key j _ e with z|⟨_,z⟩
  ·cases z
  ·exact r.sh j d' z
 ·rcases key j _ e with z|⟨_,z⟩
  ·rw [z] at hs;cases hs
  ·exact r.rt j s z hs
 ·rcases key j _ e with z|⟨_,z⟩
  ·rw [z] at hs;cases hs
  ·exact r.fr j s z hs
 ·rcases key j _ e1 with z|⟨_,z1⟩
  ·rw [z] at o1;cases o1
  ·rcases key k _ e2 with z|⟨_,z2⟩
   ·rw [z] at o2;cases o2
   ·exact r.dj j k s s' hjk z1 z2 o1 o2
noncomputable def zcz (B:Bs) (U:DSt) (fps:Nat->List Addr) (b:Addr):Prop:=B.H0 b=none/\∀ (j:Nat) s,U[j]?=some s->s.has=true->b ∉ fps j
theorem RS.newOk (r:RS K B F H Y U fps) {b:Addr} (h:H b=none):zcz B U fps b:=by
 refine ⟨?_,λ j s ej hs hb=>?_⟩
 ·by_cases z:B.H0 b=none
  ·exact z
  ·exact absurd h ((r.al b).1 z)
 ·obtain ⟨x,t,a1,a2,a3,a4,a5⟩:=r.rt j s ej hs
  exact (a3.dom b hb).1 h
theorem RS.upd2 (r:RS K B F H Y U fps) {i:Nat} {s:Sl} {x:V} {t2:T} {fp2:List Addr} {F2 H2:Hp} (hi:U[i]?=some s) (ho:s.own=true) (hx:Y.getD i none=some x)
  (c1:∀ b o,b ∉ fps i->H b=some o->H2 b=some o) (c2:Same F F2) (c3:Same F2 H2) (c4:∀ b,HD (H b)->F b=none->b ∉ fps i->F2 b=none) (c5:∀ b,(H b≠none->H2 b≠none)/\(HD (H b)->HD (H2 b)))
  (h2:Rt K F2 H2 x t2 fp2) (n2:fp2.Nodup) (m2:∀ b∈fp2,b∈fps i \/ zcz B U fps b) (c6:∀ b∈fps i,F2 b≠none->B.H0 b=none) :
  RS K B F2 H2 Y (U.set i (s.wth t2)) (λ j=>if j=i then fp2 else fps j):=by
 have hlt:i < U.length:=by
  rcases vI i U.length with z|z
  ·exact z
  ·rw [vC z] at hi;cases hi
 have hs:=zt3 ho
 have wo:(s.wth t2).own=true/\(s.wth t2).has=true/\(s.wth t2).tree=some t2:=by
  cases s with
 |ow _=>exact ⟨rfl,rfl,rfl⟩
 |io _ _=>exact ⟨rfl,rfl,rfl⟩
 |un=>cases ho
 |sh _=>cases ho
 |bo _=>cases ho
 have key:∀ (j:Nat) s',(U.set i (s.wth t2))[j]?=some s'->(j=i/\s'=s.wth t2) \/ (j≠i/\U[j]?=some s'):=λ j s' e=>by
  rw [vU] at e
  by_cases hij:i=j
  ·subst hij;simp [hlt] at e;exact .inl ⟨rfl,e.symm⟩
  ·simp [hij] at e;exact .inr ⟨λ z=>hij z.symm,e⟩
 have old:∀ b∈fps i,H b≠none/\F b=none:=by
  obtain ⟨x',t',a1,a2,a3,a4,a5⟩:=r.rt i s hi hs
  exact a3.dom
 have own0:=r.fr i s hi ho
 refine ⟨λ b o hb h0=>?_,r.ff.trans c2,c3,λ b hb fb=>?_,λ b=>⟨λ hb=>(c5 b).1 ((r.al b).1 hb),λ hb=>(c5 b).2 ((r.al b).2 hb)⟩,by rw [uU];exact r.len,λ j d e=>?_,λ j s' e hs'=>?_,λ j s' e ho' a ha=>?_,λ j k s1 s2 hjk e1 e2 o1 o2 a ha=>?_⟩
 ·refine c1 b o (λ z=>?_) (r.hh b o hb h0)
  rcases own0 b z with y|y
  ·rw [y] at h0;cases h0
  ·exact hb y.1
 ·by_cases hbi:b∈fps i
  ·cases z:F2 b with
  |none=>rfl
  |some o=>exact absurd (c6 b hbi (by rw [z];simp)) hb.1
  ·exact c4 b ((r.al b).2 hb) (r.nw b hb fb) hbi
 ·rcases key j _ e with ⟨_,z⟩|⟨_,z⟩
  ·rw [<- z] at wo;cases wo.1
  ·obtain ⟨y,h1,h2⟩:=r.sh j d z;exact ⟨y,h1,h2.mono c2⟩
 ·rcases key j _ e with ⟨zj,z⟩|⟨zj,z⟩
  ·subst zj
   rw [if_pos rfl]
   refine ⟨x,t2,hx,by rw [z];exact wo.2.2,h2,λ a u e'=>?_,n2⟩
   obtain ⟨x',t',a1,a2,a3,a4,a5⟩:=r.rt j s hi hs
   rw [hx] at a1;cases a1
   cases s with
  |ow _=>rw [z] at e';cases e'
  |io a' u'=>rw [z] at e';cases e';exact a4 _ _ rfl
  |un=>cases ho
  |sh _=>cases ho
  |bo _=>cases ho
  ·rw [if_neg zj]
   obtain ⟨y,t',a1,a2,a3,a4,a5⟩:=r.rt j s' z hs'
   refine ⟨y,t',a1,a2,a3.frame c2 λ a ha=>?_,a4,a5⟩
   obtain ⟨d1,d2⟩:=a3.dom a ha
   have na:a ∉ fps i:=λ w=>r.dj i j s s' (λ q=>zj q.symm) hi z ho hs' a w ha
   cases q:H a with
  |none=>exact absurd q d1
  |some o=>exact ⟨c1 a o na q,c4 a (a3.hdd a ha) d2 na⟩
 ·rcases key j _ e with ⟨zj,z⟩|⟨zj,z⟩
  ·rw [if_pos zj] at ha
   rcases m2 a ha with y|y
   ·rcases own0 a y with w|⟨w1,w2⟩
    ·exact .inl w
    ·refine .inr ⟨w1,λ t et=>?_⟩
     rw [z] at et
     cases s with
    |ow t'=>exact w2 t' rfl
    |io _ _=>cases et
    |un=>cases ho
    |sh _=>cases ho
    |bo _=>cases ho
   ·exact .inl y.1
  ·rw [if_neg zj] at ha;exact r.fr j s' z ho' a ha
 ·rcases key j _ e1 with ⟨zj,z1⟩|⟨zj,z1⟩ <;> rcases key k _ e2 with ⟨zk,z2⟩|⟨zk,z2⟩
  ·exact absurd (zj.trans zk.symm) hjk
  ·rw [if_pos zj] at ha;rw [if_neg zk]
   subst zj
   rcases m2 a ha with y|y
   ·exact r.dj j k s s2 hjk hi z2 ho o2 a y
   ·exact y.2 k s2 z2 o2
  ·rw [if_neg zj] at ha;rw [if_pos zk]
   subst zk
   intro w
   rcases m2 a w with y|y
   ·exact r.dj j k s1 s hjk z1 hi o1 hs a ha y
   ·exact y.2 j s1 z1 (zt3 o1) ha
  ·rw [if_neg zj] at ha;rw [if_neg zk]
   exact r.dj j k s1 s2 hjk z1 z2 o1 o2 a ha
theorem RS.setT (r:RS K B F H Y U fps) {i:Nat} {v:V} {t:T} {fp:List Addr} (h:Rt K F H v t fp) (nd:fp.Nodup) (hf:∀ a∈fp,B.H0 a=none) (hd:∀ (j:Nat) s,U[j]?=some s->s.has=true->∀ a∈fps j,a ∉ fp) :
  RS K B F H (Y.set i (some v)) (U.set i (.ow t)) (λ j=>if j=i then fp else fps j):=by
 have key:∀ (j:Nat) s,(U.set i (.ow t))[j]?=some s->(j=i/\s=.ow t/\(Y.set i (some v)).getD j none=some v) \/ (j≠i/\U[j]?=some s/\(Y.set i (some v)).getD j none=Y.getD j none):=λ j s e=>by
  rw [vU] at e
  by_cases hij:i=j
  ·subst hij
   by_cases hl:i < U.length
   ·simp [hl] at e;exact .inl ⟨rfl,e.symm,by rw [zx5,r.len,if_pos ⟨rfl,hl⟩]⟩
   ·simp [hl] at e
  ·simp [hij] at e
   exact .inr ⟨λ z=>hij z.symm,e,by rw [zx5,if_neg (by lia)]⟩
 refine ⟨r.hh,r.ff,r.fh,r.nw,r.al,by rw [uU,uU];exact r.len,λ j d' e=>?_,λ j s e hs=>?_,λ j s e hs a ha=>?_,λ j k s s' hjk e1 e2 o1 o2 a ha=>?_⟩
 ·rcases key j _ e with ⟨_,e2,e3⟩|⟨_,e2,e3⟩
  ·cases e2
  ·obtain ⟨x,h1,h2⟩:=r.sh j d' e2;exact ⟨x,by rw [e3];exact h1,h2⟩
 ·rcases key j _ e with ⟨zj,e2,e3⟩|⟨zj,e2,e3⟩
  ·rw [if_pos zj,e3,e2];exact ⟨v,t,rfl,rfl,h,λ a u z=>(by cases z),nd⟩
  ·rw [if_neg zj,e3];exact r.rt j s e2 hs
 ·rcases key j _ e with ⟨zj,e2,e3⟩|⟨zj,e2,e3⟩
  ·rw [if_pos zj] at ha;exact .inl (hf a ha)
  ·rw [if_neg zj] at ha;exact r.fr j s e2 hs a ha
 ·rcases key j _ e1 with ⟨zj,z1,_⟩|⟨zj,z1,_⟩ <;> rcases key k _ e2 with ⟨zk,z2,_⟩|⟨zk,z2,_⟩
  ·exact absurd (zj.trans zk.symm) hjk
  ·rw [if_pos zj] at ha;rw [if_neg zk]
   exact λ w=>hd k s' z2 o2 a w ha
  ·rw [if_neg zj] at ha;rw [if_pos zk]
   exact hd j s z1 (zt3 o1) a ha
  ·rw [if_neg zj] at ha;rw [if_neg zk]
   exact r.dj j k s s' hjk z1 z2 o1 o2 a ha
theorem RS.put (r:RS K B F H Y U fps) {i:Nat} {s:Sl} {p:Pth} {v:V} {u:T} (hi:U[i]?=some s) (ho:s.own=true) (ha:AtS H Y U i p v u) :
  ∃ fn t,s.tree=some t/\Rt K F H v u fn/\fn.Nodup/\(∀ a∈fn,a∈fps i)/\∀ {F2 H2:Hp} {u2:T} {fq:List Addr},
   (∀ b o,b ∉ fn->H b=some o->H2 b=some o)->Same F F2->Same F2 H2->(∀ b,HD (H b)->F b=none->b ∉ fn->F2 b=none)->(∀ b,(H b≠none->H2 b≠none)/\(HD (H b)->HD (H2 b)))->(∀ b∈fn,F2 b≠none->B.H0 b=none) ->
   Rt K F2 H2 v u2 fq->fq.Nodup->(∀ b∈fq,b∈fn \/ zcz B U fps b)->∃ fps2,RS K B F2 H2 Y (U.set i (s.wth (setP t p u2))) fps2/\(∀ j,j≠i->fps2 j=fps j)/\∀ b∈fps2 i,b∈fps i \/ b∈fq:=by
 obtain ⟨s',t,x,h1,h2,h3,h4⟩:=ha
 rw [hi] at h1;cases h1
 obtain ⟨x',t',a1,a2,a3,a4,a5⟩:=r.rt i s hi (zt3 ho)
 rw [h3] at a1;cases a1
 rw [h2] at a2;cases a2
 obtain ⟨fn,hn,sub,ndn,back⟩:=zd21 h4 a3 a5
 refine ⟨fn,t,h2,hn,ndn,sub,λ {F2 H2 u2 fq} c1 c2 c3 c4 c5 c6 hu nq mq=>?_⟩
 obtain ⟨fp2,r2,n2,m2⟩:=back c2 (λ b hb hnb=>by
  obtain ⟨d1,d2⟩:=a3.dom b hb
  cases q:H b with
 |none=>exact absurd q d1
 |some o=>exact ⟨c1 b o hnb q,c4 b (a3.hdd b hb) d2 hnb⟩) hu nq λ b hb=>by
   rcases mq b hb with z|z
   ·exact .inl z
   ·exact .inr (z.2 i s hi (zt3 ho))
 refine ⟨_,r.upd2 hi ho h3 (λ b o hb=>c1 b o λ z=>hb (sub b z)) c2 c3 (λ b hb fb hbi=>c4 b hb fb λ z=>hbi (sub b z)) c5 r2 n2 (λ b hb=>?_) (λ b hb f2=>?_),λ j hj=>if_neg hj,λ b hb=>?_⟩
 ·rcases m2 b hb with ⟨y,_⟩|y
  ·exact .inl y
  ·rcases mq b y with z|z
   ·exact .inl (sub b z)
   ·exact .inr z
 ·by_cases z:b∈fn
  ·exact c6 b z f2
  ·obtain ⟨d1,d2⟩:=a3.dom b hb
   exact absurd (c4 b (a3.hdd b hb) d2 z) f2
 ·rw [if_pos rfl] at hb
  rcases m2 b hb with ⟨y,_⟩|y
  ·exact .inl y
  ·exact .inr y
end
structure Res (K:Fg) (B:Bs) (F H:Hp) (Y:_2.St) (U:DSt) (fps:Nat->List Addr) (v:V) (r:T) (fpr:List Addr):Prop where
 rs:RS K B F H Y U fps
 rt:Rt K F H v r fpr
 nd:fpr.Nodup
 fr:∀ a∈fpr,B.H0 a=none
 dj:∀ (j:Nat) s,U[j]?=some s->s.has=true->∀ a∈fps j,a ∉ fpr
noncomputable abbrev DC:=DSt->(T->DSt->Prop)->Prop
noncomputable def RfC (K:Fg) (te:TE) (dc:DC):Prop:=∀ {B:Bs} {F H:Hp} {Y:_2.St} {U:DSt} {fps:Nat->List Addr} {Qd:T->DSt->Prop} {Q:VK},RS K B F H Y U fps->dc U Qd->(∀ r U',Qd r U'->∀ v F' H' fps' fpr,Res K B F' H' Y U' fps' v r fpr->Q v H')->te Y H Q
structure DEnds where
 nx:DSt->Prop
 rt:T->DSt->Prop
 bk:DSt->Prop:=λ _=>False
 ct:DSt->Prop:=λ _=>False
noncomputable abbrev DS:=DEnds->DSt->Prop
structure En (K:Fg) (B:Bs) (E:DEnds) (Z:Ends):Prop where
 nx:∀ {F H:Hp} {Y:_2.St} {U:DSt} {fps:Nat->List Addr},RS K B F H Y U fps->E.nx U->Z.nx Y H
 bk:∀ {F H:Hp} {Y:_2.St} {U:DSt} {fps:Nat->List Addr},RS K B F H Y U fps->E.bk U->Z.bk Y H
 ct:∀ {F H:Hp} {Y:_2.St} {U:DSt} {fps:Nat->List Addr},RS K B F H Y U fps->E.ct U->Z.ct Y H
 rt:∀ {F H:Hp} {Y:_2.St} {U:DSt} {fps:Nat->List Addr} {v:V} {r:T} {fpr:List Addr},Res K B F H Y U fps v r fpr->E.rt r U->Z.rt v H
noncomputable def RfS (K:Fg) (ts:TS) (ds:DS):Prop:=∀ {B:Bs} {F H:Hp} {Y:_2.St} {U:DSt} {fps:Nat->List Addr} {E:DEnds} {Z:Ends},RS K B F H Y U fps->ds E U->En K B E Z->ts Z Y H
section
variable {K:Fg} {te ta ti:TE} {de da di:DE} {dc:DC} {tt:TT} {dt:DT} {t u tb:TS} {d e db:DS} {tA:TA} {dA:DF} {g:TG} {dg:DG} {n:Nat} {dp:DP}
noncomputable def cE (de:DE):DC:=λ U Q=>de U λ d=>Q (.fz d) U
theorem RfE.c (h:RfE K te de):RfC K te (cE de):=by
 intro B F H Y U fps Qd Q r hd k
 exact h r.fh r.rv hd λ d q v F1 H1 e1 i1=>k _ _ q v F1 H1 fps [] ⟨r.grow e1,.fz i1,.nil,λ a ha=>by simp at ha,λ _ _ _ _ a _ ha=>by simp at ha⟩
noncomputable def cF (df:DF):DC:=λ U Q=>df U λ ds=>Q (.li ds) U
theorem RfF.c {df:DF} (h:RfF K te df):RfC K te (cF df):=by
 intro B F H Y U fps Qd Q r hd k
 refine h r.fh r.rv hd λ ds q a xs F1 H1 e1 hn h1 h2 h3=>k _ _ q (.ref a) F1 H1 fps [a] ⟨r.grow e1,.li h1 h2 h3,by simp,λ b hb=>?_,λ j s ej hs b hb hb2=>?_⟩
 ·simp at hb;subst hb
  by_cases z:B.H0 b=none
  ·exact z
  ·exact absurd hn ((r.al b).1 z)
 ·simp at hb2;subst hb2
  obtain ⟨x,t,a1,a2,a3,a4,a5⟩:=r.rt j s ej hs
  exact (a3.dom b hb).1 hn
noncomputable def slot:T->Sl
|.fz d=>.sh d
|t=>.ow t
theorem Res.set {B:Bs} {F H:Hp} {Y:_2.St} {U:DSt} {fps:Nat->List Addr} {v:V} {r:T} {fpr:List Addr} (h:Res K B F H Y U fps v r fpr) (i:Nat):∃ fps',RS K B F H (Y.set i (some v)) (U.set i (slot r)) fps':=by
 cases r with
|fz d=>cases h.rt with
 |fz hi=>exact ⟨_,h.rs.setS hi⟩
|li ds=>exact ⟨_,h.rs.setT h.rt h.nd h.fr h.dj⟩
|ls ds=>exact ⟨_,h.rs.setT h.rt h.nd h.fr h.dj⟩
|ob C ds=>exact ⟨_,h.rs.setT h.rt h.nd h.fr h.dj⟩
|dk ds=>exact ⟨_,h.rs.setT h.rt h.nd h.fr h.dj⟩
|dt ds=>exact ⟨_,h.rs.setT h.rt h.nd h.fr h.dj⟩
|tp ds=>exact ⟨_,h.rs.setT h.rt h.nd h.fr h.dj⟩
|wh=>exact ⟨_,h.rs.setT h.rt h.nd h.fr h.dj⟩
|dd _=>exact ⟨_,h.rs.setT h.rt h.nd h.fr h.dj⟩
noncomputable def zf71:DS:=λ E U=>E.nx U
theorem zo2:RfS K zw61 zf71:=λ r h k=>k.nx r h
noncomputable def dSeq (a b:DS):DS:=λ E U=>∃ J:DSt->Prop,a { E with nx:=J } U/\∀ U',J U'->b E U'
theorem zk0 (h1:RfS K t d) (h2:RfS K u e):RfS K (tSeq t u) (dSeq d e):=by
 intro B F H Y U fps E Z r h k
 obtain ⟨J,ha,hb⟩:=h
 exact h1 r ha ⟨λ r' q=>h2 r' (hb _ q) k,k.bk,k.ct,k.rt⟩
noncomputable def dAsg (de:DE) (dg:DG):DS:=λ E U=>de U λ d=>dg d U E.nx
theorem zk1 (he:RfE K te de) (hg:RfG K n g dg):RfS K (tAsg te g) (dAsg de dg):=by
 intro B F H Y U fps E Z r h k
 exact he r.fh r.rv h λ d hd v F1 H1 e1 i1=>hg e1.fh i1 hd λ Y' U' q u=>k.nx ((r.grow e1).byUpd u) q
noncomputable def dSet (i:Nat) (dc:DC):DS:=λ E U=>dc U λ r U'=>E.nx (U'.set i (slot r))
theorem zr1 {i:Nat} (hc:RfC K te dc):RfS K (tAsg te (zfj i)) (dSet i dc):=by
 intro B F H Y U fps E Z r h k
 refine hc r h λ r2 U' q v F1 H1 fps1 fpr res=>?_
 obtain ⟨fps2,r3⟩:=res.set i
 exact k.nx r3 q
noncomputable def zt61 (dc:DC):DS:=λ E U=>dc U λ _ U'=>E.nx U'
theorem zq1 (hc:RfC K te dc):RfS K (zr01 te) (zt61 dc):=by
 intro B F H Y U fps E Z r h k
 exact hc r h λ r2 U' q v F1 H1 fps1 fpr res=>k.nx res.rs q
noncomputable def dRet (dc:DC):DS:=λ E U=>dc U E.rt
theorem za3 (hc:RfC K te dc):RfS K (tRet te) (dRet dc):=by
 intro B F H Y U fps E Z r h k
 exact hc r h λ r2 U' q v F1 H1 fps1 fpr res=>k.rt res q
noncomputable def zp21 (i:Nat):DS:=λ E U=>match U[i]? with
|some (.ow t)=>E.rt t (U.set i .un)
|some (.sh d)=>E.rt (.fz d) U
|_=>False
theorem zv3 {i:Nat}:RfS K (tRet (tVar i)) (zp21 i):=by
 intro B F H Y U fps E Z r h k
 unfold zp21 at h
 split at h
 ·rename_i t q
  obtain ⟨x,t',a1,a2,a3,a4,a5⟩:=r.rt i _ q rfl
  cases a2
  refine ⟨x,zg2 (F:=F) (H:=H) (U:=U) a1,k.rt ⟨r.forget i,a3,a5,λ a ha=>(r.fr i _ q rfl a ha).elim id λ z=>absurd rfl (z.2 t),λ j s ej hs a ha hb=>?_⟩ h⟩
  rw [vU] at ej
  by_cases hij:i=j
  ·subst hij
   split at ej
   ·split at ej
    ·cases ej;cases hs
    ·cases ej
   ·rename_i z;exact absurd rfl z
  ·simp [hij] at ej
   exact r.dj i j _ s hij q ej rfl hs a hb ha
 ·rename_i d q
  obtain ⟨x,h1,h2⟩:=r.sh i d q
  exact ⟨x,zg2 (F:=F) (H:=H) (U:=U) h1,k.rt ⟨r,.fz h2,.nil,λ a ha=>by simp at ha,λ _ _ _ _ a _ ha=>by simp at ha⟩ h⟩
 ·exact h.elim
noncomputable def dIf (dt:DT) (d e:DS):DS:=λ E U=>dt U λ b=>if b=true then d E U else e E U
theorem zjb (ht:RfT K tt dt) (h1:RfS K t d) (h2:RfS K u e):RfS K (tIfS tt t u) (dIf dt d e):=by
 intro B F H Y U fps E Z r h k
 refine ht r.fh r.rv h λ b hb F1 H1 e1=>?_
 cases b with
|true=>rw [if_pos rfl] at hb ⊢;exact h1 (r.grow e1) hb k
|false=>rw [if_neg uX] at hb ⊢;exact h2 (r.grow e1) hb k
noncomputable def dFor (di:DF) (dg:DG) (db:DS):DS:=λ E U=>di U λ items=>∃ W:Nat->DSt->Prop,W 0 U /\
 (∀ i d U',items[i]?=some d->W i U'->dg d U' λ U2=>db { E with nx:=W (i+1),ct:=W (i+1),bk:=E.nx } U2)/\∀ U',W items.length U'->E.nx U'
noncomputable def Bs.rem (B:Bs) (F1:Hp):Bs:=⟨F1,B.H0,B.G⟩
theorem RS.rem {B:Bs} {F H F1:Hp} {Y:_2.St} {U:DSt} {fps:Nat->List Addr} (r:RS K B F H Y U fps) (s0:Same B.F0 F1) (s:Same F1 F):RS K (B.rem F1) F H Y U fps :=
 ⟨r.hh,s,r.fh,λ b hb fb=>r.nw b hb (by
  cases q:B.F0 b with
 |none=>rfl
 |some o=>rw [show (B.rem F1).F0 b=F1 b from rfl,s0 b o q] at fb;cases fb),r.al,r.len,r.sh,r.rt,r.fr,r.dj⟩
theorem RS.unrem {B:Bs} {F H F1:Hp} {Y:_2.St} {U:DSt} {fps:Nat->List Addr} (r:RS K (B.rem F1) F H Y U fps) (s0:Same B.F0 F1) (n0:∀ b,HD (B.H0 b)->B.F0 b=none->F1 b=none):RS K B F H Y U fps :=
 ⟨r.hh,s0.trans r.ff,r.fh,λ b hb fb=>r.nw b hb (n0 b hb fb),r.al,r.len,r.sh,r.rt,r.fr,r.dj⟩
theorem zb5 {wi:TI} {di:DF} (hi:RfI K wi di) (hg:RfG K n g dg) (hb:RfS K tb db):RfS K (tFor wi g tb) (dFor di dg db):=by
 intro B F H Y U fps E Z r h k
 refine hi r.fh r.rv h λ items hx J F1 H1 e1 wj=>?_
 obtain ⟨W,w0,ws,we⟩:=hx
 have r1:=r.grow e1
 have s0:=r1.ff
 have n0:=r1.nw
 refine ⟨λ i m Y' H'=>m=items.length - i/\i<=items.length/\∃ F' U' fps',RS K (B.rem F1) F' H' Y' U' fps'/\W i U',⟨items.length,rfl,vY _,F1,U,fps,r1.rem s0 (λ _ _ z=>z),w0⟩,?_⟩
 rintro i m Y' H' ⟨rfl,hi',F',U',fps',r',w'⟩
 obtain ⟨go,stop,yld⟩:=wj F' H' r'.ff r'.fh
 by_cases hlt:i < items.length
 ·refine .inr ⟨go i hlt,λ Y2 H2=>i+1<=items.length/\∃ F2 U2 fps2,RS K (B.rem F1) F2 H2 Y2 U2 fps2/\W (i+1) U2,λ Y2 H2 p=>⟨_,by lia,rfl,p⟩,λ x H2 y=>?_⟩
  have hit:items[i]?=some items[i]:=uC hlt
  obtain ⟨F2,ex2,ix2⟩:=yld i x H2 _ hit y
  refine hg ex2.fh ix2 (ws i _ U' hit w') λ Y2 U2 hd2 u2=>?_
  refine hb ((r'.grow ex2).byUpd u2) hd2 ⟨λ r3 q=>⟨hlt,_,_,_,r3,q⟩,λ r3 q=>k.nx (r3.unrem s0 n0) q,λ r3 q=>⟨hlt,_,_,_,r3,q⟩,λ res q=>k.rt ⟨res.rs.unrem s0 n0,res.rt,res.nd,res.fr,res.dj⟩ q⟩
 ·have e:i=items.length:=by lia
  subst e
  exact .inl ⟨stop,k.nx (r'.unrem s0 n0) (we _ w')⟩
noncomputable def zon (dt:DT) (db:DS):DS:=λ E U=>∃ W:Nat->DSt->Prop,(∃ m,W m U)/\∀ m U',W m U'->dt U' λ b=>if b=true then db { E with nx:=λ U2=>∃ m',m' < m/\W m' U2,ct:=λ U2=>∃ m',m' < m/\W m' U2,bk:=E.nx } U' else E.nx U'
theorem zy4 (ht:RfT K tt dt) (hb:RfS K tb db):RfS K (zaw tt tb) (zon dt db):=by
 intro B F H Y U fps E Z r h k
 obtain ⟨W,⟨m0,w0⟩,ws⟩:=h
 refine ⟨λ m Y' H'=>∃ F' U' fps',RS K B F' H' Y' U' fps'/\W m U',⟨m0,F,U,fps,r,w0⟩,?_⟩
 rintro m Y' H' ⟨F',U',fps',r',w'⟩
 refine ht r'.fh r'.rv (ws m U' w') λ b hb' F1 H1 e1=>?_
 cases b with
|true =>
  rw [if_pos rfl] at hb' ⊢
  refine ⟨λ Y2 H2=>∃ m',m' < m/\∃ F2 U2 fps2,RS K B F2 H2 Y2 U2 fps2/\W m' U2,λ Y2 H2 p=>p,hb (r'.grow e1) hb' ⟨λ r3 q=>?_,λ r3 q=>k.nx r3 q,λ r3 q=>?_,k.rt⟩⟩
  ·obtain ⟨m',h1,h2⟩:=q;exact ⟨m',h1,_,_,_,r3,h2⟩
  ·obtain ⟨m',h1,h2⟩:=q;exact ⟨m',h1,_,_,_,r3,h2⟩
|false =>
  rw [if_neg uX] at hb' ⊢
  exact k.nx (r'.grow e1) hb'
noncomputable def mutS (U:DSt) (i:Nat) (p:Pth) (u:T) (N:DSt->Prop):Prop:=match U[i]? with
|some (.ow t)=>N (U.set i (.ow (setP t p u)))
|some (.io a t)=>N (U.set i (.io a (setP t p u)))
|_=>False
theorem RS.mut {B:Bs} {F H:Hp} {Y:_2.St} {U:DSt} {fps:Nat->List Addr} {i:Nat} {p:Pth} {v:V} {u u2:T} {N:DSt->Prop} (r:RS K B F H Y U fps) (ha:AtS H Y U i p v u) (hm:mutS U i p u2 N) :
  ∃ fn,Rt K F H v u fn/\fn.Nodup/\(∀ a∈fn,a∈fps i)/\∀ {F2 H2:Hp} {fq:List Addr},
   (∀ b o,b ∉ fn->H b=some o->H2 b=some o)->Same F F2->Same F2 H2->(∀ b,HD (H b)->F b=none->b ∉ fn->F2 b=none)->(∀ b,(H b≠none->H2 b≠none)/\(HD (H b)->HD (H2 b)))->(∀ b∈fn,F2 b≠none->B.H0 b=none) ->
   Rt K F2 H2 v u2 fq->fq.Nodup->(∀ b∈fq,b∈fn \/ zcz B U fps b)->∃ U2 fps2,RS K B F2 H2 Y U2 fps2/\N U2/\(∀ j,j≠i->fps2 j=fps j/\U2[j]?=U[j]?)/\(∀ b∈fps2 i,b∈fps i \/ b∈fq)/\(∃ s,U[i]?=some s/\s.own=true):=by
 obtain ⟨s,hi,ho,hN⟩:∃ s,U[i]?=some s/\s.own=true/\∀ t,s.tree=some t->N (U.set i (s.wth (setP t p u2))):=by
  unfold mutS at hm
  split at hm
  ·rename_i t q
   exact ⟨_,q,rfl,λ t' e=>by cases e;exact hm⟩
  ·rename_i a t q
   exact ⟨_,q,rfl,λ t' e=>by cases e;exact hm⟩
  ·exact hm.elim
 obtain ⟨fn,t,h1,h2,h3,h4,h5⟩:=r.put hi ho ha
 refine ⟨fn,h2,h3,h4,λ {F2 H2 fq} c1 c2 c3 c4 c5 c6 hu nq mq=>?_⟩
 obtain ⟨fps2,r2,e2⟩:=h5 c1 c2 c3 c4 c5 c6 hu nq mq
 refine ⟨_,fps2,r2,hN t h1,λ j hj=>⟨e2.1 j hj,?_⟩,e2.2,s,hi,ho⟩
 rw [vK (λ z=>hj z.symm)]
theorem RS.one {B:Bs} {F H:Hp} {Y:_2.St} {U:DSt} {fps:Nat->List Addr} {i:Nat} {p:Pth} {a:Addr} {u u2:T} {o o2:HO} {N:DSt->Prop} (r:RS K B F H Y U fps) (ha:AtS H Y U i p (.ref a) u) (hm:mutS U i p u2 N) (ho:H a=some o)
  (hu:∀ fn,Rt K F H (.ref a) u fn->fn=[a]) (h2:F a=none->Rt K F (upd H a o2) (.ref a) u2 [a]):∃ U2 fps2,RS K B F (upd H a o2) Y U2 fps2/\N U2/\(∀ j,j≠i->fps2 j=fps j/\U2[j]?=U[j]?):=by
 obtain ⟨fn,hr,nd,sub,back⟩:=r.mut ha hm
 have e:=hu fn hr
 subst e
 have fa:F a=none:=(hr.dom a (by simp)).2
 obtain ⟨U2,fps2,g1,g2,g3,_⟩:=back (F2:=F) (H2:=upd H a o2) (fq:=[a]) (λ b o' hb ho'=>by rw [zn0 (λ z=>hb (by simp [z]))];exact ho') (λ _ _ z=>z) (λ b o' z=>by
   have:b≠a:=λ w=>by subst w;rw [fa] at z;cases z
   rw [zn0 this];exact r.fh b o' z) (λ b _ fb _=>fb) (zji ((h2 fa).hdd a (by simp))) (λ b hb f=>by simp at hb;subst hb;exact absurd fa f) (h2 fa) (by simp) (λ b hb=>.inl hb)
 exact ⟨U2,fps2,g1,g2,g3⟩
noncomputable abbrev FM:=T->List D->(T->D->Prop)->Prop
noncomputable def MO (K:Fg) (r:V->List V->Hp->VK->Prop) (f:FM):Prop:=∀ {F H:Hp} {v:V} {u:T} {fn:List Addr} {vs:List V} {ds:List D} {Kd:T->D->Prop} {Q:VK},Same F H->Rt K F H v u fn->IsAll K F vs ds->f u ds Kd ->
 ∃ u2 d y o o2 a,Kd u2 d/\v=.ref a/\fn=[a]/\H a=some o/\Is K F y d/\Rt K F (upd H a o2) (.ref a) u2 [a]/\(Q y (upd H a o2)->r v vs H Q)
noncomputable def tyN (T:String):_4.T->Prop
|.li _=>T = "list"
|.ls _=>T = "list"
|.dk _=>T = "dict"
|.dt _=>T = "dict"
|_=>False
theorem zu11 {F H:Hp} {T:String} {v:V} {u:_4.T} {fn:List Addr} (h:Rt K F H v u fn) (k:tyN T u):tyV K T v H:=by
 cases h with
|fz _=>exact k.elim
|li h1 _ _=>exact .inl ⟨k,_,SqL.of h1⟩
|ls h1 _ _=>exact .inl ⟨k,_,SqL.of h1⟩
|ob _ _ _ _ _=>exact k.elim
|tp _ _ _ _=>exact k.elim
|wh=>exact k.elim
|dd _ _ _ _=>exact k.elim
|dk h1 _ _=>exact .inr (.inr (.inl ⟨k,.inl ⟨_,h1⟩⟩))
|dt h1 _ _=>exact .inr (.inr (.inl ⟨k,.inr ⟨_,h1⟩⟩))
theorem zg61 {F H:Hp} {v:V} {u:T} {fn:List Addr} {r:V->List V->Hp->VK->Prop} {f:FM} (hm:MO K r f) {vs:List V} {ds:List D} {Kd:T->D->Prop} {B:Bs} {Y:_2.St} {U:DSt} {fps:Nat->List Addr} {i:Nat} {p:Pth} {Qd:T->DSt->Prop} {Q:VK}
  (rs:RS K B F H Y U fps) (ha:AtS H Y U i p v u) (hv:IsAll K F vs ds) (hf:f u ds λ u2 d=>mutS U i p u2 λ U'=>Qd (.fz d) U')
  (k:∀ r U',Qd r U'->∀ v F' H' fps' fpr,Res K B F' H' Y U' fps' v r fpr->Q v H'):r v vs H Q:=by
 obtain ⟨fn,hr⟩:=ha.rt rs.rv
 obtain ⟨u2,d,y,o,o2,a,kd,rfl,e2,h3,h4,h5,h6⟩:=hm (Q:=Q) rs.fh hr hv hf
 refine h6 ?_
 obtain ⟨U2,fps2,r2,q2,_⟩:=rs.one ha kd h3 (λ fn' hr'=>by
  obtain ⟨_,_,_,_,_,a',_,e1,e2',_⟩:=hm (Q:=Q) rs.fh hr' hv hf
  cases e1;exact e2') (λ _=>h5)
 exact k _ _ q2 _ _ _ fps2 [] ⟨r2,.fz h4,.nil,λ a ha=>by simp at ha,λ _ _ _ _ a _ ha=>by simp at ha⟩
noncomputable def cBM (ty:String) (f:FM) (dp:DP) (dA:DF):DC:=λ U Q=>dp U λ i p u=>tyN ty u/\dA U λ ds=>f u ds λ u2 d=>mutS U i p u2 λ U'=>Q (.fz d) U'
theorem zud {T:String} {r:V->List V->Hp->VK->Prop} {f:FM} (hm:MO K r f) (hp:RfP K te dp) (hA:RfA K tA dA):RfC K (tBMU K T r te tA) (cBM T f dp dA):=by
 intro B F H Y U fps Qd Q rs hd k
 refine hp rs.fh rs.rv hd λ i p u hu v F1 H1 e1 at1=>?_
 have r1:=rs.grow e1
 obtain ⟨fn,hr⟩:=at1.rt r1.rv
 refine ⟨zu11 hr hu.1,hA e1.fh r1.rv hu.2 λ ds hds vs F2 H2 e2 i2=>?_⟩
 exact zg61 hm (fn:=fn) (Kd:=λ _ _=>True) (r1.grow e2) (at1.mono e2.h) i2 hds k
noncomputable def cBM0 (ty:String) (f:FM) (dp:DP):DC:=λ U Q=>dp U λ i p u=>tyN ty u/\f u [] λ u2 d=>mutS U i p u2 λ U'=>Q (.fz d) U'
theorem zdo {T:String} {r:V->List V->Hp->VK->Prop} {f:FM} (hm:MO K r f) (hp:RfP K te dp):RfC K (zkz K T r te) (cBM0 T f dp):=by
 intro B F H Y U fps Qd Q rs hd k
 refine hp rs.fh rs.rv hd λ i p u hu v F1 H1 e1 at1=>?_
 have r1:=rs.grow e1
 obtain ⟨fn,hr⟩:=at1.rt r1.rv
 exact ⟨zu11 hr hu.1,zg61 hm (fn:=fn) (Kd:=λ _ _=>True) r1 at1 .nil hu.2 k⟩
noncomputable def mApp:FM:=λ u ds N=>match u,ds with
|.li xs,[d]=>xs.length < sizeLine/\N (.li (xs++[d])) .none
|_,_=>False
theorem zs6:MO K zph mApp:=by
 intro F H v u fn vs ds Kd Q s hr hv hf
 unfold mApp at hf
 split at hf
 ·obtain ⟨y,rfl,iy⟩:=all1 hv
  cases hr with
 |li h1 h2 h3 =>
   have el:=h3.dlen
   exact ⟨_,_,.non,_,.lst (_++[y]),_,hf.2,rfl,rfl,h1,.non,.li zi0 h2 (h3.dapp (.cons iy .nil)),λ q=>⟨_,_,y,rfl,rfl,h1,by lia,q⟩⟩
 ·exact hf.elim
noncomputable def mExt:FM:=λ u ds N=>match u,ds with
|.li xs,[.list es]=>xs.length+es.length<=sizeLine/\N (.li (xs++es)) .none
|_,_=>False
theorem znp:MO K (zlh K) mExt:=by
 intro F H v u fn vs ds Kd Q s hr hv hf
 unfold mExt at hf
 split at hf
 ·obtain ⟨y,rfl,iy⟩:=all1 hv
  obtain ⟨b,ys,rfl,g1,g2⟩:=iy.list_inv
  cases hr with
 |li h1 h2 h3 =>
   have el:=h3.dlen
   have el2:=g2.dlen
   exact ⟨_,_,.non,_,.lst (_++ys),_,hf.2,rfl,rfl,h1,.non,.li zi0 h2 (h3.dapp g2),λ q=>⟨_,b,_,ys,rfl,rfl,h1,s.seq g1,by lia,q⟩⟩
 ·exact hf.elim
noncomputable def zc31:FM:=λ u ds N=>match u,ds with
|.li xs,[]=>N (.li []) .none
|_,_=>False
noncomputable def mPop:FM:=λ u ds N=>match u,ds with
|.li xs,[]=>∃ d,xs[xs.length - 1]?=some d/\N (.li xs.dropLast) d
|_,_=>False
theorem ztd {F:Hp} {xs:List V} {ds:List D} (h:IsAll K F xs ds):IsAll K F xs.dropLast ds.dropLast:=by
 rw [yZ,yZ,h.dlen]
 exact h.dtake _
theorem zgp:MO K rPop mPop:=by
 intro F H v u fn vs ds Kd Q s hr hv hf
 unfold mPop at hf
 split at hf
 ·cases hv
  cases hr with
 |li h1 h2 h3 =>
   obtain ⟨d,ed,q⟩:=hf
   obtain ⟨y,hy,iy⟩:=h3.dget ed
   have el:=h3.dlen
   rw [<- el] at hy
   exact ⟨_,_,y,_,.lst _,_,q,rfl,rfl,h1,iy,.li zi0 h2 (ztd h3),λ q=>⟨_,_,y,rfl,rfl,h1,hy,q⟩⟩
 ·exact hf.elim
end
section
variable {K:Fg} {te ta ti tv:TE} {de da di dk:DE} {dc:DC} {tt:TT} {dt:DT} {t u tb:TS} {d e db:DS} {tA:TA} {dA:DF} {g:TG} {dg:DG} {n:Nat} {dp:DP} {w:World}
noncomputable def keyD:D->Option Key
|.int i=>some (.inl i)
|.str x=>some (.inr x)
|_=>none
theorem zoa {F:Hp} {v:V} {d:D} {k:Key} (h:Is K F v d) (e:keyD d=some k):v=kV k:=by
 cases h <;> simp [keyD] at e <;> subst e <;> rfl
noncomputable def zsh:List D->Option (List Key)
|[]=>some []
|d :: ds=>match keyD d,zsh ds with
 |some k,some ks=>some (k :: ks)
 |_,_=>none
noncomputable def keyT:D->Option (List Key)
|.tuple ds=>zsh ds
|_=>none
theorem zd8 {F:Hp}:∀ {xs:List V} {ds:List D} {k:List Key},IsAll K F xs ds->zsh ds=some k->xs=k.map kV/\ds.all zvw=true
|_,_,_,.nil,e=>by simp [zsh] at e;subst e;exact ⟨rfl,rfl⟩
|_,_,_,.cons (d:=d) h r,e=>by
  unfold zsh at e
  split at e
  ·rename_i k ks h1 h2
   cases e
   obtain ⟨e1,e2⟩:=zd8 r h2
   have:=zoa h h1
   rw [uK,this,e1,xZ,e2]
   refine ⟨rfl,?_⟩
   cases d <;> simp [keyD] at h1 <;> rfl
  ·cases e
theorem zoe {F:Hp} {v:V} {d:D} {k:List Key} (h:Is K F v d) (e:keyT d=some k):∃ b,v=.ref b/\F b=some (.tup (k.map kV)):=by
 cases h with
|tup h1 h2 =>
  obtain ⟨e1,_⟩:=zd8 h2 e
  subst e1
  exact ⟨_,rfl,h1⟩
|tuc h1 h2 h3 =>
  obtain ⟨_,e2⟩:=zd8 h2 e
  rw [e2] at h3;cases h3
|_=>simp [keyT] at e
noncomputable def getA {κ:Type} [DecidableEq κ] (kvs:List (κ×D)) (k:κ):Option D:=(kvs.find? λ kv=>decide (kv.1=k)).map (·.2)
noncomputable def putD {κ:Type} [DecidableEq κ] (kvs:List (κ×D)) (k:κ) (d:D):List (κ×D) :=
 if (kvs.any λ kv=>decide (kv.1=k))=true then kvs.map (λ kv=>if kv.1=k then (kv.1,d) else kv) else kvs++[(k,d)]
theorem KvIs.len {F:Hp} {κ:Type}:∀ {r:List (κ×V)} {s:List (κ×D)},KvIs K F r s->r.length=s.length
|_,_,.nil=>rfl
|_,_,.cons _ r=>congrArg (·+1) (KvIs.len r)
theorem KvIs.get {F:Hp} {κ:Type} [DecidableEq κ] {k:κ}:∀ {r:List (κ×V)} {s:List (κ×D)},KvIs K F r s->(getA s k=none/\valV r k=none) \/ ∃ d v,getA s k=some d/\valV r k=some v/\Is K F v d
|_,_,.nil=>.inl ⟨rfl,rfl⟩
|_,_,.cons (k:=k') (v:=v) (d:=d) h r=>by
  by_cases e:k'=k
  ·exact .inr ⟨d,v,by simp [getA,e],by simp [valV,e],h⟩
  ·rcases KvIs.get (k:=k) r with ⟨h1,h2⟩|⟨d',v',h1,h2,h3⟩
   ·exact .inl ⟨by simp [getA,e];simpa [getA] using h1,by simp [valV,e];simpa [valV] using h2⟩
   ·refine .inr ⟨d',v',?_,?_,h3⟩
    ·simp [getA,e];simpa [getA] using h1
    ·simp [valV,e];simpa [valV] using h2
theorem KvIs.any {F:Hp} {κ:Type} [DecidableEq κ] {k:κ}:∀ {r:List (κ×V)} {s:List (κ×D)},KvIs K F r s->(r.any λ kv=>decide (kv.1=k))=(s.any λ kv=>decide (kv.1=k))
|_,_,.nil=>rfl
|_,_,.cons _ r=>by rw [wS,wS,KvIs.any r]
theorem KvIs.app {F:Hp} {κ:Type}:∀ {r r':List (κ×V)} {s s':List (κ×D)},KvIs K F r s->KvIs K F r' s'->KvIs K F (r++r') (s++s')
|_,_,_,_,.nil,h=>h
|_,_,_,_,.cons h r,h'=>.cons h (r.app h')
theorem KvIs.map {F:Hp} {κ:Type} [DecidableEq κ] {k:κ} {v:V} {d:D} (hv:Is K F v d):∀ {r:List (κ×V)} {s:List (κ×D)},KvIs K F r s->KvIs K F (r.map λ kv=>if kv.1=k then (kv.1,v) else kv) (s.map λ kv=>if kv.1=k then (kv.1,d) else kv)
|_,_,.nil=>.nil
|_,_,.cons (k:=k') h r=>by
  by_cases e:k'=k
  ·simp only [uK,e,if_true];exact .cons hv (r.map hv)
  ·simp only [uK,e,if_false];exact .cons h (r.map hv)
theorem KvIs.put {F:Hp} {κ:Type} [DecidableEq κ] {k:κ} {v:V} {d:D} (hv:Is K F v d) {r:List (κ×V)} {s:List (κ×D)} (h:KvIs K F r s):KvIs K F (putK r k v) (putD s k d):=by
 unfold putK putD
 rw [h.any]
 split
 ·exact h.map hv
 ·exact h.app (.cons hv .nil)
noncomputable def fPut (u:T) (k d:D) (N:T->Prop):Prop:=match u with
|.li ds=>match k with
 |.int z=>∃ j,ixN ds.length z=some j/\N (.li (ds.set j d))
 |_=>False
|.dk kvs=>∃ key,keyD k=some key/\kvs.length < sizeLine/\N (.dk (putD kvs key d))
|.dt kvs=>∃ key,keyT k=some key/\kvs.length < sizeLine/\N (.dt (putD kvs key d))
|_=>False
theorem zdx {B:Bs} {F H:Hp} {Y:_2.St} {U:DSt} {fps:Nat->List Addr} {i:Nat} {p:Pth} {v kv y:V} {u:T} {k d:D} {N:DSt->Prop} {Q:Hp->Prop} (rs:RS K B F H Y U fps) (ha:AtS H Y U i p v u) (hk:Is K F kv k) (hy:Is K F y d)
  (hf:fPut u k d λ u2=>mutS U i p u2 N) (q:∀ U2 fps2 H2,RS K B F H2 Y U2 fps2->N U2->Q H2):zxy v kv y H Q:=by
 obtain ⟨fn,hr⟩:=ha.rt rs.rv
 cases hr with
|li h1 h2 h3 =>
  simp only [fPut] at hf
  split at hf
  ·rename_i z
   obtain ⟨j,ej,hm⟩:=hf
   cases hk.int_inv
   have el:=h3.dlen
   obtain ⟨U2,fps2,r2,n2,_⟩:=rs.one (o2:=.lst (_)) ha hm h1 (λ fn' hr'=>by cases hr';rfl) (λ fa=>.li zi0 fa (h3.dset hy j))
   exact .inl ⟨_,_,z,j,rfl,rfl,h1,by rw [el];exact ej,q _ _ _ r2 n2⟩
  ·exact hf.elim
|dk h1 h2 h3 =>
  simp only [fPut] at hf
  obtain ⟨key,ek,hl,hm⟩:=hf
  have:=zoa hk ek
  subst this
  have el:=h3.len
  obtain ⟨U2,fps2,r2,n2,_⟩:=rs.one (o2:=.dK _) ha hm h1 (λ fn' hr'=>by cases hr';rfl) (λ fa=>.dk zi0 fa (h3.put (k:=key) hy))
  exact .inr ⟨_,_,rfl,DPut.k h1 (by lia),q _ _ _ r2 n2⟩
|fz _=>exact hf.elim
|ls _ _ _=>exact hf.elim
|ob _ _ _ _ _=>exact hf.elim
|tp _ _ _ _=>exact hf.elim
|wh=>exact hf.elim
|dd _ _ _ _=>exact hf.elim
|dt h1 h2 h3 =>
  simp only [fPut] at hf
  obtain ⟨key,ek,hl,hm⟩:=hf
  obtain ⟨kb,rfl,hb⟩:=zoe hk ek
  have el:=h3.len
  obtain ⟨U2,fps2,r2,n2,_⟩:=rs.one (o2:=.dT _) ha hm h1 (λ fn' hr'=>by cases hr';rfl) (λ fa=>.dt zi0 fa (h3.put (k:=key) hy))
  exact .inr ⟨_,_,rfl,DPut.t h1 (rs.fh _ _ hb) (by lia),q _ _ _ r2 n2⟩
noncomputable def dPut (dp:DP) (dk de:DE):DS:=λ E U=>de U λ d=>dp U λ i p u=>dk U λ k=>fPut u k d λ u2=>mutS U i p u2 E.nx
theorem zvl (he:RfE K te de) (hp:RfP K ta dp) (hk:RfE K ti dk):RfS K (tAsg te (gSub ta ti zxy)) (dPut dp dk de):=by
 intro B F H Y U fps E Z r h k
 refine he r.fh r.rv h λ d hd y F1 H1 e1 i1=>?_
 have r1:=r.grow e1
 refine hp r1.fh r1.rv hd λ i p u hu v F2 H2 e2 at2=>?_
 have r2:=r1.grow e2
 refine hk r2.fh r2.rv hu λ kd hkd kv F3 H3 e3 i3=>?_
 exact zdx (r2.grow e3) (at2.mono e3.h) i3 (i1.mono (e2.f.trans e3.f)) hkd λ U2 fps2 H4 r4 n4=>k.nx r4 n4
noncomputable def fGet (u:T) (k:D) (Q:D->Prop):Prop:=match u with
|.li ds=>match k with
 |.int z=>0<=z/\∃ d,ds[z.toNat]?=some d/\Q d
 |_=>False
|.dk kvs=>∃ key d,keyD k=some key/\getA kvs key=some d/\Q d
|.dt kvs=>∃ key d,keyT k=some key/\getA kvs key=some d/\Q d
|_=>False
theorem zpt {F H:Hp} {v kv:V} {u:T} {fn:List Addr} {k:D} {Qd:D->Prop} {Q:VK} (s:Same F H) (hr:Rt K F H v u fn) (hk:Is K F kv k) (hf:fGet u k Qd) (q:∀ d y,Qd d->Is K F y d->Q y H):zi01 K v kv H Q:=by
 cases hr with
|li h1 h2 h3 =>
  simp only [fGet] at hf
  split at hf
  ·rename_i z
   obtain ⟨z0,d,ed,qd⟩:=hf
   cases hk.int_inv
   obtain ⟨y,hy,iy⟩:=h3.dget ed
   exact .inl ⟨_,_,z,y,rfl,rfl,z0,SqL.of h1,hy,q d y qd iy⟩
  ·exact hf.elim
|dk h1 h2 h3 =>
  simp only [fGet] at hf
  obtain ⟨key,d,ek,ed,qd⟩:=hf
  have:=zoa hk ek
  subst this
  rcases h3.get (k:=key) with ⟨g1,_⟩|⟨d',y,g1,g2,g3⟩
  ·rw [g1] at ed;cases ed
  ·rw [g1] at ed;cases ed
   exact .inr ⟨_,y,rfl,by rw [<- g2];exact DGet.k h1,q d y qd g3⟩
|fz _=>exact hf.elim
|ls _ _ _=>exact hf.elim
|ob _ _ _ _ _=>exact hf.elim
|tp _ _ _ _=>exact hf.elim
|wh=>exact hf.elim
|dd _ _ _ _=>exact hf.elim
|dt h1 h2 h3 =>
  simp only [fGet] at hf
  obtain ⟨key,d,ek,ed,qd⟩:=hf
  obtain ⟨kb,rfl,hb⟩:=zoe hk ek
  rcases h3.get (k:=key) with ⟨g1,_⟩|⟨d',y,g1,g2,g3⟩
  ·rw [g1] at ed;cases ed
  ·rw [g1] at ed;cases ed
   exact .inr ⟨_,y,rfl,by rw [<- g2];exact DGet.t h1 (s _ _ hb),q d y qd g3⟩
noncomputable def fII (f:Int->Int->Int) (x y:D) (Q:D->Prop):Prop:=match x,y with
|.int i,.int j=>Q (.int (f i j))
|_,_=>False
noncomputable def zp51 (f:Int->Int->Int) (dp:DP) (dk de:DE):DS:=λ E U=>dp U λ i p u=>dk U λ k=>fGet u k λ x=>de U λ y=>fII f x y λ z=>fPut u k z λ u2=>mutS U i p u2 E.nx
theorem zo9 {f:Int->Int->Int} (hp:RfP K ta dp) (hk:RfE K ti dk) (he:RfE K te de):RfS K (zn71 ta ti te (zi01 K) (ipI f) zxy) (zp51 f dp dk de):=by
 intro B F H Y U fps E Z r h k
 refine hp r.fh r.rv h λ i p u hu v F1 H1 e1 at1=>?_
 have r1:=r.grow e1
 refine hk r1.fh r1.rv hu λ kd hkd kv F2 H2 e2 i2=>?_
 have r2:=r1.grow e2
 have at2:=at1.mono e2.h
 obtain ⟨fn,hr⟩:=at2.rt r2.rv
 refine zpt r2.fh hr i2 hkd λ x xv hx ix=>he r2.fh r2.rv hx λ y hy yv F3 H3 e3 i3=>?_
 unfold fII at hy
 split at hy
 ·cases ix.int_inv
  cases i3.int_inv
  refine ⟨_,_,rfl,rfl,?_⟩
  exact zdx (r2.grow e3) (at2.mono e3.h) (i2.mono e3.f) (.int _) hy λ U2 fps2 H4 r4 n4=>k.nx r4 n4
 ·exact hy.elim
noncomputable def dAug (i:Nat) (f:Int->Int->Int) (de:DE):DS:=λ E U=>match U[i]? with
|some (.sh x)=>de U λ y=>fII f x y λ z=>E.nx (U.set i (.sh z))
|_=>False
theorem zl31 {i:Nat} {f:Int->Int->Int} (he:RfE K te de):RfS K (tAug i te (ipI f)) (dAug i f de):=by
 intro B F H Y U fps E Z r h k
 unfold dAug at h
 split at h
 ·rename_i x q
  obtain ⟨v,e0,i0⟩:=r.sh i _ q
  refine ⟨_,zg2 (F:=F) (H:=H) (U:=U) e0,he r.fh r.rv h λ d hd v2 F1 H1 e1 i1=>?_⟩
  unfold fII at hd
  split at hd
  ·cases i0.int_inv
   cases i1.int_inv
   exact ⟨_,_,rfl,rfl,k.nx ((r.grow e1).setS (.int _)) hd⟩
  ·exact hd.elim
 ·exact h.elim
noncomputable def nGet (dp:DP) (dk:DE):DE:=λ U Q=>dp U λ _ _ u=>dk U λ k=>fGet u k Q
theorem zjg (hp:RfP K ta dp) (hk:RfE K ti dk):RfE K (tOp (rIxV w K) ta ti) (nGet dp dk):=by
 intro F H Y U Qd Q s rv h k
 refine hp s rv h λ i p u hu v F1 H1 e1 at1=>hk e1.fh (rv.ext e1) hu λ kd hkd kv F2 H2 e2 i2=>?_
 have e12:=e1.trans e2
 obtain ⟨fn,hr⟩:=(at1.mono e2.h).rt (rv.ext e12)
 rcases zpt (Q:=Q) e12.fh hr i2 hkd λ d y qd iy=>k d qd y F2 H2 e12 iy with ⟨a,xs,j,y,rfl,rfl,j0,h1,h2,q⟩|q
 ·exact .inl (.inl (.inl ⟨a,xs,j,y,rfl,rfl,h1,at_nat' j0 h2,q⟩))
 ·exact .inr q
theorem zg6 {F H:Hp} {p:Addr} {o:HO} (s:Same F H) (hn:H p=none):Ext F H F (upd H p o) :=
 ⟨zx1 hn _,λ _ _ z=>z,λ b o z=>zx1 hn _ b o (s b o z),λ _ _ z=>z⟩
noncomputable def fHas (neg:Bool) (u:T) (k:D) (Q:D->Prop):Prop:=match u with
|.dk kvs=>∃ key,keyD k=some key/\Q (.bool (if neg then !(getA kvs key).isSome else (getA kvs key).isSome))
|.dt kvs=>∃ key,keyT k=some key/\Q (.bool (if neg then !(getA kvs key).isSome else (getA kvs key).isSome))
|_=>False
noncomputable def nIn (neg:Bool) (dk:DE) (dp:DP):DE:=λ U Q=>dk U λ k=>dp U λ _ _ u=>fHas neg u k Q
theorem zwr {F H:Hp} {v kv:V} {u:T} {fn:List Addr} {k:D} {Qd:D->Prop} {neg:Bool} (s:Same F H) (hr:Rt K F H v u fn) (hk:Is K F kv k) (hf:fHas neg u k Qd):∃ a o,v=.ref a/\DGet H a kv o/\Qd (.bool (if neg then !o.isSome else o.isSome)):=by
 cases hr with
|dk h1 h2 h3 =>
  obtain ⟨key,ek,q⟩:=hf
  have:=zoa hk ek
  subst this
  rcases h3.get (k:=key) with ⟨g1,g2⟩|⟨d',y,g1,g2,g3⟩
  ·rw [g1] at q;exact ⟨_,none,rfl,by rw [<- g2];exact DGet.k h1,q⟩
  ·rw [g1] at q;exact ⟨_,some y,rfl,by rw [<- g2];exact DGet.k h1,q⟩
|fz _=>exact hf.elim
|li _ _ _=>exact hf.elim
|ls _ _ _=>exact hf.elim
|ob _ _ _ _ _=>exact hf.elim
|tp _ _ _ _=>exact hf.elim
|wh=>exact hf.elim
|dd _ _ _ _=>exact hf.elim
|dt h1 h2 h3 =>
  obtain ⟨key,ek,q⟩:=hf
  obtain ⟨kb,rfl,hb⟩:=zoe hk ek
  rcases h3.get (k:=key) with ⟨g1,g2⟩|⟨d',y,g1,g2,g3⟩
  ·rw [g1] at q;exact ⟨_,none,rfl,by rw [<- g2];exact DGet.t h1 (s _ _ hb),q⟩
  ·rw [g1] at q;exact ⟨_,some y,rfl,by rw [<- g2];exact DGet.t h1 (s _ _ hb),q⟩
theorem zc41 (hk:RfE K ti dk) (hp:RfP K ta dp):RfE K (tOp (rInV w K) ti ta) (nIn false dk dp):=by
 intro F H Y U Qd Q s rv h k
 refine hk s rv h λ kd hkd kv F1 H1 e1 i1=>hp e1.fh (rv.ext e1) hkd λ i p u hu v F2 H2 e2 at2=>?_
 have e12:=e1.trans e2
 obtain ⟨fn,hr⟩:=at2.rt (rv.ext e12)
 obtain ⟨a,o,rfl,g,q⟩:=zwr e12.fh hr (i1.mono e2.f) hu
 exact .inr ⟨a,o,rfl,g,k _ q _ F2 H2 e12 (.bl _)⟩
theorem zkg (hk:RfE K ti dk) (hp:RfP K ta dp):RfE K (tOp (zwm w K) ti ta) (nIn true dk dp):=by
 intro F H Y U Qd Q s rv h k
 refine hk s rv h λ kd hkd kv F1 H1 e1 i1=>hp e1.fh (rv.ext e1) hkd λ i p u hu v F2 H2 e2 at2=>?_
 have e12:=e1.trans e2
 obtain ⟨fn,hr⟩:=at2.rt (rv.ext e12)
 obtain ⟨a,o,rfl,g,q⟩:=zwr e12.fh hr (i1.mono e2.f) hu
 exact .inr ⟨a,o,rfl,g,k _ q _ F2 H2 e12 (.bl _)⟩
noncomputable def cDK:DC:=λ U Q=>Q (.dk []) U
theorem zp81:RfC K zdu cDK:=by
 intro B F H Y U fps Qd Q r hd k
 intro p hp
 have fn:F p=none:=by
  cases e:F p with
 |none=>rfl
 |some o=>rw [r.fh p o e] at hp;cases hp
 refine k _ _ hd (.ref p) F _ fps [p] ⟨r.grow (zg6 r.fh hp),.dk zi0 fn .nil,by simp,λ b hb=>?_,λ j s ej hs b hb hb2=>?_⟩
 ·simp at hb;subst hb
  by_cases z:B.H0 b=none
  ·exact z
  ·exact absurd hp ((r.al b).1 z)
 ·simp at hb2;subst hb2
  obtain ⟨x,t,a1,a2,a3,a4,a5⟩:=r.rt j s ej hs
  exact (a3.dom b hb).1 hp
noncomputable abbrev DN:=DSt->(T->Prop)->Prop
noncomputable def RfN (K:Fg) (te:TE) (dn:DN):Prop:=∀ {F H:Hp} {Y:_2.St} {U:DSt} {Qd:T->Prop} {Q:VK},Same F H->RV K F H Y U->dn U Qd->(∀ r,Qd r->∀ v F' H' fp,Ext F H F' H'->Rt K F' H' v r fp->fp.Nodup->(∀ a∈fp,H a=none)->Q v H')->te Y H Q
noncomputable def nF (df:DF):DN:=λ U Q=>df U λ ds=>Q (.li ds)
theorem RfF.new {df:DF} (h:RfF K te df):RfN K te (nF df):=λ s r d k=>h s r d λ ds q a xs F' H' e hn h1 h2 h3=>k _ q (.ref a) F' H' [a] e (.li h1 h2 h3) (by simp) λ b hb=>by simp at hb;subst hb;exact hn
noncomputable def cN (dn:DN):DC:=λ U Q=>dn U λ r=>Q r U
theorem RfN.c {dn:DN} (h:RfN K te dn):RfC K te (cN dn):=by
 intro B F H Y U fps Qd Q r hd k
 refine h r.fh r.rv hd λ r2 q v F1 H1 fp e1 hr nd fr=>k _ _ q v F1 H1 fps fp ⟨r.grow e1,hr,nd,λ a ha=>?_,λ j s ej hs b hb hb2=>?_⟩
 ·by_cases z:B.H0 a=none
  ·exact z
  ·exact absurd (fr a ha) ((r.al a).1 z)
 ·obtain ⟨x,t,a1,a2,a3,a4,a5⟩:=r.rt j s ej hs
  exact (a3.dom b hb).1 (fr b hb2)
theorem RtAll.app {F H:Hp}:∀ {xs ys:List V} {ts us:List T} {fp fq:List Addr},RtAll K F H xs ts fp->RtAll K F H ys us fq->RtAll K F H (xs++ys) (ts++us) (fp++fq)
|_,_,_,_,_,_,.nil,h=>h
|_,_,_,_,_,_,.cons h r,h'=>by rw [wI];exact .cons h (r.app h')
noncomputable def zt51 (di:DF) (n:Nat) (ix:List Nat) (dg:DG) (dn:DN):DN:=λ U Q=>di U λ items=>items.length<=sizeLine/\∃ R:Nat->T->Prop,
 (∀ i d,items[i]?=some d->dg d (cST n ix U) λ U'=>dn U' λ r=>R i r)/\∀ rs:List T,rs.length=items.length->(∀ (j:Nat) r,rs[j]?=some r->R j r)->Q (.ls rs)
theorem zeh {wi:TI} {di:DF} {ix:List Nat} {dn:DN} (hi:RfJ K wi di) (hg:RfG K n g dg) (he:RfN K te dn):RfN K (zgz wi n ix g zq31 te) (zt51 di n ix dg dn):=by
 intro F H Y U Qd Q s rv hd k
 refine hi s rv hd λ items hx J F1 H1 e1 wj D hD=>?_
 obtain ⟨hz,R,hR,hQ⟩:=hx
 have rv1:=zpw n ix (rv.ext e1)
 have F1D:F1 D=none:=by
  cases q:F1 D with
 |none=>rfl
 |some o=>rw [e1.fh D o q] at hD;cases hD
 refine ⟨λ i m acc Y' H'=>m=items.length - i/\i<=items.length/\Y'.length=(compY n ix Y).length/\(∀ j,n<=j->Y'.getD j none=(compY n ix Y).getD j none)/\∃ (F':Hp) (rs:List T) (fpA:List Addr),Ext F1 H1 F' H'/\F' D=none/\H' D=some (.lst acc)/\rs.length=i/\(∀ (j:Nat) r,rs[j]?=some r->R j r)/\RtAll K F' H' acc rs fpA/\fpA.Nodup/\(∀ a∈fpA,H1 a=none/\a≠D),
  ⟨items.length,rfl,vY _,rfl,λ _ _=>rfl,F1,[],[],?_,F1D,zi0,rfl,λ j o e=>by simp at e,.nil,.nil,λ a ha=>by simp at ha⟩,?_⟩
 ·exact (zb3 (xs:=[]) e1.fh hD).1
 rintro i m acc Y' H' ⟨rfl,hi',hl,hk,F',rs,fpA,ex,fD,hDD,hrs,hRs,hall,ndA,frA⟩
 obtain ⟨go,stop,yld⟩:=wj F' H' ex
 by_cases hlt:i < items.length
 ·refine .inr ⟨go i hlt,λ acc' Y2 H2=>i+1<=items.length/\Y2.length=(compY n ix Y).length/\(∀ j,n<=j->Y2.getD j none=(compY n ix Y).getD j none)/\∃ (F':Hp) (rs:List T) (fpA:List Addr),Ext F1 H1 F' H2/\F' D=none/\H2 D=some (.lst acc')/\rs.length=i+1/\(∀ (j:Nat) r,rs[j]?=some r->R j r)/\RtAll K F' H2 acc' rs fpA/\fpA.Nodup/\(∀ a∈fpA,H1 a=none/\a≠D),λ acc' Y2 H2 p=>⟨items.length - (i+1),by lia,rfl,p⟩,λ x H2 y=>?_⟩
  have hit:items[i]?=some items[i]:=uC hlt
  obtain ⟨F2,ex2,ix2⟩:=yld i x H2 _ hit y
  have rv2:RV K F2 H2 Y' (cST n ix U):=RV.caps (rv1.ext (ex.trans ex2)) hl hk
  refine hg ex2.fh ix2 (hR i _ hit) λ Y2 U2 hd2 u2=>?_
  have rv3:=u2.rv rv2
  have kp:=u2.keep
  have hl2:Y2.length=(compY n ix Y).length:=by rw [kp.1,hl]
  have hk2:∀ j,n<=j->Y2.getD j none=(compY n ix Y).getD j none:=λ j hj=>by rw [kp.2 j hj,hk j hj]
  show te Y2 H2 _
  refine he ex2.fh rv3 hd2 λ r hr v F5 H5 fp e5 i5 nd5 fr5=>?_
  have e25:=ex2.trans e5
  have hD2:H2 D=some (.lst acc):=ex2.h _ _ hDD
  have hD5:H5 D=some (.lst acc):=e25.h _ _ hDD
  have fD5:F5 D=none:=e25.nwo hDD (λ _=>nofun) fD
  have hlen:acc.length<=i:=by rw [hall.len,hrs];exact uG _
  have e15:=ex.trans e25
  have hall5:RtAll K F5 H5 acc rs fpA:=hall.frame e25.f λ a ha=>by
   obtain ⟨d1,d2⟩:=hall.dom a ha
   cases q:H' a with
  |none=>exact absurd q d1
  |some o=>exact ⟨e25.h a o q,e25.nw a (hall.hdd a ha) d2⟩
  have frN:∀ a∈fp,H1 a=none/\a≠D:=λ a ha=>⟨zd1 (ex.trans ex2) (fr5 a ha),λ z=>by subst z;rw [fr5 a ha] at hD2;cases hD2⟩
  refine ⟨hD5,by lia,hlt,hl2,hk2,F5,rs++[r],fpA++fp,⟨λ b o hb=>?_,e15.f,λ b o hb=>?_,e15.nw⟩,fD5,zi0,by simp [hrs],λ j r' e=>?_,?_,?_,λ a ha=>?_⟩
  ·have:b≠D:=λ z=>by subst z;rw [hD] at hb;cases hb
   rw [zn0 this];exact e15.h b o hb
  ·have:b≠D:=λ z=>by subst z;rw [fD5] at hb;cases hb
   rw [zn0 this];exact e15.fh b o hb
  ·rcases Nat.lt_trichotomy j rs.length with h|h|h
   ·rw [u6 h] at e;exact hRs j r' e
   ·subst h;rw [u7 (uG _)] at e;simp at e;subst e;rw [hrs];exact hr
   ·rw [u7 (xH h)] at e
    cases q:j - rs.length with
   |zero=>lia
   |succ z=>rw [q] at e;simp at e
  ·have z1:RtAll K F5 (upd H5 D (.lst (acc++[v]))) acc rs fpA:=hall5.frame (λ _ _ z=>z) λ a ha=>⟨zn0 (frA a ha).2,(hall5.dom a ha).2⟩
   have z2:Rt K F5 (upd H5 D (.lst (acc++[v]))) v r fp:=i5.frame (λ _ _ z=>z) λ a ha=>⟨zn0 (frN a ha).2,(i5.dom a ha).2⟩
   have:=z1.app (RtAll.cons z2 .nil)
   rwa [vL] at this
  ·refine uW.mpr ⟨ndA,nd5,λ a ha b hb z=>?_⟩
   subst z
   have:=(hall.dom a ha).1
   exact this (zd1 ex2 (fr5 a hb))
  ·rcases uF.mp ha with z|z
   ·exact frA a z
   ·exact frN a z
 ·have e:i=items.length:=by lia
  refine .inl ⟨by rw [e];exact stop,k _ (hQ rs (by lia) hRs) (.ref D) F' H' (D :: fpA) (e1.trans ex) (.ls hDD fD hall) (uQ.mpr ⟨λ z=>(frA D z).2 rfl,ndA⟩) λ a ha=>?_⟩
  rcases uD.mp ha with z|z
  ·rw [z];exact zd1 e1 hD
  ·exact zd1 e1 (frA a z).1
noncomputable def nSet (f:Str) (u r:T) (N:T->Prop):Prop:=match u with
|.ob C fs=>fs.length < 1000/\N (.ob C (putA f r fs))
|_=>False
theorem Res.grow {B:Bs} {F H F' H':Hp} {Y:_2.St} {U:DSt} {fps:Nat->List Addr} {v:V} {r:T} {fpr:List Addr} (h:Res K B F H Y U fps v r fpr) (e:Ext F H F' H'):Res K B F' H' Y U fps v r fpr :=
 ⟨h.rs.grow e,h.rt.ext e,h.nd,h.fr,h.dj⟩
theorem zd41 {B:Bs} {F H:Hp} {Y:_2.St} {U:DSt} {fps:Nat->List Addr} {y:V} {r:T} {fpr:List Addr} {i:Nat} {p:Pth} {a C dx:Addr} {fs:List (Str×V)} {ts:List (Str×T)} {f:Str} {N:DSt->Prop}
  (res:Res K B F H Y U fps y r fpr) (ha:AtS H Y U i p (.ref a) (.ob C ts)) (hH:H a=some (.ins C dx fs)) (hm:mutS U i p (.ob C (putA f r ts)) N):∃ U2 fps2,RS K B F (upd H a (.ins C dx (putF f y fs))) Y U2 fps2/\N U2:=by
 obtain ⟨fn,hr,nd,sub,back⟩:=res.rs.mut ha hm
 obtain ⟨s,hs,ho⟩:∃ s,U[i]?=some s/\s.own=true:=by
  unfold mutS at hm
  split at hm
  ·rename_i t q;exact ⟨_,q,rfl⟩
  ·rename_i a t q;exact ⟨_,q,rfl⟩
  ·exact hm.elim
 have dis:∀ b∈fn,b ∉ fpr:=λ b hb=>res.dj i s hs (zt3 ho) b (sub b hb)
 cases hr with
|ob g1 g2 g3 g4 g5 =>
  rename_i dx' fs' fp
  rw [hH] at g1;cases g1
  have nd1:=uQ.mp nd
  have nd2:=uQ.mp nd1.2
  have na:a ∉ fp:=λ z=>nd1.1 (u9 _ z)
  have nx:dx≠a:=λ z=>nd1.1 (by rw [z];simp)
  have nxf:dx ∉ fp:=nd2.1
  have dp':∀ b∈fp,b ∉ fpr:=λ b hb=>dis b (by simp [hb])
  have ra:a ∉ fpr:=dis a (by simp)
  have rx:dx ∉ fpr:=dis dx (by simp)
  have hy:Rt K F (upd H a (.ins C dx (putF f y fs))) y r fpr:=res.rt.frame (λ _ _ z=>z) λ b hb=>⟨zn0 λ z=>by subst z;exact ra hb,(res.rt.dom b hb).2⟩
  have fr0:∀ b∈fp,upd H a (.ins C dx (putF f y fs)) b=H b/\F b=none:=λ b hb=>⟨zn0 λ z=>by subst z;exact na hb,(g5.dom b hb).2⟩
  obtain ⟨fq,hq,ndq,mq⟩:∃ fq,RtFs K F (upd H a (.ins C dx (putF f y fs))) (putF f y fs) (putA f r ts) fq/\fq.Nodup/\∀ b∈fq,b∈fp \/ b∈fpr:=by
   cases q:ts.lookup f with
  |none =>
    refine ⟨fp++fpr,RtFs.add (λ _ _ z=>z) hy g5 q fr0,uW.mpr ⟨nd2.2,res.nd,λ b hb c hc z=>?_⟩,λ b hb=>uF.mp hb⟩
    subst z;exact dp' b hb hc
  |some t0 =>
    obtain ⟨x0,ex⟩:=(g5.keys f).2.1 t0 q
    obtain ⟨fA,fj,fB,e,hj,_,rep⟩:=g5.split ex q
    subst e
    obtain ⟨ndA,ndJB,djA⟩:=uW.mp nd2.2
    obtain ⟨ndj,ndB,djB⟩:=uW.mp ndJB
    refine ⟨fA++(fpr++fB),rep (λ _ _ z=>z) (λ b hb=>fr0 b (by rcases uF.mp hb with z|z <;> simp [z])) hy,uW.mpr ⟨ndA,uW.mpr ⟨res.nd,ndB,λ b hb c hc z=>?_⟩,λ b hb c hc z=>?_⟩,λ b hb=>?_⟩
    ·subst z;exact dp' b (by simp [hc]) hb
    ·subst z
     rcases uF.mp hc with z|z
     ·exact dp' b (by simp [hb]) z
     ·exact djA b hb b (by simp [z]) rfl
    ·rcases uF.mp hb with z|z
     ·exact .inl (by simp [z])
     ·rcases uF.mp z with z|z
      ·exact .inr z
      ·exact .inl (by simp [z])
  obtain ⟨U2,fps2,r2,n2,_⟩:=back (F2:=F) (H2:=upd H a (.ins C dx (putF f y fs))) (fq:=a :: dx :: fq) (λ b o hb hbo=>by rw [zn0 (λ z=>hb (by simp [z]))];exact hbo) (λ _ _ z=>z) (λ b o z=>by
    have:b≠a:=λ q=>by subst q;rw [g3] at z;cases z
    rw [zn0 this];exact res.rs.fh b o z) (λ b _ fb _=>fb) (zji (.of zi0 λ _=>nofun)) (λ b hb hf=>by
    have:F b=none:=by
     rcases uD.mp hb with z|z
     ·rw [z];exact g3
     ·rcases uD.mp z with z|z
      ·rw [z];exact g4
      ·exact (g5.dom b z).2
    exact absurd this hf) (.ob zi0 (by rw [zn0 nx];exact g2) g3 g4 hq) (uQ.mpr ⟨λ z=>by
    rcases uD.mp z with y|y
    ·exact nx y.symm
    ·rcases mq a y with y|y
     ·exact na y
     ·exact ra y,uQ.mpr ⟨λ z=>by
    rcases mq dx z with y|y
    ·exact nxf y
    ·exact rx y,ndq⟩⟩) (λ b hb=>by
    rcases uD.mp hb with z|z
    ·exact .inl (by simp [z])
    ·rcases uD.mp z with z|z
     ·exact .inl (by simp [z])
     ·rcases mq b z with z|z
      ·exact .inl (by simp [z])
      ·exact .inr ⟨res.fr b z,λ j s' ej hs' hbj=>res.dj j s' ej hs' b hbj z⟩)
  exact ⟨U2,fps2,r2,n2⟩
noncomputable def dFld (C:Addr) (f:Str) (dc:DC) (dp:DP):DS:=λ E U=>dc U λ r U1=>dp U1 λ i p u=>nCls C u/\nSet f u r λ u2=>mutS U1 i p u2 E.nx
theorem zun {C:Addr} {f:Str} (c:Cls K C) (na:NoAttr K C f) (hc:RfC K tv dc) (hp:RfP K ta dp):RfS K (sFld K ta tv f) (dFld C f dc dp):=by
 intro B F H Y U fps E Z r h k
 refine hc r h λ r2 U1 q y F1 H1 fps1 fpr res=>hp res.rs.fh res.rs.rv q λ i p u hu v F2 H2 e2 at2=>?_
 have res2:=res.grow e2
 obtain ⟨fn,hr⟩:=at2.rt res2.rs.rv
 cases hr with
|ob g1 g2 g3 g4 g5 =>
  obtain ⟨hcl,hl,hm⟩:=hu
  cases (show _=C from hcl)
  have len:=(g5.keys f).2.2
  obtain ⟨U2,fps2,r3,n3⟩:=zd41 res2 at2 g1 hm
  exact ⟨_,_,_,_,rfl,g1,c,na,by lia,k.nx r3 n3⟩
|fz _=>exact hu.1.elim
|li _ _ _=>exact hu.1.elim
|ls _ _ _=>exact hu.1.elim
|dk _ _ _=>exact hu.1.elim
|dt _ _ _=>exact hu.1.elim
|tp _ _ _ _=>exact hu.1.elim
|wh=>exact hu.1.elim
|dd _ _ _ _=>exact hu.1.elim
noncomputable def zhg:List T->Option (List (List D))
|[]=>some []
|.li ds :: r=>(zhg r).map (ds :: ·)
|_ :: _=>none
noncomputable def toD:T->Option D
|.fz d=>some d
|.li ds=>some (.list ds)
|.ls ts=>(zhg ts).map λ dss=>.list (dss.map vF)
|_=>none
theorem zjn {F H:Hp} (s:Same F H):∀ {xs:List V} {ts:List T} {fp:List Addr} {dss:List (List D)},RtAll K F H xs ts fp->zhg ts=some dss->fp.Nodup->∃ F2,Same F F2/\Same F2 H/\(∀ b,b ∉ fp->F2 b=F b)/\IsAll K F2 xs (dss.map vF)
|_,_,_,_,.nil,e,_=>by cases e;exact ⟨F,λ _ _ z=>z,s,λ _ _=>rfl,.nil⟩
|_,_,_,_,.cons (fp:=fp) (fq:=fq) h r,e,nd=>by
  cases h with
 |li h1 h2 h3 =>
   rename_i a xs0 ds0
   unfold zhg at e
   obtain ⟨dss',e1,rfl⟩:=u5.mp e
   have nd':=uQ.mp nd
   obtain ⟨F1,s1,s2,s3,s4⟩:=zjn s r e1 nd'.2
   have fa:F1 a=none:=by rw [s3 a nd'.1];exact h2
   have sn:Same F1 (upd F1 a (.lst xs0)):=zx1 fa _
   refine ⟨upd F1 a (.lst xs0),s1.trans sn,λ b o z=>?_,λ b hb=>?_,.cons (.lst (SqL.of zi0) (h3.mono (s1.trans sn))) (s4.mono sn)⟩
   ·by_cases q:b=a
    ·subst q;rw [zi0] at z;cases z;exact h1
    ·rw [zn0 q] at z;exact s2 b o z
   ·have hb1:b≠a:=λ z=>hb (by simp [z])
    rw [zn0 hb1];exact s3 b λ z=>hb (by simp [z])
 |_=>cases e
theorem zjs {F H:Hp} (s:Same F H) {v:V} {t:T} {fp:List Addr} {d:D} (h:Rt K F H v t fp) (e:toD t=some d) (nd:fp.Nodup):∃ F2,Same F F2/\Same F2 H/\(∀ b,b ∉ fp->F2 b=F b)/\Is K F2 v d:=by
 cases h with
|fz i=>cases e;exact ⟨F,λ _ _ z=>z,s,λ _ _=>rfl,i⟩
|li h1 h2 h3 =>
  cases e
  rename_i a xs ds
  have sn:=zx1 (H:=F) h2 (.lst xs)
  refine ⟨_,sn,λ b o z=>?_,λ b hb=>zn0 λ q=>hb (by simp [q]),.lst (SqL.of zi0) (h3.mono sn)⟩
  by_cases q:b=a
  ·subst q;rw [zi0] at z;cases z;exact h1
  ·rw [zn0 q] at z;exact s b o z
|ls h1 h2 h3 =>
  rename_i a xs ts fp
  unfold toD at e
  obtain ⟨dss,e1,rfl⟩:=u5.mp e
  have nd':=uQ.mp nd
  obtain ⟨F1,s1,s2,s3,s4⟩:=zjn s h3 e1 nd'.2
  have fa:F1 a=none:=by rw [s3 a nd'.1];exact h2
  have sn:Same F1 (upd F1 a (.lst xs)):=zx1 fa _
  refine ⟨upd F1 a (.lst xs),s1.trans sn,λ b o z=>?_,λ b hb=>?_,.lst (SqL.of zi0) (s4.mono sn)⟩
  ·by_cases q:b=a
   ·subst q;rw [zi0] at z;cases z;exact h1
   ·rw [zn0 q] at z;exact s2 b o z
  ·have hb1:b≠a:=λ z=>hb (by simp [z])
   rw [zn0 hb1];exact s3 b λ z=>hb (by simp [z])
|ob _ _ _ _ _=>cases e
|dk _ _ _=>cases e
|dt _ _ _=>cases e
|tp _ _ _ _=>cases e
|wh=>cases e
|dd _ _ _ _=>cases e
noncomputable def getP:T->Pth->Option T
|t,[]=>some t
|.ls ts,.ix j :: p=>(ts[j]?).bind λ t=>getP t p
|.tp ts,.ix j :: p=>(ts[j]?).bind λ t=>getP t p
|.ob _ fs,.fl f :: p=>(fs.lookup f).bind λ t=>getP t p
|_,_=>none
theorem zx41 {F H:Hp} {p:Pth}:∀ {x:V} {t u:T} {fp:List Addr},Rt K F H x t fp->getP t p=some u->∃ v,At H x t p v u:=by
 induction p with
|nil=>intro x t u fp _ e;unfold getP at e;cases e;exact ⟨x,.nil⟩
|cons q p ih =>
  intro x t u fp h e
  cases h with
 |ls h1 h2 h3 =>
   cases q with
  |ix j =>
    unfold getP at e
    obtain ⟨t1,e1,e2⟩:=y0.mp e
    rename_i xs ts fp'
    have el:=h3.len
    have hj:j < ts.length:=by
     rcases vI j ts.length with y|y
     ·exact y
     ·rw [vC y] at e1;cases e1
    obtain ⟨y,hy⟩:∃ y,xs[j]?=some y:=⟨xs[j]'(by lia),uC _⟩
    obtain ⟨fA,fj,fB,_,hr,_⟩:=h3.split hy e1
    obtain ⟨v,hv⟩:=ih hr e2
    exact ⟨v,.ix h1 hy e1 hv⟩
  |fl f=>cases e
 |tp h1 h2 gk h3 =>
   cases q with
  |ix j =>
    unfold getP at e
    obtain ⟨t1,e1,e2⟩:=y0.mp e
    rename_i xs ts fp'
    have el:=h3.len
    have hj:j < ts.length:=by
     rcases vI j ts.length with y|y
     ·exact y
     ·rw [vC y] at e1;cases e1
    obtain ⟨y,hy⟩:∃ y,xs[j]?=some y:=⟨xs[j]'(by lia),uC _⟩
    obtain ⟨fA,fj,fB,_,hr,_⟩:=h3.split hy e1
    obtain ⟨v,hv⟩:=ih hr e2
    exact ⟨v,.tx h1 hy e1 hv⟩
  |fl f=>cases e
 |ob h1 h2 h3 h4 h5 =>
   cases q with
  |fl f =>
    unfold getP at e
    obtain ⟨t1,e1,e2⟩:=y0.mp e
    obtain ⟨y,hy⟩:=(h5.keys f).2.1 t1 e1
    obtain ⟨fA,fj,fB,_,hr,_⟩:=h5.split hy e1
    obtain ⟨v,hv⟩:=ih hr e2
    exact ⟨v,.fl h1 hy e1 hv⟩
  |ix j=>cases e
 |fz _=>cases q <;> cases e
 |li _ _ _=>cases q <;> cases e
 |dk _ _ _=>cases q <;> cases e
 |dt _ _ _=>cases q <;> cases e
 |wh=>cases q <;> cases e
 |dd _ _ _ _=>cases q <;> cases e
noncomputable def fzS (U:DSt) (i:Nat) (p:Pth) (N:DSt->Prop):Prop:=match U[i]? with
|some (.ow t)=>∃ u d,getP t p=some u/\toD u=some d/\N (U.set i (slot (setP t p (.fz d))))
|some (.sh _)=>N U
|_=>False
noncomputable def dFrz (i:Nat) (p:Pth) (d:DS):DS:=λ E U=>fzS U i p λ U'=>d E U'
theorem RS.frz {B:Bs} {F H:Hp} {Y:_2.St} {U:DSt} {fps:Nat->List Addr} {i:Nat} {p:Pth} {N:DSt->Prop} (r:RS K B F H Y U fps) (h:fzS U i p N):∃ F2 U2 fps2,RS K B F2 H Y U2 fps2/\N U2:=by
 unfold fzS at h
 split at h
 ·rename_i t q
  obtain ⟨u,d,eg,ed,hN⟩:=h
  obtain ⟨x,t',a1,a2,a3,a4,a5⟩:=r.rt i _ q rfl
  cases a2
  obtain ⟨v,hv⟩:=zx41 a3 eg
  obtain ⟨fn,t1,h1,h2,h3,h4,back⟩:=r.put q rfl ⟨_,_,x,q,rfl,a1,hv⟩
  cases h1
  obtain ⟨F2,s1,s2,s3,s4⟩:=zjs r.fh h2 ed h3
  obtain ⟨fps2,r2,_⟩:=back (F2:=F2) (H2:=H) (fq:=[]) (λ _ _ _ z=>z) s1 s2 (λ b _ fb hb=>by rw [s3 b hb];exact fb) (λ _=>⟨id,id⟩) (λ b hb _=>(r.fr i _ q rfl b (h4 b hb)).elim id λ z=>absurd rfl (z.2 t)) (.fz s4) .nil (λ b hb=>by simp at hb)
  have hw:(Sl.ow t).wth (setP t p (.fz d))=.ow (setP t p (.fz d)):=rfl
  rw [hw] at r2
  -- a slot whose whole is frozen becomes a plain one
  cases hs:setP t p (.fz d) with
 |fz d' =>
   rw [hs] at r2 hN
   obtain ⟨x',t'',b1,b2,b3,b4,b5⟩:=r2.rt i _ (vO (by
    rcases vI i U.length with z|z
    ·exact z
    ·rw [vC z] at q;cases q)) rfl
   cases b2
   obtain ⟨d2,hd2,hi⟩:=zhv (Q:=λ z=>z=d') b3 rfl
   subst hd2
   ·have r3:=r2.setS (i:=i) hi
    rw [yD] at r3
    have eY:Y.set i (some x')=Y:=by
     apply yE
     intro j
     rw [vU]
     by_cases hij:i=j
     ·subst hij
      have hlt:i < Y.length:=by
       rw [r.len]
       rcases vI i U.length with z|z
       ·exact z
       ·rw [vC z] at q;cases q
      simp [hlt]
      have:=zg2 (F:=F) (H:=H) (U:=U) b1
      rw [uC hlt] at this
      exact (u8.inj this).symm
     ·simp [hij]
    rw [eY] at r3
    exact ⟨F2,_,fps2,r3,hN⟩
 |li _=>rw [hs] at r2 hN;exact ⟨F2,_,fps2,r2,hN⟩
 |ls _=>rw [hs] at r2 hN;exact ⟨F2,_,fps2,r2,hN⟩
 |ob _ _=>rw [hs] at r2 hN;exact ⟨F2,_,fps2,r2,hN⟩
 |dk _=>rw [hs] at r2 hN;exact ⟨F2,_,fps2,r2,hN⟩
 |dt _=>rw [hs] at r2 hN;exact ⟨F2,_,fps2,r2,hN⟩
 |tp _=>rw [hs] at r2 hN;exact ⟨F2,_,fps2,r2,hN⟩
 |wh=>rw [hs] at r2 hN;exact ⟨F2,_,fps2,r2,hN⟩
 |dd _=>rw [hs] at r2 hN;exact ⟨F2,_,fps2,r2,hN⟩
 ·exact ⟨F,U,fps,r,h⟩
 ·exact h.elim
theorem zw6 (i:Nat) (p:Pth) (h:RfS K t d):RfS K t (dFrz i p d):=by
 intro B F H Y U fps E Z r hd k
 obtain ⟨F2,U2,fps2,r2,h2⟩:=r.frz hd
 exact h r2 h2 k
end
set_option genInjectivity true in
inductive Arg where
|d (d:D)|b (t:T)|o (t:T)
inductive ArgP where
|d (d:D)|b (i:Nat) (p:Pth) (t:T)|o (i:Nat) (p:Pth) (t:T)
noncomputable def ArgP.arg:ArgP->Arg
|.d x=>.d x
|.b _ _ x=>.b x
|.o _ _ x=>.o x
inductive ArgsR (K:Fg) (F H:Hp):List V->List Arg->List Addr->Option (Addr×List Addr)->Prop
|nil:ArgsR K F H [] [] [] none
|d {v:V} {d:D} {vs:List V} {as:List Arg} {bf:List Addr} {oo:Option (Addr×List Addr)}:Is K F v d->ArgsR K F H vs as bf oo->ArgsR K F H (v :: vs) (.d d :: as) bf oo
|b {v:V} {t:T} {fp:List Addr} {vs:List V} {as:List Arg} {bf:List Addr} {oo:Option (Addr×List Addr)}:Rt K F H v t fp->fp.Nodup->ArgsR K F H vs as bf oo->ArgsR K F H (v :: vs) (.b t :: as) (fp++bf) oo
|o {a:Addr} {t:T} {fp:List Addr} {vs:List V} {as:List Arg} {bf:List Addr}:Rt K F H (.ref a) t fp->fp.Nodup->ArgsR K F H vs as bf none->ArgsR K F H (.ref a :: vs) (.o t :: as) bf (some (a,fp))
noncomputable def ofp:Option (Addr×List Addr)->List Addr
|none=>[]
|some x=>x.2
structure Post (K:Fg) (F H:Hp) (oo:Option (Addr×List Addr)) (F' H':Hp) (v:V) (r:T) (fpr:List Addr) (t':T) (fpo:List Addr):Prop where
 hh:∀ b o,b ∉ ofp oo->H b=some o->H' b=some o
 ff:Same F F'
 fh:Same F' H'
 nw:∀ b,HD (H b)->F b=none->F' b=none
 al:∀ b,(H b≠none->H' b≠none)/\(HD (H b)->HD (H' b))
 rt:Rt K F' H' v r fpr
 nd:fpr.Nodup
 fr:∀ a∈fpr,H a=none
 io:∀ a fp,oo=some (a,fp)->Rt K F' H' (.ref a) t' fpo/\fpo.Nodup/\(∀ b∈fpo,b∈fp \/ H b=none)/\∀ b∈fpo,b ∉ fpr
noncomputable abbrev DSpT:=List Arg->(T->T->Prop)->Prop
noncomputable def spT (K:Fg) (p:DSpT):Sp:=λ vs H Q _=>∃ F as bf oo Qd,Same F H/\ArgsR K F H vs as bf oo/\(∀ b∈ofp oo,b ∉ bf)/\p as Qd/\∀ r t',Qd r t'->∀ v F' H' fpr fpo,Post K F H oo F' H' v r fpr t' fpo->Q v H'
section
variable {K:Fg} {te ta ti tv:TE} {de da di dk:DE} {dc:DC} {tt:TT} {dt:DT} {t u tb:TS} {d e db:DS} {tA:TA} {dA:DF} {g:TG} {dg:DG} {n:Nat} {dp:DP} {w:World}
inductive ArgsP (K:Fg) (F H:Hp) (Y:_2.St) (U:DSt):List V->List ArgP->Prop
|nil:ArgsP K F H Y U [] []
|d {v:V} {d:D} {vs:List V} {as:List ArgP}:Is K F v d->ArgsP K F H Y U vs as->ArgsP K F H Y U (v :: vs) (.d d :: as)
|b {v:V} {i:Nat} {p:Pth} {t:T} {vs:List V} {as:List ArgP}:AtS H Y U i p v t->ArgsP K F H Y U vs as->ArgsP K F H Y U (v :: vs) (.b i p t :: as)
|o {v:V} {i:Nat} {p:Pth} {t:T} {vs:List V} {as:List ArgP}:AtS H Y U i p v t->ArgsP K F H Y U vs as->ArgsP K F H Y U (v :: vs) (.o i p t :: as)
noncomputable abbrev DAT:=DSt->(List ArgP->Prop)->Prop
noncomputable def RfAT (K:Fg) (ta:TA) (da:DAT):Prop:=∀ {F H:Hp} {Y:_2.St} {U:DSt} {Qd:List ArgP->Prop} {Q:List V->Hp->Prop},Same F H->RV K F H Y U->da U Qd->(∀ as,Qd as->∀ vs F' H',Ext F H F' H'->ArgsP K F' H' Y U vs as->Q vs H')->ta Y H Q
variable {dA':DAT}
noncomputable def aNil:DAT:=λ _ Q=>Q []
noncomputable def aD (de:DE) (dr:DAT):DAT:=λ U Q=>de U λ x=>dr U λ as=>Q (.d x :: as)
noncomputable def aB (dp:DP) (dr:DAT):DAT:=λ U Q=>dp U λ i p t=>dr U λ as=>Q (.b i p t :: as)
noncomputable def aO (dp:DP) (dr:DAT):DAT:=λ U Q=>dp U λ i p t=>dr U λ as=>Q (.o i p t :: as)
theorem zn5:RfAT K tNil aNil:=λ s rv h k=>k _ h _ _ _ (Ext.refl s) .nil
theorem at_d (ha:RfE K ta da) (hr:RfAT K tA dA'):RfAT K (zl4 ta tA) (aD da dA'):=by
 intro F H Y U Qd Q s rv h k
 refine ha s rv h λ x hx v F1 H1 e1 i1=>hr e1.fh (rv.ext e1) hx λ as has vs F2 H2 e2 i2=>?_
 exact k _ has _ F2 H2 (e1.trans e2) (.d (i1.mono e2.f) i2)
theorem at_b (ha:RfP K ta dp) (hr:RfAT K tA dA'):RfAT K (zl4 ta tA) (aB dp dA'):=by
 intro F H Y U Qd Q s rv h k
 refine ha s rv h λ i p t hx v F1 H1 e1 i1=>hr e1.fh (rv.ext e1) hx λ as has vs F2 H2 e2 i2=>?_
 exact k _ has _ F2 H2 (e1.trans e2) (.b (i1.mono e2.h) i2)
theorem at_o (ha:RfP K ta dp) (hr:RfAT K tA dA'):RfAT K (zl4 ta tA) (aO dp dA'):=by
 intro F H Y U Qd Q s rv h k
 refine ha s rv h λ i p t hx v F1 H1 e1 i1=>hr e1.fh (rv.ext e1) hx λ as has vs F2 H2 e2 i2=>?_
 exact k _ has _ F2 H2 (e1.trans e2) (.o (i1.mono e2.h) i2)
noncomputable def noO:List ArgP->Prop
|[]=>True
|.o _ _ _ :: _=>False
|.d _ :: r=>noO r
|.b _ _ _ :: r=>noO r
noncomputable def noS (i:Nat):List ArgP->Prop
|[]=>True
|.b j _ _ :: r=>j≠i/\noS i r
|.d _ :: r=>noS i r
|.o _ _ _ :: r=>noS i r
noncomputable def zcn:List ArgP->Option (Nat×Pth×T)
|[]=>none
|.o i p t :: _=>some (i,p,t)
|.d _ :: r=>zcn r
|.b _ _ _ :: r=>zcn r
noncomputable def oneO (i:Nat):List ArgP->Prop
|[]=>False
|.o _ _ _ :: r=>noO r/\noS i r
|.d _ :: r=>oneO i r
|.b j _ _ :: r=>j≠i/\oneO i r
noncomputable def zrr (U:DSt) (i:Nat):Prop:=match U[i]? with
|some (.ow _)=>True
|some (.io _ _)=>True
|_=>False
noncomputable def zch:T->Prop
|.fz _=>False
|_=>True
theorem zjf {F H:Hp} {Y:_2.St} {U:DSt} {fps:Nat->List Addr} (rt:∀ {i:Nat} {p:Pth} {v:V} {u:T},AtS H Y U i p v u->∃ fn,Rt K F H v u fn/\fn.Nodup/\∀ a∈fn,a∈fps i/\∃ s,U[i]?=some s/\s.has=true):∀ {vs:List V} {as:List ArgP},ArgsP K F H Y U vs as->noO as->∃ bf,ArgsR K F H vs (as.map ArgP.arg) bf none/\∀ i,noS i as->∀ b∈bf,∃ j,j≠i/\b∈fps j/\∃ s,U[j]?=some s/\s.has=true
|_,_,.nil,_=>⟨[],.nil,λ i _ b hb=>by simp at hb⟩
|_,_,.d h r,hn=>by
  obtain ⟨bf,h1,h2⟩:=zjf rt r hn
  exact ⟨bf,.d h h1,h2⟩
|_,_,.b (i:=i') h r,hn=>by
  obtain ⟨bf,h1,h2⟩:=zjf rt r hn
  obtain ⟨fn,g1,g2,g3⟩:=rt h
  refine ⟨fn++bf,.b g1 g2 h1,λ i hi b hb=>?_⟩
  rcases uF.mp hb with z|z
  ·exact ⟨i',hi.1,(g3 b z).1,(g3 b z).2⟩
  ·exact h2 i hi.2 b z
|_,_,.o h r,hn=>hn.elim
theorem zid {F H:Hp} {Y:_2.St} {U:DSt} {fps:Nat->List Addr} (rt:∀ {i:Nat} {p:Pth} {v:V} {u:T},AtS H Y U i p v u->∃ fn,Rt K F H v u fn/\fn.Nodup/\∀ a∈fn,a∈fps i/\∃ s,U[i]?=some s/\s.has=true) {i:Nat} {p:Pth} {u:T}:∀ {vs:List V} {as:List ArgP},ArgsP K F H Y U vs as->zcn as=some (i,p,u)->oneO i as->zch u ->
  ∃ a,AtS H Y U i p (.ref a) u/\∀ fn,Rt K F H (.ref a) u fn->fn.Nodup->∃ bf,ArgsR K F H vs (as.map ArgP.arg) bf (some (a,fn))/\∀ b∈bf,∃ j,j≠i/\b∈fps j/\∃ s,U[j]?=some s/\s.has=true
|_,_,.nil,e,_,_=>by cases e
|_,_,.d h r,e,hn,hf=>by
  obtain ⟨a,h1,h2⟩:=zid rt r e hn hf
  refine ⟨a,h1,λ fn g1 g2=>?_⟩
  obtain ⟨bf,k1,k2⟩:=h2 fn g1 g2
  exact ⟨bf,.d h k1,k2⟩
|_,_,.b (i:=i') h r,e,hn,hf=>by
  obtain ⟨a,h1,h2⟩:=zid rt r e hn.2 hf
  obtain ⟨fb,g1,g2,g3⟩:=rt h
  refine ⟨a,h1,λ fn k1 k2=>?_⟩
  obtain ⟨bf,m1,m2⟩:=h2 fn k1 k2
  refine ⟨fb++bf,.b g1 g2 m1,λ b hb=>?_⟩
  rcases uF.mp hb with z|z
  ·exact ⟨i',hn.1,(g3 b z).1,(g3 b z).2⟩
  ·exact m2 b z
|_,_,.o h r,e,hn,hf=>by
  cases e
  obtain ⟨bf,m1,m2⟩:=zjf rt r hn.1
  obtain ⟨fn0,g1,_,_⟩:=rt h
  cases g1 with
 |fz _=>exact hf.elim
 |li _ _ _=>exact ⟨_,h,λ fn k1 k2=>⟨bf,.o k1 k2 m1,m2 i hn.2⟩⟩
 |ls _ _ _=>exact ⟨_,h,λ fn k1 k2=>⟨bf,.o k1 k2 m1,m2 i hn.2⟩⟩
 |ob _ _ _ _ _=>exact ⟨_,h,λ fn k1 k2=>⟨bf,.o k1 k2 m1,m2 i hn.2⟩⟩
 |dk _ _ _=>exact ⟨_,h,λ fn k1 k2=>⟨bf,.o k1 k2 m1,m2 i hn.2⟩⟩
 |dt _ _ _=>exact ⟨_,h,λ fn k1 k2=>⟨bf,.o k1 k2 m1,m2 i hn.2⟩⟩
 |tp _ _ _ _=>exact ⟨_,h,λ fn k1 k2=>⟨bf,.o k1 k2 m1,m2 i hn.2⟩⟩
 |wh=>exact ⟨_,h,λ fn k1 k2=>⟨bf,.o k1 k2 m1,m2 i hn.2⟩⟩
 |dd _ _ _ _=>exact ⟨_,h,λ fn k1 k2=>⟨bf,.o k1 k2 m1,m2 i hn.2⟩⟩
theorem RS.rtS {B:Bs} {F H:Hp} {Y:_2.St} {U:DSt} {fps:Nat->List Addr} (r:RS K B F H Y U fps) {i:Nat} {p:Pth} {v:V} {u:T} (h:AtS H Y U i p v u):∃ fn,Rt K F H v u fn/\fn.Nodup/\∀ a∈fn,a∈fps i/\∃ s,U[i]?=some s/\s.has=true:=by
 obtain ⟨s,t,x,h1,h2,h3,h4⟩:=h
 by_cases hs:s.has=true
 ·obtain ⟨x',t',a1,a2,a3,a4,a5⟩:=r.rt i s h1 hs
  rw [h3] at a1;cases a1
  rw [h2] at a2;cases a2
  obtain ⟨fn,g1,g2,g3,_⟩:=zd21 h4 a3 a5
  exact ⟨fn,g1,g3,λ a ha=>⟨g2 a ha,s,h1,hs⟩⟩
 ·cases s with
 |sh d =>
   cases h2
   obtain ⟨y,b1,b2⟩:=r.sh i d h1
   rw [h3] at b1;cases b1
   cases h4
   exact ⟨[],.fz b2,.nil,λ a ha=>by simp at ha⟩
 |un=>cases h2
 |ow _=>exact absurd rfl hs
 |bo _=>exact absurd rfl hs
 |io _ _=>exact absurd rfl hs
theorem zqp {U:DSt} {i:Nat} {p:Pth} {u t0:T} {s:Sl} {N:DSt->Prop} (hi:U[i]?=some s) (ho:s.own=true) (ht:s.tree=some t0) (h:mutS U i p u N):N (U.set i (s.wth (setP t0 p u))):=by
 unfold mutS at h
 rw [hi] at h
 cases s with
|ow t=>cases ht;exact h
|io a t=>cases ht;exact h
|un=>cases ho
|sh _=>cases ho
|bo _=>cases ho
noncomputable def zbr (p:DSpT) (U:DSt) (as:List ArgP) (Q:T->DSt->Prop):Prop:=match zcn as with
|some (i,q,t)=>zrr U i/\oneO i as/\zch t/\p (as.map ArgP.arg) λ r t2=>mutS U i q t2 λ U'=>Q r U'
|none=>noO as/\p (as.map ArgP.arg) λ r _=>Q r U
theorem znh {B:Bs} {F H:Hp} {Y:_2.St} {U:DSt} {fps:Nat->List Addr} {p:DSpT} {vs:List V} {as:List ArgP} {Qd:T->DSt->Prop} {Q:VK} {E:XK} (r:RS K B F H Y U fps) (ha:ArgsP K F H Y U vs as) (hc:zbr p U as Qd)
  (k:∀ r U',Qd r U'->∀ v F' H' fps' fpr,Res K B F' H' Y U' fps' v r fpr->Q v H'):spT K p vs H Q E:=by
 unfold zbr at hc
 split at hc
 ·rename_i i q t0 eo
  obtain ⟨ho,h1,hf,hp⟩:=hc
  obtain ⟨s,hs,hso⟩:∃ s,U[i]?=some s/\s.own=true:=by
   unfold zrr at ho
   split at ho
   ·rename_i q;exact ⟨_,q,rfl⟩
   ·rename_i q;exact ⟨_,q,rfl⟩
   ·exact ho.elim
  obtain ⟨a,hat,hargs⟩:=zid (λ h=>r.rtS h) ha eo h1 hf
  obtain ⟨fn,t1,g1,g2,g3,g4,back⟩:=r.put hs hso hat
  obtain ⟨bf,m1,m2⟩:=hargs fn g2 g3
  refine ⟨F,_,bf,some (a,fn),_,r.fh,m1,λ b hb hbf=>?_,hp,λ r2 t2 q2 v F' H' fpr fpo post=>?_⟩
  ·obtain ⟨j,hj,hbj,sj,e1,hh⟩:=m2 b hbf
   exact r.dj i j s sj (λ z=>hj z.symm) hs e1 hso hh b (g4 b hb) hbj
  ·obtain ⟨io1,io2,io3,io4⟩:=post.io a fn rfl
   obtain ⟨fps2,r2',e2,e3⟩:=back (F2:=F') (H2:=H') (u2:=t2) (fq:=fpo) post.hh post.ff post.fh (λ b hb fb _=>post.nw b hb fb) post.al (λ b hb f=>absurd (post.nw b (g2.hdd b hb) (g2.dom b hb).2) f) io1 io2 (λ b hb=>(io3 b hb).elim .inl λ z=>.inr (r.newOk z))
   have qd:=zqp hs hso g1 q2
   refine k _ _ qd v F' H' fps2 fpr ⟨r2',post.rt,post.nd,λ b hb=>(r.newOk (post.fr b hb)).1,λ j s' ej hs' b hb hbr=>?_⟩
   have fresh:=post.fr b hbr
   by_cases hji:j=i
   ·subst hji
    rcases e3 b hb with z|z
    ·obtain ⟨x',t',a1,a2,a3,a4,a5⟩:=r.rt j s hs (zt3 hso)
     exact (a3.dom b z).1 fresh
    ·exact io4 b z hbr
   ·rw [e2 j hji] at hb
    rw [vK (λ z=>hji z.symm)] at ej
    exact (r.newOk fresh).2 j s' ej hs' hb
 ·rename_i eo
  obtain ⟨hn,hp⟩:=hc
  obtain ⟨bf,m1,_⟩:=zjf (λ h=>r.rtS h) ha hn
  refine ⟨F,_,bf,none,_,r.fh,m1,λ b hb=>by simp [ofp] at hb,hp,λ r2 t2 q2 v F' H' fpr fpo post=>?_⟩
  have ex:Ext F H F' H':=⟨λ b o hb=>post.hh b o (by simp [ofp]) hb,post.ff,post.fh,post.nw⟩
  exact k _ _ q2 v F' H' fps fpr ⟨r.grow ex,post.rt,post.nd,λ b hb=>(r.newOk (post.fr b hb)).1,λ j s' ej hs' b hb hbr=>(r.newOk (post.fr b hbr)).2 j s' ej hs' hb⟩
noncomputable def zw51 (p:DSpT) (da:DAT):DC:=λ U Q=>da U λ as=>zbr p U as Q
theorem ztg {p:DSpT} {E:XK} (h:RfAT K tA dA'):RfC K (zhk (spT K p) [] E tA) (zw51 p dA'):=by
 intro B F H Y U fps Qd Q r hd k
 refine h r.fh r.rv hd λ as has vs F1 H1 e1 i1=>?_
 rw [vL]
 exact znh (r.grow e1) i1 has k
noncomputable def noM (m:Str) (u:T):Prop:=match u with
|.ob _ fs=>fs.lookup m=none
|_=>False
noncomputable def za61 (o:Bool) (C:Addr) (m:Str) (p:DSpT) (dp:DP) (da:DAT):DC:=λ U Q=>dp U λ i q u=>nCls C u/\noM m u/\da U λ as=>zbr p U ((if o then .o i q u else .b i q u) :: as) Q
theorem zaf {F H:Hp} {v:V} {u:T} {fn:List Addr} {C:Addr} {m:Str} (hr:Rt K F H v u fn) (hc:nCls C u) (hm:noM m u):∃ a dx fs,v=.ref a/\H a=some (.ins C dx fs)/\fs.lookup m=none:=by
 cases hr with
|ob g1 g2 g3 g4 g5 =>
  cases (show _=C from hc)
  exact ⟨_,_,_,rfl,g1,(g5.keys m).1 hm⟩
|fz _=>exact hc.elim
|li _ _ _=>exact hc.elim
|ls _ _ _=>exact hc.elim
|dk _ _ _=>exact hc.elim
|dt _ _ _=>exact hc.elim
|tp _ _ _ _=>exact hc.elim
|wh=>exact hc.elim
|dd _ _ _ _=>exact hc.elim
theorem zo6 {p:DSpT} {E:XK} {C:Addr} {m:Str} (o:Bool) (hp:RfP K ta dp) (h:RfAT K tA dA'):RfC K (zpr C m (spT K p) [] E ta tA) (za61 o C m p dp dA'):=by
 intro B F H Y U fps Qd Q r hd k
 refine hp r.fh r.rv hd λ i q u hu v F1 H1 e1 at1=>?_
 have r1:=r.grow e1
 obtain ⟨fn,hr⟩:=at1.rt r1.rv
 obtain ⟨a,dx,fs,rfl,h1,h2⟩:=zaf hr hu.1 hu.2.1
 refine ⟨a,dx,fs,rfl,h1,h2,h r1.fh r1.rv hu.2.2 λ as has vs F2 H2 e2 i2=>?_⟩
 rw [vL]
 have at2:=at1.mono e2.h
 cases o with
|true=>exact znh (r1.grow e2) (.o at2 i2) has k
|false=>exact znh (r1.grow e2) (.b at2 i2) has k
noncomputable def zgr (p:DSpT) (as:List ArgP) (Q:T->Prop):Prop:=noO as/\p (as.map ArgP.arg) λ r _=>Q r
theorem AtS.rtV {F H:Hp} {Y:_2.St} {U:DSt} (r:RV K F H Y U) {i:Nat} {p:Pth} {v:V} {u:T} (h:AtS H Y U i p v u):∃ fn,Rt K F H v u fn/\fn.Nodup:=by
 obtain ⟨s,t,x,h1,h2,h3,h4⟩:=h
 obtain ⟨y,fp,e,hr,nd⟩:=(r.sl i s h1).rt h2
 rw [h3] at e;cases e
 obtain ⟨fn,g1,_,g3,_⟩:=zd21 h4 hr nd
 exact ⟨fn,g1,g3⟩
theorem zse {F H:Hp} {Y:_2.St} {U:DSt} (r:RV K F H Y U):∀ {vs:List V} {as:List ArgP},ArgsP K F H Y U vs as->noO as->∃ bf,ArgsR K F H vs (as.map ArgP.arg) bf none
|_,_,.nil,_=>⟨[],.nil⟩
|_,_,.d h q,hn=>by
  obtain ⟨bf,h1⟩:=zse r q hn
  exact ⟨bf,.d h h1⟩
|_,_,.b h q,hn=>by
  obtain ⟨bf,h1⟩:=zse r q hn
  obtain ⟨fn,g1,g2⟩:=h.rtV r
  exact ⟨fn++bf,.b g1 g2 h1⟩
|_,_,.o h r,hn=>hn.elim
theorem zli {F H:Hp} {Y:_2.St} {U:DSt} {p:DSpT} {vs:List V} {as:List ArgP} {Qd:T->Prop} {Q:VK} {E:XK} (s:Same F H) (r:RV K F H Y U) (ha:ArgsP K F H Y U vs as) (hc:zgr p as Qd)
  (k:∀ r,Qd r->∀ v F' H' fp,Ext F H F' H'->Rt K F' H' v r fp->fp.Nodup->(∀ a∈fp,H a=none)->Q v H'):spT K p vs H Q E:=by
 obtain ⟨bf,m1⟩:=zse r ha hc.1
 refine ⟨F,_,bf,none,_,s,m1,λ b hb=>by simp [ofp] at hb,hc.2,λ r2 t2 q2 v F' H' fpr fpo post=>?_⟩
 exact k _ q2 v F' H' fpr ⟨λ b o hb=>post.hh b o (by simp [ofp]) hb,post.ff,post.fh,post.nw⟩ post.rt post.nd post.fr
noncomputable def ze71 (p:DSpT) (da:DAT):DN:=λ U Q=>da U λ as=>zgr p as Q
noncomputable def zj61 (C:Addr) (m:Str) (p:DSpT) (dp:DP) (da:DAT):DN:=λ U Q=>dp U λ i q u=>nCls C u/\noM m u/\da U λ as=>zgr p (.b i q u :: as) Q
theorem znx {p:DSpT} {E:XK} (h:RfAT K tA dA'):RfN K (zhk (spT K p) [] E tA) (ze71 p dA'):=by
 intro F H Y U Qd Q s rv hd k
 refine h s rv hd λ as has vs F1 H1 e1 i1=>?_
 rw [vL]
 exact zli e1.fh (rv.ext e1) i1 has λ r q v F' H' fp e2 h1 h2 h3=>k r q v F' H' fp (e1.trans e2) h1 h2 λ a ha=>zd1 e1 (h3 a ha)
theorem zst {p:DSpT} {E:XK} {C:Addr} {m:Str} (hp:RfP K ta dp) (h:RfAT K tA dA'):RfN K (zpr C m (spT K p) [] E ta tA) (zj61 C m p dp dA'):=by
 intro F H Y U Qd Q s rv hd k
 refine hp s rv hd λ i q u hu v F1 H1 e1 at1=>?_
 have rv1:=rv.ext e1
 obtain ⟨fn,hr⟩:=at1.rt rv1
 obtain ⟨a,dx,fs,rfl,h1,h2⟩:=zaf hr hu.1 hu.2.1
 refine ⟨a,dx,fs,rfl,h1,h2,h e1.fh rv1 hu.2.2 λ as has vs F2 H2 e2 i2=>?_⟩
 rw [vL]
 have e12:=e1.trans e2
 exact zli e2.fh (rv.ext e12) (.b (at1.mono e2.h) i2) has λ r q v F' H' fp e3 h1 h2 h3=>k r q v F' H' fp (e12.trans e3) h1 h2 λ a ha=>zd1 e12 (h3 a ha)
noncomputable def eN (dn:DN):DE:=λ U Q=>dn U λ r=>fzT r Q
theorem RfN.ex {dn:DN} (h:RfN K te dn):RfE K te (eN dn):=λ s rv hd k=>h s rv hd λ r q v F' H' fp e1 h1 h2 h3=>by
 obtain ⟨d,qd,i⟩:=zhv h1 q
 exact k d qd v F' H' e1 i
noncomputable def zc61 (C:Addr) (p:DSpT) (da:DAT):DN:=λ U Q=>da U λ as=>noO as/\p (.o (.ob C []) :: as.map ArgP.arg) λ r t2=>(match r with|.fz .none=>True|_=>False)/\Q t2
theorem zps {p:DSpT} {E:XK} {C:Addr} (h:RfAT K tA dA'):RfN K (zw41 C (spT K p) [] E tA) (zc61 C p dA'):=by
 intro F H Y U Qd Q s rv hd k
 refine h s rv hd λ as has vs F1 H1 e1 i1=>?_
 intro x dx hx hdx hne
 obtain ⟨bf,m1⟩:=zse (rv.ext e1) i1 has.1
 have hH:∀ b,b≠x->b≠dx->upd (upd H1 dx (.own x)) x (.ins C dx []) b=H1 b:=λ b h1 h2=>by rw [zn0 h1,zn0 h2]
 have s2:Same H1 (upd (upd H1 dx (.own x)) x (.ins C dx [])):=λ b o z=>by
  rw [hH b (λ q=>by subst q;rw [hx] at z;cases z) (λ q=>by subst q;rw [hdx] at z;cases z)];exact z
 have fx:F1 x=none:=by
  cases q:F1 x with
 |none=>rfl
 |some o=>rw [e1.fh x o q] at hx;cases hx
 have fdx:F1 dx=none:=by
  cases q:F1 dx with
 |none=>rfl
 |some o=>rw [e1.fh dx o q] at hdx;cases hdx
 have m2:ArgsR K F1 (upd (upd H1 dx (.own x)) x (.ins C dx [])) vs (as.map ArgP.arg) bf none/\∀ b∈bf,H1 b≠none:=by
  have key:∀ {vs:List V} {as:List Arg} {bf:List Addr} {oo:Option (Addr×List Addr)},ArgsR K F1 H1 vs as bf oo->oo=none->ArgsR K F1 (upd (upd H1 dx (.own x)) x (.ins C dx [])) vs as bf none/\∀ b∈bf,H1 b≠none:=λ {vs as bf oo} hh=>by
   induction hh with
  |nil=>intro _;exact ⟨.nil,λ b hb=>by simp at hb⟩
  |d h1 _ ih=>intro e;exact ⟨.d h1 (ih e).1,(ih e).2⟩
  |b h1 h2 _ ih =>
    intro e
    refine ⟨.b (h1.frame (λ _ _ z=>z) λ b hb=>⟨?_,(h1.dom b hb).2⟩) h2 (ih e).1,λ b hb=>?_⟩
    ·exact hH b (λ q=>by subst q;exact (h1.dom b hb).1 hx) (λ q=>by subst q;exact (h1.dom b hb).1 hdx)
    ·rcases uF.mp hb with z|z
     ·exact (h1.dom b z).1
     ·exact (ih e).2 b z
  |o _ _ _ _=>intro e;cases e
  exact key m1 rfl
 refine ⟨F1,_,bf,some (x,[x,dx]),_,e1.fh.trans s2,.o (.ob zi0 (by rw [zn0 hne,zi0]) fx fdx .nil) (by simp [Ne.symm hne]) (by rw [vL];exact m2.1),λ b hb hbf=>?_,has.2,λ r t2 q2 v F' H' fpr fpo post=>?_⟩
 ·have:=m2.2 b hbf
  simp [ofp] at hb
  rcases hb with z|z
  ·exact this (by rw [z];exact hx)
  ·exact this (by rw [z];exact hdx)
 ·obtain ⟨q0,q1⟩:=q2
  obtain ⟨io1,io2,io3,io4⟩:=post.io x [x,dx] rfl
  refine ⟨?_,k _ q1 (.ref x) F' H' fpo (e1.trans ⟨λ b o z=>?_,post.ff,post.fh,λ b hb fb=>post.nw b (hb.mono s2) fb⟩) io1 io2 λ b hb=>zd1 e1 ?_⟩
  ·split at q0
   ·cases post.rt with
   |fz i=>exact i.non_inv
   ·exact q0.elim
  ·refine post.hh b o (λ w=>?_) (s2 b o z)
   simp [ofp] at w
   rcases w with w|w
   ·rw [w,hx] at z;cases z
   ·rw [w,hdx] at z;cases z
  ·rcases io3 b hb with z|z
   ·simp at z
    rcases z with z|z
    ·rw [z];exact hx
    ·rw [z];exact hdx
   ·cases q:H1 b with
   |none=>rfl
   |some o=>rw [s2 b o q] at z;cases z
end
section
variable {P:Program} {w:World} {K:Fg} {mg:Str->Option Value} {base:Heap}
noncomputable def zyz (a:Addr):Arg->Sl
|.d x=>.sh x
|.b x=>.bo x
|.o x=>.io a x
noncomputable def zag (N:List Str) (a:Addr) (as:List Arg):DSt:=as.map (zyz a)++uN (N.length - as.length) .un
noncomputable def oIx:List Arg->Option Nat
|[]=>none
|.o _ :: _=>some 0
|.d _ :: r=>(oIx r).map (·+1)
|.b _ :: r=>(oIx r).map (·+1)
noncomputable def exA (as:List Arg) (a:Addr) (Qd:T->T->Prop) (r:T) (U:DSt):Prop:=match oIx as with
|none=>Qd r (.fz .none)
|some k=>∃ t',U[k]?=some (.io a t')/\Qd r t'
noncomputable def zu71 (as:List Arg) (a:Addr) (Qd:T->T->Prop):DEnds:={ nx:=exA as a Qd (.fz .none),rt:=exA as a Qd }
theorem zfb {F H:Hp}:∀ {vs:List V} {as:List Arg} {bf:List Addr} {oo:Option (Addr×List Addr)},ArgsR K F H vs as bf oo->vs.length=as.length/\∃ fl:Nat->List Addr,
  (∀ (k:Nat) x,as[k]?=some (.d x)->∃ v,vs[k]?=some v/\Is K F v x) /\
  (∀ (k:Nat) x,as[k]?=some (.b x)->∃ v,vs[k]?=some v/\Rt K F H v x (fl k)/\(fl k).Nodup/\∀ b∈fl k,b∈bf) /\
  (∀ (k:Nat) x,as[k]?=some (.o x)->∃ a,vs[k]?=some (.ref a)/\oo=some (a,fl k)/\Rt K F H (.ref a) x (fl k)/\(fl k).Nodup/\oIx as=some k)/\(oo=none->oIx as=none)/\(∀ a fp,oo=some (a,fp)->∃ k x,as[k]?=some (.o x)/\fl k=fp/\oIx as=some k)
|_,_,_,_,.nil=>⟨rfl,λ _=>[],λ k x e=>by simp at e,λ k x e=>by simp at e,λ k x e=>by simp at e,λ _=>rfl,λ a fp e=>by cases e⟩
|_,_,_,_,.d h r=>by
  obtain ⟨hl,fl,h1,h2,h3,h4,h5⟩:=zfb r
  refine ⟨by simp [hl],λ k=>fl (k - 1),λ k x e=>?_,λ k x e=>?_,λ k x e=>?_,λ e=>?_,λ a fp e=>?_⟩
  ·cases k with
  |zero=>simp at e;subst e;exact ⟨_,rfl,h⟩
  |succ k=>obtain ⟨v,g1,g2⟩:=h1 k x (by simpa using e);exact ⟨v,by simpa using g1,g2⟩
  ·cases k with
  |zero=>simp at e
  |succ k=>obtain ⟨v,g1,g2⟩:=h2 k x (by simpa using e);exact ⟨v,by simpa using g1,g2⟩
  ·cases k with
  |zero=>simp at e
  |succ k=>obtain ⟨v,g1,g2,g3,g4,g5⟩:=h3 k x (by simpa using e);exact ⟨v,by simpa using g1,g2,g3,g4,by simp [oIx,g5]⟩
  ·simp [oIx,h4 e]
  ·obtain ⟨k,x,g1,g2,g3⟩:=h5 a fp e
   exact ⟨k+1,x,by simpa using g1,g2,by simp [oIx,g3]⟩
|_,_,_,_,.b (fp:=fp) (bf:=bf) h nd r=>by
  obtain ⟨hl,fl,h1,h2,h3,h4,h5⟩:=zfb r
  refine ⟨by simp [hl],λ k=>if k=0 then fp else fl (k - 1),λ k x e=>?_,λ k x e=>?_,λ k x e=>?_,λ e=>?_,λ a fp' e=>?_⟩
  ·cases k with
  |zero=>simp at e
  |succ k=>obtain ⟨v,g1,g2⟩:=h1 k x (by simpa using e);exact ⟨v,by simpa using g1,g2⟩
  ·cases k with
  |zero=>simp at e;subst e;exact ⟨_,rfl,h,nd,λ b hb=>by simp at hb ⊢;exact .inl hb⟩
  |succ k=>obtain ⟨v,g1,g2,g3,g4⟩:=h2 k x (by simpa using e);exact ⟨v,by simpa using g1,g2,g3,λ b hb=>by have:=g4 b (by simpa using hb);simp [this]⟩
  ·cases k with
  |zero=>simp at e
  |succ k=>obtain ⟨v,g1,g2,g3,g4,g5⟩:=h3 k x (by simpa using e);exact ⟨v,by simpa using g1,g2,g3,g4,by simp [oIx,g5]⟩
  ·simp [oIx,h4 e]
  ·obtain ⟨k,x,g1,g2,g3⟩:=h5 a fp' e
   exact ⟨k+1,x,by simpa using g1,by simpa using g2,by simp [oIx,g3]⟩
|_,_,_,_,.o (a:=a) (fp:=fp) h nd r=>by
  obtain ⟨hl,fl,h1,h2,h3,h4,h5⟩:=zfb r
  refine ⟨by simp [hl],λ k=>if k=0 then fp else fl (k - 1),λ k x e=>?_,λ k x e=>?_,λ k x e=>?_,λ e=>(by cases e),λ a' fp' e=>?_⟩
  ·cases k with
  |zero=>simp at e
  |succ k=>obtain ⟨v,g1,g2⟩:=h1 k x (by simpa using e);exact ⟨v,by simpa using g1,g2⟩
  ·cases k with
  |zero=>simp at e
  |succ k=>obtain ⟨v,g1,g2,g3,g4⟩:=h2 k x (by simpa using e);exact ⟨v,by simpa using g1,g2,g3,λ b hb=>g4 b (by simpa using hb)⟩
  ·cases k with
  |zero=>simp at e;subst e;exact ⟨a,rfl,rfl,h,nd,rfl⟩
  |succ k =>
    obtain ⟨v,g1,g2,g3,g4,g5⟩:=h3 k x (by simpa using e)
    cases g2
  ·cases e
   exact ⟨0,_,rfl,rfl,rfl⟩
theorem zm4 {qual:Str} {st:Stmt} {N:List Str} {k:Nat} {p:DSpT}
  (body:∀ (f:Addr) (cdv:Value) (A:Around) (outer:List Env) (s:Shared) (H:Hp) (E:XK),Room k (A.deeper (envOfC qual (zf0 st) s.heap.objs.size f cdv))->∃ t d,PSs (cxOf CX0 P w K mg base N qual (zf0 st) f cdv A outer s H E).nox (zz1 st) t/\RfS K t d/\∀ as Qd a,p as Qd->d (zu71 as a Qd) (zag N a as)) :
  zd4 P w K mg base qual st N k (spT K p):=by
 intro f cdv A outer s H vs Q E hr h
 obtain ⟨F,as,bf,oo,Qd,sf,ha,hd,hp,hq⟩:=h
 obtain ⟨t,d,h1,h2,h3⟩:=body f cdv A outer s H E hr
 obtain ⟨hl,fl,a1,a2,a3,a4,a5⟩:=zfb ha
 obtain ⟨a,haa⟩:∃ a:Addr,∀ a' fp,oo=some (a',fp)->a'=a:=by
  cases oo with
 |none=>exact ⟨0,λ a' fp e=>by cases e⟩
 |some x=>exact ⟨x.1,λ a' fp e=>by cases e;rfl⟩
 have slot:∀ (i:Nat) sl,(zag N a as)[i]?=some sl->(sl=.un/\as.length<=i) \/ ∃ g,as[i]?=some g/\sl=zyz a g:=λ i sl e=>by
  unfold zag at e
  by_cases hi:i < as.length
  ·rw [u6 (by simpa using hi),uI] at e
   obtain ⟨g,h1,h2⟩:=u5.mp e
   exact .inr ⟨g,h1,h2.symm⟩
  ·rw [u7 (by simpa using hi),vT] at e
   split at e
   ·cases e;exact .inl ⟨rfl,by lia⟩
   ·cases e
 have val:∀ (i:Nat) v,vs[i]?=some v->(_2.start N vs).getD i none=some v:=λ i v e=>by
  have hi:i < vs.length:=by
   rcases vI i vs.length with z|z
   ·exact z
   ·rw [vC z] at e;cases e
  unfold _2.start
  rw [uR,u6 (by simpa using hi),uI,e]
  rfl
 have rs:RS K ⟨F,H,ofp oo⟩ F H (_2.start N vs) (zag N a as) fl:=by
  refine ⟨λ b o _ z=>z,λ _ _ z=>z,sf,λ b _ z=>z,λ b=>⟨id,id⟩,by simp [_2.start,zag,hl],λ i x e=>?_,λ i sl e hs=>?_,λ i sl e ho b hb=>?_,λ i j sl sl' hij e1 e2 o1 o2 b hb hb2=>?_⟩
  ·rcases slot i _ e with ⟨z,_⟩|⟨g,e1,e2⟩
   ·cases z
   ·cases g with
   |d x'=>cases e2;obtain ⟨v,g1,g2⟩:=a1 i x e1;exact ⟨v,val i v g1,g2⟩
   |b _=>cases e2
   |o _=>cases e2
  ·rcases slot i _ e with ⟨z,_⟩|⟨g,e1,e2⟩
   ·rw [z] at hs;cases hs
   ·cases g with
   |d x'=>rw [e2] at hs;cases hs
   |b x' =>
     obtain ⟨v,g1,g2,g3,g4⟩:=a2 i x' e1
     rw [e2]
     exact ⟨v,x',val i v g1,rfl,g2,λ a u z=>(by cases z),g3⟩
   |o x' =>
     obtain ⟨a',g1,g2,g3,g4,g5⟩:=a3 i x' e1
     have:=haa a' _ g2
     subst this
     rw [e2]
     exact ⟨_,x',val i _ g1,rfl,g3,λ a u z=>(by cases z;rfl),g4⟩
  ·rcases slot i _ e with ⟨z,_⟩|⟨g,e1,e2⟩
   ·rw [z] at ho;cases ho
   ·cases g with
   |d x'=>rw [e2] at ho;cases ho
   |b x'=>rw [e2] at ho;cases ho
   |o x' =>
     obtain ⟨a',g1,g2,g3,g4,g5⟩:=a3 i x' e1
     refine .inr ⟨?_,λ t z=>?_⟩
     ·show b∈ofp oo
      rw [g2];exact hb
     ·rw [e2] at z;cases z
  ·rcases slot i _ e1 with ⟨z,_⟩|⟨g,f1,f2⟩
   ·rw [z] at o1;cases o1
   ·cases g with
   |d x'=>rw [f2] at o1;cases o1
   |b x'=>rw [f2] at o1;cases o1
   |o x' =>
     obtain ⟨a',g1,g2,g3,g4,g5⟩:=a3 i x' f1
     rcases slot j _ e2 with ⟨z,_⟩|⟨g',f1',f2'⟩
     ·rw [z] at o2;cases o2
     ·cases g' with
     |d x''=>rw [f2'] at o2;cases o2
     |b x'' =>
       obtain ⟨v,k1,k2,k3,k4⟩:=a2 j x'' f1'
       exact hd b (by rw [g2];exact hb) (k4 b hb2)
     |o x'' =>
       obtain ⟨a'',k1,k2,k3,k4,k5⟩:=a3 j x'' f1'
       rw [g5] at k5
       exact hij (u8.inj k5)
 have fin:∀ {F' H':Hp} {Y':_2.St} {U':DSt} {fps':Nat->List Addr} {v:V} {r:T} {fpr:List Addr},Res K ⟨F,H,ofp oo⟩ F' H' Y' U' fps' v r fpr->exA as a Qd r U'->Q v H':=λ {F' H' Y' U' fps' v r fpr} res ex=>by
  unfold exA at ex
  split at ex
  ·rename_i eo
   refine hq r (.fz .none) ex v F' H' fpr [] ⟨res.rs.hh,res.rs.ff,res.rs.fh,res.rs.nw,res.rs.al,res.rt,res.nd,res.fr,λ a' fp e=>?_⟩
   obtain ⟨k,x,g1,g2,g3⟩:=a5 a' fp e
   rw [eo] at g3;cases g3
  ·rename_i ko eo
   obtain ⟨t',et,qd⟩:=ex
   obtain ⟨x',t'',b1,b2,b3,b4,b5⟩:=res.rs.rt ko _ et rfl
   cases b2
   have:=b4 a t' rfl
   subst this
   refine hq r t' qd v F' H' fpr (fps' ko) ⟨res.rs.hh,res.rs.ff,res.rs.fh,res.rs.nw,res.rs.al,res.rt,res.nd,res.fr,λ a' fp e=>?_⟩
   have ea:=haa a' fp e
   subst ea
   refine ⟨b3,b5,λ b hb=>?_,λ b hb=>res.dj ko _ et rfl b hb⟩
   rcases res.rs.fr ko _ et rfl b hb with z|⟨z,_⟩
   ·exact .inr z
   ·have:b∈ofp oo:=z
    rw [e] at this
    exact .inl this
 refine ⟨t,h1,h2 rs (h3 as Qd a hp) ⟨λ r q=>fin ⟨r,.fz .non,.nil,λ a ha=>by simp at ha,λ _ _ _ _ a _ ha=>by simp at ha⟩ q,λ _ z=>z.elim,λ _ z=>z.elim,λ res q=>fin res q⟩⟩
theorem zwp {F H:Hp} {vs:List V} {as:List Arg} {bf:List Addr} {oo:Option (Addr×List Addr)} (h:ArgsR K F H vs as bf oo):vs.length=as.length:=(zfb h).1
theorem zuc {p:DSpT} {ps:List Str} (h:∀ as Qd,p as Qd->as.length=ps.length):∀ vs H Q E,spT K p vs H Q E->vs.length=ps.length:=λ vs H Q E z=>by
 obtain ⟨F,as,bf,oo,Qd,_,ha,_,hp,_⟩:=z
 rw [zwp ha];exact h as Qd hp
noncomputable def zua (N:List Str) (ds:List D):DSt:=ds.map Sl.sh++uN (N.length - ds.length) .un
noncomputable def rD (Qd:D->Prop) (r:T) (_:DSt):Prop:=match r with
|.fz d=>Qd d
|.li ds=>Qd (.list ds)
|.ls ts=>∃ d,toD (.ls ts)=some d/\Qd d
|_=>False
theorem zms {Qd:D->Prop} {r:T} {U:DSt} (h:rD Qd r U):∃ d,toD r=some d/\Qd d:=by
 cases r with
|fz d=>exact ⟨d,rfl,h⟩
|li ds=>exact ⟨_,rfl,h⟩
|ls ts=>exact h
|ob _ _=>exact h.elim
|dk _=>exact h.elim
|dt _=>exact h.elim
|tp _=>exact h.elim
|wh=>exact h.elim
|dd _=>exact h.elim
theorem zbj {F H:Hp} {N:List Str} {vs:List V} {ds:List D} (s:Same F H) (h:IsAll K F vs ds):RS K ⟨F,H,[]⟩ F H (_2.start N vs) (zua N ds) (λ _=>[]):=by
 have el:=h.dlen
 have no:∀ (i:Nat) sl,(zua N ds)[i]?=some sl->sl.has=true->False:=λ i sl e hs=>by
  unfold zua at e
  by_cases hi:i < ds.length
  ·rw [u6 (by simpa using hi),uI] at e
   obtain ⟨x,_,z⟩:=u5.mp e
   subst z;cases hs
  ·rw [u7 (by simpa using hi),vT] at e
   split at e
   ·cases e;cases hs
   ·cases e
 refine ⟨λ b o _ z=>z,λ _ _ z=>z,s,λ b _ z=>z,λ b=>⟨id,id⟩,by simp [_2.start,zua,el],λ i x e=>?_,λ i sl e hs=>(no i sl e hs).elim,λ i sl e ho=>(no i sl e (zt3 ho)).elim,λ i j sl sl' _ e _ o _=>(no i sl e (zt3 o)).elim⟩
 unfold zua at e
 unfold _2.start
 by_cases hi:i < ds.length
 ·rw [u6 (by simpa using hi),uI] at e
  obtain ⟨y,hx,z⟩:=u5.mp e
  cases z
  obtain ⟨v,hv,iv⟩:=h.dget hx
  refine ⟨v,?_,iv⟩
  rw [uR,u6 (by simp;lia),uI,hv]
  rfl
 ·rw [u7 (by simpa using hi),vT] at e
  split at e <;> cases e
theorem zo71 {F0 H0 F H:Hp} {Y:_2.St} {U:DSt} {fps:Nat->List Addr} {v:V} {r:T} {fpr:List Addr} {d:D} (res:Res K ⟨F0,H0,[]⟩ F H Y U fps v r fpr) (e:toD r=some d):∃ F',Ext F0 H0 F' H/\Is K F' v d:=by
 obtain ⟨F2,s1,s2,s3,s4⟩:=zjs res.rs.fh res.rt e res.nd
 refine ⟨F2,⟨λ b o z=>res.rs.hh b o (by simp) z,res.rs.ff.trans s1,s2,λ b hb fb=>?_⟩,s4⟩
 have:b ∉ fpr:=λ z=>hb.1 (res.fr b z)
 rw [s3 b this]
 exact res.rs.nw b hb fb
theorem zoc {qual:Str} {st:Stmt} {N:List Str} {k:Nat} {p:DSp}
  (body:∀ (f:Addr) (cdv:Value) (A:Around) (outer:List Env) (s:Shared) (H:Hp) (E:XK),Room k (A.deeper (envOfC qual (zf0 st) s.heap.objs.size f cdv))->∃ t d,PSs (cxOf CX0 P w K mg base N qual (zf0 st) f cdv A outer s H E).nox (zz1 st) t/\RfS K t d/\∀ ds Qd,p ds Qd->d { nx:=λ _=>Qd .none,rt:=rD Qd } (zua N ds)) :
  zd4 P w K mg base qual st N k (spD K p):=by
 intro f cdv A outer s H vs Q E hr h
 obtain ⟨F,ds,Qd,sf,i,hp,hq⟩:=h
 obtain ⟨t,d,h1,h2,h3⟩:=body f cdv A outer s H E hr
 refine ⟨t,h1,h2 (zbj sf i) (h3 ds Qd hp) ⟨λ r q=>hq _ q _ _ _ ⟨λ b o z=>r.hh b o (by simp) z,r.ff,r.fh,r.nw⟩ .non,λ _ z=>z.elim,λ _ z=>z.elim,λ res q=>?_⟩⟩
 obtain ⟨d',e1,e2⟩:=zms (U:=[]) q
 obtain ⟨F',ex,is⟩:=zo71 res e1
 exact hq _ e2 _ _ _ ex is
theorem zfs {F:Hp} {vs:List V} {ds:List D} (h:IsAll K F vs ds):vs.length=ds.length:=h.dlen
theorem zzl {p:DSp} {ps:List Str} (h:∀ ds Qd,p ds Qd->ds.length=ps.length):∀ vs H Q E,spD K p vs H Q E->vs.length=ps.length:=λ vs H Q E z=>by
 obtain ⟨F,ds,Qd,_,i,hp,_⟩:=z
 rw [zfs i];exact h ds Qd hp
theorem zym {F:Hp}:∀ ns:List Int,IsAll K F (ns.map V.int) (ns.map uB)
|[]=>.nil
|n :: r=>.cons (.int n) (zym r)
theorem zb81 {st:Stmt} {N:List Str} {k:Nat} {fa:Addr} (M:Md K mg) (T:TopDef K "law" st) (hfa:mg "law"=some (.ref fa)) (S:FnScope N ["script"] (zf0 st)) (hb:zz7 "law" "law" st ["script"])
  (body:∀ base:Heap,K.In base->base.Ns mainGlobals mg->∀ (f:Addr) (cdv:Value) (A:Around) (outer:List Env) (s:Shared) (H:Hp) (E:XK),Room k (A.deeper (envOfC "law" (zf0 st) s.heap.objs.size f cdv)) ->
   ∃ t d,PSs (cxOf CX0 P w K mg base N "law" (zf0 st) f cdv A outer s H E).nox (zz1 st) t/\RfS K t d/\∀ (ns:List Int) (Qd:D->Prop),ns.length<=63->Qd (.bool true)->d { nx:=λ _=>Qd .none,rt:=rD Qd } (zua N [.list (ns.map .int)])) :
  ∃ fd:FuncData,(∀ (s:Shared) (v:Value),BindsTo s fd ⟨[v],[]⟩ [("script",v)])/\∀ base:Heap,K.In base->base.Ns mainGlobals mg->FnOk P w K mg base CX0 (k+1) fa fd ["script"] (zoz K):=by
 refine za11 M T hfa S hb (λ vs H Q E h=>by obtain ⟨a,ns,rfl,_⟩:=h;rfl) λ base kb nb=>?_
 intro f cdv A outer s H vs Q E hr h
 obtain ⟨a,ns,rfl,hS,hl,hq⟩:=h
 obtain ⟨t,d,h1,h2,h3⟩:=body base kb nb f cdv A outer s H E hr
 refine ⟨t,h1,h2 (zbj (F:=H) (λ _ _ z=>z) (.cons (.lst hS (zym ns)) .nil)) (h3 ns (λ d=>d=.bool true) hl rfl) ⟨λ r q=>(by cases q),λ _ z=>z.elim,λ _ z=>z.elim,λ res q=>?_⟩⟩
 obtain ⟨d',e1,e2⟩:=zms (U:=[]) q
 obtain ⟨F',ex,is⟩:=zo71 res e1
 subst e2
 cases is
 exact hq _
end
section
variable {K:Fg} {tA:TA} {dA:DF}
noncomputable def fAbs:List D->(D->Prop)->Prop
|[.int i],Q=>Q (.int (if i < 0 then -i else i))
|_,_=>False
theorem zo81:CB K (λ xs H Q=>∃ i,xs=[V.int i]/\Q (V.int (if i < 0 then -i else i)) H) fAbs:=by
 intro F H vs ds Qd Q s hv h k
 unfold fAbs at h
 split at h
 ·obtain ⟨v,rfl,h1⟩:=vw1 hv
  cases h1.int
  exact ⟨_,rfl,k _ h _ F H (Ext.refl s) (.int _)⟩
 ·exact h.elim
end
theorem e_dF (df:DF) (U:DSt) (Q:D->Prop):dF df U Q=( df U λ ds=>Q (.list ds)):=rfl
theorem e_dC (d:D) (x_0:DSt) (Q:D->Prop):dC d x_0 Q=( Q d):=rfl
theorem zca1 (f:D->D->(D->Prop)->Prop) (da db:DE) (U:DSt) (Q:D->Prop):dOp f da db U Q=( da U λ x=>db U λ y=>f x y Q):=rfl
theorem zsz (df:DF) (db:DE) (U:DSt) (Q:List D->Prop):dRep df db U Q=( df U λ ds=>db U λ y=>fRep ds y Q):=rfl
theorem zs91 (f:D->(D->Prop)->Prop) (da:DE) (U:DSt) (Q:D->Prop):dUn f da U Q=( da U λ x=>f x Q):=rfl
theorem zdt (da:DE) (U:DSt) (Q:D->Prop):zo51 da U Q=( da U λ x=>fB x λ b=>Q (.bool (!b))):=rfl
theorem zpx (da db:DE) (U:DSt) (Q:D->Prop):zv51 da db U Q=( da U λ x=>fB x λ b=>if b=true then db U Q else Q (.bool false)):=rfl
theorem zqu (de:DE) (U:DSt) (Q:Bool->Prop):zp61 de U Q=( de U λ d=>fB d Q):=rfl
theorem zb01 (de:DE) (U:DSt) (Q:Bool->Prop):dTru de U Q=( de U λ d=>fTru d Q):=rfl
theorem zd11 (dt du:DT) (U:DSt) (Q:Bool->Prop):dAnd dt du U Q=( dt U λ b=>if b=true then du U Q else Q false):=rfl
theorem zi81 (dt du:DT) (U:DSt) (Q:Bool->Prop):dOr dt du U Q=( dt U λ b=>if b=true then Q true else du U Q):=rfl
theorem zm41 (dt:DT) (U:DSt) (Q:Bool->Prop):dNot dt U Q=( dt U λ b=>Q (!b)):=rfl
theorem zq11 (dt:DT) (da db:DE) (U:DSt) (Q:D->Prop):dIfE dt da db U Q=( dt U λ b=>if b=true then da U Q else db U Q):=rfl
theorem ze41 (x_0:DSt) (Q:List D->Prop):dNil x_0 Q=( Q []):=rfl
theorem zjy (da:DE) (dr:DF) (U:DSt) (Q:List D->Prop):zhx da dr U Q=( da U λ x=>dr U λ xs=>Q (x :: xs)):=rfl
theorem zc21 (dA:DF) (U:DSt) (Q:D->Prop):dTup dA U Q=( dA U λ xs=>xs.length<=sizeLine/\Q (.tuple xs)):=rfl
theorem zz01 (dA:DF) (U:DSt) (Q:List D->Prop):dLst dA U Q=( dA U λ xs=>xs.length<=sizeLine/\Q xs):=rfl
theorem zrv (p:DSp) (dA:DF) (U:DSt) (Q:D->Prop):zd51 p dA U Q=( dA U λ ds=>p ds Q):=rfl
theorem zpn (p:DSp) (dA:DF) (U:DSt) (Q:D->Prop):zbw p dA U Q=( dA U λ ds=>p ds λ d=>zbl d=true/\Q d):=rfl
theorem zq91 (f:List D->(D->Prop)->Prop) (dA:DF) (U:DSt) (Q:D->Prop):dCB f dA U Q=( dA U λ ds=>f ds Q):=rfl
theorem zfa1 (f:List D->(List D->Prop)->Prop) (dA:DF) (U:DSt) (Q:List D->Prop):dCF f dA U Q=( dA U λ ds=>f ds Q):=rfl
theorem zha1 (T:String) (da:DE) (U:DSt) (Q:D->Prop):dIs T da U Q=( da U λ d=>(∀ kvs,d≠.dict kvs)/\Q (.bool (isT T d))):=rfl
theorem zvj (x_0:DSt) (Q:Option Int->Prop):zin x_0 Q=( Q none):=rfl
theorem zgu (de:DE) (U:DSt) (Q:Option Int->Prop):zd71 de U Q=( de U λ d=>match d with
|.int i=>Q (some i)
|_=>False):=rfl
theorem zh91 (de:DE) (dl dh:DO) (U:DSt) (Q:D->Prop):dSl de dl dh U Q=( de U λ d=>dl U λ lo=>dh U λ hi=>fSl d lo hi Q):=rfl
theorem zf31 (de:DE) (dl dh dk:DO) (U:DSt) (Q:List D->Prop):dSl3 de dl dh dk U Q=( de U λ d=>dl U λ lo=>dh U λ hi=>dk U λ st=>match d with
|.list ds=>st≠some 0/\Q (zrh ds lo hi st)
|_=>False):=rfl
theorem zl81 (de:DE) (U:DSt) (Q:List D->Prop):dIt de U Q=( de U λ d=>zgw d Q):=rfl
theorem zzu (dA:DF) (U:DSt) (Q:List D->Prop):zq71 dA U Q=( dA U λ ds=>match ds with
|[.int j]=>-(2 ^ 62)<=j/\j < 2 ^ 62/\Q (rngD 0 j.toNat)
|_=>False):=rfl
theorem zi21 (dA:DF) (U:DSt) (Q:List D->Prop):dZip dA U Q=( dA U λ ds=>fZip ds Q):=rfl
theorem zlx (dA:DF) (U:DSt) (Q:List D->Prop):zj01 dA U Q=( dA U λ ds=>match ds with
|[.list a]=>Q (zrj a)
|_=>False):=rfl
theorem e_gN (i:Nat) (d:D) (U:DSt) (G:DSt->Prop):gN i d U G=( G (U.set i (.sh d))):=rfl
theorem zhy (ds:List D) (U:DSt) (G:DSt->Prop):zg41 ds U G=( match ds with
|[]=>G U
|_=>False):=rfl
theorem zyn (g:DG) (gs:DGs) (ds:List D) (U:DSt) (G:DSt->Prop):zcq g gs ds U G=( match ds with
|d :: r=>g d U λ U'=>gs r U' G
|[]=>False):=rfl
theorem e_gT (n:Nat) (gs:DGs) (d:D) (U:DSt) (G:DSt->Prop):gT n gs d U G=( match d with
|.tuple ds=>ds.length=n/\gs ds U G
|_=>False):=rfl
theorem ztx (x_0:DSt) (Q:Bool->Prop):zl01 x_0 Q=( Q true):=rfl
theorem zu01 (C:Addr) (f:Str) (dp:DP) (U:DSt) (Q:Nat->Pth->T->Prop):pFld C f dp U Q=( dp U λ i p u=>nCls C u/\nFld f u λ t=>Q i (p++[.fl f]) t):=rfl
theorem zg91 (dp:DP) (di:DE) (U:DSt) (Q:Nat->Pth->T->Prop):pIx dp di U Q=( dp U λ i p u=>di U λ k=>nIx u k λ j t=>Q i (p++[.ix j]) t):=rfl
theorem zn91 (dp:DP) (U:DSt) (Q:D->Prop):dPV dp U Q=( dp U λ _ _ u=>vwT u Q):=rfl
theorem zd91 (dp:DP) (U:DSt) (Q:D->Prop):dPE dp U Q=( dp U λ _ _ u=>fzT u Q):=rfl
theorem e_cE (de:DE) (U:DSt) (Q:T->DSt->Prop):cE de U Q=( de U λ d=>Q (.fz d) U):=rfl
theorem e_cF (df:DF) (U:DSt) (Q:T->DSt->Prop):cF df U Q=( df U λ ds=>Q (.li ds) U):=rfl
theorem zbv (E:DEnds) (U:DSt):zf71 E U=( E.nx U):=rfl
theorem zt31 (de:DE) (dg:DG) (E:DEnds) (U:DSt):dAsg de dg E U=( de U λ d=>dg d U E.nx):=rfl
theorem zj41 (i:Nat) (dc:DC) (E:DEnds) (U:DSt):dSet i dc E U=( dc U λ r U'=>E.nx (U'.set i (slot r))):=rfl
theorem zly (dc:DC) (E:DEnds) (U:DSt):zt61 dc E U=( dc U λ _ U'=>E.nx U'):=rfl
theorem za21 (dc:DC) (E:DEnds) (U:DSt):dRet dc E U=( dc U E.rt):=rfl
theorem znu (i:Nat) (E:DEnds) (U:DSt):zp21 i E U=( match U[i]? with
|some (.ow t)=>E.rt t (U.set i .un)
|some (.sh d)=>E.rt (.fz d) U
|_=>False):=rfl
theorem zu91 (dt:DT) (d e:DS) (E:DEnds) (U:DSt):dIf dt d e E U=( dt U λ b=>if b=true then d E U else e E U):=rfl
theorem zk91 (ty:String) (f:FM) (dp:DP) (dA:DF) (U:DSt) (Q:T->DSt->Prop):cBM ty f dp dA U Q=( dp U λ i p u=>tyN ty u/\dA U λ ds=>f u ds λ u2 d=>mutS U i p u2 λ U'=>Q (.fz d) U'):=rfl
theorem zj11 (ty:String) (f:FM) (dp:DP) (U:DSt) (Q:T->DSt->Prop):cBM0 ty f dp U Q=( dp U λ i p u=>tyN ty u/\f u [] λ u2 d=>mutS U i p u2 λ U'=>Q (.fz d) U'):=rfl
theorem za41 (dp:DP) (dk de:DE) (E:DEnds) (U:DSt):dPut dp dk de E U=( de U λ d=>dp U λ i p u=>dk U λ k=>fPut u k d λ u2=>mutS U i p u2 E.nx):=rfl
theorem ziw (f:Int->Int->Int) (dp:DP) (dk de:DE) (E:DEnds) (U:DSt):zp51 f dp dk de E U=( dp U λ i p u=>dk U λ k=>fGet u k λ x=>de U λ y=>fII f x y λ z=>fPut u k z λ u2=>mutS U i p u2 E.nx):=rfl
theorem zo41 (i:Nat) (f:Int->Int->Int) (de:DE) (E:DEnds) (U:DSt):dAug i f de E U=( match U[i]? with
|some (.sh x)=>de U λ y=>fII f x y λ z=>E.nx (U.set i (.sh z))
|_=>False):=rfl
theorem zf41 (dp:DP) (dk:DE) (U:DSt) (Q:D->Prop):nGet dp dk U Q=( dp U λ _ _ u=>dk U λ k=>fGet u k Q):=rfl
theorem zx81 (neg:Bool) (dk:DE) (dp:DP) (U:DSt) (Q:D->Prop):nIn neg dk dp U Q=( dk U λ k=>dp U λ _ _ u=>fHas neg u k Q):=rfl
theorem zt91 (U:DSt) (Q:T->DSt->Prop):cDK U Q=( Q (.dk []) U):=rfl
theorem e_nF (df:DF) (U:DSt) (Q:T->Prop):nF df U Q=( df U λ ds=>Q (.li ds)):=rfl
theorem e_cN (dn:DN) (U:DSt) (Q:T->DSt->Prop):cN dn U Q=( dn U λ r=>Q r U):=rfl
theorem zg21 (C:Addr) (f:Str) (dc:DC) (dp:DP) (E:DEnds) (U:DSt):dFld C f dc dp E U=( dc U λ r U1=>dp U1 λ i p u=>nCls C u/\nSet f u r λ u2=>mutS U1 i p u2 E.nx):=rfl
theorem ze01 (i:Nat) (p:Pth) (d:DS) (E:DEnds) (U:DSt):dFrz i p d E U=( fzS U i p λ U'=>d E U'):=rfl
theorem zt11 (x_0:DSt) (Q:List ArgP->Prop):aNil x_0 Q=( Q []):=rfl
theorem e_aD (de:DE) (dr:DAT) (U:DSt) (Q:List ArgP->Prop):aD de dr U Q=( de U λ x=>dr U λ as=>Q (.d x :: as)):=rfl
theorem e_aB (dp:DP) (dr:DAT) (U:DSt) (Q:List ArgP->Prop):aB dp dr U Q=( dp U λ i p t=>dr U λ as=>Q (.b i p t :: as)):=rfl
theorem e_aO (dp:DP) (dr:DAT) (U:DSt) (Q:List ArgP->Prop):aO dp dr U Q=( dp U λ i p t=>dr U λ as=>Q (.o i p t :: as)):=rfl
theorem zhw (p:DSpT) (da:DAT) (U:DSt) (Q:T->DSt->Prop):zw51 p da U Q=( da U λ as=>zbr p U as Q):=rfl
theorem zby (o:Bool) (C:Addr) (m:Str) (p:DSpT) (dp:DP) (da:DAT) (U:DSt) (Q:T->DSt->Prop):za61 o C m p dp da U Q=( dp U λ i q u=>nCls C u/\noM m u/\da U λ as=>zbr p U ((if o then .o i q u else .b i q u) :: as) Q):=rfl
theorem zou (p:DSpT) (da:DAT) (U:DSt) (Q:T->Prop):ze71 p da U Q=( da U λ as=>zgr p as Q):=rfl
theorem zkt (C:Addr) (m:Str) (p:DSpT) (dp:DP) (da:DAT) (U:DSt) (Q:T->Prop):zj61 C m p dp da U Q=( dp U λ i q u=>nCls C u/\noM m u/\da U λ as=>zgr p (.b i q u :: as) Q):=rfl
theorem e_eN (dn:DN) (U:DSt) (Q:D->Prop):eN dn U Q=( dn U λ r=>fzT r Q):=rfl
theorem zzx (C:Addr) (p:DSpT) (da:DAT) (U:DSt) (Q:T->Prop):zc61 C p da U Q=( da U λ as=>noO as/\p (.o (.ob C []) :: as.map ArgP.arg) λ r t2=>(match r with|.fz .none=>True|_=>False)/\Q t2):=rfl
noncomputable def slT:Sl->(T->Prop)->Prop
|.sh d,N=>N (.fz d)
|.ow t,N=>N t
|.bo t,N=>N t
|.io _ t,N=>N t
|.un,_=>False
noncomputable def pAt (U:DSt) (i:Nat) (N:T->Prop):Prop:=∃ s t,U[i]?=some s/\s.tree=some t/\N t
theorem zq01 (i:Nat) (U:DSt) (Q:D->Prop):dVar i U Q=pAt U i λ t=>fzT t Q:=rfl
theorem zoy (i:Nat) (U:DSt) (Q:D->Prop):zx51 i U Q=pAt U i λ t=>vwT t Q:=rfl
theorem zt01 (i:Nat) (U:DSt) (Q:Nat->Pth->T->Prop):pVar i U Q=pAt U i λ t=>Q i [] t:=rfl
theorem zuz (s:Sl) (U:DSt) (N:T->Prop):pAt (s :: U) 0 N=slT s N:=by
 apply propext
 cases s <;> simp [pAt,slT,Sl.tree]
theorem ze31 (i:Nat) (s:Sl) (U:DSt) (N:T->Prop):pAt (s :: U) (i+1) N=pAt U i N:=by simp [pAt]
theorem zc11 (U:DSt) (i:Nat) (p:Pth) (u:T) (N:DSt->Prop):mutS U i p u N=(match U[i]? with
|some (.ow t)=>N (U.set i (.ow (setP t p u)))
|some (.io a t)=>N (U.set i (.io a (setP t p u)))
|_=>False):=rfl
theorem zm91 (U:DSt) (i:Nat) (p:Pth) (N:DSt->Prop):fzS U i p N=(match U[i]? with
|some (.ow t)=>∃ u d,getP t p=some u/\toD u=some d/\N (U.set i (slot (setP t p (.fz d))))
|some (.sh _)=>N U
|_=>False):=rfl
theorem zdw (U:DSt) (i:Nat):zrr U i=(match U[i]? with
|some (.ow _)=>True
|some (.io _ _)=>True
|_=>False):=rfl
theorem zns (t u:T):setP t [] u=u:=by cases t <;> rfl
theorem zk41 (ds:List D):tyN "list" (.li ds)=True:=by simp [tyN]
theorem ze21 (ds:List T):tyN "list" (.ls ds)=True:=by simp [tyN]
theorem zo11 (ds:List (Key×D)):tyN "dict" (.dk ds)=True:=by simp [tyN]
theorem zg01 (ds:List (List Key×D)):tyN "dict" (.dt ds)=True:=by simp [tyN]
theorem zw71 (Qd:D->Prop) (d:D) (U:DSt):rD Qd (.fz d) U=Qd d:=rfl
theorem zia1 (Qd:D->Prop) (d:List D) (U:DSt):rD Qd (.li d) U=Qd (.list d):=rfl
theorem zl91 (Qd:D->Prop) (d:List T) (U:DSt):rD Qd (.ls d) U=∃ e,toD (.ls d)=some e/\Qd e:=rfl
theorem zxx (p:DSpT) (U:DSt) (as:List ArgP) (Q:T->DSt->Prop):zbr p U as Q=(match zcn as with
|some (i,q,t)=>zrr U i/\oneO i as/\zch t/\p (as.map ArgP.arg) λ r t2=>mutS U i q t2 λ U'=>Q r U'
|none=>noO as/\p (as.map ArgP.arg) λ r _=>Q r U):=rfl
theorem zyx (p:DSpT) (as:List ArgP) (Q:T->Prop):zgr p as Q=(noO as/\p (as.map ArgP.arg) λ r _=>Q r):=rfl
noncomputable def ziu (items:List D) (n:Nat) (ix:List Nat) (dg:DG) (dn:DN) (U:DSt) (Q:T->Prop):Prop:=items.length<=sizeLine/\∃ R:Nat->T->Prop,
 (∀ i d,items[i]?=some d->dg d (cST n ix U) λ U'=>dn U' λ r=>R i r)/\∀ rs:List T,rs.length=items.length->(∀ (j:Nat) r,rs[j]?=some r->R j r)->Q (.ls rs)
theorem zus (di:DF) (n:Nat) (ix:List Nat) (dg:DG) (dn:DN) (U:DSt) (Q:T->Prop):zt51 di n ix dg dn U Q=di U λ items=>ziu items n ix dg dn U Q:=rfl
theorem zjq {α:Type} {xs:List α} {enc:α->D} (f:α->T) {n:Nat} {ix:List Nat} {dg:DG} {dn:DN} {U:DSt} {Q:T->Prop} (hz:xs.length<=sizeLine)
  (h:∀ x∈xs,dg (enc x) (cST n ix U) λ U'=>dn U' λ r=>r=f x) (q:Q (.ls (xs.map f))):ziu (xs.map enc) n ix dg dn U Q:=by
 refine ⟨by rw [uA];exact hz,λ i r=>∀ x,xs[i]?=some x->r=f x,λ i d e=>?_,λ rs hl hR=>?_⟩
 ·rw [uI] at e
  obtain ⟨x,hx,rfl⟩:=u5.mp e
  have e1:(λ r=>∀ y,xs[i]?=some y->r=f y)=λ r=>r=f x:=by funext r;rw [hx];simp
  show dg (enc x) (cST n ix U) λ U'=>dn U' λ r=>∀ y,xs[i]?=some y->r=f y
  rw [e1]
  exact h x (vM hx)
 ·rw [uA] at hl
  have:rs=xs.map f:=by
   apply yE
   intro i
   rw [uI]
   by_cases hi:i < rs.length
   ·have e1:rs[i]?=some rs[i]:=uC hi
    have e2:xs[i]?=some (xs[i]'(by lia)):=uC _
    rw [e1,e2,hR i _ e1 _ e2];rfl
   ·rw [vC (by lia),vC (by lia)];rfl
  rw [this];exact q
noncomputable def zw31 (items:List D) (n:Nat) (ix:List Nat) (dg:DG) (dt:DT) (de:DE) (U:DSt) (Q:List D->Prop):Prop:=items.length<=sizeLine/\∃ R:Nat->Option D->Prop,
 (∀ i d,items[i]?=some d->dg d (cST n ix U) λ U'=>dt U' λ b=>if b=true then de U' λ r=>R i (some r) else R i none) /\
 ∀ os:List (Option D),os.length=items.length->(∀ (j:Nat) o,os[j]?=some o->R j o)->Q (os.filterMap id)
theorem zu41 (di:DF) (n:Nat) (ix:List Nat) (dg:DG) (dt:DT) (de:DE) (U:DSt) (Q:List D->Prop):zt71 di n ix dg dt de U Q=di U λ items=>zw31 items n ix dg dt de U Q:=rfl
noncomputable def ForB (items:List D) (dg:DG) (db:DS) (E:DEnds) (U:DSt):Prop:=∃ W:Nat->DSt->Prop,W 0 U /\
 (∀ i d U',items[i]?=some d->W i U'->dg d U' λ U2=>db { E with nx:=W (i+1),ct:=W (i+1),bk:=E.nx } U2)/\∀ U',W items.length U'->E.nx U'
theorem zd81 (di:DF) (dg:DG) (db:DS) (E:DEnds) (U:DSt):dFor di dg db E U=di U λ items=>ForB items dg db E U:=rfl
theorem zxh {a b:DS} {E:DEnds} {U:DSt} (h:a { E with nx:=b E } U):dSeq a b E U:=⟨b E,h,λ _ z=>z⟩
theorem zd0 {a b:DS} {E:DEnds} {U:DSt} (h:∀ J:DSt->Prop,(∀ U',b E U'->J U')->a { E with nx:=J } U):dSeq a b E U:=⟨b E,h (b E) λ _ z=>z,λ _ z=>z⟩
theorem zc51 {α:Type} {f:α->Option D}:∀ {xs:List α} {os:List (Option D)},os.length=xs.length->(∀ (j:Nat) o x,os[j]?=some o->xs[j]?=some x->o=f x)->os.filterMap id=xs.filterMap f
|[],[],_,_=>rfl
|x :: xs,o :: os,hl,h=>by
  have e:o=f x:=h 0 o x rfl rfl
  have ih:=zc51 (f:=f) (xs:=xs) (os:=os) (by simpa using hl) λ j o' x' h1 h2=>h (j+1) o' x' (by simpa using h1) (by simpa using h2)
  rw [wD,wD,e,ih]
  rfl
theorem zas {α:Type} {xs:List α} {enc:α->D} (f:α->Option D) {n:Nat} {ix:List Nat} {dg:DG} {dt:DT} {de:DE} {U:DSt} {Q:List D->Prop} (hz:xs.length<=sizeLine)
  (h:∀ x∈xs,dg (enc x) (cST n ix U) λ U'=>dt U' λ b=>if b=true then de U' λ r=>some r=f x else none=f x) (q:Q (xs.filterMap f)):zw31 (xs.map enc) n ix dg dt de U Q:=by
 refine ⟨by rw [uA];exact hz,λ i o=>∀ x,xs[i]?=some x->o=f x,λ i d e=>?_,λ os hl hR=>?_⟩
 ·rw [uI] at e
  obtain ⟨x,hx,rfl⟩:=u5.mp e
  have:=h x (vM hx)
  have e1:(λ r=>∀ y,xs[i]?=some y->some r=f y)=λ r=>some r=f x:=by
   funext r;rw [hx];simp
  have e2:(∀ y,xs[i]?=some y->(none:Option D)=f y)=(none=f x):=by rw [hx];simp
  show dg (enc x) (cST n ix U) λ U'=>dt U' λ b=>if b=true then de U' λ r=>∀ y,xs[i]?=some y->some r=f y else ∀ y,xs[i]?=some y->(none:Option D)=f y
  rw [e1,e2]
  exact this
 ·rw [uA] at hl
  rw [zc51 hl λ j o x h1 h2=>hR j o h1 x h2]
  exact q
theorem zog {α:Type} {xs:List α} {enc:α->D} (g:α->D) {n:Nat} {ix:List Nat} {dg:DG} {de:DE} {U:DSt} {Q:List D->Prop} (hz:xs.length<=sizeLine)
  (h:∀ x∈xs,dg (enc x) (cST n ix U) λ U'=>de U' λ r=>r=g x) (q:Q (xs.map g)):zw31 (xs.map enc) n ix dg zl01 de U Q:=by
 refine zas (λ x=>some (g x)) hz (λ x hx=>?_) ?_
 ·have:=h x hx
  have e:(λ r=>some r=some (g x))=λ r=>r=g x:=by funext r;simp
  show dg (enc x) (cST n ix U) λ U'=>if true=true then de U' λ r=>some r=some (g x) else none=some (g x)
  rw [e]
  simp only [if_true]
  exact this
 ·rw [show xs.filterMap (λ x=>some (g x))=xs.map g from congrFun List.filterMap_eq_map' xs]
  exact q
theorem zq2 {α:Type} {xs:List α} {enc:α->D} (W:Nat->DSt->Prop) {dg:DG} {db:DS} {E:DEnds} {U:DSt} (h0:W 0 U)
  (hs:∀ (i:Nat) x U',xs[i]?=some x->W i U'->dg (enc x) U' λ U2=>db { E with nx:=W (i+1),ct:=W (i+1),bk:=E.nx } U2) (he:∀ U',W xs.length U'->E.nx U'):ForB (xs.map enc) dg db E U:=by
 refine ⟨W,h0,λ i d U' e w=>?_,λ U' w=>he U' (by rw [uA] at w;exact w)⟩
 rw [uI] at e
 obtain ⟨x,hx,rfl⟩:=u5.mp e
 exact hs i x U' hx w
theorem two {c:Prop} [Decidable c] {A B:Prop} (h1:c->A) (h2:¬c->B):if c then A else B:=by
 by_cases h:c
 ·rw [if_pos h];exact h1 h
 ·rw [if_neg h];exact h2 h
noncomputable def cutG {α:Type} (xs:List α) (lo hi:Option Int):List α:=(xs.drop (HT.sIx xs.length 0 lo)).take (HT.sIx xs.length xs.length hi - HT.sIx xs.length 0 lo)
theorem zoq {α:Type} (f:α->D) (xs:List α) (lo hi:Option Int):cutD (xs.map f) lo hi=(cutG xs lo hi).map f:=by
 unfold cutD cutG
 rw [uA,List.map_take,List.map_drop]
theorem zi8 {α β:Type} (f:α->D) (g:β->D) (xs:List α) (ys:List β):zipD (xs.map f) (ys.map g)=(xs.zip ys).map λ p=>.tuple [f p.1,g p.2]:=by
 unfold zipD
 rw [List.zipWith_map,List.zip_eq_zipWith,List.map_zipWith]
theorem zg4 {α:Type} (f:α->D) (xs:List α):zrj (xs.map f)=(xs.mapIdx λ i x=>(i,x)).map λ p=>.tuple [.int (p.1:Nat),f p.2]:=by
 unfold zrj
 apply yE
 intro i
 rw [xS,uI,uI,xS]
 cases xs[i]? <;> rfl
theorem znf {α:Type} {xs:List α} {i:Int} {x:α} (h0:0<=i) (h:xs[i.toNat]?=some x):atI xs i=some x:=by
 have e:((i.toNat:Nat):Int)=i:=by lia
 have:=zr7 (xs:=xs) (j:=i.toNat) (v:=x) h
 rwa [e] at this
theorem zuj {α:Type} {xs:List α} (f:α->D) {i:Int} (h0:0<=i) (h1:i < (xs.length:Int)):∃ x,xs[i.toNat]?=some x/\atI (xs.map f) i=some (f x):=by
 have h:i.toNat < xs.length:=by lia
 exact ⟨xs[i.toNat],uC h,znf h0 (by rw [uI,uC h];rfl)⟩
section
variable (K:Fg)
noncomputable def RfH (te:TE) (de:DE):Prop:=∀ {F H:Hp} {Y:_2.St} {U:DSt} {Qd:D->Prop} {Q:VK},Same F H->RV K F H Y U->de U Qd->(∀ d,Qd d->∀ v F' H',Ext F H F' H'->Is K H' v d->Q v H')->te Y H Q
noncomputable def RfAH (ta:TA) (da:DF):Prop:=∀ {F H:Hp} {Y:_2.St} {U:DSt} {Qd:List D->Prop} {Q:List V->Hp->Prop},Same F H->RV K F H Y U->da U Qd->(∀ ds,Qd ds->∀ vs F' H',Ext F H F' H'->IsAll K H' vs ds->Q vs H')->ta Y H Q
end
section
variable {K:Fg} {te ta tb:TE} {de da db:DE} {tA:TA} {dA:DF}
theorem RfV.h (h:RfV K te de):RfH K te de:=λ s r d k=>h s r d λ x q v F' H' e i=>k x q v F' H' e (i.is e.fh)
theorem zft:RfAH K tNil dNil:=λ s rv h k=>k _ h _ _ _ (Ext.refl s) .nil
theorem zg9 (ha:RfH K ta da) (hr:RfAH K tA dA):RfAH K (zl4 ta tA) (zhx da dA):=by
 intro F H Y U Qd Q s rv h k
 refine ha s rv h λ x hx v F1 H1 e1 i1=>hr e1.fh (rv.ext e1) hx λ xs hxs vs F2 H2 e2 i2=>?_
 exact k _ hxs _ F2 H2 (e1.trans e2) (.cons (i1.mono e2.h) i2)
theorem zaq {F H:Hp} {p:Addr} {o:HO} (s:Same F H) (hn:H p=none):Ext F H F (upd H p o) :=
 ⟨zx1 hn _,λ _ _ z=>z,λ b o z=>zx1 hn _ b o (s b o z),λ _ _ z=>z⟩
theorem zuv (h:RfAH K tA dA):RfH K (zzy tA) (dF (dLst dA)):=by
 intro F H Y U Qd Q s rv hd k
 refine h s rv hd λ xs hx vs F1 H1 e1 i1=>⟨by rw [i1.dlen];exact hx.1,λ p hp=>?_⟩
 exact k _ hx.2 _ _ _ (e1.trans (zaq e1.fh hp)) (.lst (SqL.of zi0) (i1.mono (zx1 hp _)))
noncomputable def R2H (K:Fg) (r:R2) (f:D->D->(D->Prop)->Prop):Prop:=∀ {F H:Hp} {x y:V} {d e:D} {Qd:D->Prop} {Q:VK},Same F H->Is K H x d->Is K H y e->f d e Qd->(∀ z,Qd z->∀ v F' H',Ext F H F' H'->Is K F' v z->Q v H')->r x y H Q
theorem zr8 {r:R2} {f:D->D->(D->Prop)->Prop} (hr:R2H K r f) (ha:RfH K ta da) (hb:RfH K tb db):RfE K (tOp r ta tb) (dOp f da db):=by
 intro F H Y U Qd Q s rv h k
 refine ha s rv h λ x hx v F1 H1 e1 i1=>hb e1.fh (rv.ext e1) hx λ y hy u F2 H2 e2 i2=>?_
 exact hr e2.fh (i1.mono e2.h) i2 hy λ z hz w F3 H3 e3 i3=>k z hz w F3 H3 ((e1.trans e2).trans e3) i3
theorem q_eq:R2H K (rEqU K) fEq:=by
 intro F H x y d e Qd Q s hx hy h k
 unfold fEq at h
 split at h
 ·cases hx.int_inv;cases hy.int_inv
  refine .inl ⟨rfl,k _ h _ F H (Ext.refl s) ?_⟩
  rw [zlc];exact .bl _
 ·cases hx.str_inv;cases hy.str_inv
  refine .inl ⟨rfl,k _ h _ F H (Ext.refl s) ?_⟩
  rw [zgb];exact .bl _
 ·cases hx.bl_inv;cases hy.bl_inv
  refine .inl ⟨rfl,k _ h _ F H (Ext.refl s) ?_⟩
  rw [zwg];exact .bl _
 ·exact .inr ⟨_,_,hx,hy,h.1,h.2.1,k _ h.2.2 _ F H (Ext.refl s) (.bl _)⟩
theorem q_ne:R2H K (rNeU K) fNe:=by
 intro F H x y d e Qd Q s hx hy h k
 unfold fNe at h
 split at h
 ·cases hx.int_inv;cases hy.int_inv
  refine .inl ⟨rfl,k _ h _ F H (Ext.refl s) ?_⟩
  rw [zlc];exact .bl _
 ·cases hx.str_inv;cases hy.str_inv
  refine .inl ⟨rfl,k _ h _ F H (Ext.refl s) ?_⟩
  rw [zgb];exact .bl _
 ·cases hx.bl_inv;cases hy.bl_inv
  refine .inl ⟨rfl,k _ h _ F H (Ext.refl s) ?_⟩
  rw [zwg];exact .bl _
 ·exact .inr ⟨_,_,hx,hy,h.1,h.2.1,k _ h.2.2 _ F H (Ext.refl s) (.bl _)⟩
end
theorem zv21 (i:Int):isT "int" (.int i)=true:=rfl
theorem zx01 (i:Int):isT "bool" (.int i)=false:=by simp [isT,tyD]
theorem zm01 (i:List D):isT "list" (.list i)=true:=rfl
theorem zw21 (i:List D):isT "tuple" (.tuple i)=true:=rfl
theorem zf21 (i:Str):isT "str" (.str i)=true:=rfl
theorem zp41 (i:Int):(∀ kvs,uB i≠.dict kvs)=True:=by simp
theorem zpu (i:List D):(∀ kvs,vF i≠.dict kvs)=True:=by simp
theorem zh11 (i:List D):(∀ kvs,v7 i≠.dict kvs)=True:=by simp
theorem zl21 (i:Str):(∀ kvs,PyData.str i≠.dict kvs)=True:=by simp
theorem ze81 (i:Bool):(∀ kvs,PyData.bool i≠.dict kvs)=True:=by simp
theorem zs21:(∀ kvs,PyData.none≠.dict kvs)=True:=by simp
theorem eqv_refl {n:Nat} {d:D} (h:Fit n d):x8 d d=true:=h.eqv
theorem zrd (ns:List Int) {n:Nat}:Fit (n+1) (.list (ns.map .int)):=Fit.lst λ d h=>by
 obtain ⟨i,_,rfl⟩:=uL.mp h
 exact Fit.int i
theorem zys {α:Type} {xs:List α} {f:α->D} {n:Nat} (h:∀ x∈xs,Fit n (f x)):Fit (n+1) (.list (xs.map f)):=Fit.lst λ d hd=>by
 obtain ⟨x,hx,rfl⟩:=uL.mp hd
 exact h x hx
end _4
namespace _3
open PySem PySem.Spec PyProof.Rows _2
section
variable {X:Cx}
theorem zal {C:Addr} {m:Str} {k:Nat} {ps:List Str} {sp:Sp} {o:Expr} {ta:TE} {apos pos:Pos} {pl:Sem Bool} (d:zjc X.prog X.w X.K X.mg X.base C m k ps sp) (hr:Room k X.A) (he:PE X o ta)
  (ht:eval (.Call (.Attribute o m apos) [] [] pos) X.env=(do
   let ov <- eval o X.env
   standAt apos.atName
   let (f,first) <- holding [ov] (getMethod ov m pl)
   callWith pos f first (backTo pos (starEach [] X.env)) (backToKw pos (keywordEach [] X.env))):=by rfl) :
  PE X (.Call (.Attribute o m apos) [] [] pos) (zpr C m sp [] E0 ta tNil):=by
 obtain ⟨f,fd,c,M,F,b⟩:=d
 exact zsp he c M F hr b .nil zlz ht
noncomputable def zp71 (K:Fg) (le:Int->Int->Prop):List V->Hp->VK->Prop:=λ vs H Q=>∃ (a:Addr) (ns:List Int),vs=[.ref a]/\SqL K H a (ns.map V.int)/\ns≠[]/\∀ M∈ns,(∀ x∈ns,le M x)->Q (.int M) H
theorem zrk {K:Fg} (h:X.K=K) (hc:X.calm=true):CallR X (.builtin "min") (zp71 K λ M x=>M<=x):=by
 subst h
 intro pins s Y H xs us Q I r h
 obtain ⟨a,ns,rfl,hx,hne,q⟩:=h
 obtain ⟨u,rfl,r1⟩:=zkf r
 cases r1
 obtain ⟨its,rv,p,hz⟩:=I.list hx
 have hi:IntsAre its ns:=zp5 rv
 obtain ⟨ys,hy⟩:=hi.allInts.items
 have hl:s.heap.IsList a (intItems ys):=hy ▸ p.isList
 have e1:ns=ys.toList.map (·.1):=by
  rw [<- nums_intItems,<- hy]
  exact (show numsOf its.toArray.toList=ns from hi.numsOf).symm
 have hsz:0 < ys.size:=by
  rcases zR ys.size with z|z
  ·exact absurd (by rw [e1];exact yF.mpr (zS (by simpa using z))) hne
  ·exact z
 refine min_intList (I.ok.hd hc) hl hsz λ v h' tk hv hk=>?_
 obtain ⟨t,rfl⟩:=intItems_at hv
 obtain ⟨h1,h2⟩:=argBest_lt (numAt ys) (ys.size - 1)
 refine ⟨.int _,H,I.kept hk,⟨_,rfl⟩,q _ ?_ λ x hx'=>?_⟩
 ·rw [numAt_eq,e1];exact getD_mem (by rw [uA,v8];lia)
 ·rw [e1] at hx'
  obtain ⟨j,hj,rfl⟩:=mem_getD hx'
  rw [uA,v8] at hj
  rw [<- numAt_eq];exact h2 j (by lia)
end
end _3
namespace _4
open PySem PySem.Spec PyProof.Rows _2 _3
section
variable {K:Fg} {te ta ti tv tk tb:TE} {de da di dk db:DE} {dc:DC} {tA:TA} {dA:DF}
noncomputable abbrev fXor:=fI0 λ i j=>.int (Builtin.bitXor i j)
noncomputable abbrev fShl:=fI CPow λ i j=>.int (i * 2 ^ j.toNat)
noncomputable abbrev fShr:=fI (λ _ j=>0<=j) λ i j=>.int (i / 2 ^ j.toNat)
theorem zd61:R2E K (rI0 λ i j=>V.int (Builtin.bitXor i j)) fXor:=r_I0 λ _ _ _=>.int _
theorem zk51:R2E K (rI CPow λ i j=>V.int (i * 2 ^ j.toNat)) fShl:=r_I λ _ _ _=>.int _
theorem zz71:R2E K (rI (λ _ j=>0<=j) λ i j=>V.int (i / 2 ^ j.toNat)) fShr:=r_I λ _ _ _=>.int _
theorem zlt (x:Int):Builtin.bitXor x 1=x+1 - 2 * (x % 2):=by
 rw [PyProof.Rows.bitXor_and,PyProof.Rows.bitAnd_m1]
noncomputable def zg31:List D->(D->Prop)->Prop
|[.list ds],Q=>∃ ns,zjj ds=some ns/\ns≠[]/\∀ M∈ns,(∀ x∈ns,M<=x)->Q (.int M)
|_,_=>False
theorem zk01:CB K (zp71 K λ M x=>M<=x) zg31:=by
 intro F H vs ds Qd Q s hv h k
 unfold zg31 at h
 split at h
 ·obtain ⟨v,rfl,hw⟩:=vw1 hv
  obtain ⟨p,xs,rfl,h1,i1⟩:=hw.list s
  obtain ⟨ns,e,hne,q⟩:=h
  have:=zj8 i1 e
  subst this
  exact ⟨p,ns,rfl,h1,hne,λ M hM hx=>k _ (q M hM hx) _ F H (Ext.refl s) (.int _)⟩
 ·exact h.elim
noncomputable def cDK1 (dk de:DE):DC:=λ U Q=>dk U λ k=>de U λ v=>∃ key,keyD k=some key/\Q (.dk [(key,v)]) U
theorem zr31 (dk de:DE) (U:DSt) (Q:T->DSt->Prop):cDK1 dk de U Q=(dk U λ k=>de U λ v=>∃ key,keyD k=some key/\Q (.dk [(key,v)]) U):=rfl
theorem zf01 (hk:RfE K tk dk) (he:RfE K tv de):RfC K (zo01 [(tk,tv)]) (cDK1 dk de):=by
 intro B F H Y U fps Qd Q r hd k p hp
 have r1:=r.grow (zg6 (o:=.dK []) r.fh hp)
 have fp:F p=none:=by
  cases e:F p with
 |none=>rfl
 |some o=>rw [r.fh p o e] at hp;cases hp
 show tk Y _ _
 refine hk r1.fh r1.rv hd λ kd hkd kv F1 H1 e1 i1=>he e1.fh (r1.grow e1).rv hkd λ v hv vv F2 H2 e2 i2=>?_
 obtain ⟨key,ek,q⟩:=hv
 have:=zoa i1 ek
 subst this
 have e12:=e1.trans e2
 have hp2:H2 p=some (.dK []):=e12.h _ _ zi0
 have fp2:F2 p=none:=e12.nwo zi0 (λ _=>nofun) fp
 refine ⟨hp2,[(key,vv)],rfl,by simp,?_⟩
 have ex:Ext F H F2 (upd H2 p (.dK (zxa [] [(key,vv)]))):=by
  have e0:=(zg6 (o:=.dK []) r.fh hp).trans e12
  refine ⟨λ b o z=>?_,e0.f,λ b o z=>?_,e0.nw⟩
  ·have:b≠p:=λ y=>by subst y;rw [hp] at z;cases z
   rw [zn0 this];exact e0.h b o z
  ·have:b≠p:=λ y=>by subst y;rw [fp2] at z;cases z
   rw [zn0 this];exact e0.fh b o z
 have hm:zxa [] [(key,vv)]=[(key,vv)]:=rfl
 rw [hm] at ex ⊢
 refine k _ _ q (.ref p) F2 _ fps [p] ⟨r.grow ex,.dk zi0 fp2 (.cons i2 .nil),by simp,λ b hb=>?_,λ j s ej hs b hb hb2=>?_⟩
 ·simp at hb;subst hb
  exact (r.newOk hp).1
 ·simp at hb2;subst hb2
  exact (r.newOk hp).2 j s ej hs hb
noncomputable def zu61 (de:DE) (f:D->D->(D->Prop)->Prop) (dc:DC) (db:DE):DC:=λ U Q=>de U λ x=>dc U λ r U1=>fzT r λ y=>db U1 λ z=>f y z λ w=>fIx x w λ d=>Q (.fz d) U1
theorem zix (de:DE) (f:D->D->(D->Prop)->Prop) (dc:DC) (db:DE) (U:DSt) (Q:T->DSt->Prop):zu61 de f dc db U Q=(de U λ x=>dc U λ r U1=>fzT r λ y=>db U1 λ z=>f y z λ w=>fIx x w λ d=>Q (.fz d) U1):=rfl
theorem ztw {w:World} {r:R2} {f:D->D->(D->Prop)->Prop} (he:RfE K te de) (hr:R2E K r f) (hc:RfC K ta dc) (hb:RfE K tb db):RfC K (tOp (rIxV w K) te (tOp r ta tb)) (zu61 de f dc db):=by
 intro B F H Y U fps Qd Q rs hd k
 refine he rs.fh rs.rv hd λ x hx xv F1 H1 e1 i1=>?_
 have r1:=rs.grow e1
 -- what is frozen stays: the base remembers F1
 have s0:=r1.ff
 have n0:=r1.nw
 refine hc (r1.rem s0 (λ _ _ z=>z)) hx λ t U1 ht yv F2 H2 fps2 fpr res=>?_
 obtain ⟨y,hy,iy⟩:=zhv res.rt ht
 refine hb res.rs.fh res.rs.rv hy λ z hz zv F3 H3 e3 i3=>?_
 refine hr e3.fh (.inl (iy.mono e3.f)) (.inl i3) hz λ wd hw wv F4 H4 e4 i4=>?_
 have e34:=e3.trans e4
 have sF:Same F1 F4:=(show Same F1 F2 from res.rs.ff).trans e34.f
 refine r_ix (w:=w) e4.fh (.inl (i1.mono sF)) (.inl i4) hw λ d hd' v F5 H5 e5 i5=>?_
 refine k _ _ hd' v F5 H5 fps2 [] ⟨((res.rs.grow (e34.trans e5)).unrem s0 n0),.fz i5,.nil,λ a ha=>by simp at ha,λ _ _ _ _ a _ ha=>by simp at ha⟩
end
end _4
namespace _3
open PySem PySem.Spec PyProof.Rows _2
section
variable {X:Cx}
noncomputable def zen (K:Fg):List V->Hp->VK->Prop:=λ vs H Q=>∃ (a:Addr) (ns:List Int),vs=[.ref a]/\(SqL K H a (ns.map V.int) \/ ∃ kvs:List (Key×V),H a=some (.dK kvs)/\kvs.map (·.1)=ns.map uP)/\ns.length < 64 /\
 ∀ ns':List Int,ns'.Perm ns->ns'.Pairwise (·<=·)->∀ l,H l=none->Q (.ref l) (upd H l (.lst (ns'.map V.int)))
theorem zaa {P:Program} {w:World} {i:Int} {v:Value} (h:(zx0 P w).is (.inl i) v=true):∃ t,v=.int i t:=by
 have h:xG i v=true:=h
 cases v <;> first
 |(simp [xG] at h;subst h;exact ⟨_,rfl⟩)
 |(simp [xG] at h)
theorem zdb:∀ {vs:List Value} {ns:List Int},vs.length=ns.length->(∀ (j:Nat) v i,vs[j]?=some v->ns[j]?=some i->∃ t,v=.int i t)->IntsAre vs ns
|[],[],_,_=>.nil
|[],_ :: _,h,_=>by simp at h
|_ :: _,[],h,_=>by simp at h
|v :: vs,i :: ns,h,q=>by
  obtain ⟨t,rfl⟩:=q 0 v i rfl rfl
  exact .cons i t (zdb (by simpa using h) λ j v i a b=>q (j+1) v i (by simpa using a) (by simpa using b))
theorem zgd {K:Fg} (h:X.K=K) (hc:X.calm=true):CallR X (.builtin "sorted") (zen K):=by
 subst h
 intro pins s Y H xs us Q I r h
 obtain ⟨a,ns,rfl,hx,hz,q⟩:=h
 obtain ⟨u,rfl,r1⟩:=zkf r
 cases r1
 rcases hx with hx|⟨kvs,hx,hk⟩
 ·obtain ⟨its,rv,p,hz'⟩:=I.list hx
  have hi:IntsAre its ns:=zp5 rv
  refine sorted_ints p.isList hi (by rw [rv.length.symm,uA];exact hz) λ out ns' a1 a2 a3=>?_
  obtain ⟨e,he⟩:=sortedAll_at s.heap its out
  refine ⟨.ref _,upd H (s.heap.objs.size+1) (.lst (ns'.map V.int)),I.laid (a:=s.heap.objs.size+1) (t':=s.toks) (λ b o=>sortedAll_old) (xJ _) ?_,rfl,q ns' a2 a3 _ (I.hok.fresh (xJ _))⟩
  refine ⟨by rw [uA,a2.length_eq,sizeLine_eq];lia,out.toList,e,zz6 a1,?_⟩
  simpa [seqObj] using he
 ·obtain ⟨z,hd,vs0,r0,dd⟩:=zvn I.hok hx
  obtain ⟨ep,hat⟩:=dd.dictAt
  have hlen:vs0.length=ns.length:=by
   have h1:=r0.length
   have h2:=congrArg vA hk
   rw [uA,uA] at h2
   lia
  refine Calls.call_function_entry kind_sorted plain_sorted entry_sorted (args_sorted1 _) ?_
  unfold Builtin.«sorted»
  refine wpAny_bind (m:=checkCount "sorted" 1 1 _) (wpAny_pure ?_)
  refine wpAny_bind (PySem.W.kdu_collect (A:=X.A.in1) (PySem.W.kdl_dict (knd:=zx0 X.prog X.w) (kvs:=vs0) (ep:=ep) hd) (I.ok.hd hc) hat (by rw [sizeLine_eq];lia) λ h' tk acc hk' hacc=>?_)
  have hl:acc.toList.length=vs0.length:=by rw [v8];exact hacc.1
  have hI:IntsAre acc.toList ns:=zdb (by rw [hl,hlen]) λ j v i e1 e2=>by
   obtain ⟨k,x,e3,e4⟩:=hacc.2 j v (by rw [<- x6];exact e1)
   have:k=.inl i:=by
    have e5:(kvs.map (·.1))[j]?=some k:=by
     have kk:∀ {l:List (Key×V)} {m:List (Key×Value)} {j:Nat} {k x},KV l m->m[j]?=some (k,x)->(l.map (·.1))[j]?=some k:=by
      intro l m j k x r
      unfold KV at r
      induction r generalizing j with
     |nil=>intro e;simp at e
     |cons h t ih =>
       intro e
       cases j with
      |zero=>simp at e;simp [h.1,e]
      |succ j=>simp at e ⊢;simpa using ih e
     exact kk r0 e3
    rw [hk,uI,e2] at e5
    simpa using e5.symm
   subst this
   exact zaa e4
  refine wpAny_bind (wpAny_newList ?_ (by rw [hl,sizeLine_eq];lia))
  have hoL:(h'.push { cls:=.type "list",data:=.seq acc.toList.toArray }).get? h'.objs.size=some (seqObj "list" acc.toList.toArray 0):=uT _ rfl
  refine wpAny_bind (wpAny_holding (wpAny_call_entry slot_list_sort ⟨_,hoL,rfl⟩ entry_list_sort (list_sort_tree hoL hI (by rw [hl];lia) λ out ns' a1 a2 a3=>⟨_,rfl,?_⟩) (args_list_sort _)))
  refine wpAny_pure ⟨_,rfl,?_⟩
  obtain ⟨e,he⟩:=sortedHeap_at (out:=out) hoL
  have I2:=I.kept (t':=tk) hk'
  refine ⟨.ref _,upd H h'.objs.size (.lst (ns'.map V.int)),I2.laid (a:=h'.objs.size) (t':=tk) (λ b o ho=>?_) (uG _) ?_,rfl,q ns' a2 a3 _ (I2.hok.fresh (uG _))⟩
  ·have hlt:=uO ho
   rw [sortedHeap_old (u3 hlt) (by rw [size_push'];exact xA hlt)]
   exact uH _ ho
  ·refine ⟨by rw [uA,a2.length_eq,sizeLine_eq];lia,out.toList,e,zz6 a1,?_⟩
   simpa [seqObj] using he
end
end _3
namespace _4
open PySem PySem.Spec PyProof.Rows _2 _3
section
variable {K:Fg} {te ta ti tv tk tb:TE} {de da di dk db:DE} {dc:DC} {dp:DP} {tA:TA} {dA:DF}
theorem zmn {F:Hp}:∀ (ns:List Int),IsAll K F (ns.map V.int) (ns.map uB)
|[]=>.nil
|n :: r=>.cons (.int n) (zmn r)
theorem KvIs.keys {F:Hp}:∀ {kvs:List (Key×V)} {ds:List (Key×D)},KvIs K F kvs ds->kvs.map (·.1)=ds.map (·.1):=by
 intro kvs ds h
 induction h with
|nil=>rfl
|cons a r ih=>simp_all
noncomputable def zqq (u:T) (Q:List D->Prop):Prop:=match u with
|.dk kvs=>∃ ns:List Int,kvs.map (·.1)=ns.map uP/\ns.length < 64/\∀ ns':List Int,ns'.Perm ns->ns'.Pairwise (·<=·)->Q (ns'.map .int)
|_=>False
noncomputable def zmw (dp:DP):DF:=λ U Q=>dp U λ _ _ u=>zqq u Q
theorem zop (hp:RfP K ta dp):RfF K (tCB (zen K) (zl4 ta tNil)) (zmw dp):=by
 intro F H Y U Qd Q s rv h k
 refine hp s rv h λ i p u hu v F2 H2 e2 at2=>?_
 obtain ⟨fn,hr⟩:=at2.rt (rv.ext e2)
 cases hr with
|dk h1 h2 h3 =>
  obtain ⟨ns,ek,hz,q⟩:=hu
  refine ⟨_,ns,rfl,.inr ⟨_,h1,by rw [<- ek];exact h3.keys⟩,hz,λ ns' p1 p2 l hl=>?_⟩
  obtain ⟨ex,fn⟩:=zb3 (xs:=ns'.map V.int) e2.fh hl
  have hn:H l=none:=by
   cases z:H l with
  |none=>rfl
  |some o=>rw [e2.h l o z] at hl;cases hl
  exact k _ (q ns' p1 p2) l _ F2 _ (e2.trans ex) hn zi0 fn (zmn ns')
|fz _=>exact hu.elim
|li _ _ _=>exact hu.elim
|ls _ _ _=>exact hu.elim
|ob _ _ _ _ _=>exact hu.elim
|dt _ _ _=>exact hu.elim
|tp _ _ _ _=>exact hu.elim
|wh=>exact hu.elim
|dd _ _ _ _=>exact hu.elim
theorem zso (dp:DP) (U:DSt) (Q:List D->Prop):zmw dp U Q=(dp U λ _ _ u=>zqq u Q):=rfl
theorem zxn (kvs:List (Key×D)) (Q:List D->Prop):zqq (.dk kvs) Q=∃ ns:List Int,kvs.map (·.1)=ns.map uP/\ns.length < 64/\∀ ns':List Int,ns'.Perm ns->ns'.Pairwise (·<=·)->Q (ns'.map .int):=rfl
end
end _4
namespace _3
open PySem PySem.Spec PyProof.Rows _2
structure TopDefN (K:Fg) (x:Str) (st:Stmt):Prop where
 ex:∃ (f T:Addr) (oc:Value) (od:Option Addr) (kV doc pm:Value) (an:Option Addr) (cdv ct:Value) (osl:Array (Option Value)) (o:Obj) (n:Nat),PySem.W.nsIn K mainGlobals x=some (some (.ref f)) /\
  K.lookup f=some ⟨oc,od,.func (PySem.W.fnOf x x (zo4 st) (zz1 st) (zf0 st) (.ref T) kV doc pm an cdv ct),osl⟩/\PySem.W.codeIn K cdv x=true/\PySem.W.keepIn K (.ref f)=true/\K.lookup T=some o/\o.data=.seq #[.none] n
theorem zoh {K:Fg} {x:Str} {st:Stmt} {f T:Addr} {oc:Value} {od an:Option Addr} {osl:Array (Option Value)} {kV doc pm cdv ct:Value} {o:Obj} {n:Nat} (a:PySem.W.nsIn K mainGlobals x=some (some (.ref f)))
  (l:K.lookup f=some ⟨oc,od,.func (PySem.W.fnOf x x (zo4 st) (zz1 st) (zf0 st) (.ref T) kV doc pm an cdv ct),osl⟩) (c:PySem.W.codeIn K cdv x=true) (k:PySem.W.keepIn K (.ref f)=true) (lt:K.lookup T=some o) (hd:o.data=.seq #[.none] n):TopDefN K x st :=
 ⟨f,T,oc,od,kV,doc,pm,an,cdv,ct,osl,o,n,a,l,c,k,lt,hd⟩
noncomputable def DefN (P:Program) (w:World) (K:Fg) (mg:Str->Option Value) (base:Heap) (x:Str) (k:Nat) (ps:List Str) (sp:Sp):Prop :=
 ∃ f fd,FnOk P w K mg base CX0 k f fd ps sp/\Binds K fd ps []/\Binds K fd ps [.none]/\PySem.W.keepIn K (.ref f)=true/\mg x=some (.ref f)
theorem DefN.d {P:Program} {w:World} {K:Fg} {mg:Str->Option Value} {base:Heap} {x:Str} {k:Nat} {ps:List Str} {sp:Sp} (h:DefN P w K mg base x k ps sp):Def P w K mg base x k ps sp:=by
 obtain ⟨f,fd,F,b,_,kp,m⟩:=h
 exact ⟨f,fd,F,b,kp,m⟩
noncomputable abbrev zgf (x:Str) (st:Stmt) (ps:List Str) (ds:List Value) (qs:List Str):Prop :=
 ∀ (T:Addr) (kV doc pm:Value) (an:Option Addr) (cdv ct:Value) (us:List Value),us.length=qs.length->∃ k:Option (Array Value)->Sem (List (Str×Value)),bindArgs (PySem.W.fnOf x x (zo4 st) (zz1 st) (zf0 st) (.ref T) kV doc pm an cdv ct) ⟨us,[]⟩=seqItems? (.ref T) >>= k/\k (some #[.none])=pure (ps.zip (us++ds))
section
variable {P:Program} {w:World} {K:Fg} {mg:Str->Option Value} {base:Heap}
theorem zes {x:Str} {st:Stmt} {N ps:List Str} {k:Nat} {sp:Sp} (M:Md K mg) (T:TopDefN K x st) (S:FnScope N ps (zf0 st)) {qs:List Str} (hq:ps.length=qs.length+1) (hb:zgf x st ps [] ps) (hn:zgf x st ps [.none] qs) (len:∀ vs H Q E,sp vs H Q E->vs.length=ps.length)
  (body:zd4 P w K mg base x st N k sp):DefN P w K mg base x (k+1) ps sp:=by
 obtain ⟨f,t,oc,od,kV,doc,pm,an,cdv,ct,osl,o,n,a,lk,hcd,kp,lt,hd⟩:=T.ex
 refine ⟨f,_,za71 lk hcd S len λ A outer s H vs Q E hr hsp=>?_,λ s us kin hl=>?_,λ s us kin hl=>?_,kp,M.got a⟩
 ·obtain ⟨t,h,q⟩:=body f cdv A outer s H vs Q E hr hsp
  exact ⟨t,PSs.nox h,q⟩
 ·obtain ⟨kk,e1,e2⟩:=hb t kV doc pm an cdv ct us (by simpa using hl)
  exact PySem.W.binds_K kin rfl lt hd e1 e2
 ·obtain ⟨kk,e1,e2⟩:=hn t kV doc pm an cdv ct us (by rw [vB] at hl;simp only [xM] at hl;lia)
  exact PySem.W.binds_K kin rfl lt hd e1 e2
end
end _3
namespace _5
open PySem PySem.Spec PyProof.Rows _2 _3 _4
theorem ar1 {α:Type} {us:List α} (h:us.length=1):∃ a,us=[a]:=by
 rcases us with _|⟨a,_|⟨b,us⟩⟩
 ·cases h
 ·exact ⟨a,rfl⟩
 ·cases h
theorem ars {α:Type} {n:Nat} {us:List α} (h:us.length=n+1):∃ a r,us=a :: r/\r.length=n:=by
 rcases us with _|⟨a,us⟩
 ·cases h
 ·exact ⟨a,us,rfl,Nat.succ.inj h⟩
theorem ar2 {α:Type} {us:List α} (h:us.length=2):∃ a b,us=[a,b]:=by
 obtain ⟨a,r,rfl,k⟩:=ars h
 obtain ⟨b,rfl⟩:=ar1 k
 exact ⟨a,b,rfl⟩
theorem ar3 {α:Type} {us:List α} (h:us.length=3):∃ a b c,us=[a,b,c]:=by
 obtain ⟨a,r,rfl,k⟩:=ars h
 obtain ⟨b,c,rfl⟩:=ar2 k
 exact ⟨a,b,c,rfl⟩
theorem ar4 {α:Type} {us:List α} (h:us.length=4):∃ a b c d,us=[a,b,c,d]:=by
 obtain ⟨a,r,rfl,k⟩:=ars h
 obtain ⟨b,c,d,rfl⟩:=ar3 k
 exact ⟨a,b,c,d,rfl⟩
theorem ar5 {α:Type} {us:List α} (h:us.length=5):∃ a b c d e,us=[a,b,c,d,e]:=by
 obtain ⟨a,r,rfl,k⟩:=ars h
 obtain ⟨b,c,d,e,rfl⟩:=ar4 k
 exact ⟨a,b,c,d,e,rfl⟩
section
variable {prog:Program} {w:World} {A:Around} {R:Result->Shared->Prop} {I:Addr} {fp wr:List Addr} {n:Nat} {P:Nat->Value->Prop} {St:Nat->Heap->Prop} {d:Value}
noncomputable abbrev mxC (I S:Addr) (d:Value):Code:=.builtin "max.loop" ⟨[.ref I,.none,.ref S],[("default",d)]⟩
theorem zbz:(toString "max"++toString ".loop":String) = "max.loop":=by decide
theorem zq81 (W:Walks prog w A.in1 I fp wr n P St) (bt:Nat->Nat->Bool) (cm:CmpOf prog w A.in1 .Gt P bt) (S:Addr) (sf:S ∉ fp) :
  ∀ (k j:Nat) (s:Shared) (b:Value) (c:Nat),n - (j+1)=k->j+1<=n->St (j+1) s.heap->P (argBest bt j) b ->
  s.heap.get? S=some { cls:=.type "list",dict:=none,data:=.seq #[b,b] c,slots:=#[] } ->
  (∀ v g t,P (argBest bt (n - 1)) v->(∀ a o,a ∉ S :: wr->s.heap.get? a=some o->g.get? a=some o)->R (.ok (.ret v)) { s with heap:=g,toks:=t })->codeAny (model prog w) A (mxC I S d) R s:=by
 have sw:S ∉ wr:=λ h=>sf (W.sub _ h)
 have ns:∀ {a:Addr},a ∉ S :: wr->S≠a/\a ∉ wr:=λ h=>⟨λ z=>h (by rw [z];exact vN),λ z=>h (u9 _ z)⟩
 intro k
 induction k with
|zero =>
  intro j s b c hk hj st pb hS q
  have e:j+1=n:=by lia
  refine codeAny_builtin F.entry_max_loop ?_
  rw [Around.under_plainId F.plain_max_loop _]
  show wpAny _ _ (seqItems? (.ref S) >>= _) _ _ s
  refine wpAny_bind (wpAny_seqItems hS rfl ?_)
  show wpAny _ _ (tryCatch (pyNext (.ref I)) _ >>= _) _ _ s
  refine wpAny_bind (wpAny_tryCatch (W.done s _ _ (e ▸ st) λ g t mv=>?_))
  have hS2:=mv S _ sw hS
  show wpAny _ _ (updateSeq S (λ _=>#[]) >>= _) _ _ _
  refine wpAny_bind (wpAny_updateSeq hS2 rfl (wpAny_bind (wpAny_letGo (wpAny_pure ?_))))
  exact q b _ _ (by rw [<- e];exact pb) λ a o ha z=>(wR _ _ (ns ha).1).trans (mv a o (ns ha).2 z)
|succ k ih =>
  intro j s b c hk hj st pb hS q
  have lt:j+1 < n:=by lia
  refine codeAny_builtin F.entry_max_loop ?_
  rw [Around.under_plainId F.plain_max_loop _]
  show wpAny _ _ (seqItems? (.ref S) >>= _) _ _ s
  refine wpAny_bind (wpAny_seqItems hS rfl ?_)
  show wpAny _ _ (tryCatch (pyNext (.ref I)) _ >>= _) _ _ s
  refine wpAny_bind (wpAny_tryCatch (W.item (j+1) s _ _ lt st λ v g t pv st2 mv=>?_))
  have hS2:=mv S _ sw hS
  show wpAny _ _ (tryCatch (holding [v,v] (richCompare .Gt v b >>= _)) _ >>= _) _ _ _
  refine wpAny_bind (wpAny_tryCatch (wpAny_holding (wpAny_bind (cm (j+1) (argBest bt j) v b _ _ _ pv pb ?_))))
  refine wpAny_bind (wpAny_holding (wpAny_truthy_bool ?_))
  refine wpAny_bind (wpAny_letGo (wpAny_pure ?_))
  cases hb:bt (j+1) (argBest bt j) with
 |true =>
   rw [if_pos rfl]
   refine wpAny_bind (wpAny_updateSeq hS2 rfl (wpAny_bind (wpAny_letGo ?_)))
   rw [zbz]
   refine wpAny_pure ⟨plainId_quiet F.plain_max_loop _,ih (j+1) _ v _ (by lia) lt (W.frame _ _ _ st2 λ a hf o z=>?_) (by simp only [argBest,hb,if_true];exact pv) (xL _ hS2 rfl) λ v2 g2 t2 p2 mv2=>?_⟩
   ·exact (wR _ _ (λ h:S=a=>sf (by rw [h];exact hf))).trans z
   ·exact q v2 g2 t2 p2 λ a o ha z=>mv2 a o ha ((wR _ _ (ns ha).1).trans (mv a o (ns ha).2 z))
 |false =>
   rw [if_neg (by simp)]
   refine wpAny_bind (wpAny_letGo ?_)
   rw [zbz]
   refine wpAny_pure ⟨plainId_quiet F.plain_max_loop _,ih (j+1) _ b c (by lia) lt st2 (by simp only [argBest,hb,wM,if_false];exact pb) hS2 λ v2 g2 t2 p2 mv2=>?_⟩
   exact q v2 g2 t2 p2 λ a o ha z=>mv2 a o ha (mv a o (ns ha).2 z)
theorem zz91 (W:Walks prog w A.in1 I fp wr n P St) (bt:Nat->Nat->Bool) (cm:CmpOf prog w A.in1 .Gt P bt) (S:Addr) (sf:S ∉ fp) {s:Shared} {c:Nat} (st:St 0 s.heap)
  (hS:s.heap.get? S=some { cls:=.type "list",dict:=none,data:=.seq #[] c,slots:=#[] })
  (q:∀ v g t,(if n=0 then v=d else P (argBest bt (n - 1)) v)->(∀ a o,a ∉ S :: wr->s.heap.get? a=some o->g.get? a=some o)->R (.ok (.ret v)) { s with heap:=g,toks:=t }):codeAny (model prog w) A (mxC I S d) R s:=by
 have sw:S ∉ wr:=λ h=>sf (W.sub _ h)
 have ns:∀ {a:Addr},a ∉ S :: wr->S≠a/\a ∉ wr:=λ h=>⟨λ z=>h (by rw [z];exact vN),λ z=>h (u9 _ z)⟩
 refine codeAny_builtin F.entry_max_loop ?_
 rw [Around.under_plainId F.plain_max_loop _]
 show wpAny _ _ (seqItems? (.ref S) >>= _) _ _ s
 refine wpAny_bind (wpAny_seqItems hS rfl ?_)
 show wpAny _ _ (tryCatch (pyNext (.ref I)) _ >>= _) _ _ s
 rcases zR n with z|z
 ·refine wpAny_bind (wpAny_tryCatch (W.done s _ _ (z ▸ st) λ g t mv=>?_))
  refine wpAny_bind (wpAny_rule (wpAny_pure ?_))
  exact q d g t (by rw [if_pos z]) λ a o ha e=>mv a o (ns ha).2 e
 ·refine wpAny_bind (wpAny_tryCatch (W.item 0 s _ _ z st λ v g t pv st2 mv=>?_))
  have hS2:=mv S _ sw hS
  show wpAny _ _ (updateSeq S (λ _=>#[v,v]) >>= _) _ _ _
  refine wpAny_bind (wpAny_updateSeq hS2 rfl ?_)
  rw [zbz]
  refine wpAny_pure ⟨plainId_quiet F.plain_max_loop _,zq81 W bt cm S sf _ 0 _ v _ rfl z (W.frame _ _ _ st2 λ a hf o e=>?_) pv (xL _ hS2 rfl) λ v2 g2 t2 p2 mv2=>?_⟩
  ·exact (wR _ _ (λ h:S=a=>sf (by rw [h];exact hf))).trans e
  ·exact q v2 g2 t2 (by rw [if_neg (by lia)];exact p2) λ a o ha e=>mv2 a o ha ((wR _ _ (ns ha).1).trans (mv a o (ns ha).2 e))
theorem zct (a d:Value):argsOk "max" ⟨[a],[("default",d)]⟩:=by unfold argsOk;kernel_rfl
theorem zf81 {s:Shared} {E:Value->Shared->Prop} {id:String} {b:Builtin} {us:List Value} {kw:List (Str×Value)} {Q:Value->Shared->Prop} (k1:builtinKind id=none) (k2:plainId id=true) (k3:entryFor table id=some b) (k4:argsOk id ⟨us,kw⟩)
  (h:wpAny (model prog w) A.in1 (b ⟨us,kw⟩) (λ fin s'=>match fin with
  |.done f=>(match (Except.ok f:Result) with|.ok (.ret v)=>Q v s'|.ok _=>False|.error e=>E e s')
  |.again c=>c.quiet=true/\codeAny (model prog w) A c (λ r s'=>match r with|.ok (.ret v)=>Q v s'|.ok _=>False|.error e=>E e s') s') E s):wpAny (model prog w) A (call (.builtin id) us kw) Q E s:=by
 refine wpAny_call (codeAny_call_builtin k2 k3 ?_)
 simp only [checkBuiltinCall,k1]
 cases hs:Manifest.signature? id with
|none=>exact wpAny_pure h
|some sg =>
  simp only [argsOk,hs] at k4
  show wpAny _ _ (Bind.checkArgs id sg ⟨us,kw⟩) _ _ s
  rw [show Bind.checkArgs id sg ⟨us,kw⟩=pure () from k4]
  exact wpAny_pure h
theorem zeu (d:Value):Builtin.Builtins.bindParams "max" ["key", "default"] 0 ⟨[],[("default",d)]⟩=pure [none,some d]:=rfl
theorem zsv {s:Shared} {E:Value->Shared->Prop} {l:Addr} {xs:Array (Int×Nat)} {Q:Value->Shared->Prop} (hh:A.handled=none) (hl:s.heap.IsList l (intItems xs))
  (h:∀ v g t,(if xs.size=0 then v=d else (intItems xs)[argBest (λ i j=>decide (numAt xs i > numAt xs j)) (xs.size - 1)]?=some v)->(∀ b o,s.heap.get? b=some o->g.get? b=some o)->Q v { s with heap:=g,toks:=t }) :
  wpAny (model prog w) A (call (.builtin "max") [.ref l] [("default",d)]) Q E s:=by
 refine zf81 F.kind_max F.plain_max F.entry_max (zct _ _) ?_
 show wpAny _ _ (Builtin.Builtins.bindParams "max" ["key", "default"] 0 ⟨[],[("default",d)]⟩ >>= _) _ _ s
 rw [zeu]
 refine wpAny_bind (wpAny_pure (wpAny_bind (wpAny_pure ?_)))
 refine wpAny_bind (iter_intList hl λ s2 e st hf hI=>?_)
 subst e
 refine wpAny_bind (wpAny_newObj_type ?_)
 have sf:(s.heap.push { cls:=.type "list_iterator",data:=.fields #[.ref l,.int 0 0] }).objs.size ∉ [s.heap.objs.size,l]:=λ z=>vP _ (hf _ z)
 rw [zbz]
 have W:=Walks.list (prog:=prog) (w:=w) (A:=A.in1) hh s.heap.objs.size l hI (intItems xs)
 refine wpAny_pure ⟨plainId_quiet F.plain_max_loop _,zz91 W _ (CmpOf.ints_gt (numAt xs) (λ _ _=>intItems_at)) _ sf (W.frame 0 _ _ st λ b _ o e=>uH _ e) (uT _ rfl) λ v g t hv mv=>?_⟩
 refine h v g t ?_ λ b o e=>?_
 ·simpa [intItems] using hv
 ·have lb:b < s.heap.objs.size:=uO e
  refine mv b o (λ z=>?_) (uH _ (uH _ e))
  rcases uD.mp z with z|z
  ·rw [z,vE] at lb;exact Nat.not_lt_of_le (xJ _) lb
  ·simp at z;rw [z] at lb;exact vP _ lb
end
section
variable {X:Cx} {x:Str} {p pos kp:Pos} {e e2:Expr} {te te2:TE}
noncomputable def rMxD (K:Fg) (v u:V) (H:Hp) (Q:VK):Prop:=∃ (a:Addr) (ns:List Int),v=.ref a/\SqL K H a (ns.map V.int)/\(ns=[]->Q u H)/\(ns≠[]->∀ M∈ns,(∀ y∈ns,y<=M)->Q (.int M) H)
noncomputable def tMxD (K:Fg) (te te2:TE):TE:=λ Y H Q=>te Y H λ v H1=>te2 Y H1 λ u H2=>rMxD K v u H2 Q
theorem zn21 {K:Fg} (hK:X.K=K) (hc:X.calm=true) (hg:Gl X x) (hm:X.mg x=none) (hv:bootBuiltins x=some (.builtin "max")) (h1:PE X e te) (h2:PE X e2 te2) (hn:x ≠ "__name__":=by decide) (hdb:(x == ("__debug__":Str))=false:=by decide)
  (he:starEach [e] X.env=(false,eval e X.env) :: starEach [] X.env:=by rfl):PE X (.Call (.Name x p) [e] [⟨some "default",e2,kp⟩] pos) (tMxD K te te2):=by
 subst hK
 intro pins s Y H Q I h
 refine wpAny_Call_Name_kw (zia I hg hm hv ?_ hn hdb)
 refine PyProof.Rows.callWith_kw (thn (za0 h1 zg0 he pos pins s Y H (λ vs H1=>match vs with|[v]=>te2 Y H1 λ u H2=>rMxD X.K v u H2 Q|_=>False) I ?_) λ us s1 ⟨vs,H1,I1,r1,q1⟩=>?_) (by rw [he];rfl) (by rw [he];rfl) rfl rfl
 ·exact h
 rcases vs with _|⟨v,_|⟨v2,vr⟩⟩
 ·exact False.elim q1
 rotate_left
 ·exact False.elim q1
 obtain ⟨uv,rfl,r5⟩:=zkf r1
 refine thn (zpv (nm:=some "default") (kpos:=kp) h2 zb31 pos pins s1 Y H1 (λ zs H2=>match zs with|[u]=>rMxD X.K v u H2 Q|_=>False) I1 ?_) λ ws s2 ⟨zs,H2,I2,rz,q2⟩=>?_
 ·exact q1
 rcases zs with _|⟨u,_|⟨u2,ur⟩⟩
 ·exact False.elim q2
 rotate_left
 ·exact False.elim q2
 obtain ⟨ud,rfl,rd⟩:=zkf rz
 obtain ⟨a,ns,rfl,hx,qe,qn⟩:=q2
 cases r5
 obtain ⟨its,rv,pl,hz⟩:=I2.list hx
 have hi:IntsAre its ns:=zp5 rv
 obtain ⟨ys,hy⟩:=hi.allInts.items
 have hl:s2.heap.IsList a (intItems ys):=hy ▸ pl.isList
 have e1:ns=ys.toList.map (·.1):=by
  rw [<- nums_intItems,<- hy]
  exact (show numsOf its.toArray.toList=ns from hi.numsOf).symm
 show wpAny _ _ (call (.builtin "max") [.ref a] [("default",ud)]) _ _ s2
 refine zsv (I2.ok.hd hc) hl λ v g t hv' hk=>?_
 by_cases z:ys.size=0
 ·rw [if_pos z] at hv'
  subst hv'
  have en:ns=[]:=by rw [e1];exact yF.mpr (zS (by simpa using z))
  exact ⟨u,H2,I2.kept hk,rd,qe en⟩
 ·rw [if_neg z] at hv'
  obtain ⟨t',rfl⟩:=intItems_at hv'
  obtain ⟨h1',h2'⟩:=argBest_gt (numAt ys) (ys.size - 1)
  have hne:ns≠[]:=λ q=>z (by
   have:=congrArg vA e1
   rw [q,uA,v8] at this
   simpa using this.symm)
  refine ⟨.int _,H2,I2.kept hk,⟨_,rfl⟩,qn hne _ ?_ λ x hx'=>?_⟩
  ·rw [numAt_eq,e1];exact getD_mem (by rw [uA,v8];lia)
  ·rw [e1] at hx'
   obtain ⟨j,hj,rfl⟩:=mem_getD hx'
   rw [uA,v8] at hj
   rw [<- numAt_eq];exact h2' j (by lia)
end
section
variable {K:Fg} {te te2:TE} {df:DE} {dd:DE}
noncomputable def dMxD (df dd:DE):DE:=λ U Q=>df U λ l=>dd U λ x=>∃ ds ns,l=.list ds/\zjj ds=some ns/\(ns=[]->Q x)/\(ns≠[]->∀ M∈ns,(∀ y∈ns,y<=M)->Q (.int M))
theorem zo21 (df dd:DE) (U:DSt) (Q:D->Prop):dMxD df dd U Q=(df U λ l=>dd U λ x=>∃ ds ns,l=.list ds/\zjj ds=some ns/\(ns=[]->Q x)/\(ns≠[]->∀ M∈ns,(∀ y∈ns,y<=M)->Q (.int M))):=rfl
theorem zk21 (h1:RfE K te df) (h2:RfE K te2 dd):RfE K (tMxD K te te2) (dMxD df dd):=by
 intro F H Y U Qd Q s rv h k
 refine h1 s rv h λ l hl v F1 H1 e1 i1=>h2 e1.fh (rv.ext e1) hl λ x hx u F2 H2 e2 i2=>?_
 obtain ⟨ds,ns,rfl,hn,qe,qn⟩:=hx
 obtain ⟨a,xs,rfl,sq,ia⟩:=(i1.mono e2.f).list_inv
 have ex:=zj8 ia hn
 subst ex
 have e12:=e1.trans e2
 exact ⟨a,ns,rfl,e2.fh.seq sq,λ z=>k _ (qe z) _ F2 H2 e12 i2,λ z M hM hy=>k _ (qn z M hM hy) _ F2 H2 e12 (.int M)⟩
end
section
variable {P:Program} {w:World} {K:Fg} {mg:Str->Option Value} {base:Heap} {m:Str} {k:Nat} {ta tk tx:TE} {tA:TA} {dp:DP} {dk dx:DE} {dA:DF}
noncomputable def zvy (u:T) (k x:D) (Q:D->Prop):Prop:=match u with
|.dk kvs=>∃ key,keyD k=some key/\Q ((getA kvs key).getD x)
|.dt kvs=>∃ key,keyT k=some key/\Q ((getA kvs key).getD x)
|_=>False
noncomputable def zn61 (dp:DP) (dk dx:DE):DE:=λ U Q=>dp U λ _ _ u=>tyN "dict" u/\dk U λ k=>dx U λ x=>zvy u k x Q
theorem zmu (dp:DP) (dk dx:DE) (U:DSt) (Q:D->Prop):zn61 dp dk dx U Q=(dp U λ _ _ u=>tyN "dict" u/\dk U λ k=>dx U λ x=>zvy u k x Q):=rfl
theorem zwu {F H:Hp} {v kv xv:V} {u:T} {fn:List Addr} {k x:D} {Qd:D->Prop} {Q:VK} (s:Same F H) (hr:Rt K F H v u fn) (hk:Is K F kv k) (hx:Is K F xv x) (hf:zvy u k x Qd) (q:∀ d y,Qd d->Is K F y d->Q y H):zcr v [kv,xv] H Q:=by
 cases hr with
|dk h1 h2 h3 =>
  obtain ⟨key,ek,qd⟩:=hf
  have:=zoa hk ek
  subst this
  rcases h3.get (k:=key) with ⟨g1,g2⟩|⟨d',y,g1,g2,g3⟩
  ·rw [g1] at qd
   exact ⟨_,_,_,none,rfl,rfl,by rw [<- g2];exact DGet.k h1,q _ _ qd hx⟩
  ·rw [g1] at qd
   exact ⟨_,_,_,some y,rfl,rfl,by rw [<- g2];exact DGet.k h1,q _ _ qd g3⟩
|dt h1 h2 h3 =>
  obtain ⟨key,ek,qd⟩:=hf
  obtain ⟨kb,rfl,hb⟩:=zoe hk ek
  rcases h3.get (k:=key) with ⟨g1,g2⟩|⟨d',y,g1,g2,g3⟩
  ·rw [g1] at qd
   exact ⟨_,_,_,none,rfl,rfl,by rw [<- g2];exact DGet.t h1 (s _ _ hb),q _ _ qd hx⟩
  ·rw [g1] at qd
   exact ⟨_,_,_,some y,rfl,rfl,by rw [<- g2];exact DGet.t h1 (s _ _ hb),q _ _ qd g3⟩
|fz _=>exact hf.elim
|li _ _ _=>exact hf.elim
|ls _ _ _=>exact hf.elim
|ob _ _ _ _ _=>exact hf.elim
|tp _ _ _ _=>exact hf.elim
|wh=>exact hf.elim
|dd _ _ _ _=>exact hf.elim
theorem zts (hp:RfP K ta dp) (hk:RfE K tk dk) (hx:RfE K tx dx):RfE K (tBMU K "dict" zcr ta (zl4 tk (zl4 tx tNil))) (zn61 dp dk dx):=by
 intro F H Y U Qd Q s rv hd kk
 refine hp s rv hd λ i p u hu v F1 H1 e1 at1=>?_
 have rv1:=rv.ext e1
 obtain ⟨fn,hr⟩:=at1.rt rv1
 refine ⟨zu11 hr hu.1,hk e1.fh rv1 hu.2 λ kd hkd kv F2 H2 e2 i2=>hx e2.fh (rv1.ext e2) hkd λ xd hxd xv F3 H3 e3 i3=>?_⟩
 have e13:=(e1.trans e2).trans e3
 exact zwu e3.fh ((hr.ext e2).ext e3) (i2.mono e3.f) i3 hxd λ d y qd iy=>kk d qd y F3 H3 e13 iy
end
noncomputable def xr (s:Nat):Nat:=if s % 2=0 then s+1 else s - 1
theorem zz31 (s:Nat):xr (xr s)=s:=by unfold xr;split <;> split <;> lia
theorem zwy {s m:Nat} (h:s < 2 * m):xr s < 2 * m:=by unfold xr;split <;> lia
theorem zz11 (s:Nat):xr s≠s:=by unfold xr;split <;> lia
noncomputable def hd (E:List Nat) (s:Nat):Nat:=E.getD s 0
noncomputable def tl (E:List Nat) (s:Nat):Nat:=hd E (xr s)
theorem zez (E:List Nat) (s:Nat):tl E (xr s)=hd E s:=by unfold tl;rw [zz31]
theorem zgx (E:List Nat) (s:Nat):hd E (xr s)=tl E s:=rfl
noncomputable def lf (L:List Int) (s:Nat):Int:=L.getD s 0
structure Net (n m:Nat) (E:List Nat) (S:List (List Nat)):Prop where
 lE:E.length=2 * m
 bE:∀ s,s < 2 * m->hd E s < n
 lS:S.length=n
 s1:∀ (v:Nat) l,S[v]?=some l->∀ s∈l,s < 2 * m/\tl E s=v
 s2:∀ s,s < 2 * m->∃ l,S[tl E s]?=some l/\s∈l
noncomputable def lkp (lv:List (Nat×Nat)) (v:Nat):Option Nat:=(lv.find? λ p=>decide (p.1=v)).map (·.2)
theorem zr9 {lv:List (Nat×Nat)} {u a v:Nat}:lkp (lv++[(u,a)]) v=match lkp lv v with
 |some b=>some b
 |none=>if u=v then some a else none:=by
 unfold lkp
 rw [List.find?_append]
 cases h:lv.find? λ p=>decide (p.1=v) with
|some x=>simp
|none =>
  by_cases e:u=v
  ·simp [e]
  ·simp [e]
theorem zug {lv:List (Nat×Nat)} {v a:Nat} (h:lkp lv v=some a):(v,a)∈lv:=by
 unfold lkp at h
 obtain ⟨p,hp,e⟩:=u5.mp h
 have h1:=zT hp
 have h2:=List.find?_some hp
 simp at h2
 obtain ⟨p1,p2⟩:=p
 simp at h2 e
 subst h2 e
 exact h1
theorem zxc {lv:List (Nat×Nat)} {v:Nat} (h:lkp lv v=none):v ∉ lv.map (·.1):=by
 unfold lkp at h
 rw [Option.map_eq_none_iff,List.find?_eq_none] at h
 intro hm
 obtain ⟨p,hp,e⟩:=uL.mp hm
 have:=h p hp
 simp [e] at this
theorem zs0:∀ (n:Nat) (l:List Nat),l.Nodup->(∀ x∈l,x < n)->l.length<=n
|0,[],_,_=>uG _
|0,x :: r,_,h=>absurd (h x (by simp)) (by lia)
|n+1,l,nd,h=>by
  by_cases hm:n∈l
  ·have h1:(l.erase n).length=l.length - 1:=List.length_erase_of_mem hm
   have h2:(l.erase n).Nodup:=nd.erase n
   have h3:∀ x∈l.erase n,x < n:=λ x hx=>by
    have hx1:=(List.Nodup.mem_erase_iff nd).mp hx
    have:=h x hx1.2
    lia
   have:=zs0 n _ h2 h3
   lia
  ·have h3:∀ x∈l,x < n:=λ x hx=>by
    have:=h x hx
    have:x≠n:=λ e=>hm (e ▸ hx)
    lia
   have:=zs0 n l nd h3
   lia
structure Lev (n m:Nat) (E:List Nat) (L:List Int) (src:Nat) (lv:List (Nat×Nat)):Prop where
 nd:(lv.map (·.1)).Nodup
 bd:∀ p∈lv,p.1 < n
 l0:lkp lv src=some 0
 z0:∀ v,lkp lv v=some 0->v=src
 cl:∀ s,s < 2 * m->0 < lf L s->(lkp lv (tl E s)).isSome=true->(lkp lv (hd E s)).isSome=true
 pr:∀ v a,lkp lv v=some (a+1)->∃ s,s < 2 * m/\0 < lf L s/\hd E s=v/\lkp lv (tl E s)=some a
noncomputable def Adm (E:List Nat) (L:List Int) (lv:List (Nat×Nat)) (s:Nat):Prop:=0 < lf L s/\∃ a,lkp lv (tl E s)=some a/\lkp lv (hd E s)=some (a+1)
inductive Rch (m:Nat) (E:List Nat) (L:List Int) (lv:List (Nat×Nat)) (t:Nat):Nat->Prop
|here:Rch m E L lv t t
|step {s:Nat}:s < 2 * m->Adm E L lv s->Rch m E L lv t (hd E s)->Rch m E L lv t (tl E s)
theorem zlb {n m:Nat} {E:List Nat} {L:List Int} {src:Nat} {lv:List (Nat×Nat)} (h:Lev n m E L src lv) {t:Nat}:∀ (a v:Nat),lkp lv v=some a->Rch m E L lv t v->Rch m E L lv t src
|0,v,e,r=>by rw [<- h.z0 v e];exact r
|a+1,v,e,r=>by
  obtain ⟨s,h1,h2,h3,h4⟩:=h.pr v a e
  refine zlb h a (tl E s) h4 (.step h1 ⟨h2,a,h4,by rw [h3];exact e⟩ (by rw [h3];exact r))
theorem Rch.mono {m:Nat} {E:List Nat} {L L':List Int} {lv:List (Nat×Nat)} {t v:Nat} (h:∀ s,s < 2 * m->Adm E L' lv s->Adm E L lv s) (r:Rch m E L' lv t v):Rch m E L lv t v:=by
 induction r with
|here=>exact .here
|step h1 h2 _ ih=>exact .step h1 (h _ h1 h2) ih
structure Tri (m:Nat) (E:List Nat) (S:List (List Nat)) (L:List Int) (lv:List (Nat×Nat)) (t:Nat) (TT:List (List Nat)):Prop where
 len:TT.length=S.length
 pre:∀ (v:Nat) l,TT[v]?=some l->∃ k,S[v]?=some k/\l <+: k
 vain:∀ (v:Nat) l k,TT[v]?=some l->S[v]?=some k->∀ (j:Nat) s,l.length<=j->k[j]?=some s->¬(Adm E L lv s/\Rch m E L lv t (hd E s))
theorem Tri.mono {m:Nat} {E:List Nat} {S:List (List Nat)} {L L':List Int} {lv:List (Nat×Nat)} {t:Nat} {TT:List (List Nat)} (h:∀ s,s < 2 * m->Adm E L' lv s->Adm E L lv s) (hS:∀ (v:Nat) k,S[v]?=some k->∀ s∈k,s < 2 * m) (r:Tri m E S L lv t TT):Tri m E S L' lv t TT :=
 ⟨r.len,r.pre,λ v l k h1 h2 j s hj hs z=>r.vain v l k h1 h2 j s hj hs ⟨h s (hS v k h2 s (vM hs)) z.1,z.2.mono h⟩⟩
theorem Tri.all {m:Nat} {E:List Nat} {S:List (List Nat)} {L:List Int} {lv:List (Nat×Nat)} {t:Nat}:Tri m E S L lv t S :=
 ⟨rfl,λ v l h=>⟨l,h,List.prefix_refl _⟩,λ v l k h1 h2 j s hj hs=>by
  rw [h1] at h2;cases h2
  rw [vC hj] at hs;cases hs⟩
theorem Tri.dead {n m:Nat} {E:List Nat} {S:List (List Nat)} {L:List Int} {lv:List (Nat×Nat)} {t:Nat} {TT:List (List Nat)} (N:Net n m E S) (r:Tri m E S L lv t TT) {v:Nat} (h:TT[v]?=some []) (hv:v≠t):¬ Rch m E L lv t v:=by
 intro z
 cases z with
|here=>exact hv rfl
|step h1 h2 h3 =>
  obtain ⟨l,hl,hm⟩:=N.s2 _ h1
  obtain ⟨j,hj,e⟩:=List.getElem_of_mem hm
  exact r.vain _ [] l h hl j _ (vY _) (by rw [<- e];exact uC hj) ⟨h2,h3⟩
theorem Tri.cut {m:Nat} {E:List Nat} {S:List (List Nat)} {L:List Int} {lv:List (Nat×Nat)} {t:Nat} {TT:List (List Nat)} (r:Tri m E S L lv t TT) {v:Nat} {l:List Nat} (h:TT[v]?=some l) {k:Nat} (hk:k<=l.length)
  (hv:∀ (j:Nat) s,k<=j->l[j]?=some s->¬(Adm E L lv s/\Rch m E L lv t (hd E s))):Tri m E S L lv t (TT.set v (l.take k)):=by
 have hlt:v < TT.length:=by
  rcases vI v TT.length with z|z
  ·exact z
  ·rw [vC z] at h;cases h
 have key:∀ (u:Nat) x,(TT.set v (l.take k))[u]?=some x->(u=v/\x=l.take k) \/ (u≠v/\TT[u]?=some x):=λ u x e=>by
  rw [vU] at e
  by_cases z:v=u
  ·subst z;simp [hlt] at e;exact .inl ⟨rfl,e.symm⟩
  ·simp [z] at e;exact .inr ⟨λ y=>z y.symm,e⟩
 refine ⟨by rw [uU];exact r.len,λ u x e=>?_,λ u x y e e2 j s hj hs=>?_⟩
 ·rcases key u x e with ⟨rfl,rfl⟩|⟨_,e'⟩
  ·obtain ⟨kk,h1,h2⟩:=r.pre u l h
   exact ⟨kk,h1,(List.take_prefix _ _).trans h2⟩
  ·exact r.pre u x e'
 ·rcases key u x e with ⟨rfl,rfl⟩|⟨_,e'⟩
  ·by_cases hjl:j < l.length
   ·obtain ⟨kk,h1,h2⟩:=r.pre u l h
    rw [h1] at e2;cases e2
    have hs':l[j]?=some s:=by
     rw [<- hs]
     exact (List.prefix_iff_getElem?.mp h2 j hjl) ▸ uC hjl
    refine hv j s ?_ hs'
    rw [vZ] at hj;lia
   ·exact r.vain u l y h e2 j s (by lia) hs
  ·exact r.vain u x y e' e2 j s hj hs
noncomputable def Way (m:Nat) (E:List Nat) (L:List Int) (lv:List (Nat×Nat)):Nat->List Nat->Nat->Prop
|v,[],t=>v=t
|v,s :: p,t=>s < 2 * m/\tl E s=v/\Adm E L lv s/\Way m E L lv (hd E s) p t
theorem Way.snoc {m:Nat} {E:List Nat} {L:List Int} {lv:List (Nat×Nat)}:∀ {v:Nat} {p:List Nat} {u s:Nat},Way m E L lv v p u->s < 2 * m->tl E s=u->Adm E L lv s->Way m E L lv v (p++[s]) (hd E s)
|v,[],u,s,h,h1,h2,h3=>⟨h1,by rw [h2];exact h.symm,h3,rfl⟩
|v,x :: p,u,s,h,h1,h2,h3=>⟨h.1,h.2.1,h.2.2.1,Way.snoc h.2.2.2 h1 h2 h3⟩
theorem Way.unsnoc {m:Nat} {E:List Nat} {L:List Int} {lv:List (Nat×Nat)}:∀ {v:Nat} {p:List Nat} {u s:Nat},Way m E L lv v (p++[s]) u->Way m E L lv v p (tl E s)/\hd E s=u/\s < 2 * m/\Adm E L lv s
|v,[],u,s,h=>⟨h.2.1.symm,h.2.2.2,h.1,h.2.2.1⟩
|v,x :: p,u,s,h=>by
  obtain ⟨a,b,c,d⟩:=Way.unsnoc h.2.2.2
  exact ⟨⟨h.1,h.2.1,h.2.2.1,a⟩,b,c,d⟩
theorem Way.level {m:Nat} {E:List Nat} {L:List Int} {lv:List (Nat×Nat)}:∀ {v:Nat} {p:List Nat} {u a:Nat},Way m E L lv v p u->lkp lv v=some a->lkp lv u=some (a+p.length)
|v,[],u,a,h,e=>by rw [show v=u from h] at e;exact e
|v,x :: p,u,a,h,e=>by
  obtain ⟨h1,h2,⟨_,b,h3,h4⟩,h5⟩:=h
  rw [h2,e] at h3;cases h3
  have:=Way.level h5 h4
  rw [this];congr 1;simp;lia
theorem Way.tails {m:Nat} {E:List Nat} {L:List Int} {lv:List (Nat×Nat)}:∀ {v:Nat} {p:List Nat} {u a:Nat},Way m E L lv v p u->lkp lv v=some a->∀ s∈p,∃ b,a<=b/\lkp lv (tl E s)=some b/\lkp lv (hd E s)=some (b+1)
|v,[],u,a,_,_,s,hs=>by simp at hs
|v,x :: p,u,a,h,e,s,hs=>by
  obtain ⟨h1,h2,⟨_,b,h3,h4⟩,h5⟩:=h
  rw [h2,e] at h3;cases h3
  rcases uD.mp hs with z|z
  ·subst z;exact ⟨a,uG _,by rw [h2];exact e,h4⟩
  ·obtain ⟨c,k1,k2,k3⟩:=Way.tails h5 h4 s z
   exact ⟨c,by lia,k2,k3⟩
theorem Way.nodup {m:Nat} {E:List Nat} {L:List Int} {lv:List (Nat×Nat)}:∀ {v:Nat} {p:List Nat} {u a:Nat},Way m E L lv v p u->lkp lv v=some a->p.Nodup/\∀ s∈p,xr s ∉ p
|v,[],u,a,_,_=>⟨.nil,λ s hs=>by simp at hs⟩
|v,x :: p,u,a,h,e=>by
  obtain ⟨h1,h2,⟨_,b,h3,h4⟩,h5⟩:=h
  rw [h2,e] at h3;cases h3
  obtain ⟨n1,n2⟩:=Way.nodup h5 h4
  have tx:lkp lv (tl E x)=some a:=by rw [h2];exact e
  refine ⟨uQ.mpr ⟨λ z=>?_,n1⟩,λ s hs hx=>?_⟩
  ·obtain ⟨c,k1,k2,_⟩:=Way.tails h5 h4 x z
   rw [tx] at k2;cases k2;lia
  ·rcases uD.mp hs with z|z
   ·subst z
    rcases uD.mp hx with y|y
    ·exact zz11 _ y
    ·obtain ⟨c,k1,k2,k3⟩:=Way.tails h5 h4 _ y
     rw [zez,h4] at k2;cases k2
     rw [zgx,tx] at k3;injection k3 with k3;lia
   ·rcases uD.mp hx with y|y
    ·obtain ⟨c,k1,k2,k3⟩:=Way.tails h5 h4 s z
     have e1:x=xr s:=y.symm
     subst e1
     rw [zgx,k2] at h4;cases h4
     rw [zez,k3] at tx;injection tx with tx;lia
    ·exact n2 s z y
noncomputable def zvd (L:List Int) (s:Nat) (a:Int):List Int:=(L.set s (lf L s - a)).set (xr s) (lf L (xr s)+a)
noncomputable def ze2 (L:List Int) (p:List Nat) (a:Int):List Int:=p.foldl (λ L s=>zvd L s a) L
theorem zz9 (L:List Int) (s:Nat) (a:Int):(zvd L s a).length=L.length:=by simp [zvd]
theorem ze8 (a:Int):∀ (p:List Nat) (L:List Int),(ze2 L p a).length=L.length
|[],L=>rfl
|s :: p,L=>by show (ze2 (zvd L s a) p a).length=_;rw [ze8 a p,zz9]
theorem zgo {L:List Int} {i j:Nat} {x:Int} (h:i < L.length):lf (L.set i x) j=if i=j then x else lf L j:=by
 unfold lf
 rw [uR,uR,vU]
 by_cases e:i=j
 ·subst e;simp [h]
 ·simp [e]
theorem zdf {L:List Int} {s j m:Nat} {a:Int} (hl:L.length=2 * m) (hs:s < 2 * m):lf (zvd L s a) j=if j=s then lf L s - a else if j=xr s then lf L (xr s)+a else lf L j:=by
 unfold zvd
 rw [zgo (by rw [uU,hl];exact zwy hs),zgo (by lia)]
 by_cases e1:j=s
 ·subst e1
  rw [if_neg (zz11 j),if_pos rfl,if_pos rfl]
 ·rw [if_neg e1]
  by_cases e2:j=xr s
  ·rw [if_pos e2.symm,if_pos e2]
  ·rw [if_neg (λ z=>e2 z.symm),if_neg e2,if_neg (λ z=>e1 z.symm)]
theorem zo7 {m:Nat} {a:Int}:∀ {p:List Nat} {L:List Int} {j:Nat},L.length=2 * m->(∀ s∈p,s < 2 * m)->p.Nodup->(∀ s∈p,xr s ∉ p)->lf (ze2 L p a) j=if j∈p then lf L j - a else if xr j∈p then lf L j+a else lf L j
|[],L,j,_,_,_,_=>by simp [ze2]
|s :: p,L,j,hl,hb,nd,nx=>by
  have hs:=hb s (by simp)
  have nd':=uQ.mp nd
  have xsp:xr s ∉ p:=λ z=>nx s (by simp) (by simp [z])
  have ih:=zo7 (a:=a) (p:=p) (L:=zvd L s a) (j:=j) (by rw [zz9];exact hl) (λ t ht=>hb t (by simp [ht])) nd'.2 (λ t ht z=>nx t (by simp [ht]) (by simp [z]))
  show lf (ze2 (zvd L s a) p a) j=_
  rw [ih,zdf hl hs]
  by_cases e1:j=s
  ·subst e1
   rw [if_neg nd'.1,if_pos rfl,if_neg xsp,if_pos (by simp)]
  ·by_cases e2:j=xr s
   ·subst e2
    have n1:xr s ∉ s :: p:=nx s (by simp)
    rw [if_neg xsp,zz31,if_neg nd'.1,if_neg e1,if_pos rfl,if_neg n1,if_pos (by simp)]
   ·have e3:xr j≠s:=λ z=>e2 (by rw [<- z,zz31])
    simp only [uD,e1,e2,e3,if_false,false_or]
noncomputable def term (E:List Nat) (L:List Int) (v k:Nat):Int:=(if hd E (2 * k)=v then lf L (2 * k+1) else 0) - (if hd E (2 * k+1)=v then lf L (2 * k+1) else 0)
noncomputable def bal (m:Nat) (E:List Nat) (L:List Int) (v:Nat):Int:=((uM m).map (term E L v)).sum
theorem zsb {f g:Nat->Int} {d:Int} {k0:Nat}:∀ (m:Nat),k0 < m->(∀ k,k≠k0->g k=f k)->g k0=f k0+d->((uM m).map g).sum=((uM m).map f).sum+d
|0,h,_,_=>by lia
|m+1,h,h1,h2=>by
  rw [y9,uJ,uJ,wU,wU]
  by_cases e:k0=m
  ·subst e
   have:(uM k0).map g=(uM k0).map f:=xB λ k hk=>h1 k (by have:=wC.mp hk;lia)
   rw [this]
   simp [h2];lia
  ·have ih:=zsb m (by lia) h1 h2
   rw [ih]
   simp [h1 m (λ z=>e z.symm)];lia
theorem zko {m:Nat} {E:List Nat} {L:List Int} {s:Nat} {a:Int} {v:Nat} (hl:L.length=2 * m) (hs:s < 2 * m):bal m E (zvd L s a) v=bal m E L v+((if hd E s=v then a else 0) - (if tl E s=v then a else 0)):=by
 unfold bal
 refine zsb (k0:=s / 2) m (by lia) (λ k hk=>?_) ?_
 ·unfold term
  have:lf (zvd L s a) (2 * k+1)=lf L (2 * k+1):=by
   rw [zdf hl hs,if_neg (by lia),if_neg (by unfold xr;split <;> lia)]
  rw [this]
 ·unfold term
  by_cases e:s % 2=0
  ·have e1:2 * (s / 2)=s:=by lia
   have e2:xr s=s+1:=by unfold xr;rw [if_pos e]
   have h1:lf (zvd L s a) (2 * (s / 2)+1)=lf L (2 * (s / 2)+1)+a:=by
    rw [zdf hl hs,e1,if_neg (by lia),if_pos e2.symm,e2]
   rw [h1,e1]
   have e3:tl E s=hd E (s+1):=by unfold tl;rw [e2]
   rw [e3]
   split <;> split <;> lia
  ·have e1:2 * (s / 2)+1=s:=by lia
   have e2:xr s=2 * (s / 2):=by unfold xr;rw [if_neg e];lia
   have h1:lf (zvd L s a) (2 * (s / 2)+1)=lf L (2 * (s / 2)+1) - a:=by
    rw [zdf hl hs,e1,if_pos rfl]
   rw [h1,e1]
   have e3:tl E s=hd E (2 * (s / 2)):=by unfold tl;rw [e2]
   rw [e3]
   split <;> split <;> lia
theorem zq5 {m:Nat} {E:List Nat} {LA:List Int} {lv:List (Nat×Nat)} {a:Int} {w:Nat}:∀ {p:List Nat} {L:List Int} {v t:Nat},L.length=2 * m->Way m E LA lv v p t->bal m E (ze2 L p a) w=bal m E L w+((if t=w then a else 0) - (if v=w then a else 0))
|[],L,v,t,_,h=>by
  rw [show v=t from h]
  show bal m E L w=_
  lia
|s :: p,L,v,t,hl,h=>by
  have ih:=zq5 (a:=a) (w:=w) (p:=p) (L:=zvd L s a) (by rw [zz9];exact hl) h.2.2.2
  show bal m E (ze2 (zvd L s a) p a) w=_
  rw [ih,zko hl h.1,h.2.1]
  lia
structure Cap (m:Nat) (most:Nat->Int) (L:List Int):Prop where
 len:L.length=2 * m
 nn:∀ s,s < 2 * m->0<=lf L s
 sm:∀ k,k < m->lf L (2 * k)+lf L (2 * k+1)=most k
theorem Cap.carry {m:Nat} {most:Nat->Int} {E:List Nat} {L:List Int} {lv:List (Nat×Nat)} {v t a0:Nat} {p:List Nat} {a:Int} (c:Cap m most L) (h:Way m E L lv v p t) (hv:lkp lv v=some a0) (ha:0<=a) (hm:∀ s∈p,a<=lf L s):Cap m most (ze2 L p a):=by
 obtain ⟨nd,nx⟩:=h.nodup hv
 have hb:∀ {v p t},Way m E L lv v p t->∀ s∈p,s < 2 * m:=λ {v p t} h=>by
  induction p generalizing v with
 |nil=>intro s hs;simp at hs
 |cons x p ih =>
   intro s hs
   rcases uD.mp hs with z|z
   ·subst z;exact h.1
   ·exact ih h.2.2.2 s z
 have hb:=hb h
 have lc:∀ j,lf (ze2 L p a) j=if j∈p then lf L j - a else if xr j∈p then lf L j+a else lf L j:=λ j=>zo7 c.len hb nd nx
 refine ⟨by rw [ze8];exact c.len,λ s hs=>?_,λ k hk=>?_⟩
 ·rw [lc]
  have:=c.nn s hs
  split
  ·rename_i z;have:=hm s z;lia
  ·split <;> lia
 ·rw [lc,lc]
  have e1:xr (2 * k)=2 * k+1:=by unfold xr;rw [if_pos (by lia)]
  have e2:xr (2 * k+1)=2 * k:=by unfold xr;rw [if_neg (by lia)];lia
  rw [e1,e2]
  have:=c.sm k hk
  by_cases h1:2 * k∈p
  ·have h2:2 * k+1 ∉ p:=λ z=>nx _ h1 (by rw [e1];exact z)
   rw [if_pos h1,if_neg h2,if_pos h1];lia
  ·by_cases h2:2 * k+1∈p
   ·rw [if_neg h1,if_pos h2,if_pos h2];lia
   ·rw [if_neg h1,if_neg h2,if_neg h2,if_neg h1];lia
theorem zfk {m:Nat} {E:List Nat} {L:List Int} {lv:List (Nat×Nat)} {v t a0:Nat} {p:List Nat} {a:Int} (hl:L.length=2 * m) (h:Way m E L lv v p t) (hv:lkp lv v=some a0) (ha:0<=a):∀ s,s < 2 * m->Adm E (ze2 L p a) lv s->Adm E L lv s:=by
 intro s hs ⟨h1,b,h2,h3⟩
 refine ⟨?_,b,h2,h3⟩
 obtain ⟨nd,nx⟩:=h.nodup hv
 have hb:∀ {v p t},Way m E L lv v p t->∀ s∈p,s < 2 * m:=λ {v p t} h=>by
  induction p generalizing v with
 |nil=>intro s hs;simp at hs
 |cons x p ih =>
   intro s hs
   rcases uD.mp hs with z|z
   ·subst z;exact h.1
   ·exact ih h.2.2.2 s z
 rw [zo7 hl (hb h) nd nx] at h1
 by_cases e1:s∈p
 ·rw [if_pos e1] at h1;lia
 ·rw [if_neg e1] at h1
  by_cases e2:xr s∈p
  ·-- the step against one of the way leads down
   obtain ⟨c,k1,k2,k3⟩:=h.tails hv (xr s) e2
   rw [zez,h3] at k2
   rw [zgx,h2] at k3
   injection k2 with k2;injection k3 with k3;lia
  ·rw [if_neg e2] at h1;exact h1
theorem zoj {m:Nat} {E:List Nat} {L:List Int} {lv:List (Nat×Nat)} {v t a0:Nat} {p:List Nat} {a:Int} (hl:L.length=2 * m) (h:Way m E L lv v p t) (hv:lkp lv v=some a0)
  (cl:∀ s,s < 2 * m->0 < lf L s->(lkp lv (tl E s)).isSome=true->(lkp lv (hd E s)).isSome=true) (ha:0<=a):∀ s,s < 2 * m->0 < lf (ze2 L p a) s->(lkp lv (tl E s)).isSome=true->(lkp lv (hd E s)).isSome=true:=by
 intro s hs h1 h2
 obtain ⟨nd,nx⟩:=h.nodup hv
 have hb:∀ {v p t},Way m E L lv v p t->∀ s∈p,s < 2 * m:=λ {v p t} h=>by
  induction p generalizing v with
 |nil=>intro s hs;simp at hs
 |cons x p ih =>
   intro s hs
   rcases uD.mp hs with z|z
   ·subst z;exact h.1
   ·exact ih h.2.2.2 s z
 rw [zo7 hl (hb h) nd nx] at h1
 by_cases e1:s∈p
 ·rw [if_pos e1] at h1;exact cl s hs (by lia) h2
 ·rw [if_neg e1] at h1
  by_cases e2:xr s∈p
  ·obtain ⟨c,k1,k2,k3⟩:=h.tails hv (xr s) e2
   rw [zgx] at k3
   rw [zez] at k2
   rw [k2];rfl
  ·rw [if_neg e2] at h1;exact cl s hs h1 h2
noncomputable def tot (m:Nat) (most:Nat->Int):Int:=((uM m).map most).sum
theorem zxw {m:Nat} {most:Nat->Int} {E:List Nat} {L:List Int} (c:Cap m most L) (v:Nat):bal m E L v<=tot m most:=by
 unfold bal tot
 have:∀ j,j<=m->((uM j).map (term E L v)).sum<=((uM j).map most).sum:=λ j=>by
  induction j with
 |zero=>intro _;simp
 |succ j ih =>
   intro hj
   have:=ih (by lia)
   rw [y9,uJ,uJ,wU,wU]
   have h1:=c.nn (2 * j) (by lia)
   have h2:=c.nn (2 * j+1) (by lia)
   have h3:=c.sm j (by lia)
   have h4:term E L v j<=most j:=by unfold term;split <;> split <;> lia
   simp;lia
 exact this m (uG _)
theorem zm8:((uE "ends") == (uE "left"))=false:=by decide +kernel
theorem zk6:((uE "ends") == (uE "steps"))=false:=by decide +kernel
theorem zv7:((uE "left") == (uE "ends"))=false:=by decide +kernel
theorem zp6:((uE "left") == (uE "steps"))=false:=by decide +kernel
theorem zj6:((uE "steps") == (uE "ends"))=false:=by decide +kernel
theorem zi6:((uE "steps") == (uE "left"))=false:=by decide +kernel
theorem zb9:((uE "amounts") == (uE "ends"))=false:=by decide +kernel
theorem zu8:((uE "amounts") == (uE "left"))=false:=by decide +kernel
theorem zp7:((uE "amounts") == (uE "steps"))=false:=by decide +kernel
theorem zga:((uE "levels") == (uE "ends"))=false:=by decide +kernel
theorem zha:((uE "levels") == (uE "left"))=false:=by decide +kernel
theorem zx8:((uE "levels") == (uE "steps"))=false:=by decide +kernel
theorem zb6:((uE "row_behind") == (uE "ends"))=false:=by decide +kernel
theorem zu5:((uE "row_behind") == (uE "left"))=false:=by decide +kernel
theorem zh5:((uE "row_behind") == (uE "steps"))=false:=by decide +kernel
theorem zt8:((uE "push_up") == (uE "ends"))=false:=by decide +kernel
theorem zs8:((uE "push_up") == (uE "left"))=false:=by decide +kernel
theorem zc8:((uE "push_up") == (uE "steps"))=false:=by decide +kernel
theorem zsa:((uE "way_up") == (uE "ends"))=false:=by decide +kernel
theorem zva:((uE "way_up") == (uE "left"))=false:=by decide +kernel
theorem zz8:((uE "way_up") == (uE "steps"))=false:=by decide +kernel
theorem zp8:((uE "step_up") == (uE "ends"))=false:=by decide +kernel
theorem zv8:((uE "step_up") == (uE "left"))=false:=by decide +kernel
theorem zl7:((uE "step_up") == (uE "steps"))=false:=by decide +kernel
theorem zcb:((uE "carry") == (uE "ends"))=false:=by decide +kernel
theorem zpc:((uE "carry") == (uE "left"))=false:=by decide +kernel
theorem zra:((uE "carry") == (uE "steps"))=false:=by decide +kernel
theorem zae:((uE "ends")=(uE "left"))=False:=eq_false (by intro h;have:=zm8;rw [h] at this;simp at this)
theorem zic:((uE "ends")=(uE "steps"))=False:=eq_false (by intro h;have:=zk6;rw [h] at this;simp at this)
theorem zdd:((uE "left")=(uE "ends"))=False:=eq_false (by intro h;have:=zv7;rw [h] at this;simp at this)
theorem zdc:((uE "left")=(uE "steps"))=False:=eq_false (by intro h;have:=zp6;rw [h] at this;simp at this)
theorem zec:((uE "steps")=(uE "ends"))=False:=eq_false (by intro h;have:=zj6;rw [h] at this;simp at this)
theorem zob:((uE "steps")=(uE "left"))=False:=eq_false (by intro h;have:=zi6;rw [h] at this;simp at this)
noncomputable def nI (x:Nat):D:=.int (x:Int)
noncomputable abbrev dSt (S:List (List Nat)):D:=.list (S.map λ l=>.list (l.map nI))
noncomputable abbrev oS (C:Addr) (E:List Nat) (L:List Int) (S:List (List Nat)):T:=.ob C [("ends",.fz (.list (E.map nI))),("left",.li (L.map .int)),("steps",.fz (dSt S))]
noncomputable def kN (lv:List (Nat×Nat)):List (Key×D):=lv.map λ p=>(.inl (p.1:Int),nI p.2)
theorem zqx (p v:Nat):((uP (p:Int):Key)=uP (v:Int))=(p=v):=by
 apply propext
 constructor
 ·intro z;injection z with z;exact_mod_cast z
 ·intro z;rw [z]
theorem zge (lv:List (Nat×Nat)) (v:Nat):getA (kN lv) (.inl (v:Int))=(lkp lv v).map nI:=by
 unfold getA kN lkp
 induction lv with
|nil=>rfl
|cons p r ih =>
  by_cases e:p.1=v
  ·simp [e]
  ·have e2:¬ (uP (p.1:Int):Key)=uP (v:Int):=by rw [zqx];exact e
   simp only [uK,wN]
   simp only [e,e2,decide_false]
   exact ih
theorem zzr {lv:List (Nat×Nat)} {v a:Nat} (h:lkp lv v=none):putD (kN lv) (.inl (v:Int)) (nI a)=kN (lv++[(v,a)]):=by
 unfold putD
 have:((kN lv).any λ kv=>decide (kv.1=(uP (v:Int):Key)))=false:=by
  rw [List.any_eq_false]
  intro kv hk
  unfold kN at hk
  obtain ⟨p,hp,rfl⟩:=uL.mp hk
  have h1:=zxc h
  have:p.1≠v:=λ e=>h1 (by rw [<- e];exact yG hp)
  simp only [decide_eq_true_eq]
  rw [zqx];exact this
 rw [this]
 simp [kN]
theorem zg51 {l:List Nat} {i s:Nat} (h:l[i]?=some s):atI (l.map nI) (i:Int)=some (nI s):=znf (by lia) (by rw [uY,uI,h];rfl)
theorem zhz {E:List Nat} {s m:Nat} (hl:E.length=2 * m) (hs:s < 2 * m):atI (E.map nI) (s:Int)=some (nI (hd E s)):=by
 refine zg51 ?_
 unfold hd
 rw [uR,uC (by lia)];rfl
theorem zt41 {L:List Int} {s m:Nat} (hl:L.length=2 * m) (hs:s < 2 * m):atI (L.map uB) (s:Int)=some (.int (lf L s)):=by
 refine znf (by lia) ?_
 rw [uY,uI]
 unfold lf
 rw [uR,uC (by lia)];rfl
theorem zg81 {S:List (List Nat)} {v:Nat} {l:List Nat} (h:S[v]?=some l):atI (S.map λ l=>(vF (l.map nI))) (v:Int)=some (.list (l.map nI)):=znf (by lia) (by rw [uY,uI,h];rfl)
theorem zrt (s:Nat):(s:Int)+1 - 2 * ((s:Int) % 2)=((xr s:Nat):Int):=by unfold xr;split <;> lia
structure Bfs (n m:Nat) (E:List Nat) (L:List Int) (src:Nat) (lv:List (Nat×Nat)) (row:List Nat) (lev:Nat):Prop where
 nd:(lv.map (·.1)).Nodup
 bd:∀ p∈lv,p.1 < n
 l0:lkp lv src=some 0
 z0:∀ v,lkp lv v=some 0->v=src
 ro:∀ v∈row,lkp lv v=some lev
 le:∀ v b,lkp lv v=some b->b<=lev/\(b=lev->v∈row)
 cl:∀ v b,lkp lv v=some b->b < lev->∀ s,s < 2 * m->tl E s=v->0 < lf L s->(lkp lv (hd E s)).isSome=true
 pr:∀ v a,lkp lv v=some (a+1)->∃ s,s < 2 * m/\0 < lf L s/\hd E s=v/\lkp lv (tl E s)=some a
theorem Bfs.start {n m:Nat} {E:List Nat} {L:List Int} {src:Nat} (h:src < n):Bfs n m E L src [(src,0)] [src] 0:=by
 have e:∀ v,lkp [(src,0)] v=if src=v then some 0 else none:=λ v=>by
  by_cases z:src=v
  ·simp [lkp,z]
  ·simp [lkp,z]
 refine ⟨by simp,λ p hp=>?_,by rw [e];simp,λ v hv=>?_,λ v hv=>?_,λ v b hv=>?_,λ v b _ hb=>by lia,λ v a hv=>?_⟩
 ·simp at hp;subst hp;exact h
 ·rw [e] at hv
  split at hv
  ·rename_i z;exact z.symm
  ·cases hv
 ·simp at hv;subst hv;rw [e];simp
 ·rw [e] at hv
  split at hv
  ·rename_i z;cases hv;exact ⟨uG _,λ _=>by simp [z]⟩
  ·cases hv
 ·rw [e] at hv
  split at hv <;> cases hv
theorem Bfs.lev {n m:Nat} {E:List Nat} {L:List Int} {src:Nat} {lv:List (Nat×Nat)} {lev:Nat} (h:Bfs n m E L src lv [] lev):Lev n m E L src lv:=by
 refine ⟨h.nd,h.bd,h.l0,h.z0,λ s hs hp ht=>?_,h.pr⟩
 obtain ⟨b,hb⟩:=v9.mp ht
 have:=h.le _ b hb
 have hlt:b < lev:=by
  rcases vI b lev with z|z
  ·exact z
  ·have:=this.2 (by lia);simp at this
 exact h.cl _ b hb hlt s hs rfl hp
structure Mid (n m:Nat) (E:List Nat) (L:List Int) (lv:List (Nat×Nat)) (lev:Nat) (lv1:List (Nat×Nat)) (beh:List Nat):Prop where
 nd:(lv1.map (·.1)).Nodup
 bd:∀ p∈lv1,p.1 < n
 old:∀ v b,lkp lv v=some b->lkp lv1 v=some b
 new:∀ v b,lkp lv1 v=some b->lkp lv v=some b \/ (b=lev+1/\v∈beh)
 ro:∀ v∈beh,lkp lv1 v=some (lev+1)
 pr:∀ v a,lkp lv1 v=some (a+1)->∃ s,s < 2 * m/\0 < lf L s/\hd E s=v/\lkp lv1 (tl E s)=some a
 len:lv1.length=lv.length+beh.length
theorem Mid.start {n m:Nat} {E:List Nat} {L:List Int} {src:Nat} {lv:List (Nat×Nat)} {row:List Nat} {lev:Nat} (h:Bfs n m E L src lv row lev):Mid n m E L lv lev lv [] :=
 ⟨h.nd,h.bd,λ _ _ z=>z,λ _ _ z=>.inl z,λ v hv=>by simp at hv,h.pr,by simp⟩
theorem Mid.put {n m:Nat} {E:List Nat} {L:List Int} {lv lv1:List (Nat×Nat)} {lev:Nat} {beh:List Nat} {s:Nat} (h:Mid n m E L lv lev lv1 beh) (hs:s < 2 * m) (hp:0 < lf L s) (ht:lkp lv1 (tl E s)=some lev) (hn:hd E s < n) (hg:lkp lv1 (hd E s)=none):Mid n m E L lv lev (lv1++[(hd E s,lev+1)]) (beh++[hd E s]):=by
 have keep:∀ v b,lkp lv1 v=some b->lkp (lv1++[(hd E s,lev+1)]) v=some b:=λ v b e=>by rw [zr9,e]
 have me:lkp (lv1++[(hd E s,lev+1)]) (hd E s)=some (lev+1):=by rw [zr9,hg];simp
 have back:∀ v b,lkp (lv1++[(hd E s,lev+1)]) v=some b->lkp lv1 v=some b \/ (v=hd E s/\b=lev+1):=λ v b e=>by
  rw [zr9] at e
  cases q:lkp lv1 v with
 |some c=>rw [q] at e;exact .inl e
 |none =>
   rw [q] at e
   simp only at e
   split at e
   ·rename_i z;cases e;exact .inr ⟨z.symm,rfl⟩
   ·cases e
 refine ⟨?_,λ p hp'=>?_,λ v b e=>keep v b (h.old v b e),λ v b e=>?_,λ v hv=>?_,λ v a e=>?_,by simp [h.len];lia⟩
 ·rw [uJ]
  refine uW.mpr ⟨h.nd,by simp,λ x hx y hy z=>?_⟩
  simp at hy;subst hy;subst z
  exact zxc hg hx
 ·rcases uF.mp hp' with z|z
  ·exact h.bd p z
  ·simp at z;subst z;exact hn
 ·rcases back v b e with z|⟨z1,z2⟩
  ·rcases h.new v b z with y|⟨y1,y2⟩
   ·exact .inl y
   ·exact .inr ⟨y1,by simp [y2]⟩
  ·exact .inr ⟨z2,by simp [z1]⟩
 ·rcases uF.mp hv with z|z
  ·exact keep v _ (h.ro v z)
  ·simp at z;rw [z];exact me
 ·rcases back v (a+1) e with z|⟨z1,z2⟩
  ·obtain ⟨s',k1,k2,k3,k4⟩:=h.pr v a z
   exact ⟨s',k1,k2,k3,keep _ _ k4⟩
  ·have:a=lev:=by lia
   subst this
   exact ⟨s,hs,hp,z1.symm,keep _ _ ht⟩
theorem Mid.bfs {n m:Nat} {E:List Nat} {S:List (List Nat)} {L:List Int} {src:Nat} {lv lv1:List (Nat×Nat)} {row:List Nat} {lev:Nat} {beh:List Nat} (N:Net n m E S) (h0:Bfs n m E L src lv row lev) (h:Mid n m E L lv lev lv1 beh)
  (cl:∀ v∈row,∀ l,S[v]?=some l->∀ s∈l,0 < lf L s->(lkp lv1 (hd E s)).isSome=true):Bfs n m E L src lv1 beh (lev+1):=by
 refine ⟨h.nd,h.bd,h.old _ _ h0.l0,λ v hv=>?_,h.ro,λ v b hv=>?_,λ v b hv hb s hs ht hp=>?_,h.pr⟩
 ·rcases h.new v 0 hv with z|⟨z,_⟩
  ·exact h0.z0 v z
  ·lia
 ·rcases h.new v b hv with z|⟨z1,z2⟩
  ·have:=h0.le v b z;exact ⟨by lia,λ e=>by lia⟩
  ·exact ⟨by lia,λ _=>z2⟩
 ·rcases h.new v b hv with z|⟨z1,_⟩
  ·have le:=h0.le v b z
   by_cases e:b=lev
   ·have hr:=le.2 e
    obtain ⟨l,hl,hm⟩:=N.s2 s hs
    rw [ht] at hl
    exact cl v hr l hl s hm hp
   ·have:=h0.cl v b z (by lia) s hs ht hp
    obtain ⟨c,hc⟩:=v9.mp this
    rw [h.old _ c hc];rfl
  ·lia
structure Go (m:Nat) (E:List Nat) (S:List (List Nat)) (L:List Int) (lv:List (Nat×Nat)) (t src:Nat) (p:List Nat) (here:Nat) (TT:List (List Nat)):Prop where
 tri:Tri m E S L lv t TT
 way:Way m E L lv src p here
 l0:lkp lv src=some 0
 last:∀ s∈p,∃ l,TT[tl E s]?=some (l++[s])
noncomputable def szT (TT:List (List Nat)):Nat:=(TT.map vA).sum
theorem ze7:∀ {TT:List (List Nat)} {v:Nat} {l:List Nat} (k:List Nat),TT[v]?=some l->szT (TT.set v k)+l.length=szT TT+k.length
|[],v,l,k,h=>by simp at h
|x :: r,0,l,k,h=>by simp at h;subst h;simp [szT];lia
|x :: r,v+1,l,k,h=>by
  have:=ze7 (TT:=r) (v:=v) k (by simpa using h)
  simp [szT] at this ⊢;lia
theorem Go.lev {m:Nat} {E:List Nat} {S:List (List Nat)} {L:List Int} {lv:List (Nat×Nat)} {t src:Nat} {p:List Nat} {here:Nat} {TT:List (List Nat)} (g:Go m E S L lv t src p here TT):lkp lv here=some p.length:=by
 have:=g.way.level g.l0
 rwa [Nat.zero_add] at this
theorem Go.short {m:Nat} {E:List Nat} {S:List (List Nat)} {L:List Int} {lv:List (Nat×Nat)} {t src:Nat} {p:List Nat} {here:Nat} {TT:List (List Nat)} (g:Go m E S L lv t src p here TT) (hb:∀ s∈p,s < 2 * m):p.length<=2 * m :=
 zs0 _ p (g.way.nodup g.l0).1 hb
theorem Way.lt {m:Nat} {E:List Nat} {L:List Int} {lv:List (Nat×Nat)}:∀ {v:Nat} {p:List Nat} {t:Nat},Way m E L lv v p t->∀ s∈p,s < 2 * m
|_,[],_,_,s,hs=>by simp at hs
|v,x :: p,t,h,s,hs=>by
  rcases uD.mp hs with z|z
  ·rw [z];exact h.1
  ·exact h.2.2.2.lt s z
theorem Go.tails {m:Nat} {E:List Nat} {S:List (List Nat)} {L:List Int} {lv:List (Nat×Nat)} {t src:Nat} {p:List Nat} {here:Nat} {TT:List (List Nat)} (g:Go m E S L lv t src p here TT):∀ s∈p,tl E s≠here:=by
 have key:∀ {v:Nat} {p:List Nat} {u a:Nat},Way m E L lv v p u->lkp lv v=some a->∀ s∈p,∃ b,b < a+p.length/\lkp lv (tl E s)=some b:=by
  intro v p
  induction p generalizing v with
 |nil=>intro u a _ _ s hs;simp at hs
 |cons x r ih =>
   intro u a h e s hs
   obtain ⟨h1,h2,⟨h3,b,h4,h5⟩,h6⟩:=h
   have:b=a:=by rw [h2,e] at h4;injection h4 with h4;exact h4.symm
   subst this
   rcases uD.mp hs with z|z
   ·subst z;exact ⟨b,by simp,h4⟩
   ·obtain ⟨c,c1,c2⟩:=ih h6 h5 s z
    exact ⟨c,by simp;lia,c2⟩
 intro s hs e
 obtain ⟨b,h1,h2⟩:=key g.way g.l0 s hs
 rw [e,g.lev] at h2
 injection h2 with h2
 lia
theorem Go.vain {m:Nat} {E:List Nat} {S:List (List Nat)} {L:List Int} {lv:List (Nat×Nat)} {t src:Nat} {p:List Nat} {here n:Nat} {TT:List (List Nat)} (N:Net n m E S) (g:Go m E S L lv t src p here TT) {l:List Nat} {j:Nat} (h:TT[here]?=some l)
  (bad:∀ (i:Nat) s,j<=i->l[i]?=some s->¬(0 < lf L s/\lkp lv (hd E s)=some (p.length+1))):∀ (i:Nat) s,j<=i->l[i]?=some s->¬(Adm E L lv s/\Rch m E L lv t (hd E s)):=λ i s hi e z=>by
 obtain ⟨k,h1,h2⟩:=g.tri.pre here l h
 obtain ⟨_,hs⟩:=N.s1 here k h1 s (h2.subset (vM e))
 obtain ⟨z1,a,z2,z3⟩:=z.1
 rw [hs,g.lev] at z2
 injection z2 with z2
 subst z2
 exact bad i s hi e ⟨z1,z3⟩
theorem Go.cut {m:Nat} {E:List Nat} {S:List (List Nat)} {L:List Int} {lv:List (Nat×Nat)} {t src:Nat} {p:List Nat} {here n:Nat} {TT:List (List Nat)} (N:Net n m E S) (g:Go m E S L lv t src p here TT) {l:List Nat} {j:Nat} (h:TT[here]?=some l) (hj:j<=l.length)
  (bad:∀ (i:Nat) s,j<=i->l[i]?=some s->¬(0 < lf L s/\lkp lv (hd E s)=some (p.length+1))):Go m E S L lv t src p here (TT.set here (l.take j)) :=
 ⟨g.tri.cut h hj (g.vain N h bad),g.way,g.l0,λ s hs=>by
  obtain ⟨k,hk⟩:=g.last s hs
  refine ⟨k,?_⟩
  rw [vK (λ z=>g.tails s hs z.symm)]
  exact hk⟩
theorem zmc {TT:List (List Nat)} {v:Nat} {l:List Nat} (h:TT[v]?=some l):v < TT.length:=by
 rcases vI v TT.length with z|z
 ·exact z
 ·rw [vC z] at h;cases h
theorem Go.fwd {m:Nat} {E:List Nat} {S:List (List Nat)} {L:List Int} {lv:List (Nat×Nat)} {t src:Nat} {p:List Nat} {here n:Nat} {TT:List (List Nat)} (N:Net n m E S) (g:Go m E S L lv t src p here TT) {l:List Nat} {j s:Nat} (h:TT[here]?=some l) (h0:0 < j) (hj:j<=l.length)
  (bad:∀ (i:Nat) s,j<=i->l[i]?=some s->¬(0 < lf L s/\lkp lv (hd E s)=some (p.length+1))) (hs:l[j - 1]?=some s) (hp:0 < lf L s) (hl:lkp lv (hd E s)=some (p.length+1)) :
  Go m E S L lv t src (p++[s]) (hd E s) (TT.set here (l.take j))/\szT (TT.set here (l.take j))<=szT TT/\s < 2 * m:=by
 have g1:=g.cut N h hj bad
 obtain ⟨k,k1,k2⟩:=g.tri.pre here l h
 obtain ⟨hsm,hst⟩:=N.s1 here k k1 s (k2.subset (vM hs))
 refine ⟨⟨g1.tri,g.way.snoc hsm hst ⟨hp,_,by rw [hst];exact g.lev,hl⟩,g.l0,λ x hx=>?_⟩,?_,hsm⟩
 ·rcases uF.mp hx with z|z
  ·exact g1.last x z
  ·simp at z;subst z
   refine ⟨l.take (j - 1),?_⟩
   rw [hst,vO (zmc h)]
   congr 1
   have:j=(j - 1)+1:=by lia
   rw [this,wO,xT,hs];rfl
 ·have:=ze7 (l.take j) h
  rw [vZ] at this
  lia
theorem Go.back {m:Nat} {E:List Nat} {S:List (List Nat)} {L:List Int} {lv:List (Nat×Nat)} {t src:Nat} {p:List Nat} {s here n:Nat} {TT:List (List Nat)} (N:Net n m E S) (g:Go m E S L lv t src (p++[s]) here TT) {l:List Nat} (h:TT[here]?=some l) (ht:here≠t)
  (bad:∀ (i:Nat) s',0<=i->l[i]?=some s'->¬(0 < lf L s'/\lkp lv (hd E s')=some ((p++[s]).length+1))) :
  s < 2 * m/\∃ k,(TT.set here [])[tl E s]?=some (k++[s])/\Go m E S L lv t src p (tl E s) ((TT.set here []).set (tl E s) k)/\szT ((TT.set here []).set (tl E s) k)+1<=szT TT:=by
 have g1:=g.cut (j:=0) N h (vY _) bad
 rw [List.take_zero] at g1
 obtain ⟨k,hk⟩:=g1.last s (by simp)
 obtain ⟨w1,w2,w3,w4⟩:=g.way.unsnoc
 have dead:¬ Rch m E L lv t here:=g1.tri.dead N (v:=here) (by rw [vO (zmc h)]) ht
 have tri2:=g1.tri.cut hk (k:=k.length) (by simp) (λ j x hj e z=>by
  have hjl:j < (k++[s]).length:=by
   rcases vI j (k++[s]).length with y|y
   ·exact y
   ·rw [vC y] at e;cases e
  have:j=k.length:=by rw [vB] at hjl;simp at hjl;lia
  subst this
  rw [List.getElem?_concat_length] at e
  injection e with e
  subst e
  rw [w2] at z
  exact dead z.2)
 rw [List.take_left] at tri2
 have sz1:=ze7 (TT:=TT) [] h
 have sz2:=ze7 k hk
 have g2:Go m E S L lv t src p (tl E s) (TT.set here []):=⟨g1.tri,w1,g.l0,λ x hx=>g1.last x (by simp [hx])⟩
 refine ⟨w3,k,hk,⟨tri2,w1,g.l0,λ x hx=>?_⟩,?_⟩
 ·obtain ⟨q,hq⟩:=g2.last x hx
  refine ⟨q,?_⟩
  rw [vK (λ z=>g2.tails x hx z.symm)]
  exact hq
 ·rw [vB] at sz2
  simp at sz1 sz2
  lia
theorem Go.dead {m:Nat} {E:List Nat} {S:List (List Nat)} {L:List Int} {lv:List (Nat×Nat)} {t src:Nat} {here n:Nat} {TT:List (List Nat)} (N:Net n m E S) (g:Go m E S L lv t src [] here TT) {l:List Nat} (h:TT[here]?=some l) (ht:here≠t)
  (bad:∀ (i:Nat) s',0<=i->l[i]?=some s'->¬(0 < lf L s'/\lkp lv (hd E s')=some (([]:List Nat).length+1))):¬ Rch m E L lv t src:=by
 have g1:=g.cut (j:=0) N h (vY _) bad
 have e:src=here:=g.way
 rw [e]
 exact g1.tri.dead N (v:=here) (by rw [vO (zmc h)];rfl) ht
theorem zle {n j:Nat} (h:j < n):ixN n ((j:Nat):Int)=some j:=by
 unfold ixN
 rw [if_pos (by lia),if_pos (by lia),uY]
structure Up (m:Nat) (most:Nat->Int) (E:List Nat) (L L':List Int) (src snk:Nat):Prop where
 cap:Cap m most L'
 eqb:∀ v,v≠src->v≠snk->bal m E L' v=bal m E L v
 out:∀ k,k < m->hd E (2 * k+1)=src->lf L (2 * k+1)<=lf L' (2 * k+1)
 inn:∀ k,k < m->hd E (2 * k)=snk->lf L (2 * k+1)<=lf L' (2 * k+1)
 bs:bal m E L' src<=bal m E L src
 bt:bal m E L snk<=bal m E L' snk
theorem Up.refl {m:Nat} {most:Nat->Int} {E:List Nat} {L:List Int} {src snk:Nat} (c:Cap m most L):Up m most E L L src snk :=
 ⟨c,λ _ _ _=>rfl,λ _ _ _=>vJ _,λ _ _ _=>vJ _,vJ _,vJ _⟩
theorem Up.trans {m:Nat} {most:Nat->Int} {E:List Nat} {L L' _2:List Int} {src snk:Nat} (h:Up m most E L L' src snk) (k:Up m most E L' _2 src snk):Up m most E L _2 src snk :=
 ⟨k.cap,λ v a b=>(k.eqb v a b).trans (h.eqb v a b),λ i a b=>wJ (h.out i a b) (k.out i a b),λ i a b=>wJ (h.inn i a b) (k.inn i a b),wJ k.bs h.bs,wJ h.bt k.bt⟩
theorem Up.carry {m:Nat} {most:Nat->Int} {E:List Nat} {L:List Int} {lv:List (Nat×Nat)} {src snk:Nat} {p:List Nat} {a:Int} (c:Cap m most L) (h:Way m E L lv src p snk) (l0:lkp lv src=some 0) (ha:0<=a) (hm:∀ s∈p,a<=lf L s):Up m most E L (ze2 L p a) src snk:=by
 obtain ⟨nd,nx⟩:=h.nodup l0
 have lev:=h.level l0
 have ft:∀ {v:Nat} {p:List Nat} {u a:Nat},Way m E L lv v p u->lkp lv v=some a->∀ s∈p,∃ b,b < a+p.length/\lkp lv (tl E s)=some b:=by
  intro v p
  induction p generalizing v with
 |nil=>intro u a _ _ s hs;simp at hs
 |cons x r ih =>
   intro u a h e s hs
   obtain ⟨h1,h2,⟨h3,b,h4,h5⟩,h6⟩:=h
   have:b=a:=by rw [h2,e] at h4;injection h4 with h4;exact h4.symm
   subst this
   rcases uD.mp hs with z|z
   ·subst z;exact ⟨b,by simp,h4⟩
   ·obtain ⟨c,c1,c2⟩:=ih h6 h5 s z
    exact ⟨c,by simp;lia,c2⟩
 have keep:∀ j,j ∉ p->lf L j<=lf (ze2 L p a) j:=λ j hj=>by
  rw [zo7 c.len h.lt nd nx,if_neg hj]
  split <;> lia
 refine ⟨c.carry h l0 ha hm,λ v v1 v2=>?_,λ k hk e=>keep _ λ z=>?_,λ k hk e=>keep _ λ z=>?_,by rw [zq5 c.len h,if_pos rfl];split <;> lia,by rw [zq5 c.len h,if_pos rfl];split <;> lia⟩
 ·rw [zq5 c.len h,if_neg (λ z=>v2 z.symm),if_neg (λ z=>v1 z.symm)];lia
 ·obtain ⟨b,_,_,z3⟩:=h.tails l0 _ z
  rw [e,l0] at z3
  injection z3 with z3
  lia
 ·obtain ⟨b,z1,z2⟩:=ft h l0 _ z
  have:tl E (2 * k+1)=snk:=by
   unfold tl xr
   rw [if_neg (by lia),xT];exact e
  rw [this,lev] at z2
  injection z2 with z2
  lia
noncomputable abbrev Ar:=Nat×Nat×Int
noncomputable def dAr (a:Ar):D:=.tuple [nI a.1,nI a.2.1,.int a.2.2]
noncomputable def zv4 (A:List Ar):List Nat:=A.flatMap λ a=>[a.2.1,a.1]
noncomputable def zr6 (A:List Ar) (f:List Int):List Int:=(A.zip f).flatMap λ x=>[x.1.2.2 - x.2,x.2]
theorem zki (A:List Ar) (a:Ar):zv4 (A++[a])=zv4 A++[a.2.1,a.1]:=by simp [zv4]
theorem zky {E X:List Nat} {s:Nat} (h:s < E.length):hd (E++X) s=hd E s:=by
 unfold hd
 rw [uR,uR,u6 h]
theorem za81 {E:List Nat} {m x y:Nat} (h:E.length=2 * m):hd (E++[x,y]) (2 * m)=x/\hd (E++[x,y]) (2 * m+1)=y:=by
 unfold hd
 constructor
 ·rw [uR,u7 (by lia),h];simp
 ·rw [uR,u7 (by lia),h];simp
theorem Net.nil (n:Nat):Net n 0 [] (uN n []):=⟨rfl,λ s hs=>by lia,by simp,(λ v l h s hs=>by
 rw [vT] at h
 split at h
 ·cases h;simp at hs
 ·cases h),λ s hs=>by lia⟩
theorem Net.push {n m:Nat} {E:List Nat} {S:List (List Nat)} {u v:Nat} {l1 l2:List Nat} (N:Net n m E S) (hu:u < n) (hv:v < n) (h1:S[u]?=some l1) (h2:(S.set u (l1++[2 * m]))[v]?=some l2) :
  Net n (m+1) (E++[v,u]) ((S.set u (l1++[2 * m])).set v (l2++[2 * m+1])):=by
 obtain ⟨e1,e2⟩:=za81 (x:=v) (y:=u) N.lE
 have x1:xr (2 * m)=2 * m+1:=by unfold xr;rw [if_pos (by lia)]
 have x2:xr (2 * m+1)=2 * m:=by unfold xr;rw [if_neg (by lia)];lia
 have old:∀ s,s < 2 * m->tl (E++[v,u]) s=tl E s:=λ s hs=>zky (by rw [N.lE];exact zwy hs)
 have t1:tl (E++[v,u]) (2 * m)=u:=by unfold tl;rw [x1];exact e2
 have t2:tl (E++[v,u]) (2 * m+1)=v:=by unfold tl;rw [x2];exact e1
 have A1:∀ (w:Nat) l,(S.set u (l1++[2 * m]))[w]?=some l->∀ s∈l,(s < 2 * m/\tl E s=w) \/ (s=2 * m/\w=u):=λ w l h s hs=>by
  by_cases z:u=w
  ·subst z
   rw [vO (by rw [N.lS];exact hu)] at h
   cases h
   rcases uF.mp hs with y|y
   ·exact .inl (N.s1 u l1 h1 s y)
   ·simp at y;exact .inr ⟨y,rfl⟩
  ·rw [vK z] at h
   exact .inl (N.s1 w l h s hs)
 have B1:∀ s,s < 2 * m->∃ l,(S.set u (l1++[2 * m]))[tl E s]?=some l/\s∈l:=λ s hs=>by
  obtain ⟨l,k1,k2⟩:=N.s2 s hs
  by_cases z:u=tl E s
  ·rw [<- z] at k1 ⊢
   rw [h1] at k1;cases k1
   exact ⟨_,vO (by rw [N.lS];exact hu),by simp [k2]⟩
  ·exact ⟨l,by rw [vK z];exact k1,k2⟩
 have B2:∃ l,(S.set u (l1++[2 * m]))[u]?=some l/\2 * m∈l:=⟨_,vO (by rw [N.lS];exact hu),by simp⟩
 have B3:∀ (w s:Nat),(∃ l,(S.set u (l1++[2 * m]))[w]?=some l/\s∈l)->∃ l,((S.set u (l1++[2 * m])).set v (l2++[2 * m+1]))[w]?=some l/\s∈l:=λ w s ⟨l,k1,k2⟩=>by
  by_cases z:v=w
  ·subst z
   rw [h2] at k1;cases k1
   exact ⟨_,vO (by rw [uU,N.lS];exact hv),by simp [k2]⟩
  ·exact ⟨l,by rw [vK z];exact k1,k2⟩
 refine ⟨by rw [vB,N.lE];simp;lia,λ s hs=>?_,by rw [uU,uU];exact N.lS,λ w l h s hs=>?_,λ s hs=>?_⟩
 ·by_cases z:s < 2 * m
  ·rw [zky (by rw [N.lE];exact z)];exact N.bE s z
  ·have:s=2 * m \/ s=2 * m+1:=by lia
   rcases this with y|y
   ·rw [y,e1];exact hv
   ·rw [y,e2];exact hu
 ·have key:(s < 2 * m/\tl E s=w) \/ (s=2 * m/\w=u) \/ (s=2 * m+1/\w=v):=by
   by_cases z:v=w
   ·subst z
    rw [vO (by rw [uU,N.lS];exact hv)] at h
    cases h
    rcases uF.mp hs with y|y
    ·rcases A1 v l2 h2 s y with k|k
     ·exact .inl k
     ·exact .inr (.inl k)
    ·simp at y;exact .inr (.inr ⟨y,rfl⟩)
   ·rw [vK z] at h
    rcases A1 w l h s hs with k|k
    ·exact .inl k
    ·exact .inr (.inl k)
  rcases key with ⟨k1,k2⟩|⟨rfl,rfl⟩|⟨rfl,rfl⟩
  ·exact ⟨by lia,by rw [old s k1];exact k2⟩
  ·exact ⟨by lia,t1⟩
  ·exact ⟨by lia,t2⟩
 ·by_cases z:s < 2 * m
  ·rw [old s z];exact B3 _ _ (B1 s z)
  ·have:s=2 * m \/ s=2 * m+1:=by lia
   rcases this with y|y
   ·subst y;rw [t1];exact B3 _ _ B2
   ·subst y;rw [t2]
    exact ⟨_,vO (by rw [uU,N.lS];exact hv),by simp⟩
theorem zza:∀ {A:List Ar} {f:List Int},f.length=A.length->(zr6 A f).length=2 * A.length
|[],f,h=>by simp [zr6]
|a :: r,[],h=>by simp at h
|a :: r,x :: f,h=>by have:=zza (A:=r) (f:=f) (by simpa using h);simp [zr6] at this ⊢;lia
theorem zt7:∀ {A:List Ar} {f:List Int} {k:Nat} {a:Ar} {x:Int},A[k]?=some a->f[k]?=some x->lf (zr6 A f) (2 * k)=a.2.2 - x/\lf (zr6 A f) (2 * k+1)=x
|[],f,k,a,x,h,_=>by simp at h
|b :: r,[],k,a,x,_,h=>by simp at h
|b :: r,y :: f,0,a,x,h1,h2=>by simp at h1 h2;subst h1;subst h2;simp [zr6,lf]
|b :: r,y :: f,k+1,a,x,h1,h2=>by
  have:=zt7 (A:=r) (f:=f) (k:=k) (by simpa using h1) (by simpa using h2)
  rw [show 2 * (k+1)=2 * k+1+1 by lia]
  simp [zr6,lf] at this ⊢;exact this
theorem zod:∀ {A:List Ar} {k:Nat} {a:Ar},A[k]?=some a->hd (zv4 A) (2 * k)=a.2.1/\hd (zv4 A) (2 * k+1)=a.1
|[],k,a,h=>by simp at h
|b :: r,0,a,h=>by simp at h;subst h;simp [zv4,hd]
|b :: r,k+1,a,h=>by
  have:=zod (A:=r) (k:=k) (by simpa using h)
  rw [show 2 * (k+1)=2 * k+1+1 by lia]
  simp [zv4,hd] at this ⊢;exact this
noncomputable def zn1 (A:List Ar) (k:Nat):Int:=((A[k]?).map λ a=>a.2.2).getD 0
theorem zul {A:List Ar} {f:List Int} (hl:f.length=A.length) (hf:∀ (k:Nat) a x,A[k]?=some a->f[k]?=some x->0<=x/\x<=a.2.2):Cap A.length (zn1 A) (zr6 A f):=by
 have get:∀ k,k < A.length->∃ a x,A[k]?=some a/\f[k]?=some x:=λ k hk=>⟨A[k],f[k],uC _,uC _⟩
 refine ⟨zza hl,λ s hs=>?_,λ k hk=>?_⟩
 ·obtain ⟨a,x,h1,h2⟩:=get (s / 2) (by lia)
  obtain ⟨e1,e2⟩:=zt7 h1 h2
  have:=hf _ a x h1 h2
  rcases Nat.mod_two_eq_zero_or_one s with z|z
  ·rw [show s=2 * (s / 2) by lia,e1];lia
  ·rw [show s=2 * (s / 2)+1 by lia,e2];lia
 ·obtain ⟨a,x,h1,h2⟩:=get k hk
  obtain ⟨e1,e2⟩:=zt7 h1 h2
  rw [e1,e2,zn1,h1];simp
theorem znq {L:List Int} {m:Nat} (h:L.length=2 * m):zrh (L.map uB) (some 1) none (some 2)=(uM m).map λ k=>.int (lf L (2 * k+1)):=by
 unfold zrh
 rw [uA,h]
 have e1:sliceBounds (some 1) none (some 2) (2 * m)=(max 0 (min (1:Int) ((2 * m:Nat):Int)),((2 * m:Nat):Int),2):=by
  unfold sliceBounds
  rfl
 rw [e1]
 show yY _ (sliceRange (max 0 (min (1:Int) ((2 * m:Nat):Int))) ((2 * m:Nat):Int) 2)=_
 have e2:sliceRange (max 0 (min (1:Int) ((2 * m:Nat):Int))) ((2 * m:Nat):Int) 2=(uM m).map λ k=>2 * k+1:=by
  unfold sliceRange
  cases m with
 |zero=>rfl
 |succ m =>
   have e3:max 0 (min (1:Int) ((2 * (m+1):Nat):Int))=1:=by lia
   rw [e3]
   have:(if (2:Int) > 0 then (if (1:Int) < ((2 * (m+1):Nat):Int) then (((2 * (m+1):Nat):Int) - 1+2 - 1) / 2 else 0) else (if (1:Int) > ((2 * (m+1):Nat):Int) then (1 - ((2 * (m+1):Nat):Int) - 2 - 1) / (-2) else 0))=((m+1:Nat):Int):=by
    rw [if_pos (by decide),if_pos (by lia)];lia
   simp only [this]
   rw [uY]
   refine xB λ k hk=>?_
   lia
 rw [e2,yU]
 have:∀ l:List Nat,(∀ k∈l,k < m)->yY ((λ x=>(L.map uB)[x]?) ∘ λ k=>2 * k+1) l=l.map λ k=>uB (lf L (2 * k+1)):=by
  intro l
  induction l with
 |nil=>intro _;rfl
 |cons k r ih =>
   intro hk
   have hk0:=hk k (by simp)
   have e:(L.map uB)[2 * k+1]?=some (.int (lf L (2 * k+1))):=by
    rw [uI]
    unfold lf
    rw [uR,uC (by lia)];rfl
   rw [wD]
   simp only [Function.comp]
   rw [e]
   simp only [uK]
   congr 1
   exact ih λ x hx=>hk x (by simp [hx])
 exact this _ λ k hk=>wC.mp hk
theorem zwx {S:List (List Nat)} {v:Nat} {l:List Nat} (h:S[v]?=some l):l.length<=szT S:=by
 have:=ze7 [] h
 simp at this;lia
theorem zjx (i:Nat):CMul 2 (i:Int):=by
 unfold CMul
 exact .inl (by decide)
theorem zzh:∀ {A:List Ar} {f:List Int} {a:Ar} {x:Int},f.length=A.length->zr6 (A++[a]) (f++[x])=zr6 A f++[a.2.2 - x,x]:=by
 intro A f a x h
 unfold zr6
 rw [List.zip_append h.symm,List.flatMap_append]
 rfl
structure Best (n:Nat) (A:List Ar) (f:List Int) (src snk:Nat) (L:List Int) (side:List Nat):Prop where
 up:Up A.length (zn1 A) (zv4 A) (zr6 A f) L src snk
 inn:src∈side
 out:snk ∉ side
 bd:∀ v∈side,v < n
 ris:side.Pairwise (· < ·)
 cl:∀ s,s < 2 * A.length->0 < lf L s->tl (zv4 A) s∈side->hd (zv4 A) s∈side
 rc:∃ lv,Lev n A.length (zv4 A) L src lv/\∀ v,v∈side ↔ (lkp lv v).isSome=true
theorem zhs {lv:List (Nat×Nat)} {v:Nat}:(lkp lv v).isSome=true ↔ v∈lv.map (·.1):=by
 constructor
 ·intro h
  obtain ⟨b,hb⟩:=v9.mp h
  exact yG (f:=(·.1)) (zug hb)
 ·intro h
  cases e:lkp lv v with
 |some b=>rfl
 |none=>exact absurd h (zxc e)
theorem zvs {n:Nat} {A:List Ar} {f:List Int} {src snk:Nat} {L:List Int} {lv:List (Nat×Nat)} (up:Up A.length (zn1 A) (zv4 A) (zr6 A f) L src snk) (hv:Lev n A.length (zv4 A) L src lv) (ht:(lkp lv snk).isSome=false)
  {ns:List Int} (hp:ns.Perm (lv.map λ p=>((p.1:Nat):Int))) (hs:ns.Pairwise (·<=·)):∃ side:List Nat,ns.map uB=side.map nI/\Best n A f src snk L side:=by
 have hmem:∀ x∈ns,∃ p∈lv,x=((p.1:Nat):Int):=λ x hx=>by
  obtain ⟨p,h1,h2⟩:=uL.mp (hp.mem_iff.mp hx)
  exact ⟨p,h1,h2.symm⟩
 refine ⟨ns.map Int.toNat,?_,?_⟩
 ·rw [vD]
  refine xB λ x hx=>?_
  obtain ⟨p,_,rfl⟩:=hmem x hx
  simp [nI]
 have iff:∀ v,v∈ns.map Int.toNat ↔ (lkp lv v).isSome=true:=λ v=>by
  rw [zhs]
  constructor
  ·intro h
   obtain ⟨x,hx,rfl⟩:=uL.mp h
   obtain ⟨p,hp',rfl⟩:=hmem x hx
   rw [uY]
   exact yG (f:=(·.1)) hp'
  ·intro h
   obtain ⟨p,hp',rfl⟩:=uL.mp h
   refine uL.mpr ⟨((p.1:Nat):Int),hp.mem_iff.mpr (uL.mpr ⟨p,hp',rfl⟩),uY _⟩
 have nd:ns.Nodup:=by
  refine hp.nodup_iff.mpr ?_
  have h1:=hv.nd
  have:(lv.map λ p=>((p.1:Nat):Int))=(lv.map (·.1)).map λ x=>((x:Nat):Int):=by rw [vD];rfl
  rw [this]
  exact h1.map (λ x:Nat=>(x:Int)) (λ a b hne z=>hne (by exact_mod_cast z))
 refine ⟨up,(iff _).mpr (by rw [hv.l0];rfl),(λ z=>by rw [(iff _).mp z] at ht;cases ht),λ v hvm=>?_,?_,λ s h1 h2 h3=>(iff _).mpr (hv.cl s h1 h2 ((iff _).mp h3)),lv,hv,iff⟩
 ·obtain ⟨b,hb⟩:=v9.mp ((iff v).mp hvm)
  exact hv.bd _ (zug hb)
 ·have key:∀ (l:List Int),l.Pairwise (·<=·)->l.Nodup->(∀ x∈l,0<=x)->(l.map Int.toNat).Pairwise (· < ·):=by
   intro l
   induction l with
  |nil=>intros;exact .nil
  |cons x r ih =>
    intro h1 h2 h3
    obtain ⟨a1,a2⟩:=zU.mp h1
    obtain ⟨b1,b2⟩:=uQ.mp h2
    refine zU.mpr ⟨λ y hy=>?_,ih a2 b2 λ z hz=>h3 z (by simp [hz])⟩
    obtain ⟨z,hz,rfl⟩:=uL.mp hy
    have c1:=a1 z hz
    have c2:x≠z:=λ e=>b1 (e ▸ hz)
    have c3:=h3 x (by simp)
    lia
  exact key ns hs nd λ x hx=>by obtain ⟨p,_,rfl⟩:=hmem x hx;lia
noncomputable def sm (m:Nat) (g:Nat->Int):Int:=((uM m).map g).sum
theorem zi1 (m:Nat) (g:Nat->Int):sm (m+1) g=sm m g+g m:=by
 unfold sm
 rw [y9,uJ,wU]
 simp
theorem zv0 {m:Nat} {g h:Nat->Int} (e:∀ k,k < m->g k=h k):sm m g=sm m h:=by
 unfold sm
 rw [xB λ k hk=>e k (wC.mp hk)]
theorem zci (g h:Nat->Int):∀ m,sm m (λ k=>g k+h k)=sm m g+sm m h
|0=>rfl
|m+1=>by rw [zi1,zi1,zi1,zci g h m];lia
theorem zui (g h:Nat->Int):∀ m,sm m (λ k=>g k - h k)=sm m g - sm m h
|0=>rfl
|m+1=>by rw [zi1,zi1,zi1,zui g h m];lia
theorem zc3:∀ m,sm m (λ _=>0)=0
|0=>rfl
|m+1=>by rw [zi1,zc3 m];rfl
theorem zdg {g h:Nat->Int}:∀ {m:Nat},(∀ k,k < m->g k<=h k)->sm m g<=sm m h
|0,_=>vJ _
|m+1,e=>by
  rw [zi1,zi1]
  have:=zdg (m:=m) λ k hk=>e k (by lia)
  have:=e m (by lia)
  lia
theorem zz5 {g h:Nat->Int}:∀ {m:Nat},(∀ k,k < m->g k<=h k)->sm m g=sm m h->∀ k,k < m->g k=h k
|0,_,_,k,hk=>by lia
|m+1,e,q,k,hk=>by
  rw [zi1,zi1] at q
  have a:=zdg (m:=m) λ k hk=>e k (by lia)
  have b:=e m (by lia)
  by_cases z:k=m
  ·subst z;lia
  ·exact zz5 (m:=m) (λ k hk=>e k (by lia)) (by lia) k (by lia)
theorem zmf {j:Nat} (d:Int):∀ {m:Nat},j < m->sm m (λ k=>if k=j then d else 0)=d
|0,h=>by lia
|m+1,h=>by
  rw [zi1]
  by_cases z:m=j
  ·subst z
   rw [if_pos rfl,zv0 (h:=λ _=>0) λ k hk=>if_neg (by lia),zc3];lia
  ·rw [zmf d (m:=m) (by lia),if_neg z];lia
noncomputable def trm (u v:Nat) (x:Int) (w:Nat):Int:=(if v=w then x else 0) - (if u=w then x else 0)
noncomputable def bl (m:Nat) (eu ev:Nat->Nat) (x:Nat->Int) (w:Nat):Int:=sm m λ k=>trm (eu k) (ev k) (x k) w
noncomputable def flux (m:Nat) (eu ev:Nat->Nat) (x:Nat->Int) (side:List Nat):Int:=sm m λ k=>(if ev k∈side then x k else 0) - (if eu k∈side then x k else 0)
theorem zw5 (m:Nat) (eu ev:Nat->Nat) (x:Nat->Int):∀ {side:List Nat},side.Nodup->flux m eu ev x side=(side.map (bl m eu ev x)).sum
|[],_=>by
  unfold flux
  rw [zv0 (h:=λ _=>0) λ k _=>by simp,zc3];rfl
|w :: r,h=>by
  obtain ⟨h1,h2⟩:=uQ.mp h
  rw [uK,wV,<- zw5 m eu ev x h2]
  unfold bl flux
  rw [<- zci]
  refine zv0 λ k _=>?_
  unfold trm
  have a:∀ z:Nat,(if z∈w :: r then x k else 0)=(if z=w then x k else 0)+(if z∈r then x k else 0):=λ z=>by
   by_cases e:z=w
   ·subst e;simp [h1]
   ·simp [e]
  rw [a,a];lia
noncomputable def tight (m:Nat) (eu ev:Nat->Nat) (cap x:Nat->Int) (side:List Nat):Prop:=∀ k,k < m->(eu k∈side->ev k ∉ side->x k=cap k)/\(ev k∈side->eu k ∉ side->x k=0)
noncomputable def within (m:Nat) (cap x:Nat->Int):Prop:=∀ k,k < m->0<=x k/\x k<=cap k
theorem zgs {m:Nat} {eu ev:Nat->Nat} {cap x y:Nat->Int} {side:List Nat} (hx:tight m eu ev cap x side) (hy:within m cap y):flux m eu ev x side<=flux m eu ev y side:=by
 refine zdg λ k hk=>?_
 obtain ⟨a,b⟩:=hx k hk
 obtain ⟨c,d⟩:=hy k hk
 by_cases h1:ev k∈side
 ·by_cases h2:eu k∈side
  ·simp only [if_pos h1,if_pos h2];lia
  ·simp only [if_pos h1,if_neg h2,b h1 h2];lia
 ·by_cases h2:eu k∈side
  ·simp only [if_neg h1,if_pos h2,a h2 h1];lia
  ·simp only [if_neg h1,if_neg h2];lia
theorem zgh {m:Nat} {eu ev:Nat->Nat} {cap x y:Nat->Int} {side:List Nat} (hx:tight m eu ev cap x side) (hy:within m cap y) (e:flux m eu ev x side=flux m eu ev y side):tight m eu ev cap y side:=by
 have key:=zz5 (m:=m) (g:=λ k=>(if ev k∈side then x k else 0) - (if eu k∈side then x k else 0)) (h:=λ k=>(if ev k∈side then y k else 0) - (if eu k∈side then y k else 0)) (λ k hk=>by
  obtain ⟨a,b⟩:=hx k hk
  obtain ⟨c,d⟩:=hy k hk
  by_cases h1:ev k∈side
  ·by_cases h2:eu k∈side
   ·simp only [if_pos h1,if_pos h2];lia
   ·simp only [if_pos h1,if_neg h2,b h1 h2];lia
  ·by_cases h2:eu k∈side
   ·simp only [if_neg h1,if_pos h2,a h2 h1];lia
   ·simp only [if_neg h1,if_neg h2];lia) e
 intro k hk
 have q:=key k hk
 obtain ⟨a,b⟩:=hx k hk
 refine ⟨λ h1 h2=>?_,λ h1 h2=>?_⟩
 ·simp only [if_neg h2,if_pos h1,a h1 h2] at q;lia
 ·simp only [if_neg h2,if_pos h1,b h1 h2] at q;lia
noncomputable def aU (A:List Ar) (k:Nat):Nat:=((A[k]?).map λ a=>a.1).getD 0
noncomputable def aV (A:List Ar) (k:Nat):Nat:=((A[k]?).map λ a=>a.2.1).getD 0
theorem zuq {A:List Ar} {L:List Int} (w:Nat):bal A.length (zv4 A) L w=bl A.length (aU A) (aV A) (λ k=>lf L (2 * k+1)) w:=by
 show sm _ _=sm _ _
 refine zv0 λ k hk=>?_
 have ga:A[k]?=some A[k]:=uC hk
 obtain ⟨e1,e2⟩:=zod ga
 unfold term trm aU aV
 rw [e1,e2,ga];rfl
theorem zye {l:List Nat} (h:l.Pairwise (· < ·)):l.Nodup:=h.imp λ h=>by lia
theorem Best.tight {n:Nat} {A:List Ar} {f L:List Int} {src snk:Nat} {side:List Nat} (b:Best n A f src snk L side):tight A.length (aU A) (aV A) (zn1 A) (λ k=>lf L (2 * k+1)) side:=λ k hk=>by
 have ga:A[k]?=some A[k]:=uC hk
 obtain ⟨e1,e2⟩:=zod ga
 have s1:=b.up.cap.sm k hk
 have n1:=b.up.cap.nn (2 * k) (by lia)
 have n2:=b.up.cap.nn (2 * k+1) (by lia)
 have x1:xr (2 * k)=2 * k+1:=by unfold xr;rw [if_pos (by lia)]
 have x2:xr (2 * k+1)=2 * k:=by unfold xr;rw [if_neg (by lia)];lia
 have u1:aU A k=A[k].1:=by unfold aU;rw [ga];rfl
 have v1:aV A k=A[k].2.1:=by unfold aV;rw [ga];rfl
 rw [u1,v1]
 refine ⟨λ h1 h2=>?_,λ h1 h2=>?_⟩
 ·by_cases z:0 < lf L (2 * k)
  ·have:=b.cl (2 * k) (by lia) z (by unfold tl;rw [x1,e2];exact h1)
   rw [e1] at this;exact absurd this h2
  ·show lf L (2 * k+1)=_;lia
 ·by_cases z:0 < lf L (2 * k+1)
  ·have:=b.cl (2 * k+1) (by lia) z (by unfold tl;rw [x2,e1];exact h1)
   rw [e2] at this;exact absurd this h2
  ·show lf L (2 * k+1)=_;lia
theorem Best.within {n:Nat} {A:List Ar} {f L:List Int} {src snk:Nat} {side:List Nat} (b:Best n A f src snk L side):within A.length (zn1 A) (λ k=>lf L (2 * k+1)):=λ k hk=>by
 have s1:=b.up.cap.sm k hk
 have n1:=b.up.cap.nn (2 * k) (by lia)
 have n2:=b.up.cap.nn (2 * k+1) (by lia)
 show 0<=lf L (2 * k+1)/\lf L (2 * k+1)<=_
 lia
noncomputable abbrev Pr:=Nat×Nat
noncomputable def pU (P:List Pr) (k:Nat):Nat:=((P[k]?).map λ a=>a.1).getD 0
noncomputable def pV (P:List Pr) (k:Nat):Nat:=((P[k]?).map λ a=>a.2).getD 0
noncomputable def fx (f:List Int) (k:Nat):Int:=(f[k]?).getD 0
noncomputable def nb (P:List Pr) (f:List Int) (w:Nat):Int:=bl P.length (pU P) (pV P) (fx f) w
theorem zce (u v w:Nat):trm u v 0 w=0:=by unfold trm;simp
theorem zim {u v w:Nat} (x:Int) (h1:w≠u) (h2:w≠v):trm u v x w=0:=by unfold trm;rw [if_neg (λ z=>h2 z.symm),if_neg (λ z=>h1 z.symm)];rfl
noncomputable def zy6 (P:List Pr) (f sl:List Int):List Ar:=(uM P.length).map λ k=>(pU P k,pV P k,fx f k+fx sl k)
theorem zbx {A:List Ar} {f:List Int} (hf:f.length=A.length) {k:Nat} (hk:k < A.length):lf (zr6 A f) (2 * k+1)=fx f k:=by
 have ga:A[k]?=some A[k]:=uC hk
 have gf:f[k]?=some f[k]:=uC (by lia)
 rw [(zt7 ga gf).2]
 unfold fx;rw [gf];rfl
end _5
namespace _4
open PySem PySem.Spec PyProof.Rows _2 _3
noncomputable abbrev DX:=Addr->DSt->Prop
section
variable {K:Fg} {te:TE} {de:DE} {tj:TJ}
noncomputable abbrev DJ:=DSt->Nat->(Nat->Prop)->Prop
variable {dj:DJ}
end
noncomputable def vwL (t:T) (Q:D->Prop):Prop:=∃ d,toD t=some d/\Q d
section
variable {K:Fg} {te ta:TE} {tA:TA} {da de:DE} {dA:DF} {dp:DP} {dn:DN}
theorem zuw {F H:Hp} (s:Same F H):∀ {xs:List V} {ts:List T} {fp:List Addr} {dss:List (List D)},RtAll K F H xs ts fp->zhg ts=some dss->IsAll K H xs (dss.map vF)
|_,[],_,_,.nil,e=>by cases e;exact .nil
|_,t :: ts,_,dss,.cons h r,e=>by
  unfold zhg at e
  cases h with
 |li h1 h2 h3 =>
   obtain ⟨d2,e2,rfl⟩:=u5.mp e
   exact .cons (.lst (SqL.of h1) (h3.mono s)) (zuw s r e2)
 |fz _=>cases e
 |ls _ _ _=>cases e
 |ob _ _ _ _ _=>cases e
 |dk _ _ _=>cases e
 |dt _ _ _=>cases e
 |tp _ _ _ _=>cases e
 |wh=>cases e
 |dd _ _ _ _=>cases e
theorem zjw {F H:Hp} (s:Same F H) {v:V} {t:T} {fp:List Addr} {d:D} (h:Rt K F H v t fp) (e:toD t=some d):Is K H v d:=by
 cases h with
|fz i=>cases e;exact i.mono s
|li h1 h2 h3=>cases e;exact .lst (SqL.of h1) (h3.mono s)
|ls h1 h2 h3 =>
  obtain ⟨d2,e2,rfl⟩:=u5.mp e
  exact .lst (SqL.of h1) (zuw s h3 e2)
|ob _ _ _ _ _=>cases e
|dk _ _ _=>cases e
|dt _ _ _=>cases e
|tp _ _ _ _=>cases e
|wh=>cases e
|dd _ _ _ _=>cases e
variable (K) in
noncomputable def RfL (te:TE) (de:DE):Prop:=∀ {F H:Hp} {Y:_2.St} {U:DSt} {Qd:D->Prop} {Q:VK},Same F H->RV K F H Y U->de U Qd->(∀ d,Qd d->∀ v F' H',Ext F H F' H'->Is K H' v d->Q v H')->te Y H Q
variable (K) in
noncomputable def RfAL (tA:TA) (dA:DF):Prop:=∀ {F H:Hp} {Y:_2.St} {U:DSt} {Qd:List D->Prop} {Q:List V->Hp->Prop},Same F H->RV K F H Y U->dA U Qd->(∀ ds,Qd ds->∀ vs F' H',Ext F H F' H'->IsAll K H' vs ds->Q vs H')->tA Y H Q
noncomputable def dPL (dp:DP):DE:=λ U Q=>dp U λ _ _ u=>vwL u Q
theorem RfP.l (h:RfP K te dp):RfL K te (dPL dp):=λ s r d k=>h s r d λ i p u hu v F1 H1 e1 at1=>by
 obtain ⟨fn,hr⟩:=at1.rt (r.ext e1)
 obtain ⟨d,e,q⟩:=hu
 exact k d q v F1 H1 e1 (zjw e1.fh hr e)
theorem RfE.l (h:RfE K te de):RfL K te de:=λ s r d k=>h s r d λ x q v F' H' e i=>k x q v F' H' e (i.mono e.fh)
noncomputable def dNL (dn:DN):DE:=λ U Q=>dn U λ r=>vwL r Q
theorem zqa:RfAL K tNil dNil:=λ {F H Y U Qd Q} s r h k=>k [] h [] F H (Ext.refl s) .nil
theorem zb1 (ha:RfL K ta da) (hr:RfAL K tA dA):RfAL K (zl4 ta tA) (zhx da dA):=by
 intro F H Y U Qd Q s rv h k
 refine ha s rv h λ x hx v F1 H1 e1 i1=>hr e1.fh (rv.ext e1) hx λ xs hxs vs F2 H2 e2 i2=>?_
 exact k _ hxs _ F2 H2 (e1.trans e2) (.cons (i1.mono e2.h) i2)
theorem zwc {p:DSp} {E:XK} (h:RfAL K tA dA):RfE K (zhk (spD K p) [] E tA) (zbw p dA):=by
 intro F H Y U Qd Q s rv hd k
 refine h s rv hd λ ds hp vs F1 H1 e1 i1=>?_
 rw [vL]
 refine ⟨H1,ds,_,(λ _ _ z=>z),i1,hp,λ d q v F' H' e2 i2=>k d q.2 v F1 H' (e1.trans ⟨e2.h,λ _ _ z=>z,e1.fh.trans e2.h,λ _ _ z=>z⟩) (zpg q.1 i2)⟩
end
theorem zy71 (t:T) (Q:D->Prop):vwL t Q=∃ d,toD t=some d/\Q d:=rfl
theorem zt81 (dp:DP) (U:DSt) (Q:D->Prop):dPL dp U Q=dp U λ _ _ u=>vwL u Q:=rfl
theorem zz81 (dn:DN) (U:DSt) (Q:D->Prop):dNL dn U Q=dn U λ r=>vwL r Q:=rfl
end _4
namespace _3
open PySem PySem.Spec PyProof.Rows _2
theorem zgm {k:Key} {v:Value} (h:zpq k v=true):RelV (kV k) v:=by
 rcases ze1 h with ⟨j,t,rfl,rfl⟩|⟨x,t,rfl,rfl⟩
 ·exact ⟨t,rfl⟩
 ·exact ⟨t,rfl⟩
end _3
namespace _4
open PySem PySem.Spec PyProof.Rows _2 _3
section
variable {X:Cx} {x:Str} {pos pos':Pos} {e a b:Expr} {te ta tb:TE} {k j:Nat} {K:Fg}
theorem pset (i:Nat) (hN:X.N.Nodup) (he:PE X e te) (hi:X.N[i]?=some x:=by rfl) (hx:Loc X.env.scope x:=by first|exact Or.inl rfl|exact w9 rfl) (hs:swapsWith e (some (.Name x pos')) pos.line X.env=pure false:=by rfl) (hf:X.fn x=true \/ X.env.scope.names.lookup x=some .local:=by first|exact .inl rfl|exact .inr rfl|assumption):PS X (.Assign [.Name x pos'] e pos) (tAsg te (zfj i)):=zr11 hN hi hx he hs hf
theorem pgn (i:Nat) (hN:X.N.Nodup) (hi:X.N[i]?=some x:=by rfl) (hx:Loc X.env.scope x:=by first|exact Or.inl rfl|exact w9 rfl) (hf:X.fn x=true \/ X.env.scope.names.lookup x=some .local:=by first|exact .inl rfl|exact .inr rfl|assumption):PG X (.Name x pos) (zfj i):=zwv hN hi hx hf
theorem pix (w:World) (K:Fg) (hr:Room k X.A) (ha:PE X a ta) (hb:PE X b tb) (hw:X.w=w:=by rfl) (hK:X.K=K:=by rfl) (hs:zrm b:=by exact λ _ _=>rfl):PE X (.Subscript a b pos) (tOp (rIxV w K) ta tb):=zy91 (ix_V (Room.units hr) hw hK) ha hb hs
theorem nds (l:List Str) (h:l.Nodup:=by decide +kernel):l.Nodup:=h
theorem rvi {i:Int}:RfV K (tC (.int i)) (dC (.int i)):=RfE.v zh1
theorem rgn (i:Nat) (hi:i < 100:=by decide):RfG K 100 (zfj i) (gN i):=zc1 hi
theorem rmn {A:Around} (hr:Room k A) (h:j<=k:=by decide):Room j A:=Room.mono hr h
end
section
variable {K:Fg} {te ta te1 te2:TE} {dn1 dn2:DN} {dp:DP}
theorem Rt.grow {F H F' H':Hp} {v:V} {t:T} {fp:List Addr} (e:Ext F H F' H') (h:Rt K F H v t fp):Rt K F' H' v t fp:=h.frame e.f λ b hb=>by
 obtain ⟨h1,h2⟩:=h.dom b hb
 refine ⟨?_,e.nw b (h.hdd b hb) h2⟩
 cases z:H b with
|none=>exact absurd z h1
|some o=>exact e.h b o z
theorem Rt.isRef {F H:Hp} {v:V} {t:T} {fp:List Addr} (h:Rt K F H v t fp) (n:zch t):∃ a,v=.ref a:=by
 cases h with
|fz _=>exact n.elim
|_=>exact ⟨_,rfl⟩
noncomputable def isP (T:String):_4.T->(D->Prop)->Prop
|.tp _,Q=>Q (.bool ("tuple" == T || (T == "int" && "tuple" == "bool")))
|.li _,Q=>Q (.bool ("list" == T || (T == "int" && "list" == "bool")))
|_,_=>False
noncomputable def dIsP (T:String) (dp:DP):DE:=λ U Q=>dp U λ _ _ u=>isP T u Q
theorem zj31 {T:String} (kt:Kit K) (hT:T∈["int", "bool", "list", "tuple", "str"]) (hp:RfP K ta dp):RfE K (tCB (rIsW K) (zl4 ta (zl4 (tC (.ty T)) tNil))) (dIsP T dp):=by
 intro F H Y U Qd Q s rv hd k
 refine hp s rv hd λ i p u hu v F1 H1 e1 at1=>?_
 obtain ⟨fn,hr⟩:=at1.rt (rv.ext e1)
 show rIsW K [v,.ty T] H1 Q
 cases hr with
|tp h1 h2 gk h3=>exact .inr ⟨_,_,_,_,rfl,rfl,.inr ⟨⟨_,SqT.of h1⟩,kt.ok _ (by simp) T hT⟩,k _ hu _ F1 H1 e1 (.bl _)⟩
|li h1 h2 h3=>exact .inr ⟨_,_,_,_,rfl,rfl,.inl ⟨⟨_,SqL.of h1⟩,kt.ok _ (by simp) T hT⟩,k _ hu _ F1 H1 e1 (.bl _)⟩
|fz _=>exact hu.elim
|ls _ _ _=>exact hu.elim
|ob _ _ _ _ _=>exact hu.elim
|dk _ _ _=>exact hu.elim
|dt _ _ _=>exact hu.elim
|wh=>exact hu.elim
|dd _ _ _ _=>exact hu.elim
noncomputable def lnP:_4.T->(D->Prop)->Prop
|.tp ts,Q=>Q (.int ts.length)
|_,_=>False
noncomputable def zr71 (dp:DP):DE:=λ U Q=>dp U λ _ _ u=>lnP u Q
theorem zry (hp:RfP K ta dp):RfE K (tCB (rLen K) (zl4 ta tNil)) (zr71 dp):=by
 intro F H Y U Qd Q s rv hd k
 refine hp s rv hd λ i p u hu v F1 H1 e1 at1=>?_
 obtain ⟨fn,hr⟩:=at1.rt (rv.ext e1)
 show rLen K [v] H1 Q
 cases hr with
|tp h1 h2 gk h3=>exact ⟨_,_,rfl,.inr ⟨_,SqT.of h1,rfl⟩,by rw [h3.len];exact k _ hu _ F1 H1 e1 (.int _)⟩
|li h1 h2 h3=>exact hu.elim
|fz _=>exact hu.elim
|ls _ _ _=>exact hu.elim
|ob _ _ _ _ _=>exact hu.elim
|dk _ _ _=>exact hu.elim
|dt _ _ _=>exact hu.elim
|wh=>exact hu.elim
|dd _ _ _ _=>exact hu.elim
variable {tA:TA} {dA:DAT}
theorem za51 (T:String) (dp:DP) (U:DSt) (Q:D->Prop):dIsP T dp U Q=(dp U λ _ _ u=>isP T u Q):=rfl
theorem zyu (dp:DP) (U:DSt) (Q:D->Prop):zr71 dp U Q=(dp U λ _ _ u=>lnP u Q):=rfl
end
end _4
namespace _5
open PySem PySem.Spec PyProof.Rows _2 _3 _4
theorem zl2 {di:DF} {dg:DG} {db:DS} {E:DEnds} {U:DSt} (h:∀ B:DS,(∀ E U,db E U->B E U)->dFor di dg B E U):dFor di dg db E U:=h db λ _ _ z=>z
theorem zln {dt:DT} {da db:DS} {E:DEnds} {U:DSt} (h:∀ A B:DS,(∀ E U,da E U->A E U)->(∀ E U,db E U->B E U)->dIf dt A B E U):dIf dt da db E U:=h da db (λ _ _ z=>z) λ _ _ z=>z
end _5
namespace _3
open PySem PySem.Spec PyProof.Rows _2
theorem zkm:∀ {xs:List V} {us:List Value},xs.length=us.length->(∀ (k:Nat) x u,xs[k]?=some x->us[k]?=some u->RelV x u)->Vals xs us
|[],[],_,_=>.nil
|[],_ :: _,e,_=>by simp at e
|_ :: _,[],e,_=>by simp at e
|x :: xs,u :: us,e,h=>.cons (h 0 x u rfl rfl) (zkm (by simpa using e) λ k x u a b=>h (k+1) x u (by simpa using a) (by simpa using b))
section
variable {X:Cx}
theorem zau:∀ {kvs:List (Key×V)} {vs:List (Key×Value)},KV kvs vs->∀ {i:Nat} {k:Key} {u:Value},vs[i]?=some (k,u)->∃ v,kvs[i]?=some (k,v)/\RelV v u:=by
 intro kvs vs h
 induction h with
|nil=>intro i k u e;simp at e
|@cons p q ps qs hq t ih =>
  intro i k u e
  cases i with
 |zero =>
   simp at e
   subst e
   obtain ⟨p1,p2⟩:=p
   obtain ⟨h1,h2⟩:=hq
   dsimp only at h1 h2
   subst h1
   exact ⟨p2,rfl,h2⟩
 |succ i=>simp at e ⊢;exact ih e
noncomputable def zs61:List V->Hp->VK->Prop:=λ vs H Q=>∃ (a:Addr) (kvs:List (Key×V)) (ns:List Int),vs=[.ref a]/\H a=some (.dK kvs)/\kvs.map (·.1)=ns.map uP/\ns≠[]/\∀ M∈ns,(∀ x∈ns,M<=x)->Q (.int M) H
theorem zpl (hc:X.calm=true):CallR X (.builtin "min") zs61:=by
 intro pins s Y H xs us Q I r h
 obtain ⟨a,kvs,ns,rfl,hx,hk,hne,q⟩:=h
 obtain ⟨u,rfl,r1⟩:=zkf r
 cases r1
 obtain ⟨z,lo,vs,rel,o,es,ep,h1,h2⟩:=(show ObjOk X.prog X.w H s.heap a (.dK kvs) from I.hok a _ hx)
 have hm:s.heap.DictAt (zx0 X.prog X.w) a vs ep:=⟨o,es,h1,h2⟩
 have hlen:vs.length=ns.length:=by
  have:=congrArg vA hk
  rw [uA,uA] at this
  rw [<- this];exact (Paired.length rel).symm
 have hat:∀ (i:Nat) (k:Key) (u:Value),vs[i]?=some (k,u)->k=uP (ns.getD i 0):=λ i k u e=>by
  obtain ⟨v,e1,_⟩:=zau rel e
  have e2:(kvs.map (·.1))[i]?=some k:=by rw [uI,e1];rfl
  rw [hk,uI] at e2
  obtain ⟨n,e3,e4⟩:=u5.mp e2
  rw [<- e4,uR,e3];rfl
 have hpos:0 < ns.length:=zA.mpr hne
 have aL:a < s.heap.objs.size:=uO h1
 refine call_min_walk (wpAny_pyIter_dict lo hm ?_)
 refine ⟨_,_,_,_,_,_,_,rfl,Walks.dictKeys (A:=X.A.in1) (knd:=zx0 X.prog X.w) (I.ok.hd hc) s.heap.objs.size a (u3 aL) vs ep,⟨⟨_,uT _ rfl,rfl,rfl⟩,hm.at' λ o e=>uH _ e⟩,λ b hb=>?_,by lia,CmpOf.ints_lt (λ i=>ns.getD i 0) (λ i v hv=>?_),λ v h' tk hP hk'=>?_⟩
 ·show b < (s.heap.push _).objs.size
  rw [vE]
  simp at hb
  rcases hb with e|e
  ·rw [e];exact xI _
  ·rw [e];exact xA aL
 ·obtain ⟨k,x,e1,e2⟩:=hv
  rw [hat i k x e1] at e2
  exact (show RelV (kV (uP (ns.getD i 0))) v from zgm e2)
 ·obtain ⟨k,x,e1,e2⟩:=hP
  rw [hat _ k x e1] at e2
  obtain ⟨g1,g2⟩:=argBest_lt (λ i=>ns.getD i 0) (vs.length - 1)
  have hb:∀ b o,s.heap.get? b=some o->h'.get? b=some o:=λ b o e=>hk' b o (by simp;exact u3 (uO e)) (uH _ e)
  refine ⟨.int _,H,I.kept hb,(show RelV (kV (uP _)) v from zgm e2),q _ (getD_mem (by lia)) λ y hy=>?_⟩
  obtain ⟨j,hj,rfl⟩:=mem_getD hy
  exact g2 j (by lia)
noncomputable def vwH (p a:Addr):Heap->Prop:=λ h=>h.IsValuesView p a
noncomputable def zz61:V->List V->Hp->VK->Prop:=λ x vs H Q=>∃ (a:Addr) (kvs:List (Key×V)),x=.ref a/\vs=[]/\H a=some (.dK kvs)/\∀ p,H p=none->Q (.ref p) (upd H p (.ext (vwH p a)))
theorem zks:MtM X "dict.values" zz61:=by
 intro pins s Y H x vs v us Q I rx rv h
 obtain ⟨a,kvs,rfl,rfl,hx,q⟩:=h
 cases rx
 cases rv
 obtain ⟨z,lo,vs,rel,dd⟩:=zvn I.hok hx
 refine call_meetsIn PySem.F.slot_dict_values dd.typeIs PySem.F.entry_dict_values (PySem.F.args_dict_values_1 _) (meets_dict_values (zx0 X.prog X.w) a lo) ⟨⟨vs,dd⟩,?_⟩
 refine ⟨.ref _,_,I.laid (t':=s.toks) (o:=.ext (vwH s.heap.objs.size a)) (λ b ob e=>uH _ e) (uG _) ?_,rfl,q _ (I.hok.fresh (uG _))⟩
 exact ⟨⟨_,uT _ rfl,rfl,rfl⟩,⟨_,uT _ rfl⟩,λ h1 h2 ⟨o,e,r⟩ k=>⟨o,k o e,r⟩⟩
noncomputable def zf61:List V->Hp->VK->Prop:=λ vs H Q=>∃ (p a:Addr) (kvs:List (Key×V)) (ns:List Int),vs=[.ref p]/\H p=some (.ext (vwH p a))/\H a=some (.dK kvs)/\kvs.map (·.2)=ns.map V.int/\ns≠[]/\∀ M∈ns,(∀ x∈ns,x<=M)->Q (.int M) H
theorem ztj (hc:X.calm=true):CallR X (.builtin "max") zf61:=by
 intro pins s Y H xs us Q I r h
 obtain ⟨p,a,kvs,ns,rfl,hp,hx,hk,hne,q⟩:=h
 obtain ⟨u,rfl,r1⟩:=zkf r
 cases r1
 obtain ⟨z,lo,vs,rel,o,es,ep,h1,h2⟩:=(show ObjOk X.prog X.w H s.heap a (.dK kvs) from I.hok a _ hx)
 have hm:s.heap.DictAt (zx0 X.prog X.w) a vs ep:=⟨o,es,h1,h2⟩
 have hv:s.heap.IsValuesView p a:=((show ObjOk X.prog X.w H s.heap p (.ext (vwH p a)) from I.hok p _ hp)).1
 have hlen:vs.length=ns.length:=by
  have:=congrArg vA hk
  rw [uA,uA] at this
  rw [<- this];exact (Paired.length rel).symm
 have hat:∀ (i:Nat) (k:Key) (u:Value),vs[i]?=some (k,u)->∃ t,u=.int (ns.getD i 0) t:=λ i k u e=>by
  obtain ⟨v,e1,e5⟩:=zau rel e
  have e2:(kvs.map (·.2))[i]?=some v:=by rw [uI,e1];rfl
  rw [hk,uI] at e2
  obtain ⟨n,e3,e4⟩:=u5.mp e2
  rw [<- e4] at e5
  obtain ⟨t,e6⟩:=e5
  exact ⟨t,by rw [e6,uR,e3];rfl⟩
 have hpos:0 < ns.length:=zA.mpr hne
 have aL:a < s.heap.objs.size:=uO h1
 refine call_max_walk (wpAny_pyIter_values hv hm ?_)
 refine ⟨_,_,_,_,_,_,_,rfl,Walks.dictValues (A:=X.A.in1) (knd:=zx0 X.prog X.w) (I.ok.hd hc) s.heap.objs.size a (u3 aL) vs ep,⟨⟨_,uT _ rfl,rfl,rfl⟩,hm.at' λ o e=>uH _ e⟩,λ b hb=>?_,by lia,CmpOf.ints_gt (λ i=>ns.getD i 0) (λ i v hv=>?_),λ v h' tk hP hk'=>?_⟩
 ·show b < (s.heap.push _).objs.size
  rw [vE]
  simp at hb
  rcases hb with e|e
  ·rw [e];exact xI _
  ·rw [e];exact xA aL
 ·obtain ⟨k,e1⟩:=hv
  exact hat i k v e1
 ·obtain ⟨k,e1⟩:=hP
  obtain ⟨t,rfl⟩:=hat _ k v e1
  obtain ⟨g1,g2⟩:=argBest_gt (λ i=>ns.getD i 0) (vs.length - 1)
  have hb:∀ b o,s.heap.get? b=some o->h'.get? b=some o:=λ b o e=>hk' b o (by simp;exact u3 (uO e)) (uH _ e)
  refine ⟨.int _,H,I.kept hb,⟨_,rfl⟩,q _ (getD_mem (by lia)) λ y hy=>?_⟩
  obtain ⟨j,hj,rfl⟩:=mem_getD hy
  exact g2 j (by lia)
noncomputable def rAny (K:Fg):List V->Hp->VK->Prop:=λ vs H Q=>∃ (a:Addr) (ns:List Int),vs=[.ref a]/\SqL K H a (ns.map V.int)/\Q (.bl (ns.any λ n=>n != 0)) H
theorem ztn {K:Fg} (h:X.K=K) (hc:X.calm=true):CallR X (.builtin "any") (rAny K):=by
 subst h
 intro pins s Y H xs us Q I r h
 obtain ⟨a,ns,rfl,hx,q⟩:=h
 obtain ⟨u,rfl,r1⟩:=zkf r
 cases r1
 obtain ⟨its,rv,p,hz⟩:=I.list hx
 have hl:=rv.length
 rw [uA] at hl
 have aL:a < s.heap.objs.size:=by obtain ⟨o,ho,_⟩:=p.isList;exact uO ho
 refine call_any_walk (wpAny_pyIter_list p.isList ?_)
 refine ⟨_,_,_,_,_,_,λ i=>ns.getD i 0 != 0,rfl,Walks.list (A:=X.A.in1) (I.ok.hd hc) s.heap.objs.size a (u3 aL) its.toArray,⟨⟨_,uT _ rfl,rfl,rfl⟩,p.isList.at λ o e=>uH _ e⟩,?_,λ h' tk hk'=>?_⟩
 ·intro i v s Q E hv hq
  have hv:its.toArray[i]?=some v:=hv
  have hv:its[i]?=some v:=by simpa using hv
  have hi:i < ns.length:=by rw [hl];exact (uZ.mp hv).1
  have e3:ns[i]?=some ns[i]:=uC hi
  obtain ⟨u,e1,e2⟩:=rv.get (i:=i) (x:=.int ns[i]) (by rw [uI,e3];rfl)
  rw [hv] at e1
  cases e1
  obtain ⟨t,rfl⟩:=e2
  refine truthy_int ?_
  have hq:Q (ns.getD i 0 != 0) s:=hq
  have:ns.getD i 0=ns[i]:=by rw [uR,e3];rfl
  rw [this] at hq;exact hq
 ·have hb:∀ b o,s.heap.get? b=some o->h'.get? b=some o:=λ b o e=>hk' b o (by simp;exact u3 (uO e)) (uH _ e)
  refine ⟨.bl _,H,I.kept hb,rfl,?_⟩
  have:((uM its.toArray.size).any λ i=>ns.getD i 0 != 0)=ns.any λ n=>n != 0:=by
   rw [uV,<- hl]
   have e:ns=(uM ns.length).map λ i=>ns.getD i 0:=by
    refine yH (by simp) λ i h1 h2=>?_
    simp [uC h1]
   have e2:(ns.any λ n=>n != 0)=((uM ns.length).map λ i=>ns.getD i 0).any λ n=>n != 0:=congrArg (λ l:List Int=>l.any λ n=>n != 0) e
   rw [e2,List.any_map];rfl
  rw [this];exact q
noncomputable def zmm:V->List V->Hp->VK->Prop:=λ x vs H Q=>∃ (a:Addr) (kvs:List (Key×V)) (k:Key) (z:V),x=.ref a/\vs=[kV k,z]/\H a=some (.dK kvs)/\kvs.length < sizeLine /\
 (∀ v,valV kvs k=some v->Q v H)/\(valV kvs k=none->Q z (upd H a (.dK (kvs++[(k,z)]))))
theorem zxk:MtM X "dict.setdefault" zmm:=by
 intro pins s Y H x vs v us Q I rx rv h
 obtain ⟨a,kvs,k,z,rfl,rfl,hx,hz,q1,q2⟩:=h
 cases rx
 obtain ⟨u1,u2,rfl,r1,r2⟩:=rv.two
 obtain ⟨z0,lo,vs,rel,dd⟩:=zvn I.hok hx
 refine call_meetsIn PySem.F.slot_dict_setdefault dd.typeIs PySem.F.entry_dict_setdefault (PySem.F.args_dict_setdefault_3 _ _ _) (kt_meets_setdefault (zx0 X.prog X.w) a (zij r1) lo u2) ⟨vs,dd,by rw [<- rel.length];exact z0,λ w' hw=>?_,λ hn h' dd' hs=>?_⟩
 ·obtain ⟨v,e1,e2⟩:∃ v,valV kvs k=some v/\RelV v w':=by
   have:=rel.val k
   rw [hw] at this
   cases e:valV kvs k with
  |none=>rw [e] at this;exact this.elim
  |some v=>rw [e] at this;exact ⟨v,rfl,this⟩
  exact ⟨v,H,I.tok _,e2,q1 v e1⟩
 ·have hn2:valV kvs k=none:=by
   have:=rel.val k
   rw [hn] at this
   cases e:valV kvs k with
  |none=>rfl
  |some v=>rw [e] at this;exact this.elim
  have he:∃ q,h'.get? a=some q:=let ⟨q,_,_,hq,_⟩:=dd';⟨q,hq⟩
  refine ⟨z,_,?_,r2,q2 hn2⟩
  rw [<- zwn z hn2]
  have hl:(putK kvs k z).length<=sizeLine:=by have:=zf4 kvs k z;lia
  exact zs9 I (by rw [hx];exact True.intro) hs he (zfi hl lo (rel.put k r2) dd')
noncomputable def zj51:V->List V->Hp->VK->Prop:=λ x vs H Q=>∃ (a:Addr) (kvs:List (Key×V)) (k:Key) (v:V),x=.ref a/\vs=[kV k]/\H a=some (.dK kvs)/\valV kvs k=some v/\Q v (upd H a (.dK (zgj kvs k)))
theorem zrs:MtM X "dict.pop" zj51:=by
 intro pins s Y H x vs v us Q I rx rv h
 obtain ⟨a,kvs,k,z,rfl,rfl,hx,hz,q⟩:=h
 cases rx
 obtain ⟨u1,rfl,r1⟩:=rv.one
 exact zea1 I hx r1 hz (.inl rfl) λ w' s' I' rw'=>⟨z,_,I',rw',q⟩
noncomputable def zy61:V->List V->Hp->VK->Prop:=λ x vs H Q=>∃ i,x=.int i/\vs=[]/\Q (.int (Builtin.Int.intBits i:Nat)) H
theorem zis:MtR X "int.bit_length" zy61:=by
 intro pins s Y H x vs v us Q I rx rv h
 obtain ⟨i,rfl,rfl,q⟩:=h
 obtain ⟨t,rfl⟩:=rx
 cases rv
 exact call_int_bit_length ⟨.int _,H,I.tok _,⟨_,rfl⟩,q⟩
noncomputable def rngH (p:Addr) (i j c:Int):Heap->Prop:=λ h=>∃ t u v,IsRange h p i j c t u v
noncomputable def zf51:List V->Hp->VK->Prop:=λ vs H Q=>∃ i j c:Int,vs=[.int i,.int j,.int c]/\c≠0/\(-(2 ^ 20)<=c/\c < 2 ^ 20)/\∀ p,H p=none->Q (.ref p) (upd H p (.ext (rngH p i j c)))
theorem zjk:CallR X (.type "range") zf51:=by
 intro pins s Y H xs us Q I r h
 obtain ⟨i,j,c,rfl,c0,⟨q5,q6⟩,q⟩:=h
 cases r with
|cons r rr =>
  cases rr with
 |cons r' rr =>
   cases rr with
  |cons r'' rr =>
    cases rr
    obtain ⟨t,rfl⟩:=r
    obtain ⟨t',rfl⟩:=r'
    obtain ⟨t'',rfl⟩:=r''
    refine PySem.call_range_3 c0 ?_ (.inl (PyProof.noPylong_of_log2 ?_))
    ·refine ⟨.ref _,_,I.laid (t':=s.toks) (o:=.ext (rngH s.heap.objs.size i j c)) (λ b ob e=>uH _ e) (uG _) ?_,rfl,q _ (I.hok.fresh (uG _))⟩
     exact ⟨⟨t,t',t'',IsRange.new ..⟩,⟨_,uT _ rfl⟩,λ h1 h2 ⟨a,b,c,e⟩ k=>⟨a,b,c,k _ e⟩⟩
    ·have:c.natAbs.log2 < 40:=(yW (by lia)).mpr (by lia)
     lia
noncomputable def zlv:List V->Hp->VK->Prop:=λ vs H Q=>∃ (p:Addr) (i j c:Int) (n:Nat),vs=[.ref p]/\H p=some (.ext (rngH p i j c))/\(-(2 ^ 40)<=i/\i < 2 ^ 40/\-(2 ^ 40)<=j/\j < 2 ^ 40/\-(2 ^ 20)<=c/\c < 2 ^ 20)/\Builtin.Range.rangeSize i j c=n/\n<=1000 /\
 ∀ l,H l=none->Q (.ref l) (upd H l (.lst ((uM n).map λ k:Nat=>.int (i+k * c))))
theorem zjh (hc:X.calm=true):CallR X (.type "list") zlv:=by
 intro pins s Y H xs us Q I r h
 obtain ⟨p,i,j,c,n,rfl,hp,⟨q1,q2,q3,q4,q5,q6⟩,en,hn,q⟩:=h
 obtain ⟨u,rfl,r1⟩:=zkf r
 cases r1
 obtain ⟨⟨t,t',t'',hr⟩,_,_⟩:=(show ObjOk X.prog X.w H s.heap p (.ext (rngH p i j c)) from I.hok p _ hp)
 refine call_list_range (I.ok.hd hc) hr ?_ en (by lia) λ h' tk acc' c' kp e hacc=>?_
 ·unfold Builtin.Range.small
  rw [en]
  simp only [Builtin.Range.rangeFitsLong,wQ,Bool.or_eq_true,decide_eq_true_eq,beq_iff_eq]
  refine ⟨⟨⟨⟨?_,?_⟩,?_⟩,?_⟩,.inr ?_⟩ <;> first|lia|(split <;> (simp only [wQ,decide_eq_true_eq];lia))
 ·refine ⟨.ref _,_,I.laid (t':=tk) (o:=.lst ((uM n).map λ k:Nat=>.int (i+k * c))) kp (uG _) ⟨by rw [uA,vG,sizeLine_eq];lia,acc'.toList,c',?_,by simpa using e⟩,rfl,q _ (I.hok.fresh (uG _))⟩
  obtain ⟨a1,a2⟩:=hacc
  refine zkm (by rw [uA,vG,v8,a1]) λ k x u h1 h2=>?_
  rw [uI] at h1
  obtain ⟨k',h3,rfl⟩:=u5.mp h1
  obtain ⟨t,rfl⟩:=a2 k u (by rw [<- x6];exact h2)
  have:=(uZ.mp h3).2
  rw [wE] at this
  subst this
  exact ⟨t,rfl⟩
noncomputable def Itv (K:Fg) (a:Addr) (xs:List V):It:=⟨λ i H=>SqL K H a xs/\i < xs.length,λ i H x H'=>xs[xs.length - 1 - i]?=some x/\H'=H,λ i H=>SqL K H a xs/\xs.length=i⟩
theorem zjo {P:Program} {w:World} {K:Fg} {tg:Expr} {a it:Addr} {xs:List V} :
  Turn P w K tg (Itv K a xs) [it] it (λ i h=>h.IsRevIter it a ((xs.length:Int) - 1 - (i:Int))) where
 mem:=by simp
 obj:=λ i h S b hb=>by
  obtain ⟨io,g1,g2,g3⟩:=S
  simp at hb
  subst hb
  exact ⟨_,g1,λ v q=>by rw [g3] at q;cases q⟩
 keep:=λ i h h' S k=>S.at λ o e=>k _ (by simp) _ e
 item:=by
  intro X hP hw hK hc i pins s Y H E I hf S hg
  subst hP hw hK
  obtain ⟨hq,hlt⟩:=hg
  obtain ⟨its,rv,p,hz⟩:=I.list hq
  have hl:=rv.length
  have e:(xs.length:Int) - 1 - (i:Int)=((xs.length - 1 - i:Nat):Int):=by lia
  have S:s.heap.IsRevIter it a ((xs.length - 1 - i:Nat):Int):=by rw [<- e];exact S
  have hx:xs[xs.length - 1 - i]?=some (xs[xs.length - 1 - i]'(by lia)):=uC (by lia)
  obtain ⟨u,hu,ru⟩:=rv.get hx
  have fi:=hf it (by simp)
  refine wpAny_pyNext_rev_item S p.isList (x:=u) (by simpa using hu) λ h' S' sb=>?_
  have e2:((xs.length - 1 - i:Nat):Int) - 1=(xs.length:Int) - 1 - ((i+1:Nat):Int):=by lia
  rw [e2] at S'
  obtain ⟨io,i1,i2,i3⟩:=id S'
  exact ⟨u,rfl,ztu (s:={ s with heap:=h' }) i1 i2 i3 (by decide) ⟨_,H,zpf (tk:=s.toks) I fi sb.extBut,ru,⟨hx,rfl⟩,S',λ b hb=>(hf b hb).1⟩⟩
 done:=by
  intro X hP hw hK hc i pins s Y H E I hf S hg
  subst hP hw hK
  obtain ⟨hq,hge⟩:=hg
  have S:s.heap.IsRevIter it a (-1):=by
   have e:(xs.length:Int) - 1 - (i:Int)=-1:=by lia
   rw [<- e];exact S
  exact wpAny_pyNext_rev_end (I.ok.hd hc) S λ h' eb=>⟨rfl,zpf (tk:=s.toks) I (hf it (by simp)) eb⟩
 self:=λ _ _ _ _ _ S h=>wpAny_pyIter_revIter S h
noncomputable def kRev (K:Fg) (vs:List V) (H:Hp) (R:It->Hp->Prop):Prop:=∃ a xs,vs=[.ref a]/\SqL K H a xs/\R (Itv K a xs) H
noncomputable def iRev (K:Fg) (ta:TA):TI:=λ Y H R=>ta Y H λ vs H1=>kRev K vs H1 R
theorem zuf:bootBuiltins "reversed"=some (.type "reversed"):=by decide +kernel
theorem ztz {K:Fg} (hK:X.K=K) {tg:Expr} {a:Expr} {ta:TA} {p pos:Pos} (hg:Gl X "reversed") (hm:X.mg "reversed"=none) (ha:PA X [a] ta) (hs:starEach [a] X.env=[(false,eval a X.env)]:=by rfl) :
  PI X tg (.Call (.Name "reversed" p) [a] [] pos) (iRev K ta):=by
 subst hK
 intro pins s Y H R I h
 refine Call_ (zia I hg hm zuf (PyProof.Rows.callWith_type1 (thn (ha pos pins s Y H _ I h) λ us s1 ⟨vs,H1,I1,r1,q1⟩=>?_) (by rw [hs];rfl) (by rfl)))
 obtain ⟨l,xs,e,hq,q⟩:=q1
 subst e
 obtain ⟨u1,rfl,ru⟩:=zkf r1
 obtain rfl:u1=uS l:=ru
 obtain ⟨its,rv,pl,hz⟩:=I1.list hq
 have hl:=rv.length
 have hit:Heap.IsRevIter (s1.heap.push (revObj l ((its.toArray.size:Int) - 1))) s1.heap.objs.size l ((xs.length:Int) - 1 - ((0:Nat):Int)):=⟨_,uT _ rfl,rfl,by rw [uV,<- hl];simp [revObj]⟩
 refine call_reversed_list pl.isList (wpAny_pyIter_revIter (s:={ s1 with heap:=s1.heap.push (revObj l ((its.toArray.size:Int) - 1)) }) hit ?_)
 have I2:_2.Inv X pins Y H1 { s1 with heap:=s1.heap.push (revObj l ((its.toArray.size:Int) - 1)) }:=I1.kept (t':=s1.toks) λ b o e=>uH _ e
 refine ⟨s1.heap.objs.size,[s1.heap.objs.size],_,_,H1,rfl,I2,zjo,hit,λ b hb=>?_,q⟩
 have hb':s1.heap.objs.size<=b:=by simp at hb;exact yT hb.symm
 exact I1.fpOk hb' (I1.hok.fresh hb')
end
theorem zh21:bootBuiltins "any"=some (.builtin "any"):=by decide +kernel
theorem zmp:bootBuiltins "range"=some (.type "range"):=by decide +kernel
theorem zy31:bootBuiltins "abs"=some (.builtin "abs"):=by decide +kernel
end _3
namespace _4
open PySem PySem.Spec PyProof.Rows _2 _3
section
variable {K:Fg} {te ta tk tg ty:TE} {de da dk dg:DE} {tA:TA} {dA:DF} {dp:DP} {w:World}
theorem RtAll.mid {F H:Hp}:∀ {xs:List V} {ts:List T} {x:V} {t:T} {ys:List V} {us:List T} {fp:List Addr},xs.length=ts.length->RtAll K F H (xs++x :: ys) (ts++t :: us) fp->∃ fA fj fB,fp=fA++(fj++fB)/\RtAll K F H xs ts fA/\Rt K F H x t fj/\RtAll K F H ys us fB
|[],[],_,_,_,_,_,_,.cons (fp:=fp) (fq:=fq) h r=>⟨[],fp,fq,rfl,.nil,h,r⟩
|[],_ :: _,_,_,_,_,_,e,_=>by simp at e
|_ :: _,[],_,_,_,_,_,e,_=>by simp at e
|_ :: xs,_ :: ts,_,_,_,_,_,e,.cons (fp:=fp) (fq:=fq) h r=>by
  obtain ⟨fA,fj,fB,e1,h1,h2,h3⟩:=RtAll.mid (xs:=xs) (ts:=ts) (by simpa using e) r
  exact ⟨fp++fA,fj,fB,by rw [e1,wI],.cons h h1,h2,h3⟩
theorem zmh {l r:List (Key×T)} {key:Key} {t:T} {kvs:List (Key×V)} (e:kvs.map (·.1)=(l++(key,t) :: r).map (·.1)):∃ l' v r',kvs=l'++(key,v) :: r'/\l'.map (·.1)=l.map (·.1)/\r'.map (·.1)=r.map (·.1):=by
 rw [uJ,uK] at e
 obtain ⟨l',r0,e0,e1,e2⟩:=List.map_eq_append_iff.mp e
 obtain ⟨kv,r',e3,e4,e5⟩:=List.map_eq_cons_iff.mp e2
 obtain ⟨k,v⟩:=kv
 dsimp only at e4
 subst e4
 exact ⟨l',v,r',by rw [e0,e3],e1,e5⟩
theorem zqi {l' r':List (Key×V)} {key:Key} {v:V} (h:key ∉ l'.map (·.1)):valV (l'++(key,v) :: r') key=some v:=by
 induction l' with
|nil=>exact zwa rfl
|cons a l ih =>
  rw [uK,uD,not_or] at h
  rw [List.cons_append]
  have:=ih h.2
  unfold valV at this ⊢
  rw [xC (by simpa using λ z=>h.1 z.symm)]
  exact this
theorem zy21 {l:List (Key×V)} {key:Key} (h:key ∉ l.map (·.1)):valV l key=none:=by
 induction l with
|nil=>rfl
|cons a l ih =>
  rw [uK,uD,not_or] at h
  have:=ih h.2
  unfold valV at this ⊢
  rw [xC (by simpa using λ z=>h.1 z.symm)]
  exact this
theorem zrn {l' r':List (Key×V)} {key:Key} {v:V} (h:key ∉ l'.map (·.1)) (h2:key ∉ r'.map (·.1)):zgj (l'++(key,v) :: r') key=l'++r':=by
 have no:∀ {l:List (Key×V)},key ∉ l.map (·.1)->l.filter (λ kv=>decide (kv.1≠key))=l:=λ {l} hl=>List.filter_eq_self.mpr λ a ha=>decide_eq_true λ z=>hl (uL.mpr ⟨a,ha,z⟩)
 unfold zgj
 rw [List.filter_append,zV (by simp),no h,no h2]
theorem RS.dd {B:Bs} {F H:Hp} {Y:_2.St} {U:DSt} {fps:Nat->List Addr} (r:RS K B F H Y U fps) {i:Nat} {ts:List (Key×T)} (hi:U[i]?=some (.ow (.dd ts))) :
  ∃ a kvs fp,Y.getD i none=some (.ref a)/\H a=some (.dK kvs)/\F a=none/\kvs.map (·.1)=ts.map (·.1)/\RtAll K F H (kvs.map (·.2)) (ts.map (·.2)) fp/\fps i=a :: fp/\(a :: fp).Nodup/\(∀ b∈a :: fp,B.H0 b=none):=by
 obtain ⟨x,t,g1,g2,g3,g4,g5⟩:=r.rt i _ hi rfl
 cases g2
 have fr:=r.fr i _ hi rfl
 generalize hf:fps i=f0 at g3 g5 fr
 cases g3 with
|dd h1 h2 h3 h4=>exact ⟨_,_,_,g1,h1,h2,h3,h4,rfl,g5,λ b hb=>(fr b hb).elim id λ z=>absurd rfl (z.2 _)⟩
noncomputable def cDD1 (dk de:DE):DC:=λ U Q=>dk U λ k=>de U λ v=>∃ key,keyD k=some key/\Q (.dd [(key,.fz v)]) U
theorem zy01 {tv:TE} (hk:RfE K tk dk) (he:RfE K tv de):RfC K (zo01 [(tk,tv)]) (cDD1 dk de):=by
 intro B F H Y U fps Qd Q r hd k p hp
 have r1:=r.grow (zg6 (o:=.dK []) r.fh hp)
 have fp:F p=none:=by
  cases e:F p with
 |none=>rfl
 |some o=>rw [r.fh p o e] at hp;cases hp
 show tk Y _ _
 refine hk r1.fh r1.rv hd λ kd hkd kv F1 H1 e1 i1=>he e1.fh (r1.grow e1).rv hkd λ v hv vv F2 H2 e2 i2=>?_
 obtain ⟨key,ek,q⟩:=hv
 have:=zoa i1 ek
 subst this
 have e12:=e1.trans e2
 have hp2:H2 p=some (.dK []):=e12.h _ _ zi0
 have fp2:F2 p=none:=e12.nwo zi0 (λ _=>nofun) fp
 refine ⟨hp2,[(key,vv)],rfl,by simp,?_⟩
 have ex:Ext F H F2 (upd H2 p (.dK (zxa [] [(key,vv)]))):=by
  have e0:=(zg6 (o:=.dK []) r.fh hp).trans e12
  refine ⟨λ b o z=>?_,e0.f,λ b o z=>?_,e0.nw⟩
  ·have:b≠p:=λ y=>by subst y;rw [hp] at z;cases z
   rw [zn0 this];exact e0.h b o z
  ·have:b≠p:=λ y=>by subst y;rw [fp2] at z;cases z
   rw [zn0 this];exact e0.fh b o z
 have hm:zxa [] [(key,vv)]=[(key,vv)]:=rfl
 rw [hm] at ex ⊢
 have ra:=RtAll.cons (Rt.fz (H:=upd H2 p (.dK [(key,vv)])) i2) (.nil (K:=K) (F:=F2) (H:=upd H2 p (.dK [(key,vv)])))
 refine k _ _ q (.ref p) F2 _ fps [p] ⟨r.grow ex,.dd (kvs:=[(key,vv)]) (ts:=[(key,.fz v)]) (fp:=[]) zi0 fp2 rfl ra,by simp,λ b hb=>?_,λ j s ej hs b hb hb2=>?_⟩
 ·simp at hb;subst hb
  exact (r.newOk hp).1
 ·simp at hb2;subst hb2
  exact (r.newOk hp).2 j s ej hs hb
noncomputable def zi51 (i:Nat):DT:=λ U Q=>∃ ts,U[i]?=some (.ow (.dd ts))/\Q (!ts.isEmpty)
theorem ziv (i:Nat):RfT K (zb21 K (tVar i)) (zi51 i):=by
 intro F H Y U Qd Q s rv h k
 obtain ⟨ts,hi,q⟩:=h
 obtain ⟨x,fp,ex,hr,_⟩:=(rv.sl i _ hi)
 refine ⟨x,zg2 (F:=F) (H:=H) (U:=U) ex,?_⟩
 cases hr with
|@dd a kvs ts fp h1 h2 h3 h4 =>
  refine ⟨!ts.isEmpty,.inr (.inr ⟨kvs,h1,?_⟩),k _ q F H (Ext.refl s)⟩
  have:kvs.length=ts.length:=by simpa using congrArg vA h3
  cases kvs <;> cases ts <;> simp_all
noncomputable def zq51 (i:Nat):DE:=λ U Q=>∃ ts ns,U[i]?=some (.ow (.dd ts))/\ts.map (·.1)=ns.map uP/\ns≠[]/\∀ M∈ns,(∀ x∈ns,M<=x)->Q (.int M)
theorem zcy (i:Nat):RfE K (tCB zs61 (zl4 (tVar i) tNil)) (zq51 i):=by
 intro F H Y U Qd Q s rv h k
 obtain ⟨ts,ns,hi,e,hne,q⟩:=h
 obtain ⟨x,fp,ex,hr,_⟩:=(rv.sl i _ hi)
 refine ⟨x,zg2 (F:=F) (H:=H) (U:=U) ex,?_⟩
 cases hr with
|@dd a kvs ts fp h1 h2 h3 h4 =>
  exact ⟨a,kvs,ns,rfl,h1,by rw [h3];exact e,hne,λ M hM hx=>k _ (q M hM hx) _ F H (Ext.refl s) (.int M)⟩
noncomputable def zl71 (i:Nat) (dk:DE):DC:=λ U Q=>∃ ts,U[i]?=some (.ow (.dd ts))/\dk U λ k=>∃ l key t r,ts=l++(key,t) :: r/\keyD k=some key/\key ∉ l.map (·.1)/\key ∉ r.map (·.1)/\Q t (U.set i (.ow (.dd (l++r))))
theorem zgv {i:Nat} (hk:RfE K tk dk):RfC K (tBMU K "dict" zj51 (tVar i) (zl4 tk tNil)) (zl71 i dk):=by
 intro B F H Y U fps Qd Q r hd k
 obtain ⟨ts,hi,hd⟩:=hd
 obtain ⟨a,kvs,fp,x1,x2,_⟩:=r.dd hi
 refine ⟨.ref a,zg2 (F:=F) (H:=H) (U:=U) x1,.inr (.inr (.inl ⟨rfl,.inl ⟨kvs,x2⟩⟩)),?_⟩
 refine hk r.fh r.rv hd λ kd hkd kv F1 H1 e1 i1=>?_
 obtain ⟨l,key,t,rr,rfl,ek,n1,n2,q⟩:=hkd
 have:=zoa i1 ek
 subst this
 have r1:=r.grow e1
 obtain ⟨a',kvs',fp',y1,y2,y3,y4,y5,y6,y7,y8⟩:=r1.dd hi
 rw [x1] at y1;cases y1
 obtain ⟨l',v,r',rfl,el,er⟩:=zmh y4
 have m1:key ∉ l'.map (·.1):=by rw [el];exact n1
 have m2:key ∉ r'.map (·.1):=by rw [er];exact n2
 refine ⟨a,_,key,v,rfl,rfl,y2,zqi m1,?_⟩
 rw [zrn m1 m2]
 rw [uJ,uJ,uK,uK] at y5
 obtain ⟨fA,fj,fB,rfl,h1,h2,h3⟩:=y5.mid (by rw [uA,uA];simpa using congrArg vA el)
 have nd:=uQ.mp y7
 obtain ⟨ndA,ndJB,djA⟩:=uW.mp nd.2
 obtain ⟨ndj,ndB,djB⟩:=uW.mp ndJB
 have fin:∀ b,b∈fA \/ b∈fj \/ b∈fB->b≠a/\F1 b=none:=λ b hb=>by
  refine ⟨λ z=>?_,?_⟩
  ·subst z;exact nd.1 (by simp;exact hb)
  ·rcases hb with z|z|z
   ·exact (h1.dom b z).2
   ·exact (h2.dom b z).2
   ·exact (h3.dom b z).2
 have kp:∀ fq:List Addr,(∀ b∈fq,b∈fA \/ b∈fj \/ b∈fB)->∀ b∈fq,upd H1 a (.dK (l'++r')) b=H1 b/\F1 b=none:=λ fq hq b hb=>⟨zn0 (fin b (hq b hb)).1,(fin b (hq b hb)).2⟩
 have rs2:=r1.upd2 (t2:=.dd (l++rr)) (fp2:=a :: (fA++fB)) (F2:=F1) (H2:=upd H1 a (.dK (l'++r'))) hi rfl x1 (λ b o hb ho=>by rw [zn0 (λ z=>hb (by rw [y6,z];simp))];exact ho) (λ _ _ z=>z)
  (λ b o z=>by rw [zn0 (λ y=>by subst y;rw [y3] at z;cases z)];exact r1.fh b o z) (λ b _ fb _=>fb) (zji (by rw [zi0];exact ⟨by simp,λ ks=>by simp⟩))
  (.dd zi0 y3 (by rw [uJ,uJ,el,er]) (by
   rw [uJ,uJ]
   exact (h1.frame (λ _ _ z=>z) (kp fA λ b hb=>.inl hb)).app (h3.frame (λ _ _ z=>z) (kp fB λ b hb=>.inr (.inr hb)))))
  (uQ.mpr ⟨λ z=>nd.1 (by simp at z ⊢;rcases z with z|z;exact .inl z;exact .inr (.inr z)),uW.mpr ⟨ndA,ndB,λ x hx y hy=>djA x hx y (by simp [hy])⟩⟩)
  (λ b hb=>.inl (by rw [y6];simp at hb ⊢;rcases hb with z|z|z;exact .inl z;exact .inr (.inl z);exact .inr (.inr (.inr z))))
  (λ b hb z=>by
   rw [y6] at hb
   rcases uD.mp hb with y|y
   ·subst y;exact absurd y3 z
   ·exact absurd (fin b (by simpa using y)).2 z)
 refine k t _ q v F1 _ _ fj ⟨rs2,h2.frame (λ _ _ z=>z) (kp fj λ b hb=>.inr (.inl hb)),ndj,λ b hb=>y8 b (by simp [hb]),λ j s ej hs b hb hb2=>?_⟩
 by_cases ji:j=i
 ·simp only [if_pos ji] at hb
  rcases uD.mp hb with z|z
  ·exact (fin b (.inr (.inl hb2))).1 z
  ·rcases uF.mp z with z|z
   ·exact djA b z b (by simp [hb2]) rfl
   ·exact djB b hb2 b z rfl
 ·simp only [if_neg ji] at hb
  have ej':U[j]?=some s:=by rw [vK (Ne.symm ji)] at ej;exact ej
  exact r1.dj i j _ s (Ne.symm ji) hi ej' rfl hs b (by rw [y6];simp [hb2]) hb
theorem RS.appD {B:Bs} {F H:Hp} {Y:_2.St} {U:DSt} {fps:Nat->List Addr} (rs:RS K B F H Y U fps) {i:Nat} {l r:List (Key×T)} {key:Key} {ds:List D} (hi:U[i]?=some (.ow (.dd (l++(key,.li ds) :: r)))) {gv:V} {g:D} (ig:Is K F gv g) :
  ∃ a l' b r' xs,Y.getD i none=some (.ref a)/\H a=some (.dK (l'++(key,.ref b) :: r'))/\l'.map (·.1)=l.map (·.1)/\r'.map (·.1)=r.map (·.1)/\H b=some (.lst xs)/\xs.length=ds.length /\
   ∃ fps',RS K B F (upd H b (.lst (xs++[gv]))) Y (U.set i (.ow (.dd (l++(key,.li (ds++[g])) :: r)))) fps':=by
 obtain ⟨a,kvs,fp,y1,y2,y3,y4,y5,y6,y7,y8⟩:=rs.dd hi
 obtain ⟨l',v,r',rfl,el,er⟩:=zmh y4
 rw [uJ,uJ,uK,uK] at y5
 have ell:l'.length=l.length:=by simpa using congrArg vA el
 obtain ⟨fA,fj,fB,rfl,h1,h2,h3⟩:=y5.mid (by rw [uA,uA];exact ell)
 have nd:=uQ.mp y7
 obtain ⟨ndA,ndJB,djA⟩:=uW.mp nd.2
 obtain ⟨ndj,ndB,djB⟩:=uW.mp ndJB
 have h2:Rt K F H v (.li ds) fj:=h2
 cases h2 with
|@li b xs _ z1 z2 z3 =>
  have nb:∀ c,c=a \/ c∈fA \/ c∈fB->c≠b:=λ c hc z=>by
   subst z
   rcases hc with y|y|y
   ·subst y;exact nd.1 (by simp)
   ·exact djA c y c (by simp) rfl
   ·exact djB c (by simp) c y rfl
  have fF:∀ c,c∈fA \/ c∈fB->F c=none:=λ c hc=>by
   rcases hc with y|y
   ·exact (h1.dom c y).2
   ·exact (h3.dom c y).2
  refine ⟨a,l',b,r',xs,y1,y2,el,er,z1,z3.dlen,_,rs.upd2 (t2:=.dd (l++(key,.li (ds++[g])) :: r)) (fp2:=a :: (fA++([b]++fB))) (F2:=F) (H2:=upd H b (.lst (xs++[gv]))) hi rfl y1 (λ c o hc ho=>by rw [zn0 (λ z=>hc (by rw [y6,z];simp))];exact ho) (λ _ _ z=>z)
   (λ c o z=>by rw [zn0 (λ y=>by subst y;rw [z2] at z;cases z)];exact rs.fh c o z) (λ c _ fc _=>fc) (zji (by rw [zi0];exact ⟨by simp,λ ks=>by simp⟩))
   (.dd (kvs:=l'++(key,.ref b) :: r') (by rw [zn0 (nb a (.inl rfl))];exact y2) y3 (by rw [uJ,uJ,uK,uK,el,er]) (by
    rw [uJ,uJ,uK,uK]
    refine (h1.frame (λ _ _ z=>z) λ c hc=>⟨zn0 (nb c (.inr (.inl hc))),fF c (.inl hc)⟩).app (.cons (.li zi0 z2 (z3.dapp (.cons ig .nil))) (h3.frame (λ _ _ z=>z) λ c hc=>⟨zn0 (nb c (.inr (.inr hc))),fF c (.inr hc)⟩))))
   y7 (λ c hc=>.inl (by rw [y6];exact hc)) (λ c hc z=>?_)⟩
  rw [y6] at hc
  rcases uD.mp hc with y|y
  ·subst y;exact absurd y3 z
  ·rcases uF.mp y with y|y
   ·exact absurd (fF c (.inl y)) z
   ·rcases uF.mp y with y|y
    ·simp at y;subst y;exact absurd z2 z
    ·exact absurd (fF c (.inr y)) z
noncomputable def zjm (i:Nat) (dk dg:DE):DS:=λ E U=>∃ ts,U[i]?=some (.ow (.dd ts))/\dk U λ k=>∃ key,keyD k=some key/\ts.length < sizeLine /\
 ((key ∉ ts.map (·.1)/\dg (U.set i .un) λ g=>E.nx (U.set i (.ow (.dd (ts++[(key,.li [g])]))))) \/ ∃ l ds r,ts=l++(key,.li ds) :: r/\key ∉ l.map (·.1)/\ds.length < sizeLine/\dg (U.set i .un) λ g=>E.nx (U.set i (.ow (.dd (l++(key,.li (ds++[g])) :: r)))))
theorem zzj {i:Nat} (hk:RfE K tk dk) (hg:RfE K tg dg):RfS K (zr01 (tBMU K "list" zph (tBMU K "dict" zmm (tVar i) (zl4 tk (zl4 (zzy tNil) tNil))) (zl4 tg tNil))) (zjm i dk dg):=by
 intro B F H Y U fps E Z r h k
 obtain ⟨ts,hi,hd⟩:=h
 obtain ⟨a,kvs,fp,x1,x2,_⟩:=r.dd hi
 have hil:i < U.length:=(uZ.mp hi).1
 refine ⟨.ref a,zg2 (F:=F) (H:=H) (U:=U) x1,.inr (.inr (.inl ⟨rfl,.inl ⟨kvs,x2⟩⟩)),?_⟩
 refine hk r.fh r.rv hd λ kd hkd kv F1 H1 e1 i1=>?_
 obtain ⟨key,ek,hz,hkd⟩:=hkd
 have:=zoa i1 ek
 subst this
 refine ⟨by rw [sizeLine_eq];simp,λ p hp=>?_⟩
 have r1:=r.grow e1
 have r2:=r1.grow (zb3 (xs:=[]) r1.fh hp).1
 have Fp:=(zb3 (xs:=([]:List V)) r1.fh hp).2
 have z2:H1 a=some (.dK kvs):=e1.h _ _ x2
 have pa:a≠p:=λ z=>by subst z;rw [hp] at z2;cases z2
 have z3:upd H1 p (.lst []) a=some (.dK kvs):=by rw [zn0 pa];exact z2
 obtain ⟨a',kvs',fp',y1,y2,y3,y4,y5,y6,y7,y8⟩:=r2.dd hi
 rw [x1] at y1;cases y1
 rw [z3] at y2;cases y2
 have hlen:kvs.length=ts.length:=by simpa using congrArg vA y4
 refine ⟨a,kvs,key,.ref p,rfl,rfl,z3,by lia,λ v hv=>?_,λ hv=>?_⟩
 ·rcases hkd with ⟨no,_⟩|⟨l,ds,rr,rfl,no,hds,hdg⟩
  ·rw [zy21 (by rw [y4];exact no)] at hv;cases hv
  ·obtain ⟨a4,l',b,r',xs,w1,w2,w3,w4,w5,w6,_⟩:=r2.appD hi (gv:=.non) .non
   rw [x1] at w1;cases w1
   rw [z3] at w2;cases w2
   have m1:key ∉ l'.map (·.1):=by rw [w3];exact no
   rw [zqi m1] at hv;cases hv
   refine ⟨.inl ⟨rfl,xs,SqL.of w5⟩,?_⟩
   refine hg r2.fh (r2.forget i).rv hdg λ g hq gv F4 H4 e4 i4=>?_
   have r4:=r2.grow e4
   obtain ⟨a4,l2,b2,r3,xs2,v1,v2,v3,v4,v5,v6,fps',r5⟩:=r4.appD hi i4
   rw [x1] at v1;cases v1
   rw [e4.h _ _ z3] at v2
   have ev:=u8.inj v2
   have ev:=HO.dK.inj ev
   have el:l'.length=l2.length:=by
    have h1:=congrArg vA w3
    have h2:=congrArg vA v3
    simp only [uA] at h1 h2
    lia
   obtain ⟨_,e6⟩:=List.append_inj ev el
   cases e6
   rw [e4.h _ _ w5] at v5;cases v5
   exact ⟨b,xs,gv,rfl,rfl,e4.h _ _ w5,by lia,k.nx r5 hq⟩
 ·rcases hkd with ⟨no,hdg⟩|⟨l,ds,rr,rfl,no,_,_⟩
  ·have nw:=r1.newOk hp
   have npf:p ∉ a :: fp':=by rw [<- y6];exact nw.2 i _ hi rfl
   have npa:p≠a:=λ z=>npf (by rw [z];simp)
   have hpl:upd H1 p (.lst []) p=some (.lst []):=zi0
   have nd:=uQ.mp y7
   have fF:∀ c∈fp',F1 c=none:=λ c hc=>(y5.dom c hc).2
   have r3:=r2.upd2 (t2:=.dd (ts++[(key,.li [])])) (fp2:=a :: (fp'++[p])) (F2:=F1) (H2:=upd (upd H1 p (.lst [])) a (.dK (kvs++[(key,.ref p)]))) hi rfl x1 (λ c o hc ho=>by rw [zn0 (λ z=>hc (by rw [y6,z];simp))];exact ho) (λ _ _ z=>z)
    (λ c o z=>by rw [zn0 (λ y=>by subst y;rw [y3] at z;cases z)];exact r2.fh c o z) (λ c _ fc _=>fc) (zji (by rw [zi0];exact ⟨by simp,λ ks=>by simp⟩))
    (.dd (kvs:=kvs++[(key,.ref p)]) zi0 y3 (by rw [uJ,uJ,y4];rfl) (by
     rw [uJ,uJ]
     refine (y5.frame (λ _ _ z=>z) λ c hc=>⟨zn0 (λ z=>nd.1 (by rw [<- z];exact hc)),fF c hc⟩).app ?_
     have:=RtAll.cons (Rt.li (K:=K) (F:=F1) (H:=upd (upd H1 p (.lst [])) a (.dK (kvs++[(key,.ref p)]))) (a:=p) (xs:=[]) (ds:=[]) (by rw [zn0 npa];exact hpl) Fp .nil) .nil
     exact this))
    (uQ.mpr ⟨λ z=>(uF.mp z).elim nd.1 λ y=>npa (by simp at y;exact y.symm),uW.mpr ⟨nd.2,by simp,λ x hx y hy e=>npf (by simp at hy;rw [<- hy,<- e];simp [hx])⟩⟩)
    (λ c hc=>by
     rcases uD.mp hc with y|y
     ·exact .inl (by rw [y6,y];simp)
     ·rcases uF.mp y with y|y
      ·exact .inl (by rw [y6];simp [y])
      ·simp at y;subst y;exact .inr nw)
    (λ c hc z=>by
     rw [y6] at hc
     rcases uD.mp hc with y|y
     ·subst y;exact absurd y3 z
     ·exact absurd (fF c y) z)
   have hi3:(U.set i (.ow (.dd (ts++[(key,.li [])]))))[i]?=some (.ow (.dd (ts++(key,.li []) :: []))):=vO hil
   have r3:RS K B F1 (upd (upd H1 p (.lst [])) a (.dK (kvs++[(key,.ref p)]))) Y (U.set i (.ow (.dd (ts++[(key,.li [])])))) _:=r3
   have hp3:upd (upd H1 p (.lst [])) a (.dK (kvs++[(key,.ref p)])) p=some (.lst []):=by rw [zn0 npa];exact hpl
   have ha3:upd (upd H1 p (.lst [])) a (.dK (kvs++[(key,.ref p)])) a=some (.dK (kvs++[(key,.ref p)])):=zi0
   refine ⟨.inl ⟨rfl,[],SqL.of hp3⟩,?_⟩
   have rf3:=r3.forget i
   rw [yD] at rf3
   refine hg rf3.fh rf3.rv hdg λ g hq gv F4 H4 e4 i4=>?_
   have r4:=r3.grow e4
   obtain ⟨a4,l2,b2,r5,xs2,v1,v2,v3,v4,v5,v6,fps',r6⟩:=r4.appD hi3 i4
   rw [x1] at v1;cases v1
   rw [e4.h _ _ ha3] at v2
   have ev:=HO.dK.inj (u8.inj v2)
   have el:kvs.length=l2.length:=by
    have h2:=congrArg vA v3
    simp only [uA] at h2
    lia
   obtain ⟨_,e6⟩:=List.append_inj ev el
   cases e6
   rw [e4.h _ _ hp3] at v5;cases v5
   rw [yD] at r6
   exact ⟨p,[],gv,rfl,rfl,e4.h _ _ hp3,by rw [sizeLine_eq];simp,k.nx r6 hq⟩
  ·obtain ⟨l',v',r',ekv,el,er⟩:=zmh y4
   have m1:key ∉ l'.map (·.1):=by rw [el];exact no
   rw [ekv,zqi m1] at hv;cases hv
noncomputable def zg71 (dp:DP):DE:=λ U Q=>dp U λ _ _ u=>∃ kvs ns,u=.dk kvs/\kvs.map (·.2)=ns.map uB/\ns≠[]/\∀ M∈ns,(∀ x∈ns,x<=M)->Q (.int M)
theorem zgn {F:Hp}:∀ {r:List (Key×V)} {s:List (Key×D)} {ns:List Int},KvIs K F r s->s.map (·.2)=ns.map uB->r.map (·.2)=ns.map V.int
|_,_,[],.nil,_=>rfl
|_,_,_ :: _,.nil,e=>by simp at e
|_,_,[],.cons _ _,e=>by simp at e
|_,_,n :: ns,.cons h r,e=>by
  simp only [uK,List.cons.injEq] at e ⊢
  obtain ⟨e1,e2⟩:=e
  subst e1
  exact ⟨h.int_inv,zgn r e2⟩
theorem zvx (hp:RfP K ta dp):RfE K (tCB zf61 (zl4 (zkz K "dict" zz61 ta) tNil)) (zg71 dp):=by
 intro F H Y U Qd Q s rv h k
 refine hp s rv h λ i p u hu v F1 H1 e1 at1=>?_
 obtain ⟨kvs,ns,rfl,ei,hne,q⟩:=hu
 obtain ⟨fn,hr⟩:=at1.rt (rv.ext e1)
 cases hr with
|@dk a kvs' _ h1 h2 h3 =>
  refine ⟨.inr (.inr (.inl ⟨rfl,.inl ⟨kvs',h1⟩⟩)),a,kvs',rfl,rfl,h1,λ p hp=>?_⟩
  have ex:=zg6 (o:=.ext (vwH p a)) e1.fh hp
  have pa:a≠p:=λ z=>by subst z;rw [hp] at h1;cases h1
  exact ⟨p,a,kvs',ns,rfl,zi0,by rw [zn0 pa];exact h1,zgn h3 ei,hne,λ M hM hx=>k _ (q M hM hx) _ F1 _ (e1.trans ex) (.int M)⟩
noncomputable def fAny:List D->(D->Prop)->Prop
|[.list ds],Q=>∃ ns,zjj ds=some ns/\Q (.bool (ns.any λ n=>n != 0))
|_,_=>False
theorem zc91:CB K (rAny K) fAny:=by
 intro F H vs ds Qd Q s hv h k
 unfold fAny at h
 split at h
 ·obtain ⟨v,rfl,hw⟩:=vw1 hv
  obtain ⟨p,xs,rfl,h1,i1⟩:=hw.list s
  obtain ⟨ns,e,q⟩:=h
  have:=zj8 i1 e
  subst this
  exact ⟨p,ns,rfl,h1,k _ q _ F H (Ext.refl s) (.bl _)⟩
 ·exact h.elim
noncomputable def zb51 (de:DE):DE:=λ U Q=>de U λ d=>∃ i,d=.int i/\Q (.int (Builtin.Int.intBits i:Nat))
theorem zws (h:RfE K te de):RfE K (zkz K "int" zy61 te) (zb51 de):=by
 intro F H Y U Qd Q s rv hd k
 refine h s rv hd λ d hx v F1 H1 e1 i1=>?_
 obtain ⟨i,rfl,hx⟩:=hx
 cases i1.int_inv
 exact ⟨rfl,i,rfl,rfl,k _ hx _ F1 H1 e1 (.int _)⟩
noncomputable def zcu (dA:DF):DF:=λ U Q=>dA U λ ds=>∃ i j c:Int,ds=[.int i,.int j,.int c]/\c≠0/\(-(2 ^ 40)<=i/\i < 2 ^ 40/\-(2 ^ 40)<=j/\j < 2 ^ 40/\-(2 ^ 20)<=c/\c < 2 ^ 20)/\∃ n:Nat,Builtin.Range.rangeSize i j c=n/\n<=1000/\Q ((uM n).map λ k:Nat=>.int (i+k * c))
theorem zzn (h:RfA K tA dA):RfF K (tCB zlv (zl4 (tCB zf51 tA) tNil)) (zcu dA):=by
 intro F H Y U Qd Q s rv hd k
 refine h s rv hd λ ds hx vs F1 H1 e1 i1=>?_
 obtain ⟨i,j,c,rfl,c0,hb,n,en,hn,q⟩:=hx
 obtain ⟨v1,v2,v3,rfl,j1,j2,j3⟩:∃ v1 v2 v3,vs=[v1,v2,v3]/\Is K F1 v1 (.int i)/\Is K F1 v2 (.int j)/\Is K F1 v3 (.int c):=by
  cases i1 with
 |cons a r=>cases r with
  |cons b r=>cases r with
   |cons c r=>cases r;exact ⟨_,_,_,rfl,a,b,c⟩
 cases j1.int_inv
 cases j2.int_inv
 cases j3.int_inv
 refine ⟨i,j,c,rfl,c0,⟨hb.2.2.2.2.1,hb.2.2.2.2.2⟩,λ p hp=>⟨p,i,j,c,n,rfl,zi0,hb,en,hn,λ l hl=>?_⟩⟩
 have ex:=zg6 (o:=.ext (rngH p i j c)) e1.fh hp
 obtain ⟨ex2,fn⟩:=zb3 (xs:=(uM n).map λ k:Nat=>V.int (i+k * c)) ex.fh hl
 have hn0:H l=none:=zd1 (e1.trans ex) hl
 refine k _ q l _ F1 _ ((e1.trans ex).trans ex2) hn0 zi0 fn ?_
 have all:∀ l:List Nat,IsAll K F1 (l.map λ k:Nat=>V.int (i+k * c)) (l.map λ k:Nat=>uB (i+k * c)):=λ l=>by
  induction l with
 |nil=>exact .nil
 |cons x l ih=>exact .cons (.int _) ih
 exact all _
theorem zp11 {F H:Hp} {a:Addr} {xs:List V} {ds:List D} (s:Same F H) (h:SqL K H a xs) (i:IsAll K F xs ds):W1 K (Itv K a xs) F H ds.reverse:=by
 have el:=i.dlen
 refine ⟨λ j hj=>⟨h,by rw [xD] at hj;lia⟩,⟨h,by rw [xD];exact el⟩,λ j x H3 d e y=>?_⟩
 obtain ⟨y1,y2⟩:=y
 subst y2
 have hj:j < ds.length:=by have:=(uZ.mp e).1;rwa [xD] at this
 rw [List.getElem?_reverse hj] at e
 rw [el] at y1
 obtain ⟨u,hu,iu⟩:=i.dget e
 rw [y1] at hu;cases hu
 exact ⟨F,Ext.refl s,iu⟩
noncomputable def dRev (dA:DF):DF:=λ U Q=>dA U λ ds=>match ds with
|[.list a]=>Q a.reverse
|_=>False
theorem zd01 (h:RfA K tA dA):RfI K (iRev K tA) (dRev dA):=by
 intro F H Y U Qd R s rv hd k
 refine h s rv hd λ ds hx vs F1 H1 e1 i1=>?_
 split at hx
 ·obtain ⟨v,rfl,w1⟩:=all1 i1
  obtain ⟨p,xs,rfl,h1,j1⟩:=w1.list_inv
  exact ⟨p,xs,rfl,e1.fh.seq h1,k _ hx _ F1 H1 e1 λ F2 H2 s2 t2=>zp11 t2 (t2.seq (s2.seq h1)) (j1.mono s2)⟩
 ·exact hx.elim
noncomputable def zhn (p:DSpT) (d1:DE) (dn:DN):DN:=λ U Q=>d1 U λ x1=>dn U λ t=>p [.d x1,.b t] λ r _=>Q r
theorem zel {p:DSpT} {E:XK} {t1:TE} {d1:DE} {dn:DN} (h1:RfE K t1 d1) (h4:RfN K te dn):RfN K (zhk (spT K p) [] E (zl4 t1 (zl4 te tNil))) (zhn p d1 dn):=by
 intro F H Y U Qd Q s rv hd k
 refine h1 s rv hd λ x1 hd v1 F1 H1 e1 i1=>h4 e1.fh (rv.ext e1) hd λ t hd v4 F4 H4 fp e4 hr nd fr=>?_
 have e14:=e1.trans e4
 refine ⟨F4,_,fp++[],none,_,e4.fh,.d (i1.mono e4.f) (.b hr nd .nil),λ b hb=>by simp [ofp] at hb,hd,λ r2 t2 q2 v F' H' fpr fpo post=>?_⟩
 exact k _ q2 v F' H' fpr (e14.trans ⟨λ b o hb=>post.hh b o (by simp [ofp]) hb,post.ff,post.fh,post.nw⟩) post.rt post.nd λ a ha=>zd1 e14 (post.fr a ha)
end
section
variable (dk de dg:DE) (dA:DF) (dp:DP) (dn:DN) (i:Nat) (U:DSt)
theorem zz21 (Q:T->DSt->Prop):cDD1 dk de U Q=(dk U λ k=>de U λ v=>∃ key,keyD k=some key/\Q (.dd [(key,.fz v)]) U):=rfl
theorem zcx (Q:Bool->Prop):zi51 i U Q=∃ ts,U[i]?=some (.ow (.dd ts))/\Q (!ts.isEmpty):=rfl
theorem zhu (Q:D->Prop):zq51 i U Q=∃ ts ns,U[i]?=some (.ow (.dd ts))/\ts.map (·.1)=ns.map uP/\ns≠[]/\∀ M∈ns,(∀ x∈ns,M<=x)->Q (.int M):=rfl
theorem znv (Q:T->DSt->Prop):zl71 i dk U Q=∃ ts,U[i]?=some (.ow (.dd ts))/\dk U λ k=>∃ l key t r,ts=l++(key,t) :: r/\keyD k=some key/\key ∉ l.map (·.1)/\key ∉ r.map (·.1)/\Q t (U.set i (.ow (.dd (l++r)))):=rfl
theorem zwj (E:DEnds):zjm i dk dg E U=∃ ts,U[i]?=some (.ow (.dd ts))/\dk U λ k=>∃ key,keyD k=some key/\ts.length < sizeLine /\
 ((key ∉ ts.map (·.1)/\dg (U.set i .un) λ g=>E.nx (U.set i (.ow (.dd (ts++[(key,.li [g])]))))) \/ ∃ l ds r,ts=l++(key,.li ds) :: r/\key ∉ l.map (·.1)/\ds.length < sizeLine/\dg (U.set i .un) λ g=>E.nx (U.set i (.ow (.dd (l++(key,.li (ds++[g])) :: r))))):=rfl
theorem zat (Q:D->Prop):zg71 dp U Q=dp U λ _ _ u=>∃ kvs ns,u=.dk kvs/\kvs.map (·.2)=ns.map uB/\ns≠[]/\∀ M∈ns,(∀ x∈ns,x<=M)->Q (.int M):=rfl
theorem zsu (Q:D->Prop):zb51 de U Q=de U λ d=>∃ i,d=.int i/\Q (.int (Builtin.Int.intBits i:Nat)):=rfl
theorem zep (Q:List D->Prop):zcu dA U Q=dA U λ ds=>∃ i j c:Int,ds=[.int i,.int j,.int c]/\c≠0/\(-(2 ^ 40)<=i/\i < 2 ^ 40/\-(2 ^ 40)<=j/\j < 2 ^ 40/\-(2 ^ 20)<=c/\c < 2 ^ 20)/\∃ n:Nat,Builtin.Range.rangeSize i j c=n/\n<=1000/\Q ((uM n).map λ k:Nat=>.int (i+k * c)):=rfl
theorem zr41 (Q:List D->Prop):dRev dA U Q=dA U λ ds=>match ds with
|[.list a]=>Q a.reverse
|_=>False:=rfl
theorem zsk (p:DSpT) (Q:T->Prop):zhn p de dn U Q=de U λ x1=>dn U λ t=>p [.d x1,.b t] λ r _=>Q r:=rfl
end
end _4
namespace _3
open PySem PySem.Spec PyProof.Rows _2
noncomputable def zgg (h:Heap) (T:Addr) (a b c:Value):Prop:=h.get? T=some { cls:=.type "tuple",data:=.seq #[a,b,c] }
theorem zc4 {prog:Program} {w:World} {A:Around} {E:Value->Shared->Prop} {s:Shared} {T:Addr} {a b c x:Value} {k:Nat} {Q:Unit->Shared->Prop} (hT:zgg s.heap T a b c)
  (h:∀ h',h'.get? T=some { cls:=.type "tuple",data:=.seq ((#[a,b,c]:Array Value).setIfInBounds k x) }->Heap.SameBut T s.heap h'->Q () { s with heap:=h' }) :
  wpAny (model prog w) A (updateSeq T (·.setIfInBounds k x)) Q E s:=by
 refine wpAny_updateSeq hT rfl (h _ ?_ (Heap.SameBut.update ..))
 rw [xL _ hT rfl]
 simp [Obj.mapSeq]
structure YAp (z TI TO i1 i2 i3:Addr):Prop extends ZAp z TI TO i1 i2 where
 i3z:i3≠z
 TIi3:TI≠i3
 TOi3:TO≠i3
 i13:i1≠i3
 i23:i2≠i3
structure YSt (z TI TO i1 i2 i3:Addr) (f0:Value) (st1 st2 st3:Nat->Heap->Prop) (i:Nat) (h:Heap):Prop where
 z:IsZip h z TI TO f0
 TI:zgg h TI (.ref i1) (.ref i2) (.ref i3)
 TO:∃ a b c,zgg h TO a b c
 s1:st1 i h
 s2:st2 i h
 s3:st3 i h
section
variable {X:Cx} {pins:List (Addr×Obj)} {Y:St} {H:Hp} {s:Shared} {J1 J2 J3:It} {z TI TO i1 i2 i3:Addr} {st1 st2 st3:Nat->Heap->Prop} {i:Nat}
theorem zhl {A:Around} {E:Value->Shared->Prop} {Q:Value->Shared->Prop} (N1:Nx X.prog X.w X.K J1 i1 st1) (N2:Nx X.prog X.w X.K J2 i2 st2) (N3:Nx X.prog X.w X.K J3 i3 st3) (D:YAp z TI TO i1 i2 i3) (I:Inv X pins Y H s)
  (fz:FpOk X pins H z) (fTO:FpOk X pins H TO) (f1:FpOk X pins H i1) (f2:FpOk X pins H i2) (f3:FpOk X pins H i3) (S:YSt z TI TO i1 i2 i3 .none st1 st2 st3 i s.heap) (g1:J1.go i H) (g2:J2.go i H) (g3:J3.go i H)
  (hQ:∀ p x1 x2 x3 s',H p=none->p≠z->p≠TI->p≠TO->p≠i1->p≠i2->p≠i3->J1.yld i H x1 H->J2.yld i H x2 H->J3.yld i H x3 H->Inv X pins Y (upd H p (.tup [x1,x2,x3])) s'->YSt z TI TO i1 i2 i3 (rawInt p) st1 st2 st3 (i+1) s'.heap->Q (.ref p) s') :
  wpAny (model X.prog X.w) A (Builtin.«zip.__next__» ⟨[.ref z],[]⟩) (λ fin s'=>∃ v,fin=.done (.ret v)/\Q v s') E s:=by
 obtain ⟨hz,hTI,⟨a,b,c,hTO⟩,h1,h2,h3⟩:=S
 show wpAny _ _ (field (.ref z) 2 >>= _) _ _ _
 refine wpAny_bind (wpAny_field hz rfl (x:=.bool false) rfl ?_)
 show wpAny _ _ (field (.ref z) 3 >>= _) _ _ _
 refine wpAny_bind (wpAny_field hz rfl (x:=.ref TI) rfl ?_)
 refine wpAny_bind (wpAny_seqItems hTI rfl ?_)
 show wpAny _ _ (Builtin.SmallTypes.ownedTupleIsFree (.ref z) >>= _) _ _ _
 refine wpAny_bind ?_
 unfold Builtin.SmallTypes.ownedTupleIsFree
 refine wpAny_bind (wpAny_field hz rfl (x:=.none) rfl (wpAny_pure ?_))
 simp only [if_true]
 refine wpAny_bind (wpAny_rule ?_)
 refine wpAny_bind (wpAny_field hz rfl (x:=.ref TO) rfl ?_)
 refine wpAny_bind (wpAny_setField_rec hz (by simp) λ h₁ hz₁ hs₁=>?_)
 replace hz₁:IsZip h₁ z TI TO .ellipsis:=hz₁
 have I1:Inv X pins Y H { s with heap:=h₁ }:=za1 (tk:=s.toks) I fz hs₁
 refine wpAny_bind ?_
 simp only [x9,yA,xN,xP]
 refine wpAny_bind (wpAny_bind (wpAny_onRaise ?_))
 show wpAny _ _ (Builtin.SmallTypes.nextOf (.ref i1) >>= _) _ _ _
 have a1:st1 i h₁:=N1.keep _ _ _ h1 λ o e=>hs₁.extBut _ _ D.i1z e
 refine wpAny_bind (N1.item X rfl rfl rfl _ i pins _ Y H _ _ I1 a1 g1 λ x x1 h₂ tk₂ r1 y1 b1 hs₂=>wpAny_pure ?_)
 replace hs₂:Heap.SameBut i1 h₁ h₂:=hs₂
 have I2:Inv X pins Y H { s with heap:=h₂,toks:=tk₂ }:=za1 (s:={ s with heap:=h₁ }) (tk:=tk₂) I1 f1 hs₂
 have hTO₂:zgg h₂ TO a b c:=hs₂.extBut _ _ D.TOi1 (hs₁.extBut _ _ D.TOz hTO)
 refine wpAny_bind (wpAny_seqItems hTO₂ rfl ?_)
 refine wpAny_bind (zc4 (s:={ s with heap:=h₂,toks:=tk₂ }) hTO₂ λ h₃ hTO₃ hs₃=>?_)
 replace hTO₃:zgg h₃ TO x b c:=hTO₃
 replace hs₃:Heap.SameBut TO h₂ h₃:=hs₃
 have I3:Inv X pins Y H { s with heap:=h₃,toks:=tk₂ }:=za1 (s:={ s with heap:=h₂,toks:=tk₂ }) (tk:=tk₂) I2 fTO hs₃
 refine wpAny_bind (wpAny_letGo (wpAny_pure ?_))
 refine wpAny_bind (wpAny_bind (wpAny_onRaise ?_))
 show wpAny _ _ (Builtin.SmallTypes.nextOf (.ref i2) >>= _) _ _ _
 have a2:st2 i h₃:=N2.keep _ _ _ h2 λ o e=>hs₃.extBut _ _ D.TOi2.symm (hs₂.extBut _ _ D.i12.symm (hs₁.extBut _ _ D.i2z e))
 refine wpAny_bind (N2.item X rfl rfl rfl _ i pins _ Y H _ _ I3 a2 g2 λ y x2 h₄ tk₄ r2 y2 b2 hs₄=>wpAny_pure ?_)
 replace hs₄:Heap.SameBut i2 h₃ h₄:=hs₄
 have I4:Inv X pins Y H { s with heap:=h₄,toks:=tk₄ }:=za1 (s:={ s with heap:=h₃,toks:=tk₂ }) (tk:=tk₄) I3 f2 hs₄
 have hTO₄:zgg h₄ TO x b c:=hs₄.extBut _ _ D.TOi2 hTO₃
 refine wpAny_bind (wpAny_seqItems hTO₄ rfl ?_)
 refine wpAny_bind (zc4 (s:={ s with heap:=h₄,toks:=tk₄ }) hTO₄ λ h₅ hTO₅ hs₅=>?_)
 replace hTO₅:zgg h₅ TO x y c:=hTO₅
 replace hs₅:Heap.SameBut TO h₄ h₅:=hs₅
 have I5:Inv X pins Y H { s with heap:=h₅,toks:=tk₄ }:=za1 (s:={ s with heap:=h₄,toks:=tk₄ }) (tk:=tk₄) I4 fTO hs₅
 refine wpAny_bind (wpAny_letGo (wpAny_pure ?_))
 refine wpAny_bind (wpAny_bind (wpAny_onRaise ?_))
 show wpAny _ _ (Builtin.SmallTypes.nextOf (.ref i3) >>= _) _ _ _
 have a3:st3 i h₅:=N3.keep _ _ _ h3 λ o e=>hs₅.extBut _ _ D.TOi3.symm (hs₄.extBut _ _ D.i23.symm (hs₃.extBut _ _ D.TOi3.symm (hs₂.extBut _ _ D.i13.symm (hs₁.extBut _ _ D.i3z e))))
 refine wpAny_bind (N3.item X rfl rfl rfl _ i pins _ Y H _ _ I5 a3 g3 λ t x3 h₆ tk₆ r3 y3 b3 hs₆=>wpAny_pure ?_)
 replace hs₆:Heap.SameBut i3 h₅ h₆:=hs₆
 have I6:Inv X pins Y H { s with heap:=h₆,toks:=tk₆ }:=za1 (s:={ s with heap:=h₅,toks:=tk₄ }) (tk:=tk₆) I5 f3 hs₆
 have hTO₆:zgg h₆ TO x y c:=hs₆.extBut _ _ D.TOi3 hTO₅
 refine wpAny_bind (wpAny_seqItems hTO₆ rfl ?_)
 refine wpAny_bind (zc4 (s:={ s with heap:=h₆,toks:=tk₆ }) hTO₆ λ h₇ hTO₇ hs₇=>?_)
 replace hTO₇:zgg h₇ TO x y t:=hTO₇
 replace hs₇:Heap.SameBut TO h₆ h₇:=hs₇
 have I7:Inv X pins Y H { s with heap:=h₇,toks:=tk₆ }:=za1 (s:={ s with heap:=h₆,toks:=tk₆ }) (tk:=tk₆) I6 fTO hs₇
 refine wpAny_bind (wpAny_letGo (wpAny_pure (wpAny_pure ?_)))
 refine wpAny_bind (wpAny_seqItems hTO₇ rfl ?_)
 refine wpAny_bind (wpAny_newTuple ?_)
 have hz₇:IsZip h₇ z TI TO .ellipsis:=hs₇.extBut _ _ D.TOz.symm (hs₆.extBut _ _ D.i3z.symm (hs₅.extBut _ _ D.TOz.symm (hs₄.extBut _ _ D.i2z.symm (hs₃.extBut _ _ D.TOz.symm (hs₂.extBut _ _ D.i1z.symm hz₁)))))
 have hTI₇:zgg h₇ TI (.ref i1) (.ref i2) (.ref i3):=hs₇.extBut _ _ D.TITO (hs₆.extBut _ _ D.TIi3 (hs₅.extBut _ _ D.TITO (hs₄.extBut _ _ D.TIi2 (hs₃.extBut _ _ D.TITO (hs₂.extBut _ _ D.TIi1 (hs₁.extBut _ _ D.TIz hTI))))))
 have c1:st1 (i+1) h₇:=N1.keep _ _ _ b1 λ o e=>hs₇.extBut _ _ D.TOi1.symm (hs₆.extBut _ _ D.i13 (hs₅.extBut _ _ D.TOi1.symm (hs₄.extBut _ _ D.i12 (hs₃.extBut _ _ D.TOi1.symm e))))
 have c2:st2 (i+1) h₇:=N2.keep _ _ _ b2 λ o e=>hs₇.extBut _ _ D.TOi2.symm (hs₆.extBut _ _ D.i23 (hs₅.extBut _ _ D.TOi2.symm e))
 have c3:st3 (i+1) h₇:=N3.keep _ _ _ b3 λ o e=>hs₇.extBut _ _ D.TOi3.symm e
 have hp:H h₇.objs.size=none:=I7.hok.fresh (uG _)
 have I8:Inv X pins Y (upd H h₇.objs.size (.tup [x1,x2,x3])) { s with heap:=h₇.push { cls:=.type "tuple",data:=.seq #[x,y,t] },toks:=tk₆ }:=by
  refine I7.laid (t':=tk₆) (o:=.tup [x1,x2,x3]) (λ b ob q=>uH _ q) (uG _) ?_
  exact ⟨by show 3<=sizeLine;rw [sizeLine_eq];decide,[x,y,t],.cons r1 (.cons r2 (.cons r3 .nil)),_,uT _ rfl,rfl,0,rfl⟩
 have lt:∀ {c:Addr} {o:Obj},h₇.get? c=some o->h₇.objs.size≠c:=λ e=>xX (uO e)
 obtain ⟨o1,e1,_⟩:=N1.obj _ _ c1
 obtain ⟨o2,e2,_⟩:=N2.obj _ _ c2
 obtain ⟨o3,e3,_⟩:=N3.obj _ _ c3
 have fz':FpOk X pins (upd H h₇.objs.size (.tup [x1,x2,x3])) z:=⟨by rw [zn0 (lt hz₇).symm];exact fz.1,fz.2⟩
 show wpAny _ _ (Builtin.SmallTypes.ownedTupleHandOut (.ref z) (.ref h₇.objs.size) >>= _) _ _ _
 refine wpAny_bind ?_
 unfold Builtin.SmallTypes.ownedTupleHandOut
 have hz₈:IsZip (h₇.push { cls:=.type "tuple",data:=.seq #[x,y,t] }) z TI TO .ellipsis:=uH _ hz₇
 refine wpAny_bind (wpAny_setField_rec hz₈ (by simp) λ h₉ hz₉ hs₉=>?_)
 replace hz₉:IsZip h₉ z TI TO (rawInt h₇.objs.size):=hz₉
 have I9:Inv X pins Y (upd H h₇.objs.size (.tup [x1,x2,x3])) { s with heap:=h₉,toks:=tk₆ }:=za1 (s:={ s with heap:=h₇.push { cls:=.type "tuple",data:=.seq #[x,y,t] },toks:=tk₆ }) (tk:=tk₆) I8 fz' hs₉
 refine wpAny_setField_rec hz₉ (by simp) λ k hk hsk=>?_
 replace hk:IsZip k z TI TO (rawInt h₇.objs.size):=hk
 have Ik:Inv X pins Y (upd H h₇.objs.size (.tup [x1,x2,x3])) { s with heap:=k,toks:=tk₆ }:=za1 (s:={ s with heap:=h₉,toks:=tk₆ }) (tk:=tk₆) I9 fz' hsk
 have up:∀ c o,c≠z->h₇.get? c=some o->k.get? c=some o:=λ c o c1 e=>hsk.extBut _ _ c1 (hs₉.extBut _ _ c1 (uH _ e))
 refine wpAny_pure ⟨_,rfl,?_⟩
 exact hQ h₇.objs.size x1 x2 x3 _ hp (lt hz₇) (lt hTI₇) (lt hTO₇) (lt e1) (lt e2) (lt e3) y1 y2 y3 Ik ⟨hk,up _ _ D.TIz hTI₇,⟨_,_,_,up _ _ D.TOz hTO₇⟩,N1.keep _ _ _ c1 λ o e=>up _ o D.i1z e,N2.keep _ _ _ c2 λ o e=>up _ o D.i2z e,N3.keep _ _ _ c3 λ o e=>up _ o D.i3z e⟩
theorem zfo {A:Around} {E:Value->Shared->Prop} {Q:Fin->Shared->Prop} (hh:A.handled=none) (N1:Nx X.prog X.w X.K J1 i1 st1) (D:YAp z TI TO i1 i2 i3) (I:Inv X pins Y H s)
  (fz:FpOk X pins H z) (f1:FpOk X pins H i1) (S:YSt z TI TO i1 i2 i3 .none st1 st2 st3 i s.heap) (g:J1.stop i H)
  (hE:∀ h' e tk,Inv X pins Y H { s with heap:=h',toks:=tk }->(∃ o,h'.get? e=some o/\o.cls=.type "StopIteration")->E (.ref e) { s with heap:=h',toks:=tk }) :
  wpAny (model X.prog X.w) A (Builtin.«zip.__next__» ⟨[.ref z],[]⟩) Q E s:=by
 obtain ⟨hz,hTI,⟨a,b,c,hTO⟩,h1,h2,h3⟩:=S
 show wpAny _ _ (field (.ref z) 2 >>= _) _ _ _
 refine wpAny_bind (wpAny_field hz rfl (x:=.bool false) rfl ?_)
 show wpAny _ _ (field (.ref z) 3 >>= _) _ _ _
 refine wpAny_bind (wpAny_field hz rfl (x:=.ref TI) rfl ?_)
 refine wpAny_bind (wpAny_seqItems hTI rfl ?_)
 show wpAny _ _ (Builtin.SmallTypes.ownedTupleIsFree (.ref z) >>= _) _ _ _
 refine wpAny_bind ?_
 unfold Builtin.SmallTypes.ownedTupleIsFree
 refine wpAny_bind (wpAny_field hz rfl (x:=.none) rfl (wpAny_pure ?_))
 simp only [if_true]
 refine wpAny_bind (wpAny_rule ?_)
 refine wpAny_bind (wpAny_field hz rfl (x:=.ref TO) rfl ?_)
 refine wpAny_bind (wpAny_setField_rec hz (by simp) λ h₁ hz₁ hs₁=>?_)
 replace hz₁:IsZip h₁ z TI TO .ellipsis:=hz₁
 have I1:Inv X pins Y H { s with heap:=h₁ }:=za1 (tk:=s.toks) I fz hs₁
 refine wpAny_bind ?_
 simp only [x9,yA,xN,xP]
 refine wpAny_bind (wpAny_bind (wpAny_onRaise ?_))
 show wpAny _ _ (Builtin.SmallTypes.nextOf (.ref i1) >>= _) _ _ _
 have a1:st1 i h₁:=N1.keep _ _ _ h1 λ o e=>hs₁.extBut _ _ D.i1z e
 refine wpAny_bind (N1.done X rfl rfl rfl _ i pins _ Y H _ _ hh I1 a1 g λ h₂ e hs₂ he=>?_)
 replace hs₂:Heap.ExtBut i1 h₁ h₂:=hs₂
 have I2:Inv X pins Y H { s with heap:=h₂ }:=zpf (s:={ s with heap:=h₁ }) (tk:=s.toks) I1 f1 hs₂
 obtain ⟨oe,hoe,hce⟩:=he
 have hz₂:IsZip h₂ z TI TO .ellipsis:=hs₂ _ _ D.i1z.symm hz₁
 have hez:e≠z:=λ x=>by subst x;rw [hz₂] at hoe;cases hoe;simp at hce
 exact wpAny_setField_rec hz₂ (by simp) λ h₃ _ hs₃=>hE h₃ e s.toks (za1 (s:={ s with heap:=h₂ }) (tk:=s.toks) I2 fz hs₃) ⟨oe,hs₃.extBut _ _ hez hoe,hce⟩
end
noncomputable def Ity (J1 J2 J3:It):It:=⟨λ i H=>J1.go i H/\J2.go i H/\J3.go i H,λ i H x H'=>∃ x1 x2 x3 p,J1.yld i H x1 H/\J2.yld i H x2 H/\J3.yld i H x3 H/\H p=none/\x=.ref p/\H'=upd H p (.tup [x1,x2,x3]),λ i H=>J1.stop i H⟩
theorem zwk {P:Program} {w:World} {K:Fg} {elts:List Expr} {c:_} {pos:Pos} {J1 J2 J3:It} {z TI TO i1 i2 i3:Addr} {st1 st2 st3:Nat->Heap->Prop} (N1:Nx P w K J1 i1 st1) (N2:Nx P w K J2 i2 st2) (N3:Nx P w K J3 i3 st3) (D:YAp z TI TO i1 i2 i3) :
  Turn P w K (.Tuple elts c pos) (Ity J1 J2 J3) [z,TI,TO,i1,i2,i3] z (YSt z TI TO i1 i2 i3 .none st1 st2 st3) where
 mem:=by simp
 obj:=λ i h S b hb=>by
  obtain ⟨hz,hTI,⟨a,b',c',hTO⟩,h1,h2,h3⟩:=S
  simp at hb
  rcases hb with rfl|rfl|rfl|rfl|rfl|rfl
  ·exact ⟨_,hz,λ v q=>by cases q⟩
  ·exact ⟨_,hTI,λ v q=>by cases q⟩
  ·exact ⟨_,hTO,λ v q=>by cases q⟩
  ·exact N1.obj _ _ h1
  ·exact N2.obj _ _ h2
  ·exact N3.obj _ _ h3
 keep:=λ i h h' S k=>by
  obtain ⟨hz,hTI,⟨a,b',c',hTO⟩,h1,h2,h3⟩:=S
  exact ⟨k _ (by simp) _ hz,k _ (by simp) _ hTI,⟨a,b',c',k _ (by simp) _ hTO⟩,N1.keep _ _ _ h1 λ o e=>k _ (by simp) _ e,N2.keep _ _ _ h2 λ o e=>k _ (by simp) _ e,N3.keep _ _ _ h3 λ o e=>k _ (by simp) _ e⟩
 item:=by
  intro X hP hw hK hc i pins s Y H E I hf S hg
  subst hP hw hK
  have hT:s.TypeIs (.ref z) "zip":=⟨_,S.z,rfl⟩
  unfold pyNext
  refine wpAny_bind (wpAny_attempt (wpAny_callSpecial?_slot (name:=uE "__next__") hT F.slot_zip_next
   (wpAny_call_entry F.slot_zip_next hT F.entry_zip_next
    (zhl N1 N2 N3 D I (hf _ (by simp)) (hf _ (by simp)) (hf _ (by simp)) (hf _ (by simp)) (hf _ (by simp)) S hg.1 hg.2.1 hg.2.2 λ p x1 x2 x3 s' hp n1 n2 n3 n4 n5 n6 y1 y2 y3 I' S'=>wpAny_pure ?_) (F.args_zip_next_1 _))))
  refine ⟨.ref p,rfl,wpAny_letOwnedTupleGo_zip S'.z λ h' hz' hs'=>?_⟩
  have nn:∀ b∈[z,TI,TO,i1,i2,i3],b≠p:=λ b hb=>by
   simp at hb
   rcases hb with rfl|rfl|rfl|rfl|rfl|rfl
   ·exact n1.symm
   ·exact n2.symm
   ·exact n3.symm
   ·exact n4.symm
   ·exact n5.symm
   ·exact n6.symm
  have fz:FpOk X pins (upd H p (.tup [x1,x2,x3])) z:=⟨by rw [zn0 n1.symm];exact (hf z (by simp)).1,(hf z (by simp)).2⟩
  obtain ⟨_,hTI,⟨a,b',c',hTO⟩,h1,h2,h3⟩:=S'
  refine ⟨.ref p,_,za1 (tk:=s'.toks) I' fz hs',rfl,⟨x1,x2,x3,p,y1,y2,y3,hp,rfl,rfl⟩,⟨hz',hs'.extBut _ _ D.TIz hTI,⟨a,b',c',hs'.extBut _ _ D.TOz hTO⟩,N1.keep _ _ _ h1 λ o e=>hs'.extBut _ _ D.i1z e,N2.keep _ _ _ h2 λ o e=>hs'.extBut _ _ D.i2z e,N3.keep _ _ _ h3 λ o e=>hs'.extBut _ _ D.i3z e⟩,λ b hb=>?_⟩
  rw [zn0 (nn b hb)]
  exact (hf b hb).1
 done:=by
  intro X hP hw hK hc i pins s Y H E I hf S hg
  subst hP hw hK
  have hT:s.TypeIs (.ref z) "zip":=⟨_,S.z,rfl⟩
  unfold pyNext
  refine wpAny_bind (wpAny_attempt (wpAny_callSpecial?_slot (name:=uE "__next__") hT F.slot_zip_next
   (wpAny_call_entry F.slot_zip_next hT F.entry_zip_next (zfo (I.ok.hd hc) N1 D I (hf _ (by simp)) (hf _ (by simp)) S hg λ h' e tk I' he=>?_) (F.args_zip_next_1 _))))
  obtain ⟨o,ho,hc⟩:=he
  refine wpAny_bind (wpAny_isInstance (T := "StopIteration") (b:=true) ⟨o,ho,hc⟩ isSubtype_stop ?_)
  exact wpAny_pure ⟨rfl,I'⟩
 self:=λ _ _ _ _ _ S h=>wpAny_pyIter_zip S.z h
theorem zda (a b c:Value):checkTypeCall "zip" ⟨[a,b,c],[]⟩=pure ():=by kernel_rfl
theorem zkc (a b c:Value):checkBuiltinCall "zip.__new__" ⟨[.type "zip",a,b,c],[]⟩=pure ():=by kernel_rfl
theorem za6 (a b c d:Value):argsOk "object.__init__" ⟨[a,b,c,d],[]⟩:=by
 unfold argsOk;rw [signature?_of (id := "object.__init__") (n:=['_','_','t','i','n','i','_','_']) (o:=['t','c','e','j','b','o']) (by kernel_rfl) F.owner_object];kernel_rfl
noncomputable def zzp (h:Heap) (o1 o2 o3:Obj):Heap:=(((((h.push o1).push o2).push o3).push { cls:=.type "tuple",data:=.seq #[.ref h.objs.size,.ref (h.push o1).objs.size,.ref ((h.push o1).push o2).objs.size] }).push { cls:=.type "tuple",data:=.seq #[.none,.none,.none] }).push
 { cls:=.type "zip",data:=.fields #[.none,.bool false,.bool false,.ref (((h.push o1).push o2).push o3).objs.size,.ref ((((h.push o1).push o2).push o3).push { cls:=.type "tuple",data:=.seq #[.ref h.objs.size,.ref (h.push o1).objs.size,.ref ((h.push o1).push o2).objs.size] }).objs.size] }
theorem zri (v1 v2 v3:Value) (o1 o2 o3:Obj) :
  Meets (Builtin.«zip.__new__» ⟨[.type "zip",v1,v2,v3],[]⟩) (λ _ R s=>zbi s.heap v1 o1/\zbi s.heap v2 o2/\zbi s.heap v3 o3 /\
   R (.ok (.ret (.ref (((((s.heap.push o1).push o2).push o3).push { cls:=.type "tuple",data:=.seq #[.ref s.heap.objs.size,.ref (s.heap.push o1).objs.size,.ref ((s.heap.push o1).push o2).objs.size] }).push { cls:=.type "tuple",data:=.seq #[.none,.none,.none] }).objs.size))) { s with heap:=zzp s.heap o1 o2 o3 }) :=
 .of_wp λ prog w A R s h=>by
  obtain ⟨hp,g,d,tk,os⟩:=s;obtain ⟨q1,q2,q3,h⟩:=h
  have hsub:=sub_zip
  have p1:∀ {A:Around} {Q E:Value->Shared->Prop},Q (.ref hp.objs.size) ⟨hp.push o1,g,d,tk,os⟩->wpAny (model prog w) A (pyIter v1) Q E ⟨hp,g,d,tk,os⟩:=λ {A Q E} z=>q1 prog w A ⟨hp,g,d,tk,os⟩ Q E (λ _ _ e=>e) z
  have p2:∀ {A:Around} {Q E:Value->Shared->Prop},Q (.ref (hp.push o1).objs.size) ⟨(hp.push o1).push o2,g,d,tk,os⟩->wpAny (model prog w) A (pyIter v2) Q E ⟨hp.push o1,g,d,tk,os⟩:=λ {A Q E} z=>q2 prog w A ⟨hp.push o1,g,d,tk,os⟩ Q E (λ _ _ e=>uH _ e) z
  have p3:∀ {A:Around} {Q E:Value->Shared->Prop},Q (.ref ((hp.push o1).push o2).objs.size) ⟨((hp.push o1).push o2).push o3,g,d,tk,os⟩->wpAny (model prog w) A (pyIter v3) Q E ⟨(hp.push o1).push o2,g,d,tk,os⟩:=λ {A Q E} z=>q3 prog w A ⟨(hp.push o1).push o2,g,d,tk,os⟩ Q E (λ _ _ e=>uH _ (uH _ e)) z
  wp_walk using p1,p2,p3
  exact ⟨_,rfl,h⟩
theorem zvk {prog:Program} {w:World} {A:Around} {E:Value->Shared->Prop} {s:Shared} {v1 v2 v3:Value} {o1 o2 o3:Obj} {Q:Value->Shared->Prop} (h1:zbi s.heap v1 o1) (h2:zbi s.heap v2 o2) (h3:zbi s.heap v3 o3)
  (h:∀ h',IsZip h' (s.heap.objs.size+5) (s.heap.objs.size+3) (s.heap.objs.size+4) .none->zgg h' (s.heap.objs.size+3) (.ref s.heap.objs.size) (.ref (s.heap.objs.size+1)) (.ref (s.heap.objs.size+2)) ->
   zgg h' (s.heap.objs.size+4) .none .none .none->h'.get? s.heap.objs.size=some o1->h'.get? (s.heap.objs.size+1)=some o2->h'.get? (s.heap.objs.size+2)=some o3->(∀ c o,s.heap.get? c=some o->h'.get? c=some o)->Q (.ref (s.heap.objs.size+5)) { s with heap:=h' })
  (f1:o1.isFreed=false) (f2:o2.isFreed=false) (f3:o3.isFreed=false):wpAny (model prog w) A (call (.type "zip") [v1,v2,v3]) Q E s:=by
 refine callType_new F.called_zip (by decide) (zda _ _ _) (zkc _ _ _) (λ obj=>za6 obj _ _ _) F.entry_zip_new (zri v1 v2 v3 o1 o2 o3) ⟨h1,h2,h3,?_⟩
 have z1:(s.heap.push o1).objs.size=s.heap.objs.size+1:=vE ..
 have z2:((s.heap.push o1).push o2).objs.size=s.heap.objs.size+2:=by rw [vE,z1]
 have z3:(((s.heap.push o1).push o2).push o3).objs.size=s.heap.objs.size+3:=by rw [vE,z2]
 have z4:((((s.heap.push o1).push o2).push o3).push { cls:=.type "tuple",data:=.seq #[.ref s.heap.objs.size,.ref (s.heap.push o1).objs.size,.ref ((s.heap.push o1).push o2).objs.size] }).objs.size=s.heap.objs.size+4:=by rw [vE,z3]
 have z5:(((((s.heap.push o1).push o2).push o3).push { cls:=.type "tuple",data:=.seq #[.ref s.heap.objs.size,.ref (s.heap.push o1).objs.size,.ref ((s.heap.push o1).push o2).objs.size] }).push { cls:=.type "tuple",data:=.seq #[.none,.none,.none] }).objs.size=s.heap.objs.size+5:=by rw [vE,z4]
 have up:∀ {h:Heap} {c:Addr} {o ob:Obj},h.get? c=some o->(h.push ob).get? c=some o:=λ e=>uH _ e
 have g6:(zzp s.heap o1 o2 o3).get? (((((s.heap.push o1).push o2).push o3).push { cls:=.type "tuple",data:=.seq #[.ref s.heap.objs.size,.ref (s.heap.push o1).objs.size,.ref ((s.heap.push o1).push o2).objs.size] }).push { cls:=.type "tuple",data:=.seq #[.none,.none,.none] }).objs.size=some _:=uT _ rfl
 have g5:(zzp s.heap o1 o2 o3).get? ((((s.heap.push o1).push o2).push o3).push { cls:=.type "tuple",data:=.seq #[.ref s.heap.objs.size,.ref (s.heap.push o1).objs.size,.ref ((s.heap.push o1).push o2).objs.size] }).objs.size=some _:=up (uT _ rfl)
 have g4:(zzp s.heap o1 o2 o3).get? (((s.heap.push o1).push o2).push o3).objs.size=some _:=up (up (uT _ rfl))
 have g3:(zzp s.heap o1 o2 o3).get? ((s.heap.push o1).push o2).objs.size=some o3:=up (up (up (uT _ f3)))
 have g2:(zzp s.heap o1 o2 o3).get? (s.heap.push o1).objs.size=some o2:=up (up (up (up (uT _ f2))))
 have g1:(zzp s.heap o1 o2 o3).get? s.heap.objs.size=some o1:=up (up (up (up (up (uT _ f1)))))
 show _/\_
 rw [z3,z4,z5] at g6
 rw [z1,z2,z3] at g4
 rw [z4] at g5
 rw [z2] at g3
 rw [z1] at g2
 rw [z5]
 exact ⟨⟨_,g6,rfl⟩,h _ g6 g4 g5 g1 g2 g3 λ c o x=>up (up (up (up (up (up x)))))⟩
theorem yap (n:Nat):YAp (n+5) (n+3) (n+4) n (n+1) (n+2):=by
 refine ⟨⟨?_,?_,?_,?_,?_,?_,?_,?_,?_,?_⟩,?_,?_,?_,?_,?_⟩ <;> (refine λ (h:(_:Nat)=_)=>?_;lia)
theorem six (n:Nat) (b:Nat) (h:b=n+5 \/ b=n+3 \/ b=n+4 \/ b=n \/ b=n+1 \/ b=n+2):n<=b:=by lia
section
variable {X:Cx} {elts:List Expr}
noncomputable def zda1 (K:Fg) (vs:List V) (H:Hp) (R:It->Hp->Prop):Prop:=∃ x1 x2 x3,vs=[x1,x2,x3]/\kSrc K x1 H λ J1=>kSrc K x2 H λ J2=>kSrc K x3 H λ J3=>R (Ity J1 J2 J3) H
noncomputable def zm61 (K:Fg) (ta:TA):TI:=λ Y H R=>ta Y H λ vs H1=>zda1 K vs H1 R
theorem zyv {K:Fg} (hK:X.K=K) {c:_} {tpos:Pos} {a b d:Expr} {ta:TA} {p pos:Pos} (hg:Gl X "zip") (hm:X.mg "zip"=none) (ha:PA X [a,b,d] ta) (hs:starEach [a,b,d] X.env=[(false,eval a X.env),(false,eval b X.env),(false,eval d X.env)]:=by rfl) (hs2:starEach [b,d] X.env=[(false,eval b X.env),(false,eval d X.env)]:=by rfl) :
  PI X (.Tuple elts c tpos) (.Call (.Name "zip" p) [a,b,d] [] pos) (zm61 K ta):=by
 subst hK
 intro pins s Y H R I h
 refine Call_ (zia I hg hm zty (PyProof.Rows.callWith_type1 (thn (ha pos pins s Y H _ I h) λ us s1 ⟨vs,H1,I1,r1,q1⟩=>?_) (by rw [hs,hs2]) (by rw [hs2];rfl)))
 obtain ⟨x1,x2,x3,e,q1⟩:=q1
 subst e
 cases r1 with
|cons r1 rr =>
  cases rr with
 |cons r2 rr =>
   cases rr with
  |cons r3 rr =>
    cases rr
    obtain ⟨J1,o1,st1,q2,op1,fr1,n1,z1⟩:=za8 I1 r1 q1
    obtain ⟨J2,o2,st2,q3,op2,fr2,n2,z2⟩:=za8 I1 r2 q2
    obtain ⟨J3,o3,st3,q,op3,fr3,n3,z3⟩:=za8 I1 r3 q3
    refine zvk op1 op2 op3 (λ h' hz hTI hTO g1 g2 g3 kk=>wpAny_pyIter_zip hz ?_) fr1 fr2 fr3
    have I2:Inv X pins Y H1 { s1 with heap:=h' }:=I1.kept (t':=s1.toks) kk
    refine ⟨s1.heap.objs.size+5,[s1.heap.objs.size+5,s1.heap.objs.size+3,s1.heap.objs.size+4,s1.heap.objs.size,s1.heap.objs.size+1,s1.heap.objs.size+2],_,_,H1,rfl,I2,
     zwk (n1 s1.heap.objs.size) (n2 (s1.heap.objs.size+1)) (n3 (s1.heap.objs.size+2)) (yap _),⟨hz,hTI,⟨_,_,_,hTO⟩,z1 _ _ g1,z2 _ _ g2,z3 _ _ g3⟩,λ b hb=>?_,q⟩
    have hb':s1.heap.objs.size<=b:=by
     simp at hb
     exact six _ _ hb
    exact I1.fpOk hb' (I1.hok.fresh hb')
end
end _3
namespace _4
open PySem PySem.Spec PyProof.Rows _2 _3
section
variable {K:Fg} {tA:TA} {dA:DF}
noncomputable def zsq (a b c:List D):List D:=(uM a.length).map λ i=>.tuple [a.getD i .none,b.getD i .none,c.getD i .none]
theorem zfy {F H:Hp} {J1 J2 J3:It} {ds es fs:List D} (s:Same F H) (e2:ds.length=es.length) (e3:ds.length=fs.length) (h1:W0 K J1 F H ds) (h2:W0 K J2 F H es) (h3:W0 K J3 F H fs):W1 K (Ity J1 J2 J3) F H (zsq ds es fs):=by
 have el:(zsq ds es fs).length=ds.length:=by simp [zsq]
 refine ⟨λ j hj=>⟨h1.1 j (by lia),h2.1 j (by lia),h3.1 j (by lia)⟩,by rw [el];exact h1.2.1,λ j x H3 d e y=>?_⟩
 obtain ⟨x1,x2,x3,p,y1,y2,y3,hp,z1,z2⟩:=y
 subst z2
 unfold zsq at e
 rw [uI] at e
 obtain ⟨j',e4,rfl⟩:=u5.mp e
 obtain ⟨hj,e5⟩:=uZ.mp e4
 rw [vG] at hj
 rw [wE] at e5
 subst e5
 have g:∀ {l:List D},j < l.length->l[j]?=some (l.getD j .none):=λ {l} hl=>by rw [uR,uC hl];rfl
 obtain ⟨_,i1⟩:=h1.2.2 j x1 H _ (g hj) y1
 obtain ⟨_,i2⟩:=h2.2.2 j x2 H _ (g (by lia)) y2
 obtain ⟨_,i3⟩:=h3.2.2 j x3 H _ (g (by lia)) y3
 obtain ⟨ex,ii⟩:=zx9 (K:=K) (ds:=[ds.getD j .none,es.getD j .none,fs.getD j .none]) s hp (.cons i1 (.cons i2 (.cons i3 .nil)))
 exact ⟨_,ex,by rw [z1];exact ii⟩
noncomputable def zb61 (dA:DF):DF:=λ U Q=>dA U λ ds=>∃ a b c:List D,ds=[.list a,.list b,.list c]/\a.length=b.length/\a.length=c.length/\Q (zsq a b c)
theorem zdv (h:RfA K tA dA):RfI K (zm61 K tA) (zb61 dA):=by
 intro F H Y U Qd R s rv hd k
 refine h s rv hd λ ds hx vs F1 H1 e1 i1=>?_
 obtain ⟨a,b,c,rfl,l1,l2,hx⟩:=hx
 cases i1 with
|cons w1 r=>cases r with
 |cons w2 r=>cases r with
  |cons w3 r =>
    cases r
    obtain ⟨p,xs,rfl,h1,j1⟩:=w1.list_inv
    obtain ⟨q,ys,rfl,h2,j2⟩:=w2.list_inv
    obtain ⟨o,zs,rfl,h3,j3⟩:=w3.list_inv
    exact ⟨_,_,_,rfl,.inl ⟨p,rfl,⟨xs,e1.fh.seq h1⟩,.inl ⟨q,rfl,⟨ys,e1.fh.seq h2⟩,.inl ⟨o,rfl,⟨zs,e1.fh.seq h3⟩,k _ hx _ F1 H1 e1 λ F2 H2 s2 t2=>zfy t2 l1 l2 (zz2 (t2.seq (s2.seq h1)) (j1.mono s2)) (zz2 (t2.seq (s2.seq h2)) (j2.mono s2)) (zz2 (t2.seq (s2.seq h3)) (j3.mono s2))⟩⟩⟩⟩
theorem zrx (U:DSt) (Q:List D->Prop):zb61 dA U Q=dA U λ ds=>∃ a b c:List D,ds=[.list a,.list b,.list c]/\a.length=b.length/\a.length=c.length/\Q (zsq a b c):=rfl
end
end _4
namespace _5
open PySem PySem.Spec PyProof.Rows _2 _3 _4
noncomputable abbrev Wy:=Nat×Int
noncomputable def wAt (W:List (List Wy)) (u:Nat):List Wy:=(W[u]?).getD []
noncomputable abbrev Kv:=List (Nat×Int)
noncomputable abbrev Rw:=List (Int×List Nat)
structure DJ (n:Nat) (W:List (List Wy)) (wy:Nat->List Wy) (S:List Nat) (kv:Kv) (R:Rw):Prop where
 nd:(kv.map (·.1)).Nodup
 nn:∀ q∈kv,q.1 < n/\0<=q.2
 rn:∀ r∈R,0<=r.1/\∀ v∈r.2,v < n
 mo:∀ q∈kv,∀ r∈R,q.2<=r.1
 st:∀ s∈S,(s,0)∈kv \/ ∃ l,(0,l)∈R/\s∈l
 cl:∀ q∈kv,∀ p∈wy q.1,(∃ b,(p.1,b)∈kv/\b<=q.2+p.2) \/ ∃ k l,(k,l)∈R/\p.1∈l/\k<=q.2+p.2
 pr:∀ (j:Nat) v b,kv[j]?=some (v,b)->(v∈S/\b=0) \/ ∃ i u a s,i < j/\kv[i]?=some (u,a)/\(v,s)∈wAt W u/\b=a+s
 pq:∀ r∈R,∀ v∈r.2,(v∈S/\r.1=0) \/ ∃ u a s,(u,a)∈kv/\(v,s)∈wAt W u/\r.1=a+s
section
variable {n:Nat} {W:List (List Wy)} {wy:Nat->List Wy} {S:List Nat} {kv:Kv} {R:Rw} {M:Int} {h:Nat} {l:List Nat}
theorem DJ.init (hS:∀ s∈S,s < n):DJ n W wy S [] [(0,S)]:=by
 refine ⟨by simp,λ q hq=>by simp at hq,λ r hr=>?_,(λ q hq=>by simp at hq),λ s hs=>.inr ⟨S,by simp,hs⟩,(λ q hq=>by simp at hq),λ j v b e=>by simp at e,λ r hr v hv=>?_⟩
 ·simp at hr;subst hr;exact ⟨vJ 0,hS⟩
 ·simp at hr;subst hr;exact .inl ⟨hv,rfl⟩
theorem DJ.perm {R':Rw} (d:DJ n W wy S kv R) (e:∀ r,r∈R' ↔ r∈R):DJ n W wy S kv R' :=
 ⟨d.nd,d.nn,λ r hr=>d.rn r ((e r).mp hr),λ q hq r hr=>d.mo q hq r ((e r).mp hr),λ s hs=>(d.st s hs).imp id λ ⟨l,a,b⟩=>⟨l,(e _).mpr a,b⟩,λ q hq p hp=>(d.cl q hq p hp).imp id λ ⟨k,l,a,b⟩=>⟨k,l,(e _).mpr a,b⟩,d.pr,λ r hr=>d.pq r ((e r).mp hr)⟩
theorem DJ.wy' {wy':Nat->List Wy} (d:DJ n W wy S kv R) (e:∀ q∈kv,∀ p∈wy' q.1,p∈wy q.1):DJ n W wy' S kv R :=
 ⟨d.nd,d.nn,d.rn,d.mo,d.st,λ q hq p hp=>d.cl q hq p (e q hq p hp),d.pr,d.pq⟩
theorem DJ.skip {b:Int} (d:DJ n W wy S kv ((M,h :: l) :: R)) (hb:(h,b)∈kv):DJ n W wy S kv ((M,l) :: R):=by
 have bM:b<=M:=d.mo _ hb (M,h :: l) (by simp)
 have b0:0<=b:=(d.nn _ hb).2
 refine ⟨d.nd,d.nn,λ r hr=>?_,λ q hq r hr=>?_,λ s hs=>?_,λ q hq p hp=>?_,d.pr,λ r hr v hv=>?_⟩
 ·rcases uD.mp hr with z|z
  ·subst z
   have:=d.rn (M,h :: l) (by simp)
   exact ⟨this.1,λ v hv=>this.2 v (by simp [hv])⟩
  ·exact d.rn r (by simp [z])
 ·rcases uD.mp hr with z|z
  ·subst z;exact d.mo q hq (M,h :: l) (by simp)
  ·exact d.mo q hq r (by simp [z])
 ·rcases d.st s hs with z|⟨l',z1,z2⟩
  ·exact .inl z
  ·rcases uD.mp z1 with y|y
   ·injection y with y1 y2
    subst y1 y2
    rcases uD.mp z2 with x|x
    ·subst x
     have:b=0:=by lia
     subst this;exact .inl hb
    ·exact .inr ⟨l,by simp,x⟩
   ·exact .inr ⟨l',by simp [y],z2⟩
 ·rcases d.cl q hq p hp with z|⟨k,l',z1,z2,z3⟩
  ·exact .inl z
  ·rcases uD.mp z1 with y|y
   ·injection y with y1 y2
    subst y1 y2
    rcases uD.mp z2 with x|x
    ·exact .inl ⟨b,by rw [x];exact hb,by lia⟩
    ·exact .inr ⟨k,l,by simp,x,z3⟩
   ·exact .inr ⟨k,l',by simp [y],z2,z3⟩
 ·rcases uD.mp hr with z|z
  ·subst z;exact d.pq (M,h :: l) (by simp) v (by simp;exact .inr hv)
  ·exact d.pq r (by simp [z]) v hv
theorem DJ.ins (d:DJ n W wy S kv ((M,h :: l) :: R)) (hh:h ∉ kv.map (·.1)) (hR:∀ r∈R,M<=r.1):DJ n W (λ u=>if u=h then [] else wy u) S (kv++[(h,M)]) ((M,l) :: R):=by
 have hM:=d.rn (M,h :: l) (by simp)
 have old:∀ q∈kv,q.1≠h:=λ q hq z=>hh (by rw [<- z];exact uL.mpr ⟨q,hq,rfl⟩)
 refine ⟨?_,λ q hq=>?_,λ r hr=>?_,λ q hq r hr=>?_,λ s hs=>?_,λ q hq p hp=>?_,λ j v b e=>?_,λ r hr v hv=>?_⟩
 ·rw [uJ]
  exact uW.mpr ⟨d.nd,by simp,λ x hx y hy e=>by simp at hy;subst hy;exact hh (e ▸ hx)⟩
 ·rcases uF.mp hq with z|z
  ·exact d.nn q z
  ·simp at z;subst z;exact ⟨hM.2 h (by simp),hM.1⟩
 ·rcases uD.mp hr with z|z
  ·subst z;exact ⟨hM.1,λ v hv=>hM.2 v (by simp [hv])⟩
  ·exact d.rn r (by simp [z])
 ·have le:q.2<=M:=by
   rcases uF.mp hq with z|z
   ·exact d.mo q z (M,h :: l) (by simp)
   ·simp at z;subst z;exact vJ _
  rcases uD.mp hr with z|z
  ·subst z;exact le
  ·exact wJ le (hR r z)
 ·rcases d.st s hs with z|⟨l',z1,z2⟩
  ·exact .inl (by simp [z])
  ·rcases uD.mp z1 with y|y
   ·injection y with y1 y2
    subst y1 y2
    rcases uD.mp z2 with x|x
    ·subst x;exact .inl (by simp)
    ·exact .inr ⟨l,by simp,x⟩
   ·exact .inr ⟨l',by simp [y],z2⟩
 ·rcases uF.mp hq with z|z
  ·simp only [if_neg (old q z)] at hp
   rcases d.cl q z p hp with y|⟨k,l',y1,y2,y3⟩
   ·obtain ⟨b,b1,b2⟩:=y
    exact .inl ⟨b,by simp [b1],b2⟩
   ·rcases uD.mp y1 with x|x
    ·injection x with x1 x2
     subst x1 x2
     rcases uD.mp y2 with w|w
     ·exact .inl ⟨k,by simp [w],y3⟩
     ·exact .inr ⟨k,l,by simp,w,y3⟩
    ·exact .inr ⟨k,l',by simp [x],y2,y3⟩
  ·simp at z;subst z
   simp at hp
 ·by_cases hj:j < kv.length
  ·rw [u6 hj] at e
   rcases d.pr j v b e with z|⟨i,u,a,s,i1,i2,i3,i4⟩
   ·exact .inl z
   ·exact .inr ⟨i,u,a,s,i1,by rw [u6 (by lia)];exact i2,i3,i4⟩
  ·rw [u7 (by lia)] at e
   have e0:j - kv.length=0:=by have:=(uZ.mp e).1;simp at this;lia
   rw [e0] at e
   simp at e
   obtain ⟨rfl,rfl⟩:=e
   rcases d.pq (M,h :: l) (by simp) h (by simp) with z|⟨u,a,s,z1,z2,z3⟩
   ·exact .inl z
   ·obtain ⟨i,hi,ei⟩:=vV.mp z1
    exact .inr ⟨i,u,a,s,by lia,by rw [u6 hi,uC hi,ei],z2,z3⟩
 ·have lift:(v∈S/\r.1=0) \/ (∃ u a s,(u,a)∈kv/\(v,s)∈wAt W u/\r.1=a+s)->(v∈S/\r.1=0) \/ ∃ u a s,(u,a)∈kv++[(h,M)]/\(v,s)∈wAt W u/\r.1=a+s:=λ z=>z.imp id λ ⟨u,a,s,z1,z2⟩=>⟨u,a,s,by simp [z1],z2⟩
  rcases uD.mp hr with z|z
  ·subst z;exact lift (d.pq (M,h :: l) (by simp) v (by simp;exact .inr hv))
  ·exact lift (d.pq r (by simp [z]) v hv)
theorem DJ.seen {wy':Nat->List Wy} {p:Wy} {b:Int} (d:DJ n W wy S kv ((M,l) :: R)) (hM:(h,M)∈kv) (hp:0<=p.2) (hb:(p.1,b)∈kv) (e:∀ u,∀ y∈wy' u,y∈wy u \/ (u=h/\y=p)):DJ n W wy' S kv ((M,l) :: R):=by
 have bM:b<=M:=d.mo _ hb (M,l) (by simp)
 refine ⟨d.nd,d.nn,d.rn,d.mo,d.st,λ q hq y hy=>?_,d.pr,d.pq⟩
 rcases e _ y hy with z|⟨z1,z2⟩
 ·exact d.cl q hq y z
 ·subst z2
  have:q=(h,M):=by
   obtain ⟨q1,q2⟩:=q
   simp only at z1
   subst z1
   obtain ⟨i,hi,ei⟩:=vV.mp hq
   obtain ⟨j,hj,ej⟩:=vV.mp hM
   have:=(xW (i:=i) (j:=j) (h₀:=by simpa using hi) (h₁:=by simpa using hj) d.nd).mp (by simp [ei,ej])
   subst this
   rw [ei] at ej;exact ej
  subst this
  exact .inl ⟨b,hb,by show b<=M+y.2;lia⟩
theorem DJ.push {wy':Nat->List Wy} {p:Wy} {R':Rw} (d:DJ n W wy S kv ((M,l) :: R)) (hM:(h,M)∈kv) (hw:p∈wAt W h) (hp:0<=p.2) (hn:p.1 < n) (e:∀ u,∀ y∈wy' u,y∈wy u \/ (u=h/\y=p))
  (r1:∀ k x,(k,x)∈R->∃ x',(k,x')∈R'/\∀ v∈x,v∈x') (r2:∃ x,(M+p.2,x)∈R'/\p.1∈x) (r3:∀ r∈R',((∃ r0∈R,r0.1=r.1) \/ r.1=M+p.2)/\∀ v∈r.2,(∃ r0∈R,r0.1=r.1/\v∈r0.2) \/ (r.1=M+p.2/\v=p.1)):DJ n W wy' S kv ((M,l) :: R'):=by
 have m0:=d.rn (M,l) (by simp)
 have keyOk:∀ r∈R',(∃ r0∈R,r0.1=r.1) \/ r.1=M+p.2:=λ r hr=>(r3 r hr).1
 have row:∀ k x v,(k,x)∈(M,l) :: R->v∈x->∃ x',(k,x')∈(M,l) :: R'/\v∈x':=λ k x v hx hv=>by
  rcases uD.mp hx with z|z
  ·injection z with z1 z2
   subst z1 z2
   exact ⟨x,by simp,hv⟩
  ·obtain ⟨x',a,b⟩:=r1 k x z
   exact ⟨x',by simp [a],b v hv⟩
 refine ⟨d.nd,d.nn,λ r hr=>?_,λ q hq r hr=>?_,λ s hs=>?_,λ q hq y hy=>?_,d.pr,λ r hr v hv=>?_⟩
 ·rcases uD.mp hr with z|z
  ·subst z;exact m0
  ·refine ⟨?_,λ v hv=>?_⟩
   ·rcases keyOk r z with ⟨r0,y1,y2⟩|y
    ·rw [<- y2];exact (d.rn r0 (by simp [y1])).1
    ·rw [y];have:=m0.1;simp only at this;lia
   ·rcases (r3 r z).2 v hv with ⟨r0,y1,y2,y3⟩|⟨_,y⟩
    ·exact (d.rn r0 (by simp [y1])).2 v y3
    ·rw [y];exact hn
 ·rcases uD.mp hr with z|z
  ·subst z;exact d.mo q hq (M,l) (by simp)
  ·rcases keyOk r z with ⟨r0,y1,y2⟩|y
   ·rw [<- y2];exact d.mo q hq r0 (by simp [y1])
   ·have:=d.mo q hq (M,l) (by simp)
    rw [y];simp only at this;lia
 ·rcases d.st s hs with z|⟨x,z1,z2⟩
  ·exact .inl z
  ·exact .inr (row 0 x s z1 z2)
 ·rcases e _ y hy with z|⟨z1,z2⟩
  ·rcases d.cl q hq y z with a|⟨k,x,a1,a2,a3⟩
   ·exact .inl a
   ·obtain ⟨x',b1,b2⟩:=row k x y.1 a1 a2
    exact .inr ⟨k,x',b1,b2,a3⟩
  ·subst z2
   have:q=(h,M):=by
    obtain ⟨q1,q2⟩:=q
    simp only at z1
    subst z1
    obtain ⟨i,hi,ei⟩:=vV.mp hq
    obtain ⟨j,hj,ej⟩:=vV.mp hM
    have:=(xW (i:=i) (j:=j) (h₀:=by simpa using hi) (h₁:=by simpa using hj) d.nd).mp (by simp [ei,ej])
    subst this
    rw [ei] at ej;exact ej
   subst this
   obtain ⟨x,x1,x2⟩:=r2
   exact .inr ⟨M+y.2,x,by simp [x1],x2,vJ _⟩
 ·rcases uD.mp hr with z|z
  ·subst z;exact d.pq (M,l) (by simp) v hv
  ·rcases (r3 r z).2 v hv with ⟨r0,y1,y2,y3⟩|⟨y1,y2⟩
   ·rw [<- y2];exact d.pq r0 (by simp [y1]) v y3
   ·exact .inr ⟨h,M,p.2,hM,by rw [y2];exact hw,y1⟩
theorem DJ.drop (d:DJ n W wy S kv ((M,[]) :: R)):DJ n W wy S kv R:=by
 have nh:∀ k x v,(k,x)∈(M,([]:List Nat)) :: R->v∈x->(k,x)∈R:=λ k x v hx hv=>by
  rcases uD.mp hx with z|z
  ·injection z with z1 z2
   subst z2;simp at hv
  ·exact z
 exact ⟨d.nd,d.nn,λ r hr=>d.rn r (by simp [hr]),λ q hq r hr=>d.mo q hq r (by simp [hr]),λ s hs=>(d.st s hs).imp id λ ⟨x,a,b⟩=>⟨x,nh _ _ _ a b,b⟩,λ q hq p hp=>(d.cl q hq p hp).imp id λ ⟨k,x,a,b,c⟩=>⟨k,x,nh _ _ _ a b,b,c⟩,d.pr,λ r hr=>d.pq r (by simp [hr])⟩
end
theorem zba (g:Nat->Int) (a b c:Nat):sm (a+b+c) g=sm a g+sm b (λ i=>g (a+i))+sm c λ i=>g (a+b+i):=by
 have sp:∀ (g:Nat->Int) (a b:Nat),sm (a+b) g=sm a g+sm b λ j=>g (a+j):=λ g a b=>by
  induction b with
 |zero=>simp [sm]
 |succ b ih=>rw [show a+(b+1)=(a+b)+1 by lia,zi1,ih,zi1];lia
 rw [sp g (a+b) c,sp g a b]
theorem zs51 {S:List Nat} (g:Nat->Int) {n:Nat} (nd:S.Nodup) (hb:∀ v∈S,v < n):sm n (λ i=>if i∈S then g i else 0)=(S.map g).sum:=by
 induction S with
|nil=>simp [zc3]
|cons v r ih =>
  obtain ⟨h1,h2⟩:=uQ.mp nd
  rw [uK,wV,<- ih h2 λ u hu=>hb u (by simp [hu]),<- zmf (j:=v) (g v) (hb v (by simp)),<- zci]
  refine zv0 λ i hi=>?_
  by_cases e:i=v
  ·subst e;simp [h1]
  ·simp [e]
theorem znz {g:Nat->Int} {m:Nat} (h:∀ k,k < m->0<=g k):0<=sm m g:=by
 have:=zdg (g:=λ _=>0) h
 rwa [zc3] at this
theorem zav (g:Nat->Int) (m:Nat):sm m (λ k=>-g k)=-sm m g:=by
 have:=zui (λ _=>0) g m
 rw [zc3] at this
 rw [show (λ k=>-g k)=λ k=>(0:Int) - g k from funext λ k=>by lia,this];lia
theorem zbu (l:List Nat) (g:Nat->Int):(l.map g).sum=sm l.length λ j=>g (l.getD j 0):=by
 unfold sm
 congr 1
 refine yH (by simp) λ i h1 h2=>?_
 rw [uA] at h1
 rw [yI,yI,wE,uR,uC h1];rfl
theorem zlq {l:List Nat} {i:Nat} (h:i < l.length):l.getD i 0∈l:=by
 rw [uR,uC h];exact vR h
theorem sel {l:List Nat} {n v:Nat} (nd:l.Nodup) (hb:∀ w∈l,w < n) (hv:v < n) {z c:Nat->Int} (h:∀ i,i < l.length->0<=z i/\z i<=c (l.getD i 0)) :
  0<=sm l.length (λ i=>if l.getD i 0=v then z i else 0)/\sm l.length (λ i=>if l.getD i 0=v then z i else 0)<=(if v∈l then c v else 0)/\∀ i,i < l.length->l.getD i 0=v->z i<=sm l.length (λ i=>if l.getD i 0=v then z i else 0):=by
 have nn:∀ i,i < l.length->0<=if l.getD i 0=v then z i else 0:=λ i hi=>by split;exact (h i hi).1;exact vJ 0
 refine ⟨?_,?_,λ i hi e=>?_⟩
 ·exact znz nn
 ·refine wJ (zdg (h:=λ i=>if l.getD i 0=v then c (l.getD i 0) else 0) λ i hi=>?_) ?_
  ·by_cases e:l.getD i 0=v
   ·rw [if_pos e,if_pos e];exact (h i hi).2
   ·rw [if_neg e,if_neg e];exact vJ 0
  ·rw [<- zbu l λ w=>if w=v then c w else 0,<- zs51 _ nd hb,<- zmf (j:=v) (if v∈l then c v else 0) hv]
   refine zdg λ i hi=>?_
   by_cases e:i=v
   ·subst e;simp
   ·simp [e]
 ·rw [<- zmf (j:=i) (z i) hi]
  refine zdg λ k hk=>?_
  by_cases e2:k=i
  ·subst e2;rw [if_pos rfl,if_pos e];exact vJ _
  ·rw [if_neg e2];exact nn k hk
theorem a_of {A:List Ar} {k u v:Nat} {c:Int} (h:A[k]?=some (u,v,c)):aU A k=u/\aV A k=v/\zn1 A k=c:=by
 unfold aU aV zn1;rw [h];exact ⟨rfl,rfl,rfl⟩
noncomputable def eA (n:Nat) (A:List Ar) (lv st dn:List Nat) (o:List Int):List Ar:=lv.map (λ k=>(aU A k,aV A k,zn1 A k))++(st.map (λ v=>(n,v,fx o v))++dn.map λ v=>(v,n+1,-fx o v))
noncomputable def eF (x:List Int) (lv:List Nat) (c:Nat):List Int:=lv.map (fx x)++uN c 0
theorem zp91 {n:Nat} {A:List Ar} {lv st dn:List Nat} {o:List Int} (hlv:∀ k∈lv,k < A.length) (hst:∀ v∈st,v < n) (hdn:∀ v∈dn,v < n) (ok:∀ k,k < A.length->aU A k < n/\aV A k < n):∀ a∈eA n A lv st dn o,a.1 < n+2/\a.2.1 < n+2:=λ a ha=>by
 unfold eA at ha
 rcases uF.mp ha with z|z
 ·obtain ⟨k,k1,rfl⟩:=uL.mp z
  have:=ok k (hlv k k1)
  exact ⟨by show aU A k < _;lia,by show aV A k < _;lia⟩
 ·rcases uF.mp z with z|z
  ·obtain ⟨k,k1,rfl⟩:=uL.mp z
   have:=hst k k1
   exact ⟨by show n < _;lia,by show k < _;lia⟩
  ·obtain ⟨k,k1,rfl⟩:=uL.mp z
   have:=hdn k k1
   exact ⟨by show k < _;lia,by show n+1 < _;lia⟩
theorem zj91 {n:Nat} {A:List Ar} {lv st dn:List Nat} {x o:List Int} {c:Nat} (hlv:∀ k∈lv,k < A.length) (hst:∀ v∈st,0 < fx o v) (hdn:∀ v∈dn,fx o v < 0) (wx:within A.length (zn1 A) (fx x)):∀ (k:Nat) a y,(eA n A lv st dn o)[k]?=some a->(eF x lv c)[k]?=some y->0<=y/\y<=a.2.2:=λ k a y h1 h2=>by
 unfold eA at h1
 unfold eF at h2
 by_cases e:k < lv.length
 ·rw [u6 (by rw [uA];exact e),uI,uC e] at h1 h2
  injection h1 with h1
  injection h2 with h2
  subst h1 h2
  exact wx _ (hlv _ (vR e))
 ·rw [u7 (by rw [uA];lia)] at h1 h2
  rw [vT] at h2
  split at h2
  ·injection h2 with h2
   subst h2
   refine ⟨vJ 0,?_⟩
   rcases uF.mp (vM h1) with z|z
   ·obtain ⟨v,v1,rfl⟩:=uL.mp z
    have:=hst v v1
    show 0<=fx o v;lia
   ·obtain ⟨v,v1,rfl⟩:=uL.mp z
    have:=hdn v v1
    show 0<=-fx o v;lia
  ·cases h2
structure Ev (n:Nat) (A:List Ar) (s x o x':List Int):Prop where
 len:x'.length=A.length
 wi:within A.length (zn1 A) (fx x')
 eq:∀ k,k < A.length->fx s k≠0->fx x' k=fx x k
 ov:∀ v,v < n->∃ E T:Int,0<=E/\0<=T/\(E=0 \/ (0 < fx o v/\E<=fx o v))/\(T=0 \/ (fx o v < 0/\T<=-fx o v))/\bl A.length (aU A) (aV A) (fx x') v=bl A.length (aU A) (aV A) (fx x) v - E+T
 pg:(∃ v,v < n/\0 < fx o v/\bl A.length (aU A) (aV A) (fx x') v < bl A.length (aU A) (aV A) (fx x) v) \/ ∃ side:List Nat,(∀ v,v < n->0 < fx o v->v∈side)/\(∀ v,v < n->fx o v < 0->v ∉ side)/\∀ k,k < A.length->fx s k=0->(aU A k∈side->fx x k < zn1 A k->aV A k∈side)/\(aV A k∈side->0 < fx x k->aU A k∈side)
theorem zy81 {n:Nat} {A:List Ar} {s x o x' L:List Int} {lv st dn side:List Nat} (hlv:∀ k,k∈lv ↔ k < A.length/\fx s k=0) (nlv:lv.Nodup) (hst:∀ v,v∈st ↔ v < n/\0 < fx o v) (nst:st.Nodup) (hdn:∀ v,v∈dn ↔ v < n/\fx o v < 0) (ndn:dn.Nodup)
  (ok:∀ k,k < A.length->aU A k < n/\aV A k < n) (wx:within A.length (zn1 A) (fx x)) (b:Best (n+2) (eA n A lv st dn o) (eF x lv (st.length+dn.length)) n (n+1) L side) (hl:x'.length=A.length) (h1:∀ j,j < lv.length->fx x' (lv.getD j 0)=lf L (2 * j+1)) (h2:∀ k,k ∉ lv->fx x' k=fx x k):Ev n A s x o x':=by
 have e1:∀ j,j < lv.length->aU (eA n A lv st dn o) j=aU A (lv.getD j 0)/\aV (eA n A lv st dn o) j=aV A (lv.getD j 0)/\zn1 (eA n A lv st dn o) j=zn1 A (lv.getD j 0):=λ j hj=>a_of (by
  unfold eA
  rw [u6 (by rw [uA];exact hj),uI,uR,uC hj];rfl)
 have e2:∀ i,i < st.length->aU (eA n A lv st dn o) (lv.length+i)=n/\aV (eA n A lv st dn o) (lv.length+i)=st.getD i 0/\zn1 (eA n A lv st dn o) (lv.length+i)=fx o (st.getD i 0):=λ i hi=>a_of (by
  unfold eA
  rw [u7 (by rw [uA];lia),uA,Nat.add_sub_cancel_left,u6 (by rw [uA];exact hi),uI,uR,uC hi];rfl)
 have e3:∀ i,i < dn.length->aU (eA n A lv st dn o) (lv.length+st.length+i)=dn.getD i 0/\aV (eA n A lv st dn o) (lv.length+st.length+i)=n+1/\zn1 (eA n A lv st dn o) (lv.length+st.length+i)=-fx o (dn.getD i 0):=λ i hi=>a_of (by
  unfold eA
  rw [u7 (by rw [uA];lia),uA,u7 (by rw [uA];lia),uA,show lv.length+st.length+i - lv.length - st.length=i by lia,uI,uR,uC hi];rfl)
 have f1:∀ j,j < lv.length->fx (eF x lv (st.length+dn.length)) j=fx x (lv.getD j 0):=λ j hj=>by
  unfold eF
  rw [fx,u6 (by rw [uA];exact hj),uI,uR,uC hj];rfl
 have f2:∀ k,lv.length<=k->fx (eF x lv (st.length+dn.length)) k=0:=λ k hk=>by
  unfold eF
  rw [fx,u7 (by rw [uA];exact hk),vT]
  split <;> rfl
 have eN:(eA n A lv st dn o).length=lv.length+st.length+dn.length:=by unfold eA;simp;lia
 have eF':(eF x lv (st.length+dn.length)).length=(eA n A lv st dn o).length:=by rw [eN];unfold eF;simp;lia
 have lm:∀ j,j < lv.length->lv.getD j 0 < A.length/\fx s (lv.getD j 0)=0:=λ j hj=>(hlv _).mp (zlq hj)
 have sm':∀ i,i < st.length->st.getD i 0 < n/\0 < fx o (st.getD i 0):=λ i hi=>(hst _).mp (zlq hi)
 have dm:∀ i,i < dn.length->dn.getD i 0 < n/\fx o (dn.getD i 0) < 0:=λ i hi=>(hdn _).mp (zlq hi)
 have wy:=b.within
 have y1:∀ j,j < lv.length->0<=lf L (2 * j+1)/\lf L (2 * j+1)<=zn1 A (lv.getD j 0):=λ j hj=>by
  have:=wy j (by lia);rw [(e1 j hj).2.2] at this;exact this
 have y2:∀ i,i < st.length->0<=lf L (2 * (lv.length+i)+1)/\lf L (2 * (lv.length+i)+1)<=fx o (st.getD i 0):=λ i hi=>by
  have:=wy (lv.length+i) (by lia);rw [(e2 i hi).2.2] at this;exact this
 have y3:∀ i,i < dn.length->0<=lf L (2 * (lv.length+st.length+i)+1)/\lf L (2 * (lv.length+st.length+i)+1)<=-fx o (dn.getD i 0):=λ i hi=>by
  have:=wy (lv.length+st.length+i) (by lia);rw [(e3 i hi).2.2] at this;exact this
 have eq:∀ v,v≠n->v≠n+1->bl (eA n A lv st dn o).length (aU (eA n A lv st dn o)) (aV (eA n A lv st dn o)) (λ k=>lf L (2 * k+1)) v=bl (eA n A lv st dn o).length (aU (eA n A lv st dn o)) (aV (eA n A lv st dn o)) (fx (eF x lv (st.length+dn.length))) v:=λ v a1 a2=>by
  rw [<- zuq,b.up.eqb v a1 a2,zuq]
  refine zv0 λ k hk=>?_
  show trm _ _ (lf (zr6 _ _) (2 * k+1)) v=_
  rw [zbx eF' hk]
 have selS:=λ {v:Nat} (hv:v < n)=>sel (v:=v) (n:=n) nst (λ w hw=>((hst w).mp hw).1) hv (z:=λ i=>lf L (2 * (lv.length+i)+1)) (c:=fx o) y2
 have selD:=λ {v:Nat} (hv:v < n)=>sel (v:=v) (n:=n) ndn (λ w hw=>((hdn w).mp hw).1) hv (z:=λ i=>lf L (2 * (lv.length+st.length+i)+1)) (c:=λ w=>-fx o w) y3
 have key:∀ v,v < n->bl A.length (aU A) (aV A) (fx x') v=bl A.length (aU A) (aV A) (fx x) v - sm st.length (λ i=>if st.getD i 0=v then lf L (2 * (lv.length+i)+1) else 0)+sm dn.length (λ i=>if dn.getD i 0=v then lf L (2 * (lv.length+st.length+i)+1) else 0):=λ v hv=>by
  have E:=eq v (by lia) (by lia)
  unfold bl at E ⊢
  rw [eN,zba,zba] at E
  have g1:sm lv.length (λ k=>trm (aU (eA n A lv st dn o) k) (aV (eA n A lv st dn o) k) (lf L (2 * k+1)) v)=sm lv.length λ j=>trm (aU A (lv.getD j 0)) (aV A (lv.getD j 0)) (fx x' (lv.getD j 0)) v:=zv0 λ j hj=>by rw [(e1 j hj).1,(e1 j hj).2.1,h1 j hj]
  have g2:sm lv.length (λ k=>trm (aU (eA n A lv st dn o) k) (aV (eA n A lv st dn o) k) (fx (eF x lv (st.length+dn.length)) k) v)=sm lv.length λ j=>trm (aU A (lv.getD j 0)) (aV A (lv.getD j 0)) (fx x (lv.getD j 0)) v:=zv0 λ j hj=>by rw [(e1 j hj).1,(e1 j hj).2.1,f1 j hj]
  have g3:sm st.length (λ i=>trm (aU (eA n A lv st dn o) (lv.length+i)) (aV (eA n A lv st dn o) (lv.length+i)) (lf L (2 * (lv.length+i)+1)) v)=sm st.length λ i=>if st.getD i 0=v then lf L (2 * (lv.length+i)+1) else 0:=zv0 λ i hi=>by
   rw [(e2 i hi).1,(e2 i hi).2.1];unfold trm;rw [if_neg (by lia:¬n=v)];lia
  have g4:sm dn.length (λ i=>trm (aU (eA n A lv st dn o) (lv.length+st.length+i)) (aV (eA n A lv st dn o) (lv.length+st.length+i)) (lf L (2 * (lv.length+st.length+i)+1)) v)=- sm dn.length λ i=>if dn.getD i 0=v then lf L (2 * (lv.length+st.length+i)+1) else 0:=by
   rw [<- zav]
   refine zv0 λ i hi=>?_
   rw [(e3 i hi).1,(e3 i hi).2.1];unfold trm;rw [if_neg (by lia:¬n+1=v)];lia
  have z2:sm st.length (λ i=>trm (aU (eA n A lv st dn o) (lv.length+i)) (aV (eA n A lv st dn o) (lv.length+i)) (fx (eF x lv (st.length+dn.length)) (lv.length+i)) v)=0:=by
   rw [<- zc3 st.length];exact zv0 λ i hi=>by rw [f2 _ (by lia),zce]
  have z3:sm dn.length (λ i=>trm (aU (eA n A lv st dn o) (lv.length+st.length+i)) (aV (eA n A lv st dn o) (lv.length+st.length+i)) (fx (eF x lv (st.length+dn.length)) (lv.length+st.length+i)) v)=0:=by
   rw [<- zc3 dn.length];exact zv0 λ i hi=>by rw [f2 _ (by lia),zce]
  rw [g1,g2,g3,g4,z2,z3] at E
  have D:sm A.length (λ k=>trm (aU A k) (aV A k) (fx x' k) v) - sm A.length (λ k=>trm (aU A k) (aV A k) (fx x k) v)=sm lv.length (λ j=>trm (aU A (lv.getD j 0)) (aV A (lv.getD j 0)) (fx x' (lv.getD j 0)) v) - sm lv.length λ j=>trm (aU A (lv.getD j 0)) (aV A (lv.getD j 0)) (fx x (lv.getD j 0)) v:=by
   rw [<- zui,<- zui,<- zbu lv λ k=>trm (aU A k) (aV A k) (fx x' k) v - trm (aU A k) (aV A k) (fx x k) v,<- zs51 _ nlv λ k hk=>((hlv k).mp hk).1]
   refine zv0 λ k hk=>?_
   by_cases e:k∈lv
   ·rw [if_pos e]
   ·rw [if_neg e,h2 k e];lia
  lia
 refine ⟨hl,λ k hk=>?_,λ k hk hs=>h2 k λ z=>hs ((hlv k).mp z).2,λ v hv=>?_,?_⟩
 ·by_cases e:k∈lv
  ·obtain ⟨j,hj,ej⟩:=vV.mp e
   have e':lv.getD j 0=k:=by rw [uR,uC hj,ej];rfl
   have:=y1 j hj
   rw [<- h1 j hj,e'] at this;exact this
  ·rw [h2 k e];exact wx k hk
 ·obtain ⟨s1,s2,_⟩:=selS hv
  obtain ⟨d1,d2,_⟩:=selD hv
  refine ⟨_,_,s1,d1,?_,?_,key v hv⟩
  ·by_cases c:v∈st
   ·rw [if_pos c] at s2;exact .inr ⟨((hst v).mp c).2,s2⟩
   ·rw [if_neg c] at s2;exact .inl (by lia)
  ·by_cases c:v∈dn
   ·rw [if_pos c] at d2;exact .inr ⟨((hdn v).mp c).2,d2⟩
   ·rw [if_neg c] at d2;exact .inl (by lia)
 ·by_cases c:∃ v,v < n/\0 < fx o v/\bl A.length (aU A) (aV A) (fx x') v < bl A.length (aU A) (aV A) (fx x) v
  ·exact .inl c
  refine .inr ⟨side,?_⟩
  have zer:∀ i,i < st.length->lf L (2 * (lv.length+i)+1)=0:=λ i hi=>by
   obtain ⟨v1,v2⟩:=sm' i hi
   obtain ⟨s1,s2,s3⟩:=selS v1
   obtain ⟨d1,d2,_⟩:=selD v1
   have k:=key _ v1
   have dz:st.getD i 0 ∉ dn:=λ z=>by have:=((hdn _).mp z).2;lia
   rw [if_neg dz] at d2
   have s3:=s3 i hi rfl
   have y:=(y2 i hi).1
   have nc:¬ bl A.length (aU A) (aV A) (fx x') (st.getD i 0) < bl A.length (aU A) (aV A) (fx x) (st.getD i 0):=λ z=>c ⟨_,v1,v2,z⟩
   lia
  have b0:∀ y:Nat->Int,(∀ i,i < st.length->y (lv.length+i)=0)->bl (eA n A lv st dn o).length (aU (eA n A lv st dn o)) (aV (eA n A lv st dn o)) y n=0:=λ y hy=>by
   unfold bl
   rw [eN,zba]
   have a1:sm lv.length (λ k=>trm (aU (eA n A lv st dn o) k) (aV (eA n A lv st dn o) k) (y k) n)=0:=by
    rw [<- zc3 lv.length]
    refine zv0 λ j hj=>?_
    have:=ok _ (lm j hj).1
    rw [(e1 j hj).1,(e1 j hj).2.1];exact zim _ (by lia) (by lia)
   have a2:sm st.length (λ i=>trm (aU (eA n A lv st dn o) (lv.length+i)) (aV (eA n A lv st dn o) (lv.length+i)) (y (lv.length+i)) n)=0:=by
    rw [<- zc3 st.length]
    exact zv0 λ i hi=>by rw [hy i hi,zce]
   have a3:sm dn.length (λ i=>trm (aU (eA n A lv st dn o) (lv.length+st.length+i)) (aV (eA n A lv st dn o) (lv.length+st.length+i)) (y (lv.length+st.length+i)) n)=0:=by
    rw [<- zc3 dn.length]
    refine zv0 λ i hi=>?_
    have:=(dm i hi).1
    rw [(e3 i hi).1,(e3 i hi).2.1];exact zim _ (by lia) (by lia)
   rw [a1,a2,a3];rfl
  have wF:within (eA n A lv st dn o).length (zn1 (eA n A lv st dn o)) (fx (eF x lv (st.length+dn.length))):=λ k hk=>by
   by_cases c1:k < lv.length
   ·rw [f1 k c1,(e1 k c1).2.2];exact wx _ (lm k c1).1
   ·rw [f2 k (by lia)]
    have:=wy k hk
    simp only at this
    lia
  have fe:flux (eA n A lv st dn o).length (aU (eA n A lv st dn o)) (aV (eA n A lv st dn o)) (λ k=>lf L (2 * k+1)) side=flux (eA n A lv st dn o).length (aU (eA n A lv st dn o)) (aV (eA n A lv st dn o)) (fx (eF x lv (st.length+dn.length))) side:=by
   rw [zw5 _ _ _ _ (zye b.ris),zw5 _ _ _ _ (zye b.ris)]
   congr 1
   refine xB λ w hw=>?_
   by_cases e:w=n
   ·rw [e,b0 _ zer,b0 _ λ i hi=>f2 _ (by lia)]
   ·exact eq w e λ z=>b.out (z ▸ hw)
  have tg:=zgh b.tight wF fe
  refine ⟨λ v hv ho=>?_,λ v hv ho hs=>?_,λ k hk hs=>?_⟩
  ·obtain ⟨i,hi,ei⟩:=vV.mp ((hst v).mpr ⟨hv,ho⟩)
   have e':st.getD i 0=v:=by rw [uR,uC hi,ei];rfl
   have:=(tg (lv.length+i) (by lia)).1
   rw [(e2 i hi).1,(e2 i hi).2.1,(e2 i hi).2.2,f2 _ (by lia),e'] at this
   exact Classical.byContradiction λ z=>by have:=this b.inn z;lia
  ·obtain ⟨i,hi,ei⟩:=vV.mp ((hdn v).mpr ⟨hv,ho⟩)
   have e':dn.getD i 0=v:=by rw [uR,uC hi,ei];rfl
   have:=(tg (lv.length+st.length+i) (by lia)).1
   rw [(e3 i hi).1,(e3 i hi).2.1,(e3 i hi).2.2,f2 _ (by lia),e'] at this
   have:=this hs b.out;lia
  ·obtain ⟨j,hj,ej⟩:=vV.mp ((hlv k).mpr ⟨hk,hs⟩)
   have e':lv.getD j 0=k:=by rw [uR,uC hj,ej];rfl
   have:=tg j (by lia)
   rw [(e1 j hj).1,(e1 j hj).2.1,(e1 j hj).2.2,f1 j hj,e'] at this
   exact ⟨λ z1 z2=>Classical.byContradiction λ z=>by have:=this.1 z1 z;lia,λ z1 z2=>Classical.byContradiction λ z=>by have:=this.2 z1 z;lia⟩
theorem zeg {m n:Nat} {eu ev:Nat->Nat} {p h cap x z:Nat->Int} (ok:∀ k,k < m->eu k < n/\ev k < n) (wx:within m cap x) (wz:within m cap z) (ft:∀ k,k < m->(x k < cap k->0<=h (eu k)+p k - h (ev k))/\(0 < x k->h (eu k)+p k - h (ev k)<=0)) (hb:∀ v,v < n->bl m eu ev x v=bl m eu ev z v):sm m (λ k=>p k * x k)<=sm m λ k=>p k * z k:=by
 have tot:∀ y:Nat->Int,sm m (λ k=>(h (ev k) - h (eu k)) * y k)=sm n λ v=>h v * bl m eu ev y v:=λ y=>by
  have one:∀ k,k < m->(h (ev k) - h (eu k)) * y k=sm n λ v=>h v * trm (eu k) (ev k) (y k) v:=λ k hk=>by
   have a:(λ v=>h v * trm (eu k) (ev k) (y k) v)=λ v=>(if v=ev k then h (ev k) * y k else 0) - (if v=eu k then h (eu k) * y k else 0):=funext λ v=>by
    unfold trm
    by_cases e1:v=ev k
    ·by_cases e2:v=eu k
     ·rw [if_pos e1.symm,if_pos e2.symm,if_pos e1,if_pos e2,<- e1,<- e2];simp
     ·rw [if_pos e1.symm,if_neg (λ z=>e2 z.symm),if_pos e1,if_neg e2,<- e1];simp
    ·by_cases e2:v=eu k
     ·rw [if_neg (λ z=>e1 z.symm),if_pos e2.symm,if_neg e1,if_pos e2,<- e2];simp [Int.mul_neg]
     ·rw [if_neg (λ z=>e1 z.symm),if_neg (λ z=>e2 z.symm),if_neg e1,if_neg e2];simp
   rw [a,zui,zmf _ (ok k hk).2,zmf _ (ok k hk).1,Int.sub_mul]
  rw [zv0 one]
  unfold bl
  have sw:∀ (f:Nat->Nat->Int) (a b:Nat),sm a (λ k=>sm b λ v=>f k v)=sm b λ v=>sm a λ k=>f k v:=λ f a b=>by
   induction a with
  |zero=>simp [sm,show ∀ b:Nat,((uM b).map λ _=>(0:Int)).sum=0 from λ b=>zc3 b]
  |succ a ih =>
    rw [zi1,ih,<- zci]
    exact zv0 λ v _=>(zi1 ..).symm
  rw [sw]
  refine zv0 λ v _=>?_
  have ml:∀ (c:Int) (g:Nat->Int) (a:Nat),sm a (λ k=>c * g k)=c * sm a g:=λ c g a=>by
   induction a with
  |zero=>simp [sm]
  |succ a ih=>rw [zi1,zi1,ih,Int.mul_add]
  exact ml ..
 have eqh:sm m (λ k=>(h (ev k) - h (eu k)) * x k)=sm m λ k=>(h (ev k) - h (eu k)) * z k:=by
  rw [tot,tot]
  exact zv0 λ v hv=>by rw [hb v hv]
 have le:sm m (λ k=>(h (eu k)+p k - h (ev k)) * x k)<=sm m λ k=>(h (eu k)+p k - h (ev k)) * z k:=zdg λ k hk=>by
  obtain ⟨f1,f2⟩:=ft k hk
  have w1:=wx k hk
  have w2:=wz k hk
  rcases Int.lt_trichotomy (h (eu k)+p k - h (ev k)) 0 with c|c|c
  ·have:x k=cap k:=by
    rcases zB w1.2 with y|y
    ·have:=f1 y;lia
    ·exact y
   rw [this]
   exact Int.mul_le_mul_of_nonpos_left (by lia) w2.2
  ·rw [c];simp
  ·have:x k=0:=by
    rcases zB w1.1 with y|y
    ·have:=f2 y;lia
    ·exact y.symm
   rw [this,Int.mul_zero]
   exact yJ (by lia) w2.1
 have sp:∀ y:Nat->Int,sm m (λ k=>p k * y k)=sm m (λ k=>(h (eu k)+p k - h (ev k)) * y k)+sm m λ k=>(h (ev k) - h (eu k)) * y k:=λ y=>by
  rw [<- zci]
  refine zv0 λ k _=>?_
  rw [<- yK]
  congr 1
  lia
 rw [sp x,sp z,eqh]
 lia
end _5
namespace _4
open PySem PySem.Spec PyProof.Rows _2 _3
section
variable {K:Fg} {te t1 t2 t3 t4:TE} {d1 d2 d3 d4:DE} {tA:TA} {dA:DF} {dn:DN} {t:TS} {d:DS}
noncomputable def zol:T->Bool
|.li ds=>ds.all zbl
|_=>false
theorem zte {F F':Hp}:∀ {xs:List V} {ds:List D},ds.all zbl=true->IsAll K F xs ds->IsAll K F' xs ds
|_,_,_,.nil=>.nil
|_,_,f,.cons h r=>by
  rw [xZ,wQ] at f
  exact .cons (zpg f.1 h) (zte f.2 r)
theorem zqy {F H:Hp}:∀ {vs:List V} {ds:List D},IsAll K F vs ds->ArgsR K F H vs (ds.map Arg.d) [] none
|_,_,.nil=>.nil
|_,_,.cons h r=>.d h (zqy r)
noncomputable def zjt (p:DSpT) (dA:DF):DN:=λ U Q=>dA U λ ds=>p (ds.map Arg.d) λ r _=>zol r=true/\Q r
theorem zf6 {p:DSpT} {E:XK} (h:RfAL K tA dA):RfN K (zhk (spT K p) [] E tA) (zjt p dA):=by
 intro F H Y U Qd Q s rv hd k
 refine h s rv hd λ ds hp vs F1 H1 e1 i1=>?_
 rw [vL]
 refine ⟨H1,_,[],none,_,(λ _ _ z=>z),zqy i1,λ b hb=>by simp [ofp] at hb,hp,λ r t2 q v F' H' fpr fpo post=>?_⟩
 obtain ⟨q1,q2⟩:=q
 have hs:Same H1 H':=λ b o z=>post.hh b o (by simp [ofp]) z
 have ex:Ext F1 H1 F1 H':=⟨hs,λ _ _ z=>z,e1.fh.trans hs,λ _ _ z=>z⟩
 have fr:=post.fr
 have nd:=post.nd
 have rt:=post.rt
 cases rt with
|li g1 g2 g3 =>
  rename_i a xs ds'
  have ha:H1 a=none:=fr a (by simp)
  have fa:F1 a=none:=by
   cases z:F1 a with
  |none=>rfl
  |some o=>rw [e1.fh a o z] at ha;cases ha
  exact k _ q2 _ F1 H' _ (e1.trans ex) (.li g1 fa (zte q1 g3)) nd λ b hb=>zd1 e1 (fr b hb)
|_=>cases q1
theorem RfN.z (h:RfN K te dn):RfE K te (dNL dn):=λ s rv hd k=>h s rv hd λ r q v F' H' fp e1 h1 h2 h3=>by
 obtain ⟨d,ed,q⟩:=q
 obtain ⟨F2,s1,s2,s3,s4⟩:=zjs e1.fh h1 ed h2
 exact k d q v F2 H' ⟨e1.h,e1.f.trans s1,s2,λ b hb fb=>by rw [s3 b λ z=>hb.1 (h3 b z)];exact e1.nw b hb fb⟩ s4
noncomputable abbrev DSpV:=List D->T->(T->Prop)->Prop
noncomputable def erH (H:Hp) (fp:List Addr):Hp:=λ b=>if b∈fp then none else H b
theorem zgk {H:Hp} {fp:List Addr} {b:Addr} (h:b∈fp):erH H fp b=none:=if_pos h
theorem zp9 {H:Hp} {fp:List Addr} {b:Addr} (h:b ∉ fp):erH H fp b=H b:=if_neg h
structure PostV (K:Fg) (F H:Hp) (fp:List Addr) (F' H':Hp) (v:V) (r:T) (fpr:List Addr):Prop where
 hh:∀ b o,b ∉ fp->H b=some o->H' b=some o
 ff:Same F F'
 fh:Same F' H'
 nw:∀ b,b ∉ fp->HD (H b)->F b=none->F' b=none
 rt:Rt K F' H' v r fpr
 nd:fpr.Nodup
 fr:∀ a∈fpr,H a=none \/ a∈fp
noncomputable def spV (K:Fg) (p:DSpV):Sp:=λ vs H Q _=>∃ F ws v ds t fp Qd,vs=ws++[v]/\Same F H/\IsAll K F ws ds/\Rt K F H v t fp/\fp.Nodup/\p ds t Qd/\∀ r,Qd r->∀ u F' H' fpr,PostV K F H fp F' H' u r fpr->Q u H'
noncomputable def znd (N:List Str) (ds:List D) (t:T):DSt:=ds.map Sl.sh++.ow t :: uN (N.length - ds.length - 1) .un
noncomputable def zb71 (Qd:T->Prop):DEnds:={ nx:=λ _=>Qd (.fz .none),rt:=λ r _=>Qd r }
theorem zw81 {p:DSpV} {ps:List Str} (h:∀ ds t Qd,p ds t Qd->ds.length+1=ps.length):∀ vs H Q E,spV K p vs H Q E->vs.length=ps.length:=λ vs H Q E z=>by
 obtain ⟨F,ws,v,ds,t,fp,Qd,rfl,_,ha,_,_,hp,_⟩:=z
 rw [vB,ha.dlen];exact h ds t Qd hp
theorem zls {F H:Hp} {N:List Str} {ws:List V} {v:V} {ds:List D} {t:T} {fp:List Addr} (s:Same F H) (h:IsAll K F ws ds) (hr:Rt K F H v t fp) (nd:fp.Nodup):RS K ⟨F,erH H fp,[]⟩ F H (_2.start N (ws++[v])) (znd N ds t) (λ i=>if i=ds.length then fp else []):=by
 have el:=h.dlen
 have key:∀ (i:Nat) sl,(znd N ds t)[i]?=some sl->(i < ds.length/\∃ d,ds[i]?=some d/\sl=.sh d) \/ (i=ds.length/\sl=.ow t) \/ sl=.un:=λ i sl e=>by
  unfold znd at e
  by_cases hi:i < ds.length
  ·rw [u6 (by simpa using hi),uI] at e
   obtain ⟨x,h1,z⟩:=u5.mp e
   exact .inl ⟨hi,x,h1,z.symm⟩
  ·rw [u7 (by simpa using hi),uA] at e
   by_cases hj:i=ds.length
   ·subst hj;rw [Nat.sub_self] at e;cases e;exact .inr (.inl ⟨rfl,rfl⟩)
   ·obtain ⟨m,hm⟩:∃ m,i - ds.length=m+1:=⟨i - ds.length - 1,by lia⟩
    rw [hm,zW,vT] at e
    split at e
    ·cases e;exact .inr (.inr rfl)
    ·cases e
 have has:∀ (i:Nat) sl,(znd N ds t)[i]?=some sl->sl.has=true->i=ds.length/\sl=.ow t:=λ i sl e hs=>by
  rcases key i sl e with ⟨_,d,_,z⟩|z|z
  ·subst z;cases hs
  ·exact z
  ·subst z;cases hs
 have val:∀ (i:Nat) x,(ws++[v])[i]?=some x->(_2.start N (ws++[v])).getD i none=some x:=λ i x e=>by
  have hi:i < (ws++[v]).length:=by
   rcases vI i (ws++[v]).length with z|z
   ·exact z
   ·rw [vC z] at e;cases e
  unfold _2.start
  rw [uR,u6 (by simpa using hi),uI,e]
  rfl
 refine ⟨λ b o _ z=>?_,λ _ _ z=>z,s,λ b _ z=>z,λ b=>⟨λ z=>?_,λ z=>?_⟩,by simp [_2.start,znd,el];lia,λ i x e=>?_,λ i sl e hs=>?_,λ i sl e ho a ha=>?_,λ i j sl sl' hij e1 e2 o1 o2=>?_⟩
 ·replace z:erH H fp b=some o:=z
  by_cases c:b∈fp
  ·rw [zgk c] at z;cases z
  ·rw [zp9 c] at z;exact z
 ·replace z:erH H fp b≠none:=z
  by_cases c:b∈fp
  ·exact absurd (zgk c) z
  ·rw [zp9 c] at z;exact z
 ·replace z:HD (erH H fp b):=z
  by_cases c:b∈fp
  ·exact absurd (zgk c) z.1
  ·rw [zp9 c] at z;exact z
 ·rcases key i _ e with ⟨hi,d,e1,e2⟩|⟨_,z⟩|z
  ·cases e2
   obtain ⟨y,hy,iy⟩:=h.dget e1
   exact ⟨y,val i y (by rw [u6 (by lia)];exact hy),iy⟩
  ·cases z
  ·cases z
 ·obtain ⟨rfl,rfl⟩:=has i sl e hs
  refine ⟨v,t,val _ v (by rw [<- el,u7 (uG _),Nat.sub_self];rfl),rfl,?_,λ a u z=>(by cases z),?_⟩
  ·rw [if_pos rfl];exact hr
  ·rw [if_pos rfl];exact nd
 ·obtain ⟨rfl,rfl⟩:=has i sl e (zt3 ho)
  rw [if_pos rfl] at ha
  exact .inl (zgk ha)
 ·obtain ⟨rfl,_⟩:=has i sl e1 (zt3 o1)
  obtain ⟨rfl,_⟩:=has j sl' e2 o2
  exact absurd rfl hij
theorem zp01 {P:Program} {w:World} {mg:Str->Option Value} {base:Heap} {qual:Str} {st:Stmt} {N:List Str} {k:Nat} {p:DSpV}
  (body:∀ (f:Addr) (cdv:Value) (A:Around) (outer:List Env) (s:Shared) (H:Hp) (E:XK),Room k (A.deeper (envOfC qual (zf0 st) s.heap.objs.size f cdv))->∃ t d,PSs (cxOf CX0 P w K mg base N qual (zf0 st) f cdv A outer s H E).nox (zz1 st) t/\RfS K t d/\∀ ds tr Qd,p ds tr Qd->d (zb71 Qd) (znd N ds tr)) :
  zd4 P w K mg base qual st N k (spV K p):=by
 intro f cdv A outer s H vs Q E hr h
 obtain ⟨F,ws,v,ds,tr,fp,Qd,rfl,sf,ha,hv,nd,hp,hq⟩:=h
 obtain ⟨t,d,h1,h2,h3⟩:=body f cdv A outer s H E hr
 have rs:=zls (N:=N) sf ha hv nd
 have fin:∀ {F' H':Hp} {Y':_2.St} {U':DSt} {fps':Nat->List Addr} {u:V} {r:T} {fpr:List Addr},Res K ⟨F,erH H fp,[]⟩ F' H' Y' U' fps' u r fpr->Qd r->Q u H':=λ {F' H' Y' U' fps' u r fpr} res ex=>by
  refine hq r ex u F' H' fpr ⟨λ b o hb z=>res.rs.hh b o (by simp) (show erH H fp b=some o by rw [zp9 hb];exact z),res.rs.ff,res.rs.fh,λ b hb hd fb=>res.rs.nw b (show HD (erH H fp b) by rw [zp9 hb];exact hd) fb,res.rt,res.nd,λ a ha=>?_⟩
  have z:erH H fp a=none:=res.fr a ha
  by_cases c:a∈fp
  ·exact .inr c
  ·rw [zp9 c] at z;exact .inl z
 exact ⟨t,h1,h2 rs (h3 ds tr Qd hp) ⟨λ r q=>fin ⟨r,.fz .non,.nil,λ a ha=>by simp at ha,λ _ _ _ _ a _ ha=>by simp at ha⟩ q,λ _ z=>z.elim,λ _ z=>z.elim,λ res q=>fin res q⟩⟩
noncomputable def zuy (p:DSpV) (d1 d2 d3 d4:DE) (dn:DN):DN:=λ U Q=>d1 U λ x1=>d2 U λ x2=>d3 U λ x3=>d4 U λ x4=>dn U λ t=>p [x1,x2,x3,x4] t Q
theorem zup {p:DSpV} {E:XK} (h1:RfE K t1 d1) (h2:RfE K t2 d2) (h3:RfE K t3 d3) (h4:RfE K t4 d4) (h5:RfN K te dn):RfN K (zhk (spV K p) [] E (zl4 t1 (zl4 t2 (zl4 t3 (zl4 t4 (zl4 te tNil)))))) (zuy p d1 d2 d3 d4 dn):=by
 intro F H Y U Qd Q s rv hd k
 refine h1 s rv hd λ x1 hd v1 F1 H1 e1 i1=>h2 e1.fh (rv.ext e1) hd λ x2 hd v2 F2 H2 e2 i2=>?_
 have e12:=e1.trans e2
 refine h3 e2.fh (rv.ext e12) hd λ x3 hd v3 F3 H3 e3 i3=>?_
 have e13:=e12.trans e3
 refine h4 e3.fh (rv.ext e13) hd λ x4 hd v4 F4 H4 e4 i4=>?_
 have e14:=e13.trans e4
 refine h5 e4.fh (rv.ext e14) hd λ t hd v5 F5 H5 fp e5 hr nd fr=>?_
 have e15:=e14.trans e5
 have old:∀ b,H b≠none->b ∉ fp:=λ b hb z=>hb (zd1 e14 (fr b z))
 refine ⟨F5,[v1,v2,v3,v4],v5,_,t,fp,_,rfl,e5.fh,.cons (i1.mono (((e2.trans e3).trans e4).trans e5).f) (.cons (i2.mono ((e3.trans e4).trans e5).f) (.cons (i3.mono (e4.trans e5).f) (.cons (i4.mono e5.f) .nil))),hr,nd,hd,λ r q v F' H' fpr post=>?_⟩
 refine k _ q v F' H' fpr ⟨λ b o z=>post.hh b o (old b (by rw [z];simp)) (e15.h b o z),e15.f.trans post.ff,post.fh,λ b hb fb=>post.nw b (old b hb.1) (hb.mono e15.h) (e15.nw b hb fb)⟩ post.rt post.nd λ a ha=>?_
 rcases post.fr a ha with z|z
 ·exact zd1 e15 z
 ·exact zd1 e14 (fr a z)
noncomputable def zzw (i j:Nat):DS:=λ E U=>∃ t u,i≠j/\U[i]?=some (.ow t)/\U[j]?=some (.ow u)/\zch t/\E.rt (.tp [t,u]) ((U.set i .un).set j .un)
theorem zqn {i j:Nat}:RfS K (tRet (zv31 (zl4 (tVar i) (zl4 (tVar j) tNil)))) (zzw i j):=by
 intro B F H Y U fps E Z r h k
 obtain ⟨t,u,hij,qi,qj,nf,h⟩:=h
 obtain ⟨x,t',a1,a2,a3,a4,a5⟩:=r.rt i _ qi rfl
 cases a2
 obtain ⟨y,u',b1,b2,b3,b4,b5⟩:=r.rt j _ qj rfl
 cases b2
 refine ⟨x,zg2 (F:=F) (H:=H) (U:=U) a1,y,zg2 (F:=F) (H:=H) (U:=U) b1,⟨by rw [sizeLine_eq];simp,λ l hl=>?_⟩⟩
 have e3:Ext F H F (upd H l (.tup [x,y])):=zg6 r.fh hl
 have fl:F l=none:=by
  cases z:F l with
 |none=>rfl
 |some o=>rw [r.fh l o z] at hl;cases hl
 have r2:=r.grow e3
 have lN:=r.newOk hl
 obtain ⟨ax,ea⟩:=a3.isRef nf
 have li:l ∉ fps i:=lN.2 i _ qi rfl
 have lj:l ∉ fps j:=lN.2 j _ qj rfl
 have dij:∀ a∈fps i,a ∉ fps j:=r.dj i j _ _ hij qi qj rfl rfl
 refine k.rt (v:=.ref l) (r:=.tp [t,u]) (fpr:=l :: (fps i++(fps j++[]))) ⟨(r2.forget i).forget j,.tp zi0 fl (by rw [ea];exact zrz) (.cons (Rt.grow e3 a3) (.cons (Rt.grow e3 b3) .nil)),?_,λ b hb=>?_,λ m s em hs a ha hb=>?_⟩ h
 ·rw [vL]
  refine uQ.mpr ⟨λ z=>?_,uW.mpr ⟨a5,b5,λ a ha b hb z=>dij a ha (z ▸ hb)⟩⟩
  rcases uF.mp z with y|y
  ·exact li y
  ·exact lj y
 ·rw [vL] at hb
  rcases uD.mp hb with z|z
  ·subst z;exact lN.1
  ·rcases uF.mp z with z|z
   ·exact (r.fr i _ qi rfl b z).elim id λ y=>absurd rfl (y.2 t)
   ·exact (r.fr j _ qj rfl b z).elim id λ y=>absurd rfl (y.2 u)
 ·rw [vL] at hb
  have em2:m≠i/\m≠j/\U[m]?=some s:=by
   by_cases c1:j=m
   ·subst c1
    rw [vU] at em
    split at em
    ·split at em
     ·cases em;cases hs
     ·cases em
    ·rename_i z;exact absurd rfl z
   ·rw [vK c1] at em
    by_cases c2:i=m
    ·subst c2
     rw [vU] at em
     split at em
     ·split at em
      ·cases em;cases hs
      ·cases em
     ·rename_i z;exact absurd rfl z
    ·rw [vK c2] at em
     exact ⟨λ z=>c2 z.symm,λ z=>c1 z.symm,em⟩
  obtain ⟨m1,m2,m3⟩:=em2
  rcases uD.mp hb with z|z
  ·subst z;exact lN.2 m s m3 hs ha
  ·rcases uF.mp z with z|z
   ·exact r.dj i m _ s (λ y=>m1 y.symm) qi m3 rfl hs a z ha
   ·exact r.dj j m _ s (λ y=>m2 y.symm) qj m3 rfl hs a z ha
theorem RS.frzW {B:Bs} {F H:Hp} {Y:_2.St} {U:DSt} {fps:Nat->List Addr} {i:Nat} {t:T} {d:D} (r:RS K B F H Y U fps) (q:U[i]?=some (.ow t)) (fz:∀ {v:V} {fp:List Addr},Rt K F H v t fp->fp.Nodup->∃ F2,Same F F2/\Same F2 H/\(∀ b,b ∉ fp->F2 b=F b)/\Is K F2 v d):∃ F2 fps2,RS K B F2 H Y (U.set i (.sh d)) fps2:=by
 obtain ⟨x,t',a1,a2,a3,a4,a5⟩:=r.rt i _ q rfl
 cases a2
 obtain ⟨F2,s1,s2,s3,s4⟩:=fz a3 a5
 have r2:=r.upd2 (i:=i) (s:=.ow t) (x:=x) (t2:=.fz d) (fp2:=[]) (F2:=F2) (H2:=H) q rfl a1 (λ _ _ _ z=>z) s1 s2 (λ b _ fb hb=>by rw [s3 b hb];exact fb) (λ _=>⟨id,id⟩) (.fz s4) .nil (λ b hb=>by simp at hb) (λ b hb _=>(r.fr i _ q rfl b hb).elim id λ z=>absurd rfl (z.2 t))
 have r3:=r2.setS (i:=i) s4
 rw [yD] at r3
 have eY:Y.set i (some x)=Y:=by
  apply yE
  intro j
  rw [vU]
  by_cases hij:i=j
  ·subst hij
   have hlt:i < Y.length:=by
    rw [r.len]
    rcases vI i U.length with z|z
    ·exact z
    ·rw [vC z] at q;cases q
   simp [hlt]
   have:=zg2 (F:=F) (H:=H) (U:=U) a1
   rw [uC hlt] at this
   exact (u8.inj this).symm
  ·simp [hij]
 rw [eY] at r3
 exact ⟨F2,_,r3⟩
noncomputable def dFz2 (i:Nat) (d:DS):DS:=λ E U=>(∃ a b,U[i]?=some (.ow (.tp [.li a,.li b]))/\d E (U.set i (.sh (.tuple [.list a,.list b])))) \/ (∃ x,U[i]?=some (.sh x))/\d E U
theorem zn41 {F H:Hp} (s:Same F H) {v:V} {x y:List D} {fp:List Addr} (h:Rt K F H v (.tp [.li x,.li y]) fp) (nd:fp.Nodup):∃ F2,Same F F2/\Same F2 H/\(∀ b,b ∉ fp->F2 b=F b)/\Is K F2 v (.tuple [.list x,.list y]):=by
 cases h with
|tp h1 h2 gk h3 =>
  rename_i a xs fp
  cases h3 with
 |cons g1 g2 =>
   rename_i fp1 fq1
   cases g2 with
  |cons g2 g3 =>
    cases g3
    rename_i fp2
    rw [vL] at nd ⊢
    obtain ⟨n1,n2⟩:=uQ.mp nd
    obtain ⟨m1,m2,m3⟩:=uW.mp n2
    obtain ⟨F1,s1,s2,s3,s4⟩:=zjs s g1 (d:=.list x) rfl m1
    have g2':=g2.frame s1 λ b hb=>⟨rfl,by rw [s3 b λ z=>m3 b z b hb rfl];exact (g2.dom b hb).2⟩
    obtain ⟨F2,s5,s6,s7,s8⟩:=zjs s2 g2' (d:=.list y) rfl m2
    have fa:F2 a=none:=by
     rw [s7 a λ z=>n1 (vW _ z),s3 a λ z=>n1 (xV _ z)];exact h2
    rename_i v1 v2
    have sn:Same F2 (upd F2 a (.tup [v1,v2])):=zx1 fa _
    refine ⟨upd F2 a (.tup [v1,v2]),(s1.trans s5).trans sn,λ b o z=>?_,λ b hb=>?_,.tup zi0 (.cons (s4.mono (s5.trans sn)) (.cons (s8.mono sn) .nil))⟩
    ·by_cases q:b=a
     ·subst q;rw [zi0] at z;cases z;exact h1
     ·rw [zn0 q] at z;exact s6 b o z
    ·have hb1:b≠a:=λ z=>hb (by simp [z])
     rw [zn0 hb1,s7 b λ z=>hb (by simp [z]),s3 b λ z=>hb (by simp [z])]
theorem zm31 (i:Nat) (h:RfS K t d):RfS K t (dFz2 i d):=by
 intro B F H Y U fps E Z r hd k
 rcases hd with ⟨a,b,q,hd⟩|⟨_,hd⟩
 ·obtain ⟨F2,fps2,r2⟩:=r.frzW q λ h nd=>zn41 r.fh h nd
  exact h r2 hd k
 ·exact h r hd k
noncomputable def zh51 (i k j:Nat):DS:=λ E U=>∃ ts t,U[i]?=some (.ow (.tp ts))/\ts[k]?=some t/\zch t/\i≠j/\E.nx ((U.set i (.ow (.tp (ts.set k .wh)))).set j (.ow t))
theorem zow {w:World} {i k j:Nat}:RfS K (tAsg (tOp (rIxV w K) (tVar i) (tC (.int (k:Int)))) (zfj j)) (zh51 i k j):=by
 intro B F H Y U fps E Z r h kk
 obtain ⟨ts,t,qi,et,nf,hij,h⟩:=h
 obtain ⟨x,t',a1,a2,a3,a4,a5⟩:=r.rt i _ qi rfl
 cases a2
 refine ⟨x,zg2 (F:=F) (H:=H) (U:=U) a1,?_⟩
 have hfi:=r.fr i _ qi rfl
 have hdj:=r.dj i
 obtain ⟨fpi,hfp⟩:∃ fpi,fps i=fpi:=⟨_,rfl⟩
 rw [hfp] at a3 a5 hfi
 cases a3 with
|tp g1 g2 gk g3 =>
  rename_i l xs fp
  have el:=g3.len
  have hk:k < ts.length:=by
   rcases vI k ts.length with y|y
   ·exact y
   ·rw [vC y] at et;cases et
  obtain ⟨y,hx⟩:∃ y,xs[k]?=some y:=⟨xs[k]'(by lia),uC _⟩
  obtain ⟨fA,fj,fB,efp,hj,back⟩:=g3.split hx et
  obtain ⟨ay,ey⟩:=hj.isRef nf
  subst ey
  have keep:=back (F2:=F) (H2:=H) (u:=.wh) (fq:=[]) (λ _ _ z=>z) (λ b hb=>⟨rfl,(g3.dom b (by rw [efp];rcases uF.mp hb with z|z <;> simp [z])).2⟩) .wh
  subst efp
  obtain ⟨n1,n2⟩:=uQ.mp a5
  obtain ⟨n3,n4,n5⟩:=uW.mp n2
  obtain ⟨n6,n7,n8⟩:=uW.mp n4
  refine .inl (zj71 (SqT.of g1) (v:=.ref ay) ?_ ?_)
  ·rw [zr7 hx]
  have sub:∀ b∈l :: (fA++([]++fB)),b∈l :: (fA++(fj++fB))/\b ∉ fj:=λ b hb=>by
   rcases uD.mp hb with z|z
   ·subst z;exact ⟨by simp,λ z=>n1 (by simp [z])⟩
   ·rcases uF.mp z with z|z
    ·exact ⟨by simp [z],λ y=>n5 b z b (by simp [y]) rfl⟩
    ·exact ⟨by simp at z ⊢;simp [z],λ y=>n8 b y b (by simpa using z) rfl⟩
  have nd2:(l :: (fA++([]++fB))).Nodup:=by
   refine uQ.mpr ⟨λ z=>n1 ?_,uW.mpr ⟨n3,by simpa using n7,λ a ha b hb z=>n5 a ha b (by simp at hb ⊢;simp [hb]) z⟩⟩
   rcases uF.mp z with z|z
   ·simp [z]
   ·simp at z ⊢;simp [z]
  have r2:=r.upd2 (i:=i) (s:=.ow (.tp ts)) (x:=.ref l) (t2:=.tp (ts.set k .wh)) (fp2:=l :: (fA++([]++fB))) (F2:=F) (H2:=H) qi rfl a1 (λ _ _ _ z=>z) (λ _ _ z=>z) r.fh (λ b _ fb _=>fb) (λ _=>⟨id,id⟩) (.tp g1 g2 gk keep) nd2 (λ b hb=>.inl (by rw [hfp];exact (sub b hb).1)) (λ b hb _=>(r.fr i _ qi rfl b hb).elim id λ z=>absurd rfl (z.2 _))
  have r3:=r2.setT (i:=j) (v:=.ref ay) (t:=t) (fp:=fj) hj n6 (λ a ha=>(hfi a (by simp [ha])).elim id λ z=>absurd rfl (z.2 _)) λ m s em hs a ha hb=>by
   by_cases c:m=i
   ·subst c
    rw [if_pos rfl] at ha
    exact (sub a ha).2 hb
   ·rw [if_neg c] at ha
    rw [vK (λ z=>c z.symm)] at em
    exact hdj m _ s (λ z=>c z.symm) qi em rfl hs a (by rw [hfp];simp [hb]) ha
  exact kk.nx r3 h
end
section
variable (dA:DF) (d1 d2 d3 d4:DE) (dn:DN) (i j k:Nat) (d:DS) (U:DSt) (E:DEnds)
theorem zrq (p:DSpT) (Q:T->Prop):zjt p dA U Q=(dA U λ ds=>p (ds.map Arg.d) λ r _=>zol r=true/\Q r):=rfl
theorem zdq (p:DSpV) (Q:T->Prop):zuy p d1 d2 d3 d4 dn U Q=(d1 U λ x1=>d2 U λ x2=>d3 U λ x3=>d4 U λ x4=>dn U λ t=>p [x1,x2,x3,x4] t Q):=rfl
theorem zio:zzw i j E U=∃ t u,i≠j/\U[i]?=some (.ow t)/\U[j]?=some (.ow u)/\zch t/\E.rt (.tp [t,u]) ((U.set i .un).set j .un):=rfl
theorem zqv:zh51 i k j E U=∃ ts t,U[i]?=some (.ow (.tp ts))/\ts[k]?=some t/\zch t/\i≠j/\E.nx ((U.set i (.ow (.tp (ts.set k .wh)))).set j (.ow t)):=rfl
theorem zl41:dFz2 i d E U=((∃ a b,U[i]?=some (.ow (.tp [.li a,.li b]))/\d E (U.set i (.sh (.tuple [.list a,.list b])))) \/ (∃ x,U[i]?=some (.sh x))/\d E U):=rfl
end
end _4
open PySem PySem.Spec PyProof.Rows _2 _3 _4 _5
local macro_rules|`(tactic| walk_at "sc")=>`(tactic| exact ⟨rfl,rfl,rfl,by decide +kernel,rfl,by decide +kernel,by decide +kernel⟩)
local macro_rules|`(tactic| walk_at "csc")=>`(tactic| exact ⟨rfl,by decide +kernel,by decide +kernel,by decide +kernel,by decide +kernel⟩)
local macro_rules|`(tactic| walk_at "ds")=>do `(tactic| simp only [$(<- ("zua zag znd zyz List.map_cons List.map_nil List.length_cons List.length_nil Nat.reduceAdd Nat.reduceSub List.replicate List.cons_append List.nil_append".splitOn " ").toArray.mapM λ s=>`(Lean.Parser.Tactic.simpLemma| $(Lean.mkIdent s.toName):ident)),*])
local macro_rules|`(tactic| walk_at "cs")=>do `(tactic| simp only [$(<- ("cST List.map_cons List.map_nil List.replicate List.cons_append List.nil_append List.getD_cons_zero List.getD_cons_succ".splitOn " ").toArray.mapM λ s=>`(Lean.Parser.Tactic.simpLemma| $(Lean.mkIdent s.toName):ident)),*])
local macro_rules|`(tactic| walk_at "dd")=>do `(tactic| simp only [$(<- ("e_dF zz21 zcx zhu znv zwj zat zsu zrq zdq zio zqv zl41 zb71 zep zr41 zsk zrx fAny fShl fShr nI zge za51 zyu isP lnP zt81 zz81 zy71 e_dC zca1 zsz zs91 zdt zpx zqu zb01 zd11 zi81 zm41 zq11 ze41 zjy zc21 zz01 zrv zpn zq91 zfa1 zha1 zvj zgu zh91 zf31 zl81 zzu zi21 zlx e_gN zhy zyn e_gT ztx zu01 zg91 zn91 zd91 e_cE e_cF zbv zt31 zj41 zly za21 znu zu91 zk91 zj11 za41 ziw zo41 zf41 zx81 zt91 e_nF e_cN zg21 ze01 zt11 e_aD e_aB e_aO zhw zby zou zkt e_eN zzx zmu zvy zo21 zq01 zoy zt01 zuz ze31 zc11 zm91 zdw zns zk41 ze21 zo11 zg01 zw71 zia1 zl91 zxx zyx zu41 zus zd81 zr31 zix fAdd fCat fI fI0 fMul fRep fEq fNe zsw fIsN zi41 fIx zbl fNeg fB fTru fLen fAbs fSum zh41 zg31 zso zxn fSl fSlF zgw fZip zv21 zx01 zm01 zw21 zf21 zp41 zpu zh11 zl21 ze81 zs21 fzT vwT slT slot Sl.wth mApp mExt zc31 mPop fPut fGet fHas fII keyD nFld nCls noM nSet nIx noO noS zcn oneO zch ArgP.arg toD zlt zu71 exA oIx List.getElem?_cons_zero List.getElem?_cons_succ List.set_cons_zero List.set_cons_succ List.length_cons List.length_nil List.map_cons List.map_nil List.nil_append List.cons_append List.lookup putA setP getP beq_self_eq_true Nat.reduceAdd Nat.reduceSub Nat.reduceMul Int.reduceAdd Int.reduceSub Int.reduceMul Int.reduceNeg Int.reduceLT Int.reduceLE Int.reducePow Int.reduceToNat Nat.reducePow Nat.reduceLT Nat.reduceLeDiff Nat.reduceEqDiff Int.reduceEq Int.reduceMod Int.reduceDiv Int.reduceBEq Int.reduceBNe Int.reduceGT Int.reduceGE zaz CPow sizeLine_eq decide_eq_true_eq decide_true decide_false Bool.not_true Bool.not_false Bool.not_eq_true' Bool.not_eq_eq_eq_not Bool.not_not decide_eq_false_iff_not decide_not true_and and_true if_true if_false Bool.false_eq_true reduceCtorEq ite_true ite_false not_false_eq_true not_true_eq_false ne_eq Option.some.injEq exists_eq_left' exists_eq_left Option.map_some Option.map_none Option.bind_some zm8 zk6 zv7 zp6 zj6 zi6 zb9 zu8 zp7 zga zha zx8 zb6 zu5 zh5 zt8 zs8 zc8 zsa zva zz8 zp8 zv8 zl7 zcb zpc zra zae zic zdd zdc zec zob".splitOn " ").toArray.mapM λ s=>`(Lean.Parser.Tactic.simpLemma| $(Lean.mkIdent s.toName):ident)),*])
local macro_rules|`(tactic| walk_at "dn")=>`(tactic| (refine zd0 λ J hJ=>?_;walk_at "dd";refine hJ _ ?_;clear hJ))
local macro_rules|`(tactic| walk_at "dns")=>`(tactic| repeat walk_at "dn")
namespace _39
open PySem PySem.Spec PyProof.Rows _2 _3 _4 _5
def top (i:Nat):Stmt:=PySem.Challenge.pw_vatyard_k39_cheapest_keeps.main.body.getD i (.Pass ⟨0,0,0,0⟩)
abbrev zm1:Stmt:=zh6 (top 1) 0
abbrev zj2:Stmt:=zh6 (top 1) 1
abbrev zt2:Stmt:=zh6 (top 1) 2
abbrev zt1:Stmt:=zh6 (top 1) 3
abbrev zs1:Stmt:=zh6 (top 1) 4
abbrev zu2:Stmt:=zh6 (top 1) 5
abbrev zk2:Stmt:=zh6 (top 1) 6
abbrev zc2:Stmt:=zh6 (top 1) 7
abbrev zm7:Stmt:=top 2
abbrev zi3:Stmt:=top 5
abbrev zk7:Stmt:=top 6
abbrev zfa:Stmt:=top 7
abbrev zh4:Stmt:=top 8
abbrev zad:Stmt:=top 9
abbrev zi5:Stmt:=top 10
abbrev zy5:Stmt:=top 11
abbrev zka:Stmt:=top 12
abbrev zq3:Stmt:=top 13
abbrev zl5:Stmt:=top 14
abbrev zg3:Stmt:=top 15
abbrev zk3:Stmt:=top 17
abbrev zx4:Stmt:=top 18
abbrev zc6:Stmt:=top 19
abbrev zv2:Stmt:=top 20
abbrev zc5:Stmt:=top 21
abbrev zux:Stmt:=top 22
section
variable {P:Program} {w:World} {K:Fg} {mg:Str->Option Value} {base:Heap} {jA:Addr}
noncomputable def ze4 (C:Addr):DSpT:=λ as Q=>∃ (m:Nat) (E:List Nat) (L:List Int) (S:List (List Nat)) (lv:List (Nat×Nat)) (tr:List Nat) (lev:Nat),as=[.b (oS C E L S),.b (.dk (kN lv)),.o (.li (tr.map nI)),.d (nI lev)]/\E.length=2 * m/\L.length=2 * m /\
 (∀ s∈tr,s < 2 * m/\(0 < lf L s->(lkp lv (hd E s)).isSome=true))/\∀ j,j<=tr.length->(∀ (i:Nat) s,j<=i->tr[i]?=some s->¬(0 < lf L s/\lkp lv (hd E s)=some lev))->(j=0->Q (.fz .none) (.li []))/\∀ s,0 < j->tr[j - 1]?=some s->0 < lf L s->lkp lv (hd E s)=some lev->Q (.fz (nI s)) (.li ((tr.take j).map nI))
theorem zp3:FnScope ["self", "levels", "steps", "level", "step"] ["self", "levels", "steps", "level"] (zf0 zk2):=by walk_at "sc"
theorem zv6 (jB:Cls K jA) (T:TopMeth K jA "step_up" "Stream.step_up" zk2) (jJ:mg "len"=none) (jC:NoAttr K jA "left") (jD:NoAttr K jA "ends"):zjc P w K mg base jA "step_up" 1 ["self", "levels", "steps", "level"] (spT K (ze4 jA)):=by
 refine za7 jB T zp3 (λ _ _ _ _ _ _ us hl=>by obtain ⟨_,_,_,_,rfl⟩:=ar4 hl;rfl) (zuc λ as Qd h=>by obtain ⟨_,_,_,_,_,_,_,rfl,_⟩:=h;rfl) (zm4 ?_)
 intro f cdv A outer s H E hr
 have nd:=zp3.nd
 refine ⟨_,_,(zc0 (ze5 PassesOwn.never (zp4 (K:=K) rfl (pv 2) (λ _=>rfl)) (zc0 (pset 4 nd (pix w K hr (pv 2) (zp1 zyb (zu0 (zu1 (K:=K) rfl) rfl jJ zj7 (za0 (pv 2) zg0)) zl0)))
   (zc0 (zqb (PW.pt (zmt (zz0 zuo (pix w K hr (zb2 (K:=K) rfl (pv 0) rfl) (pv 4)) zl0 (za2 _)) (zpm (zz0 (zbq (K:=K) rfl (Room.units hr)) (pix w K hr (pv 1) (pix w K hr (zb2 (K:=K) rfl (pv 0) rfl) (pv 4))) (pv 3) (za2 _))))) (zj0 (zl1 (pv 4))) zs2)
   (zj0 (zo1 (zfc (K:=K) rfl PySem.F.plainAttrs_list PySem.F.slot_list_pop PySem.F.type_list_pop zeo (pv 2)))))))
   (zj0 (zl1 zxo))),(zk0 (zy4 (zya (zb0 2)) (zk0 (zk1 (zr0 r_ix (zb0 2) (RfE.v (zr0 zzm (RfE.v (zef zej (zw0 (zb0 2) zv1))) rvi))) (rgn 4))
   (zk0 (zjb (zey (zy0 (zr0 r_gt (RfE.v (zr0 r_ix (RfP.v (zk4 jB jC (zm0 0))) (zb0 4))) rvi)) (zy0 (zr8 q_eq (RfV.h (RfE.v (zjg (zm0 1) (zr0 r_ix (RfP.v (zk4 jB jD (zm0 0))) (zb0 4))))) (RfV.h (zb0 3))))) (za3 (RfE.c (zh0 4))) zo2)
   (zq1 (zdo zgp (zm0 2))))))
   (za3 (RfE.c zxq))),?_⟩
 rintro as Qd a ⟨m,E,L,S,lv,tr,lev,rfl,hE,hL,hb,q⟩
 walk_at "ds"
 refine zxh ?_
 refine ⟨λ μ U=>∃ s4,μ<=tr.length/\(∀ (i:Nat) s,μ<=i->tr[i]?=some s->¬(0 < lf L s/\lkp lv (hd E s)=some lev))/\U=[.bo (oS jA E L S),.bo (.dk (kN lv)),.io a (.li ((tr.take μ).map nI)),.sh (nI lev),s4],⟨tr.length,.un,uG _,λ i s hi e=>?_,?_⟩,?_⟩
 ·rw [vC hi] at e;cases e
 ·rw [wP]
 rintro μ U ⟨s4,hμ,bad,rfl⟩
 obtain ⟨q0,q1⟩:=q μ hμ bad
 walk_at "dd"
 cases μ with
|zero =>
  simp only [List.take_zero,wZ,List.isEmpty_nil]
  walk_at "dd"
  exact ⟨_,rfl,q0 rfl⟩
|succ μ =>
  obtain ⟨s,hs⟩:∃ s,tr[μ]?=some s:=⟨tr[μ]'(by lia),uC _⟩
  have hsm:=hb s (vM hs)
  have el:((tr.take (μ+1)).map nI).length=μ+1:=by rw [uA,vZ];lia
  have e1:((tr.take (μ+1)).map nI).isEmpty=false:=by
   rw [List.isEmpty_eq_false_iff]
   intro z
   rw [z] at el;simp at el
  have es:(tr.take (μ+1))[μ]?=some s:=by rw [zI (by lia)];exact hs
  rw [e1]
  walk_at "dd"
  refine zd0 λ J hJ=>?_
  walk_at "dd"
  rw [el,show ((μ+1:Nat):Int) - 1=(μ:Int) by lia]
  refine ⟨_,zg51 es,?_⟩
  walk_at "dd"
  refine hJ _ ?_
  clear hJ
  have next:¬(0 < lf L s/\lkp lv (hd E s)=some lev)->∃ m',m' < μ+1/\∃ s4,m'<=tr.length/\(∀ (i:Nat) s,m'<=i->tr[i]?=some s->¬(0 < lf L s/\lkp lv (hd E s)=some lev))/\([Sl.bo (oS jA E L S),Sl.bo (.dk (kN lv)),Sl.io a (.li ((tr.take (μ+1)).map nI).dropLast),Sl.sh (nI lev),Sl.sh (nI s)]:DSt)=[.bo (oS jA E L S),.bo (.dk (kN lv)),.io a (.li ((tr.take m').map nI)),.sh (nI lev),s4]:=λ hn=>by
   refine ⟨μ,by lia,.sh (nI s),by lia,λ i s' hi e=>?_,?_⟩
   ·rcases vI μ i with z|z
    ·exact bad i s' (by lia) e
    ·have:i=μ:=by lia
     subst this
     rw [hs] at e;cases e;exact hn
   ·rw [yZ,el,xT,<- List.map_take,List.take_take,yX (by lia)]
  have pop:¬(0 < lf L s/\lkp lv (hd E s)=some lev)->∃ d,((tr.take (μ+1)).map nI)[((tr.take (μ+1)).map nI).length - 1]?=some d/\∃ m',m' < μ+1/\∃ s4,m'<=tr.length/\(∀ (i:Nat) s,m'<=i->tr[i]?=some s->¬(0 < lf L s/\lkp lv (hd E s)=some lev))/\([Sl.bo (oS jA E L S),Sl.bo (.dk (kN lv)),Sl.io a (.li ((tr.take (μ+1)).map nI).dropLast),Sl.sh (nI lev),Sl.sh (nI s)]:DSt)=[.bo (oS jA E L S),.bo (.dk (kN lv)),.io a (.li ((tr.take m').map nI)),.sh (nI lev),s4]:=λ hn =>
   ⟨nI s,by rw [el,xT,uI,es];rfl,next hn⟩
  refine zd0 λ J hJ=>?_
  walk_at "dd"
  refine ⟨_,zt41 hL hsm.1,?_⟩
  walk_at "dd"
  refine two (λ hp=>?_) λ hp=>hJ _ ?_
  ·obtain ⟨b,hbb⟩:=v9.mp (hsm.2 hp)
   refine ⟨_,zhz hE hsm.1,?_⟩
   walk_at "dd"
   refine ⟨_,nI b,rfl,by rw [zge,hbb];rfl,?_⟩
   walk_at "dd"
   refine two (λ he=>?_) λ he=>hJ _ ?_
   ·have:b=lev:=by lia
    subst this
    exact ⟨_,rfl,q1 s (by lia) (by rw [xT];exact hs) hp hbb⟩
   ·walk_at "dd"
    exact pop λ z=>by rw [hbb] at z;exact he (by have:=z.2;injection this with this;rw [this])
  ·walk_at "dd"
   exact pop λ z=>hp z.1
noncomputable def zr5 (C:Addr):DSpT:=λ as Q=>∃ (m:Nat) (E:List Nat) (L:List Int) (S:List (List Nat)) (p:List Nat),as=[.o (oS C E L S),.d (.list (p.map nI))]/\E.length=2 * m/\L.length=2 * m/\p≠[]/\p.length<=1000000/\(∀ s∈p,s < 2 * m) /\
 ∀ a,(∃ s∈p,a=lf L s)->(∀ s∈p,a<=lf L s)->Q (.fz .none) (oS C E (ze2 L p a) S)
theorem zlf (L:List Int) (p:List Nat) (s:Nat) (a:Int):ze2 L (p++[s]) a=zvd (ze2 L p a) s a:=by unfold ze2;rw [List.foldl_append];rfl
theorem zs4:FnScope ["self", "path", "amount", "step"] ["self", "path"] (zf0 zc2):=by walk_at "sc"
theorem za9 (jB:Cls K jA) (T:TopMeth K jA "carry" "Stream.carry" zc2) (qH:mg "min"=none) (jC:NoAttr K jA "left"):zjc P w K mg base jA "carry" 1 ["self", "path"] (spT K (zr5 jA)):=by
 refine za7 jB T zs4 (λ _ _ _ _ _ _ us hl=>by obtain ⟨_,_,rfl⟩:=ar2 hl;rfl) (zuc λ as Qd h=>by obtain ⟨_,_,_,_,_,rfl,_⟩:=h;rfl) (zm4 ?_)
 intro f cdv A outer s H E hr
 have nd:=zs4.nd
 refine ⟨_,_,(zc0 (pset 2 nd (zu0 (zrk (K:=K) rfl rfl) rfl qH zbs (za0 (zw3 (sc:=zf0 zc2) (N:=["self", "path", "amount", "step"]) (own:=["step"]) (ix:=[0]) rfl rfl rfl (by walk_at "csc") (pi_W (K:=K) rfl (pv 1)) (λ _ _ _ _=>⟨(pgn 0 (nds ["step", "self"])),ze3,(pix w K hr (zb2 (K:=K) rfl (pv 1) rfl) (pv 0))⟩)) zg0)))
   (zj0 (zz4 PassesOwn.never rfl (pi_W (K:=K) rfl (pv 1)) (pgn 3 nd) (zc0 (zf9 (zb2 (K:=K) rfl (pv 0) rfl) (pv 3) (zsr (K:=K) (Room.units hr) rfl) (pv 2) zgq (zdj (Room.units hr)))
   (zj0 (zf9 (zb2 (K:=K) rfl (pv 0) rfl) (zp1 zju (pv 3) zl0) (zsr (K:=K) (Room.units hr) rfl) (pv 2) zjl (zdj (Room.units hr)))))))),(zk0 (zk1 (zef zk01 (zw0 (RfE.v (RfF.e (zn2 (zhp (zb0 1)) (zc1 (i:=0) (n:=1) (by decide)) zq4 (zr0 r_ix (RfP.v (zk4 jB jC (zm0 1))) (zb0 0))))) zv1)) (rgn 2))
   (zb5 (zkr (zh0 1)) (rgn 3) (zk0 (zo9 (zk4 jB jC (zm0 0)) (zh0 3) (zh0 2))
   (zo9 (zk4 jB jC (zm0 0)) (zr0 zd61 (zb0 3) rvi) (zh0 2))))),?_⟩
 rintro as Qd a ⟨m,E,L,S,p,rfl,hE,hL,hne,hz,hb,q⟩
 walk_at "ds"
 refine zd0 λ J hJ=>?_
 walk_at "dd"
 refine zog (λ s=>.int (lf L s)) (by rw [sizeLine_eq];lia) (λ s hs=>?_) ?_
 ·walk_at "cs"
  walk_at "dd"
  exact ⟨_,zt41 hL (hb s hs),rfl⟩
 refine ⟨p.map (lf L),?_,by simpa using hne,λ M hM hx=>hJ _ ?_⟩
 ·rw [<- _4.ints_map (p.map (lf L)),vD];rfl
 clear hJ
 walk_at "dd"
 refine zq2 (λ i U=>∃ s3,U=[.io a (oS jA E (ze2 L (p.take i) M) S),.sh (.list (p.map nI)),.sh (.int M),s3]) ⟨.un,rfl⟩ ?_ ?_
 ·rintro i s U' hs ⟨s3,rfl⟩
  have hsm:=hb s (vM hs)
  have hl:(ze2 L (p.take i) M).length=2 * m:=by rw [ze8];exact hL
  rw [show p.take (i+1)=p.take i++[s] by rw [wO,hs];rfl,zlf]
  generalize ze2 L (p.take i) M=L1 at hl ⊢
  walk_at "dd"
  refine zd0 λ J hJ=>?_
  walk_at "dd"
  have get:∀ {LL:List Int} {j:Nat},j < LL.length->(LL.map uB)[((j:Nat):Int).toNat]?=some (.int (lf LL j)):=λ {LL j} h=>by
   rw [uY,uI]
   unfold lf
   rw [uR,uC h];rfl
  have ixn:∀ {LL:List Int} {j:Nat},j < LL.length->ixN (LL.map uB).length ((j:Nat):Int)=some j:=λ {LL j} h=>by
   unfold ixN
   rw [if_pos (by lia),if_pos (by rw [uA];lia),uY]
  refine ⟨by lia,_,get (by lia),?_⟩
  walk_at "dd"
  refine ⟨s,ixn (by lia),hJ _ ?_⟩
  clear hJ
  rw [show (L1.map uB).set s (.int (lf L1 s - M))=(L1.set s (lf L1 s - M)).map .int from (xE ..).symm]
  walk_at "dd"
  rw [zrt]
  have hx:xr s < 2 * m:=zwy hsm
  refine ⟨by lia,_,get (by rw [uU];lia),?_⟩
  walk_at "dd"
  refine ⟨xr s,ixn (by rw [uU];lia),.sh (nI s),?_⟩
  rw [show ((L1.set s (lf L1 s - M)).map uB).set (xr s) (.int (lf (L1.set s (lf L1 s - M)) (xr s)+M))=((L1.set s (lf L1 s - M)).set (xr s) (lf (L1.set s (lf L1 s - M)) (xr s)+M)).map .int from (xE ..).symm]
  rw [zgo (by lia),if_neg (λ z=>zz11 s z.symm)]
  rfl
 ·rintro U' ⟨s3,rfl⟩
  rw [wP]
  obtain ⟨s0,hs0,e0⟩:=uL.mp hM
  walk_at "dd"
  exact ⟨_,rfl,q M ⟨s0,hs0,e0.symm⟩ λ s hs=>hx _ (yG hs)⟩
noncomputable def zp2 (C:Addr):DSpT:=λ as Q=>∃ (n m:Nat) (E:List Nat) (L:List Int) (S:List (List Nat)) (src:Nat) (lv:List (Nat×Nat)) (row:List Nat) (lev:Nat),as=[.b (oS C E L S),.d (.list (row.map nI)),.o (.dk (kN lv))]/\n<=100000/\Net n m E S/\L.length=2 * m/\Bfs n m E L src lv row lev /\
 ∀ lv' row',Bfs n m E L src lv' row' (lev+1)->lv'.length=lv.length+row'.length->Q (.fz (.list (row'.map nI))) (.dk (kN lv'))
theorem zi2:FnScope ["self", "row", "told", "behind", "here", "step", "goal"] ["self", "row", "told"] (zf0 zt1):=by walk_at "sc"
theorem za5 (jB:Cls K jA) (T:TopMeth K jA "row_behind" "Stream.row_behind" zt1) (jF:NoAttr K jA "steps") (jD:NoAttr K jA "ends") (jC:NoAttr K jA "left"):zjc P w K mg base jA "row_behind" 1 ["self", "row", "told"] (spT K (zp2 jA)):=by
 refine za7 jB T zi2 (λ _ _ _ _ _ _ us hl=>by obtain ⟨_,_,_,rfl⟩:=ar3 hl;rfl) (zuc λ as Qd h=>by obtain ⟨_,_,_,_,_,_,_,_,_,rfl,_⟩:=h;rfl) (zm4 ?_)
 intro f cdv A outer s H E hr
 have nd:=zi2.nd
 refine ⟨_,_,(zc0 (pset 3 nd (zg1 zg0))
   (zc0 (zz4 PassesOwn.never rfl (pi_W (K:=K) rfl (pv 1)) (pgn 4 nd) (zj0 (zz4 PassesOwn.never rfl (pi_W (K:=K) rfl (pix w K hr (zb2 (K:=K) rfl (pv 0) rfl) (pv 4))) (pgn 5 nd) (zc0 (pset 6 nd (pix w K hr (zb2 (K:=K) rfl (pv 0) rfl) (pv 5)))
   (zj0 (zqb (PW.pt (zmt (zz0 zuo (pix w K hr (zb2 (K:=K) rfl (pv 0) rfl) (pv 5)) zl0 (za2 _)) (zpm (zz0 (zja (w:=w) (K:=K) (Room.units hr) rfl rfl) (pv 6) (pv 2) (by with_unfolding_all rfl))))) (zc0 (zzi (zp1 (zw1 (K:=K) rfl) (pix w K hr (pv 2) (pv 4)) zl0) (ztl (pv 2) (pv 6) (zdj (Room.units hr))))
   (zj0 (zo1 (zj3 (K:=K) rfl PySem.F.plainAttrs_list PySem.F.slot_list_append PySem.F.type_list_append zf1 (pv 3) (za0 (pv 6) zg0))))) zs2))))))
   (zj0 (zl1 (pv 3))))),(zk0 (zr1 (RfF.c (zw2 zq0)))
   (zk0 (zb5 (zkr (zh0 1)) (rgn 4) (zb5 (zkr (zr0 r_ix (RfP.v (zk4 jB jF (zm0 0))) (zb0 4))) (rgn 5) (zk0 (zk1 (zr0 r_ix (RfP.v (zk4 jB jD (zm0 0))) (zb0 5)) (rgn 6))
   (zjb (zey (zy0 (zr0 r_gt (RfE.v (zr0 r_ix (RfP.v (zk4 jB jC (zm0 0))) (zb0 5))) rvi)) (zy0 (zkg (zh0 6) (zm0 2)))) (zk0 (zvl (zr0 zab (RfE.v (zjg (zm0 2) (zh0 4))) rvi) (zm0 2) (zh0 6))
   (zq1 (zud zs6 (zm0 3) (ze0 (zh0 6) zq0)))) zo2))))
   (zw6 3 [] (zv3 (i:=3))))),?_⟩
 rintro as Qd a ⟨n,m,E,L,S,src,lv,row,lev,rfl,hn,N,hL,B,q⟩
 walk_at "ds"
 refine zd0 λ J hJ=>?_
 walk_at "dd"
 refine hJ _ ?_
 clear hJ
 refine zd0 λ J hJ=>?_
 walk_at "dd"
 refine zq2 (λ i U=>∃ lv1 beh s4 s5 s6,Mid n m E L lv lev lv1 beh/\(∀ v∈row.take i,∀ l,S[v]?=some l->∀ s∈l,0 < lf L s->(lkp lv1 (hd E s)).isSome=true) /\
  U=[.bo (oS jA E L S),.sh (.list (row.map nI)),.io a (.dk (kN lv1)),.ow (.li (beh.map nI)),s4,s5,s6]) ⟨lv,[],.un,.un,.un,Mid.start B,λ v hv=>by simp at hv,rfl⟩ ?_ ?_
 ·rintro i v U hv ⟨lv1,beh,s4,s5,s6,M,cl,rfl⟩
  have hvr:=vM hv
  have hvl:=M.old _ _ (B.ro v hvr)
  have hvn:=B.bd _ (zug (B.ro v hvr))
  obtain ⟨l,hl⟩:∃ l,S[v]?=some l:=⟨S[v]'(by rw [N.lS];exact hvn),uC _⟩
  walk_at "dd"
  refine ⟨_,zg81 hl,?_⟩
  walk_at "dd"
  refine zq2 (λ j U=>∃ lv1 beh s5 s6,Mid n m E L lv lev lv1 beh/\(∀ v∈row.take i,∀ l,S[v]?=some l->∀ s∈l,0 < lf L s->(lkp lv1 (hd E s)).isSome=true)/\(∀ s∈l.take j,0 < lf L s->(lkp lv1 (hd E s)).isSome=true) /\
   U=[.bo (oS jA E L S),.sh (.list (row.map nI)),.io a (.dk (kN lv1)),.ow (.li (beh.map nI)),.sh (nI v),s5,s6]) ⟨lv1,beh,s5,s6,M,cl,λ s hs=>by simp at hs,rfl⟩ ?_ ?_
  ·clear M hvl cl lv1 beh s4 s5 s6
   rintro j s U hs ⟨lv1,beh,s5,s6,M,cl,cj,rfl⟩
   have hvl:=M.old _ _ (B.ro v hvr)
   have hsl:=vM hs
   obtain ⟨hsm,hst⟩:=N.s1 v l hl s hsl
   have hz:lv1.length<=n:=by
    have:=zs0 n (lv1.map (·.1)) M.nd (λ x hx=>by obtain ⟨p,hp,rfl⟩:=uL.mp hx;exact M.bd p hp)
    rwa [uA] at this
   have hz2:=M.len
   have tk:∀ x∈l.take (j+1),x∈l.take j \/ x=s:=λ x hx=>by
    rw [wO,hs] at hx
    rcases uF.mp hx with z|z
    ·exact .inl z
    ·simp at z;exact .inr z
   walk_at "dd"
   refine zd0 λ J2 hJ2=>?_
   walk_at "dd"
   refine ⟨_,zhz N.lE hsm,?_⟩
   walk_at "dd"
   refine hJ2 _ ?_
   clear hJ2
   walk_at "dd"
   refine ⟨_,zt41 hL hsm,?_⟩
   walk_at "dd"
   refine two (λ hp=>?_) λ hp=>?_
   ·rw [xR]
    refine two (λ hg=>?_) λ hg=>?_
    ·have hg:lkp lv1 (hd E s)=none:=by simpa using hg
     refine zd0 λ J2 hJ2=>?_
     walk_at "dd"
     refine ⟨_,nI lev,rfl,by rw [zge,hvl];rfl,?_⟩
     walk_at "dd"
     refine ⟨by rw [kN,uA];lia,hJ2 _ ?_⟩
     clear hJ2
     rw [show (uB ((lev:Int)+1))=nI (lev+1) from rfl,zzr hg]
     walk_at "dd"
     refine ⟨by rw [uA];lia,lv1++[(hd E s,lev+1)],beh++[hd E s],_,_,M.put hsm hp (by rw [hst];exact hvl) (N.bE s hsm) hg,λ u hu k hk x hx hp'=>?_,λ x hx hx0=>?_,by rw [uJ];rfl⟩
     ·obtain ⟨b,hb⟩:=v9.mp (cl u hu k hk x hx hp')
      rw [zr9,hb];rfl
     ·rcases tk x hx with z|z
      ·obtain ⟨b,hb⟩:=v9.mp (cj x z hx0)
       rw [zr9,hb];rfl
      ·rw [z,zr9,hg];simp
    ·exact ⟨lv1,beh,_,_,M,cl,λ x hx hx0=>(tk x hx).elim (λ z=>cj x z hx0) λ z=>by rw [z];cases q:lkp lv1 (hd E s) with|none=>exact absurd (by rw [q];rfl) hg|some b=>rfl,rfl⟩
   ·exact ⟨lv1,beh,_,_,M,cl,λ x hx hx0=>(tk x hx).elim (λ z=>cj x z hx0) λ z=>absurd (z ▸ hx0) hp,rfl⟩
  ·rintro U ⟨lv1,beh,s5,s6,M,cl,cj,rfl⟩
   refine ⟨lv1,beh,_,_,_,M,λ u hu k hk s hs hp=>?_,rfl⟩
   rw [wO,hv] at hu
   rcases uF.mp hu with z|z
   ·exact cl u z k hk s hs hp
   ·simp at z;subst z
    rw [hl] at hk;cases hk
    rw [wP] at cj
    exact cj s hs hp
 ·rintro U ⟨lv1,beh,s4,s5,s6,M,cl,rfl⟩
  rw [wP] at cl
  refine hJ _ ?_
  walk_at "dd"
  refine ⟨_,_,rfl,rfl,?_⟩
  exact ⟨_,rfl,q _ _ (Mid.bfs N B M cl) M.len⟩
noncomputable def zu4 (C:Addr):DSpT:=λ as Q=>∃ (n m:Nat) (E:List Nat) (L:List Int) (S:List (List Nat)) (src:Nat),as=[.b (oS C E L S),.d (nI src)]/\n<=100000/\Net n m E S/\L.length=2 * m/\src < n /\
 ∀ lv,Lev n m E L src lv->∀ t,Q (.dk (kN lv)) t
theorem zs3:FnScope ["self", "source", "told", "row"] ["self", "source"] (zf0 zt2):=by walk_at "sc"
theorem zb8 (jB:Cls K jA) (T:TopMeth K jA "levels" "Stream.levels" zt2) (jL:zjc P w K mg base jA "row_behind" 1 ["self", "row", "told"] (spT K (zp2 jA))):zjc P w K mg base jA "levels" 2 ["self", "source"] (spT K (zu4 jA)):=by
 refine za7 jB T zs3 (λ _ _ _ _ _ _ us hl=>by obtain ⟨_,_,rfl⟩:=ar2 hl;rfl) (zuc λ as Qd h=>by obtain ⟨_,_,_,_,_,_,rfl,_⟩:=h;rfl) (zm4 ?_)
 intro f cdv A outer s H E hr
 have nd:=zs3.nd
 refine ⟨_,_,(zc0 (pset 2 nd (zdn (zii (pv 1) zl0 zan) rfl rfl (by simp) (by decide)))
   (zc0 (pset 3 nd (zg1 (za0 (pv 1) zg0)))
   (zc0 (ze5 PassesOwn.never (zp4 (K:=K) rfl (pv 3) (λ _=>rfl)) (zj0 (pset 3 nd (za4 jL (rmn hr) (pv 0) (za0 (pv 3) (za0 (pv 2) zg0))))))
   (zj0 (zl1 (pv 2)))))),(zk0 (zr1 (zf01 (zh0 1) zh1))
   (zk0 (zk1 (RfF.e (zw2 (ze0 (zh0 1) zq0))) (rgn 3))
   (zk0 (zy4 (zya (zb0 3)) (zr1 (zo6 false (zm0 0) (at_d (zh0 3) (at_o (zm0 2) zn5)))))
   (zv3 (i:=2))))),?_⟩
 rintro as Qd a ⟨n,m,E,L,S,src,rfl,hn,N,hL,hs,q⟩
 walk_at "ds"
 refine zd0 λ J hJ=>?_
 walk_at "dd"
 refine hJ _ ?_
 clear hJ
 refine zd0 λ J hJ=>?_
 walk_at "dd"
 refine hJ _ ?_
 clear hJ
 refine zxh ?_
 refine ⟨λ μ U=>∃ lv row lev,Bfs n m E L src lv row lev/\μ=2 * (n - lv.length)+(if row=[] then 0 else 1)/\U=[.bo (oS jA E L S),.sh (nI src),.ow (.dk (kN lv)),.sh (.list (row.map nI))],⟨_,[(src,0)],[src],0,Bfs.start hs,rfl,rfl⟩,?_⟩
 rintro μ U ⟨lv,row,lev,B,rfl,rfl⟩
 walk_at "dd"
 refine two (λ hr0=>?_) λ hr0=>?_
 ·refine ⟨n,m,E,L,S,src,lv,row,lev,rfl,hn,N,hL,B,λ lv' row' B' e=>⟨_,?_,lv',row',lev+1,B',rfl,rfl⟩⟩
  have hz:=zs0 n (lv'.map (·.1)) B'.nd (λ x hx=>by obtain ⟨p,hp,rfl⟩:=uL.mp hx;exact B'.bd p hp)
  rw [uA] at hz
  have hr1:row≠[]:=λ z=>by rw [z] at hr0;cases hr0
  rw [if_neg hr1]
  by_cases z:row'=[]
  ·subst z;rw [if_pos rfl];simp at e;lia
  ·have:=zA.mpr z
   rw [if_neg z];lia
 ·have hr1:row=[]:=by
   cases row with
  |nil=>rfl
  |cons x r=>exact absurd rfl hr0
  subst hr1
  exact q lv B.lev _
noncomputable abbrev tT (TT:List (List Nat)):_4.T:=.ls (TT.map λ l=>.li (l.map nI))
theorem setT {TU:List (List Nat)} {v:Nat} (x:List Nat):(TU.map λ l=>_4.T.li (l.map nI)).set v (.li (x.map nI))=(TU.set v x).map λ l=>_4.T.li (l.map nI):=by rw [xE]
noncomputable def zr4 (C:Addr):DSpT:=λ as Q=>∃ (n m:Nat) (E:List Nat) (L:List Int) (S:List (List Nat)) (lv:List (Nat×Nat)) (TT:List (List Nat)) (src snk:Nat),as=[.b (oS C E L S),.b (.dk (kN lv)),.o (tT TT),.d (nI src),.d (nI snk)]/\m<=400000/\Net n m E S/\L.length=2 * m/\src < n/\src≠snk/\lkp lv src=some 0 /\
 (∀ s,s < 2 * m->0 < lf L s->(lkp lv (tl E s)).isSome=true->(lkp lv (hd E s)).isSome=true)/\Tri m E S L lv snk TT /\
 (∀ TT',¬ Rch m E L lv snk src->Q (.fz (.list [])) (tT TT'))/\∀ p TT',Tri m E S L lv snk TT'->Way m E L lv src p snk->Q (.fz (.list (p.map nI))) (tT TT')
theorem zb4:FnScope ["self", "levels", "tries", "source", "sink", "path", "here", "step"] ["self", "levels", "tries", "source", "sink"] (zf0 zu2):=by walk_at "sc"
theorem zn8 (jB:Cls K jA) (T:TopMeth K jA "way_up" "Stream.way_up" zu2) (jD:NoAttr K jA "ends") (jS:zjc P w K mg base jA "step_up" 1 ["self", "levels", "steps", "level"] (spT K (ze4 jA))):zjc P w K mg base jA "way_up" 2 ["self", "levels", "tries", "source", "sink"] (spT K (zr4 jA)):=by
 refine za7 jB T zb4 (λ _ _ _ _ _ _ us hl=>by obtain ⟨_,_,_,_,_,rfl⟩:=ar5 hl;rfl) (zuc λ as Qd h=>by obtain ⟨_,_,_,_,_,_,_,_,_,rfl,_⟩:=h;rfl) (zm4 ?_)
 intro f cdv A outer s H E hr
 have nd:=zb4.nd
 refine ⟨_,_,(zc0 (pset 5 nd (zg1 zg0))
   (zc0 (pset 6 nd (pv 3))
   (zc0 (ze5 PassesOwn.never (zz0 (zfd (K:=K) rfl (Room.units hr)) (pv 6) (pv 4) (za2 _)) (zc0 (pset 7 nd (za4 jS (rmn hr) (pv 0) (za0 (pv 1) (za0 (pix w K hr (pv 2) (pv 6)) (za0 (zp1 (zw1 (K:=K) rfl) (pix w K hr (pv 1) (pv 6)) zl0) zg0)))))
   (zj0 (zqb (zz0 zkv (pv 7) zxo (za2 _)) (zc0 (zo1 (zj3 (K:=K) rfl PySem.F.plainAttrs_list PySem.F.slot_list_append PySem.F.type_list_append zf1 (pv 5) (za0 (pv 7) zg0)))
   (zj0 (pset 6 nd (pix w K hr (zb2 (K:=K) rfl (pv 0) rfl) (pv 7))))) (zj0 (zqb (zp4 (K:=K) rfl (pv 5) (λ _=>rfl)) (zc0 (pset 6 nd (pix w K hr (zb2 (K:=K) rfl (pv 0) rfl) (zp1 zju (zfc (K:=K) rfl PySem.F.plainAttrs_list PySem.F.slot_list_pop PySem.F.type_list_pop zeo (pv 5)) zl0)))
   (zj0 (zo1 (zfc (K:=K) rfl PySem.F.plainAttrs_list PySem.F.slot_list_pop PySem.F.type_list_pop zeo (pix w K hr (pv 2) (pv 6)))))) (zj0 (zl1 (pv 5)))))))))
   (zj0 (zl1 (pv 5)))))),(zk0 (zr1 (RfF.c (zw2 zq0)))
   (zk0 (zk1 (zh0 3) (rgn 6))
   (zk0 (zy4 (zy0 (zr8 q_ne (RfV.h (zb0 6)) (RfV.h (zb0 4)))) (zk0 (zr1 (zo6 false (zm0 0) (at_b (zm0 1) (at_o (zkn (zm0 2) (zh0 6)) (at_d (zr0 zab (RfE.v (zjg (zm0 1) (zh0 6))) rvi) zn5)))))
   (zjb (zy0 (zr0 zy11 (zb0 7) (RfE.v zxq))) (zk0 (zq1 (zud zs6 (zm0 5) (ze0 (zh0 7) zq0)))
   (zk1 (zr0 r_ix (RfP.v (zk4 jB jD (zm0 0))) (zb0 7)) (rgn 6))) (zjb (zya (zb0 5)) (zk0 (zr1 (ztw (RfP.e (zk4 jB jD (zm0 0))) zd61 (zdo zgp (zm0 5)) zh1))
   (zq1 (zdo zgp (zkn (zm0 2) (zh0 6))))) (zw6 5 [] (zv3 (i:=5)))))))
   (zw6 5 [] (zv3 (i:=5)))))),?_⟩
 rintro as Qd a ⟨n,m,E,L,S,lv,TT,src,snk,rfl,hm,N,hL,hsn,hss,l0,cl,tri,q0,q1⟩
 walk_at "ds"
 refine zd0 λ J hJ=>?_
 walk_at "dd"
 refine hJ _ ?_
 clear hJ
 refine zd0 λ J hJ=>?_
 walk_at "dd"
 refine hJ _ ?_
 clear hJ
 refine zxh ?_
 refine ⟨λ μ U=>∃ p here TT s7,Go m E S L lv snk src p here TT/\μ=szT TT * (2 * m+2)+(2 * m+1 - p.length)/\U=[.bo (oS jA E L S),.bo (.dk (kN lv)),.io a (tT TT),.sh (nI src),.sh (nI snk),.ow (.li (p.map nI)),.sh (nI here),s7],
  ⟨_,[],src,TT,.un,⟨tri,rfl,l0,λ s hs=>by simp at hs⟩,rfl,rfl⟩,?_⟩
 rintro μ U ⟨p,here,TU,s7,g,rfl,rfl⟩
 have hpl:=g.short g.way.lt
 have hln:p.length=p.length:=rfl
 walk_at "dd"
 refine two (λ hne=>?_) λ hne=>?_
 ·have hne:here≠snk:=λ z=>hne (by rw [z])
  obtain ⟨k,hk⟩:∃ k,TU[here]?=some k:=by
   have:here < n:=by
    cases p with
   |nil=>have e:src=here:=g.way;rw [<- e];exact hsn
   |cons x r =>
     obtain ⟨y,hy⟩:∃ y,(x :: r).getLast?=some y:=⟨_,zX⟩
     obtain ⟨r0,e⟩:=zY.mp hy
     have gw:=g.way
     rw [e] at gw
     obtain ⟨_,w2,w3,_⟩:=gw.unsnoc
     rw [<- w2];exact N.bE y w3
   exact ⟨TU[here]'(by rw [g.tri.len,N.lS];exact this),uC _⟩
  have hkl:=zmc hk
  have gT:(TU.map λ l=>_4.T.li (l.map nI))[here]?=some (_4.T.li (k.map nI)):=by rw [uI,hk];rfl
  refine zd0 λ J hJ=>?_
  walk_at "dd"
  refine ⟨here,.li (k.map nI),by rw [uA];exact zle hkl,by rw [uI,hk];rfl,_,nI p.length,rfl,by rw [zge,g.lev];rfl,?_⟩
  walk_at "dd"
  refine ⟨m,E,L,S,lv,k,p.length+1,rfl,N.lE,hL,λ s hs=>?_,λ j hj bad=>⟨λ h0=>hJ _ ?_,λ s h0 hs hp hlv=>hJ _ ?_⟩⟩
  ·obtain ⟨k2,h1,h2⟩:=g.tri.pre here k hk
   obtain ⟨hsm,hst⟩:=N.s1 here k2 h1 s (h2.subset hs)
   exact ⟨hsm,λ hp=>cl s hsm hp (by rw [hst,g.lev];rfl)⟩
  ·subst h0
   have eT:(TU.map λ l=>_4.T.li (l.map nI)).set here (.li [])=(TU.set here []).map λ l=>_4.T.li (l.map nI):=setT []
   rw [gT]
   simp only []
   rw [eT]
   walk_at "dd"
   refine two (λ hp=>?_) λ hp=>?_
   ·obtain ⟨y,hy⟩:∃ y,p.getLast?=some y:=by
     cases p with
    |nil=>cases hp
    |cons x r=>exact ⟨_,zX⟩
    obtain ⟨p0,rfl⟩:=zY.mp hy
    obtain ⟨hym,k2,hk2,g2,hsz⟩:=g.back N hk hne bad
    refine zd0 λ J hJ=>?_
    walk_at "dd"
    refine ⟨nI y,by simp,?_⟩
    walk_at "dd"
    rw [zrt]
    refine ⟨_,zhz N.lE (zwy hym),hJ _ ?_⟩
    clear hJ
    rw [show (yL nI (p0++[y])).dropLast=p0.map nI by rw [uJ];exact zZ,zgx]
    have hz2:=zmc hk2
    have gT2:((TU.set here []).map λ l=>_4.T.li (l.map nI))[tl E y]?=some (_4.T.li ((k2++[y]).map nI)):=by rw [uI,hk2];rfl
    walk_at "dd"
    refine ⟨tl E y,_,by rw [uA];exact zle hz2,gT2,?_⟩
    walk_at "dd"
    refine ⟨nI y,by simp,_,?_,p0,tl E y,_,.sh .none,g2,rfl,?_⟩
    ·have:=zC (2 * m+2) hsz
     rw [Nat.add_mul] at this
     rw [vB]
     simp only [xM]
     lia
    ·rw [gT2,show (yL nI (k2++[y])).dropLast=k2.map nI by rw [uJ];exact zZ]
     simp only []
     rw [setT]
   ·have hp:p=[]:=by
     cases p with
    |nil=>rfl
    |cons x r=>exact absurd rfl hp
    subst hp
    exact ⟨_,_,rfl,rfl,_,rfl,q0 _ (g.dead N hk hne bad)⟩
  ·rw [gT]
   simp only []
   rw [setT]
   obtain ⟨g2,hsz,hsm⟩:=g.fwd N hk h0 hj bad hs hp hlv
   walk_at "dd"
   refine zd0 λ J hJ=>?_
   walk_at "dd"
   refine ⟨by rw [uA];lia,hJ _ ?_⟩
   clear hJ
   walk_at "dd"
   refine ⟨_,zhz N.lE hsm,?_⟩
   walk_at "dd"
   refine ⟨_,?_,p++[s],hd E s,TU.set here (k.take j),_,g2,rfl,by rw [uJ];rfl⟩
   rw [vB]
   have:=zC (2 * m+2) hsz
   simp only [xM]
   lia
 ·have hne:here=snk:=by lia
  subst hne
  exact ⟨_,_,rfl,rfl,_,rfl,q1 p TU g.tri g.way⟩
noncomputable def zy3 (C:Addr):DSpT:=λ as Q=>∃ (n m:Nat) (most:Nat->Int) (E:List Nat) (L:List Int) (S:List (List Nat)) (lv:List (Nat×Nat)) (src snk:Nat),as=[.o (oS C E L S),.b (.dk (kN lv)),.d (nI src),.d (nI snk)]/\n<=100000/\m<=400000/\Net n m E S/\Cap m most L/\src < n/\src≠snk/\Lev n m E L src lv/\(lkp lv snk).isSome=true /\
 ∀ L',Up m most E L L' src snk->bal m E L snk < bal m E L' snk->Q (.fz .none) (oS C E L' S)
theorem zm3:FnScope ["self", "levels", "source", "sink", "tries", "path"] ["self", "levels", "source", "sink"] (zf0 zs1):=by walk_at "sc"
theorem zt6 (jB:Cls K jA) (T:TopMeth K jA "push_up" "Stream.push_up" zs1) (jK:mg "list"=none) (jF:NoAttr K jA "steps") (jN:zjc P w K mg base jA "way_up" 2 ["self", "levels", "tries", "source", "sink"] (spT K (zr4 jA))) (kD:zjc P w K mg base jA "carry" 1 ["self", "path"] (spT K (zr5 jA))):zjc P w K mg base jA "push_up" 3 ["self", "levels", "source", "sink"] (spT K (zy3 jA)):=by
 refine za7 jB T zm3 (λ _ _ _ _ _ _ us hl=>by obtain ⟨_,_,_,_,rfl⟩:=ar4 hl;rfl) (zuc λ as Qd h=>by obtain ⟨_,_,_,_,_,_,_,_,_,rfl,_⟩:=h;rfl) (zm4 ?_)
 intro f cdv A outer s H E hr
 have nd:=zm3.nd
 refine ⟨_,_,(zc0 (zy2 (i:=4) (sc:=zf0 zs1) (N:=["self", "levels", "source", "sink", "tries", "path"]) (own:=["steps"]) (ix:=[]) rfl rfl rfl (by walk_at "csc") nd rfl rfl (pi_W (K:=K) rfl (zb2 (K:=K) rfl (pv 0) rfl)) (λ _ _ _ _=>⟨(pgn 0 (nds ["steps"])),ze3,(zr2 (zx2 (K:=K) rfl) rfl jK zo5 (za0 (pv 0) zg0))⟩))
   (zc0 (pset 5 nd (za4 jN (rmn hr) (pv 0) (za0 (pv 1) (za0 (pv 4) (za0 (pv 2) (za0 (pv 3) zg0))))))
   (zj0 (ze5 PassesOwn.never (zp4 (K:=K) rfl (pv 5) (λ _=>rfl)) (zc0 (zo1 (za4 kD (rmn hr) (pv 0) (za0 (pv 5) zg0)))
   (zj0 (pset 5 nd (za4 jN (rmn hr) (pv 0) (za0 (pv 1) (za0 (pv 4) (za0 (pv 2) (za0 (pv 3) zg0)))))))))))),(zk0 (zr1 (RfN.c (zeh (zhp (RfP.v (zk4 jB jF (zm0 0)))) (zc1 (i:=0) (n:=1) (by decide)) (RfF.new (zfr zwf (zw0 (zb0 0) zv1))))))
   (zk0 (zr1 (zo6 false (zm0 0) (at_b (zm0 1) (at_o (zm0 4) (at_d (zh0 2) (at_d (zh0 3) zn5))))))
   (zy4 (zya (zb0 5)) (zk0 (zq1 (zo6 true (zm0 0) (at_d (zh0 5) zn5)))
   (zr1 (zo6 false (zm0 0) (at_b (zm0 1) (at_o (zm0 4) (at_d (zh0 2) (at_d (zh0 3) zn5)))))))))),?_⟩
 rintro as Qd a ⟨n,m,most,E,L,S,lv,src,snk,rfl,hn,hm,N,c,hsn,hss,hv,ht,q⟩
 walk_at "ds"
 refine zd0 λ J hJ=>?_
 walk_at "dd"
 refine zjq (λ l=>.li (l.map nI)) (by rw [sizeLine_eq,N.lS];lia) (λ l hl=>?_) (hJ _ ?_)
 ·walk_at "cs"
  walk_at "dd"
 clear hJ
 obtain ⟨b0,hb0⟩:=v9.mp ht
 have rch:Rch m E L lv snk src:=zlb hv b0 snk hb0 .here
 refine zd0 λ J hJ=>?_
 walk_at "dd"
 refine ⟨n,m,E,L,S,lv,S,src,snk,rfl,hm,N,c.len,hsn,hss,hv.l0,hv.cl,Tri.all,λ TT' h=>absurd rch h,λ p TT' tri hw=>hJ _ ?_⟩
 clear hJ
 refine ⟨λ μ U=>∃ L' p TT,Up m most E L L' src snk/\(p≠[]->Tri m E S L' lv snk TT)/\(∀ s,s < 2 * m->0 < lf L' s->(lkp lv (tl E s)).isSome=true->(lkp lv (hd E s)).isSome=true) /\
   bal m E L snk<=bal m E L' snk/\(p=[]->bal m E L snk < bal m E L' snk)/\(p≠[]->Way m E L' lv src p snk)/\μ=(tot m most - bal m E L' snk).toNat/\U=[.io a (oS jA E L' S),.bo (.dk (kN lv)),.sh (nI src),.sh (nI snk),.ow (tT TT),.sh (.list (p.map nI))],
  ⟨_,L,p,TT',Up.refl c,λ _=>tri,hv.cl,vJ _,λ z=>?_,λ _=>hw,rfl,rfl⟩,?_⟩
 ·subst z;exact absurd hw hss
 clear tri hw TT' p
 rintro μ U ⟨L',p,TT,up,tri,cl,le,hlt,hw,rfl,rfl⟩
 walk_at "dd"
 refine two (λ hp=>?_) λ hp=>?_
 ·have hp:p≠[]:=λ z=>by rw [z] at hp;cases hp
  have hw:=hw hp
  refine zd0 λ J hJ=>?_
  walk_at "dd"
  have hpl:p.length<=2 * m:=zs0 _ p (hw.nodup hv.l0).1 hw.lt
  refine ⟨m,E,L',S,p,rfl,N.lE,up.cap.len,hp,by lia,hw.lt,λ am ham hmin=>hJ _ ?_⟩
  clear hJ
  obtain ⟨s0,hs0,e0⟩:=ham
  have pos:0 < am:=by
   rw [e0]
   obtain ⟨_,hadm⟩:True/\∀ {v:Nat} {p:List Nat} {t:Nat},Way m E L' lv v p t->∀ s∈p,0 < lf L' s:=⟨trivial,by
    intro v p
    induction p generalizing v with
   |nil=>intro t _ s hs;simp at hs
   |cons x r ih =>
     intro t h s hs
     rcases uD.mp hs with z|z
     ·rw [z];exact h.2.2.1.1
     ·exact ih h.2.2.2 s z⟩
   exact hadm hw s0 hs0
  have up2:=up.trans (Up.carry up.cap hw hv.l0 (by lia) hmin)
  have hb:bal m E (ze2 L' p am) snk=bal m E L' snk+am:=by
   rw [zq5 up.cap.len hw,if_pos rfl,if_neg hss];lia
  have hle:=zxw (E:=E) up2.cap snk
  have cl2:=zoj up.cap.len hw hv.l0 cl (a:=am) (by lia)
  have tri2:Tri m E S (ze2 L' p am) lv snk TT:=(tri hp).mono (zfk up.cap.len hw hv.l0 (by lia)) λ v k h s hs=>(N.s1 v k h s hs).1
  generalize ze2 L' p am=_2 at *
  walk_at "dd"
  refine ⟨n,m,E,_2,S,lv,TT,src,snk,rfl,hm,N,up2.cap.len,hsn,hss,hv.l0,cl2,tri2,λ TT' h=>?_,λ p' TT' tri' hw'=>?_⟩
  ·exact ⟨_,by lia,_2,[],TT',up2,λ z=>absurd rfl z,cl2,by lia,λ _=>by lia,λ z=>absurd rfl z,rfl,rfl⟩
  ·exact ⟨_,by lia,_2,p',TT',up2,λ _=>tri',cl2,by lia,λ _=>by lia,λ _=>hw',rfl,rfl⟩
 ·have hp:p=[]:=by
   cases p with
  |nil=>rfl
  |cons x r=>exact absurd rfl hp
  exact ⟨_,rfl,q L' up (hlt hp)⟩
noncomputable def zz3 (C:Addr):DSpT:=λ as Q=>∃ (m:Nat) (E:List Nat) (L:List Int) (S:List (List Nat)),as=[.b (oS C E L S)]/\L.length=2 * m/\m<=400000/\∀ t,Q (.fz (.list ((uM m).map λ k=>.int (lf L (2 * k+1))))) t
theorem zo3:FnScope ["self"] ["self"] (zf0 zj2):=by walk_at "sc"
theorem zu6 (jB:Cls K jA) (T:TopMeth K jA "amounts" "Stream.amounts" zj2) (jC:NoAttr K jA "left"):zjc P w K mg base jA "amounts" 1 ["self"] (spT K (zz3 jA)):=by
 refine za7 jB T zo3 (λ _ _ _ _ _ _ us hl=>by obtain ⟨_,rfl⟩:=ar1 hl;rfl) (zuc λ as Qd h=>by obtain ⟨_,_,_,_,rfl,_⟩:=h;rfl) (zm4 ?_)
 intro f cdv A outer s H E hr
 have nd:=zo3.nd
 refine ⟨_,_,(zj0 (zl1 (zql (K:=K) rfl (zb2 (K:=K) rfl (pv 0) rfl) (zpa zl0) zdy (zpa zl0)))),(za3 (RfE.c (RfF.e (zf11 (RfP.v (zk4 jB jC (zm0 0))) (zif zh1) zxt (zif zh1))))),?_⟩
 rintro as Qd a ⟨m,E,L,S,rfl,hL,hm,q⟩
 walk_at "ds"
 walk_at "dd"
 rw [znq hL]
 exact q _
noncomputable def zl3 (C:Addr):DSpT:=λ as Q=>∃ (n:Nat) (A:List Ar) (f:List Int),as=[.o (.ob C []),.d (nI n),.d (.list (A.map dAr)),.d (.list (f.map .int))]/\f.length=A.length/\n<=100000/\A.length<=400000/\(∀ a∈A,a.1 < n/\a.2.1 < n) /\
 ∀ S,Net n A.length (zv4 A) S->Q (.fz .none) (.ob C [("ends",.li ((zv4 A).map nI)),("left",.li ((zr6 A f).map .int)),("steps",tT S)])
theorem zf3:FnScope ["self", "count", "arcs", "flow", "number", "arc"] ["self", "count", "arcs", "flow"] (zf0 zm1):=by walk_at "sc"
theorem zd6 (M:Md K mg) (cT:TopCls K "Stream" jA) (T:TopMeth K jA "__init__" "Stream.__init__" zm1) (jE:mg "enumerate"=none) (jH:mg "range"=none) (jD:NoAttr K jA "ends") (jC:NoAttr K jA "left") (jF:NoAttr K jA "steps"):ziz P w K mg base "Stream" jA 1 ["self", "count", "arcs", "flow"] (spT K (zl3 jA)):=by
 have jB:=cT.cls
 refine zlu M cT T zf3 (λ _ _ _ _ _ _ us hl=>by obtain ⟨_,_,_,_,rfl⟩:=ar4 hl;rfl) (zuc λ as Qd h=>by obtain ⟨_,_,_,rfl,_⟩:=h;rfl) (zm4 ?_)
 intro f cdv A outer s H E hr
 have nd:=zf3.nd
 refine ⟨_,_,(zc0 (zco (pv 0) (zg1 zg0) rfl)
   (zc0 (zco (pv 0) (zg1 zg0) rfl)
   (zc0 (zco (pv 0) (zw3 (sc:=zf0 zm1) (N:=["self", "count", "arcs", "flow", "number", "arc"]) (own:=["number"]) (ix:=[]) rfl rfl rfl (by walk_at "csc") (zj5 rfl jH (za0 (pv 1) zg0)) (λ _ _ _ _=>⟨(pgn 0 (nds ["number"])),ze3,(zg1 zg0)⟩)) rfl)
   (zj0 (zz4 PassesOwn.never rfl (zl8 (K:=K) rfl rfl jE (za0 (pv 2) zg0)) (zf2 (K:=K) (n:=2) rfl rfl (zp0 (pgn 4 nd) (zp0 (pgn 5 nd) zm2))) (zc0 (zo1 (zj3 (K:=K) rfl PySem.F.plainAttrs_list PySem.F.slot_list_extend PySem.F.type_list_extend (zk8 (K:=K) rfl) (zb2 (K:=K) rfl (pv 0) rfl) (za0 (zg1 (za0 (pix w K hr (pv 5) zl0) (za0 (pix w K hr (pv 5) zl0) zg0))) zg0)))
   (zc0 (zo1 (zj3 (K:=K) rfl PySem.F.plainAttrs_list PySem.F.slot_list_extend PySem.F.type_list_extend (zk8 (K:=K) rfl) (zb2 (K:=K) rfl (pv 0) rfl) (za0 (zg1 (za0 (zp1 zyb (pix w K hr (pv 5) zl0) (pix w K hr (pv 3) (pv 4))) (za0 (pix w K hr (pv 3) (pv 4)) zg0))) zg0)))
   (zc0 (zo1 (zj3 (K:=K) rfl PySem.F.plainAttrs_list PySem.F.slot_list_append PySem.F.type_list_append zf1 (pix w K hr (zb2 (K:=K) rfl (pv 0) rfl) (pix w K hr (pv 5) zl0)) (za0 (zp1 zn3 zl0 (pv 4)) zg0)))
   (zj0 (zo1 (zj3 (K:=K) rfl PySem.F.plainAttrs_list PySem.F.slot_list_append PySem.F.type_list_append zf1 (pix w K hr (zb2 (K:=K) rfl (pv 0) rfl) (pix w K hr (pv 5) zl0)) (za0 (zp1 (zw1 (K:=K) rfl) (zp1 zn3 zl0 (pv 4)) zl0) zg0)))))))))))),(zk0 (zun jB jD (RfF.c (zw2 zq0)) (zm0 0))
   (zk0 (zun jB jC (RfF.c (zw2 zq0)) (zm0 0))
   (zk0 (zun jB jF (RfN.c (zeh (RfI.j (ztb (ze0 (zh0 1) zq0))) (zc1 (i:=0) (n:=1) (by decide)) (RfF.new (zw2 zq0)))) (zm0 0))
   (zb5 (ztm (ze0 (zh0 2) zq0)) (zd5 (zo0 (rgn 4) (zo0 (rgn 5) zh2))) (zk0 (zq1 (zud znp (zk4 jB jD (zm0 0)) (ze0 (RfF.e (zw2 (ze0 (zr0 r_ix (zb0 5) rvi) (ze0 (zr0 r_ix (zb0 5) rvi) zq0)))) zq0)))
   (zk0 (zq1 (zud znp (zk4 jB jC (zm0 0)) (ze0 (RfF.e (zw2 (ze0 (zr0 zzm (RfE.v (zr0 r_ix (zb0 5) rvi)) (RfE.v (zr0 r_ix (zb0 3) (zb0 4)))) (ze0 (zr0 r_ix (zb0 3) (zb0 4)) zq0)))) zq0)))
   (zk0 (zq1 (zud zs6 (zkn (zk4 jB jF (zm0 0)) (zr0 r_ix (zb0 5) rvi)) (ze0 (zr0 ztq rvi (zb0 4)) zq0)))
   (zq1 (zud zs6 (zkn (zk4 jB jF (zm0 0)) (zr0 r_ix (zb0 5) rvi)) (ze0 (zr0 zab (RfE.v (zr0 ztq rvi (zb0 4))) rvi) zq0)))))))))),?_⟩
 rintro as Qd a ⟨n,A,f,rfl,hf,hn,hA,hb,q⟩
 walk_at "ds"
 walk_at "dn"
 walk_at "dn"
 refine zd0 λ J hJ=>?_
 walk_at "dd"
 refine ⟨by lia,by lia,?_⟩
 rw [uY]
 refine zjq (λ _=>.li []) (by rw [vG,sizeLine_eq];lia) (λ i hi=>?_) (hJ _ ?_)
 ·walk_at "cs"
 clear hJ
 have e0:(uM n).map (λ _=>(_4.T.li []:_4.T))=(uN n []).map λ l=>.li (l.map nI):=by simp [List.map_const']
 rw [e0]
 walk_at "dd"
 refine ⟨λ i U=>∃ S s4 s5,i<=A.length/\szT S=2 * i/\Net n i (zv4 (A.take i)) S/\U=[.io a (.ob jA [("ends",.li ((zv4 (A.take i)).map nI)),("left",.li ((zr6 (A.take i) (f.take i)).map .int)),("steps",tT S)]),.sh (nI n),.sh (.list (A.map dAr)),.sh (.list (f.map .int)),s4,s5],⟨uN n [],.un,.un,vY _,by simp [szT],Net.nil n,rfl⟩,?_,?_⟩
 ·rintro i d U hd ⟨S,s4,s5,hi,hsz,N,rfl⟩
  obtain ⟨x,hx,rfl⟩:=zwe hd
  rw [uI] at hx
  obtain ⟨u,hu,rfl⟩:=u5.mp hx
  have hil:i < A.length:=by
   rcases vI i A.length with z|z
   ·exact z
   ·rw [vC z] at hu;cases hu
  obtain ⟨y,hy⟩:∃ y,f[i]?=some y:=⟨f[i]'(by lia),uC _⟩
  obtain ⟨b1,b2⟩:=hb u (vM hu)
  have tA:A.take (i+1)=A.take i++[u]:=by rw [wO,hu];rfl
  have tF:f.take (i+1)=f.take i++[y]:=by rw [wO,hy];rfl
  have lE:(zv4 (A.take i)).length=2 * i:=N.lE
  have lL:(zr6 (A.take i) (f.take i)).length=2 * i:=by
   rw [zza (by rw [vZ,vZ];lia),vZ];lia
  have eF:=zzh (A:=A.take i) (f:=f.take i) (a:=u) (x:=y) (by rw [vZ,vZ];lia)
  dsimp only
  rw [tA,tF,zki,eF]
  generalize zv4 (A.take i)=E at lE N ⊢
  generalize zr6 (A.take i) (f.take i)=L at lL ⊢
  rw [show dAr u=.tuple [nI u.1,nI u.2.1,.int u.2.2] from rfl]
  have hfi:atI (f.map uB) (i:Int)=some (.int y):=znf (by lia) (by rw [uY,uI,hy];rfl)
  have a0:atI [nI u.1,nI u.2.1,uB u.2.2] 0=some (nI u.1):=rfl
  have a1:atI [nI u.1,nI u.2.1,uB u.2.2] 1=some (nI u.2.1):=rfl
  have a2:atI [nI u.1,nI u.2.1,uB u.2.2] 2=some (.int u.2.2):=rfl
  walk_at "dd"
  refine zd0 λ J hJ=>?_
  walk_at "dd"
  refine ⟨nI u.2.1,rfl,nI u.1,rfl,by rw [uA];lia,hJ _ ?_⟩
  clear hJ
  rw [show E.map nI++[nI u.2.1,nI u.1]=(E++[u.2.1,u.1]).map nI by rw [uJ];rfl]
  refine zd0 λ J hJ=>?_
  walk_at "dd"
  refine ⟨_,rfl,_,hfi,?_⟩
  walk_at "dd"
  refine ⟨_,hfi,by rw [uA];lia,hJ _ ?_⟩
  clear hJ
  rw [show L.map uB++[.int (u.2.2 - y),.int y]=(L++[u.2.2 - y,y]).map .int by rw [uJ];rfl]
  obtain ⟨l1,hl1⟩:∃ l1,S[u.1]?=some l1:=⟨S[u.1]'(by rw [N.lS];exact b1),uC _⟩
  obtain ⟨l2,hl2⟩:∃ l2,(S.set u.1 (l1++[2 * i]))[u.2.1]?=some l2:=⟨(S.set u.1 (l1++[2 * i]))[u.2.1]'(by rw [uU,N.lS];exact b2),uC _⟩
  have N2:=N.push b1 b2 hl1 hl2
  have z1:=zwx hl1
  have z2:=zwx hl2
  have z3:=ze7 (l1++[2 * i]) hl1
  have z4:=ze7 (l2++[2 * i+1]) hl2
  rw [vB,xM] at z3 z4
  have g1:(S.map λ l=>_4.T.li (l.map nI))[u.1]?=some (_4.T.li (l1.map nI)):=by rw [uI,hl1];rfl
  have g2:((S.set u.1 (l1++[2 * i])).map λ l=>_4.T.li (l.map nI))[u.2.1]?=some (_4.T.li (l2.map nI)):=by rw [uI,hl2];rfl
  have i1:ixN (S.map λ l=>_4.T.li (l.map nI)).length ((u.1:Nat):Int)=some u.1:=by rw [uA];exact zle (by rw [N.lS];exact b1)
  have i2:ixN ((S.set u.1 (l1++[2 * i])).map λ l=>_4.T.li (l.map nI)).length ((u.2.1:Nat):Int)=some u.2.1:=by rw [uA,uU];exact zle (by rw [N.lS];exact b2)
  refine zd0 λ J hJ=>?_
  walk_at "dd"
  refine ⟨nI u.1,rfl,u.1,_,i1,g1,rfl,zjx i,?_⟩
  walk_at "dd"
  refine ⟨by rw [uA];lia,hJ _ ?_⟩
  clear hJ
  rw [g1]
  dsimp only
  rw [show l1.map nI++[uB (2 * (i:Int))]=(l1++[2 * i]).map nI by rw [uJ];rfl,setT]
  walk_at "dd"
  refine ⟨nI u.2.1,rfl,u.2.1,_,i2,g2,rfl,zjx i,?_⟩
  walk_at "dd"
  refine ⟨by rw [uA];lia,_,.sh (nI i),.sh (.tuple [nI u.1,nI u.2.1,.int u.2.2]),by lia,by lia,N2,?_⟩
  rw [g2]
  dsimp only
  rw [show l2.map nI++[uB (2 * (i:Int)+1)]=(l2++[2 * i+1]).map nI by rw [uJ];rfl,setT]
  rfl
 ·rintro U ⟨S,s4,s5,hi,hsz,N,rfl⟩
  rw [zea,uA,wP] at N
  rw [zea,uA,wP,zM (by lia)]
  exact ⟨_,rfl,q S N⟩
theorem frzT (S:List (List Nat)):(zhg (S.map λ l=>_4.T.li (l.map nI))).map (λ dss=>vF (dss.map .list))=some (dSt S):=by
 have:∀ S:List (List Nat),zhg (S.map λ l=>_4.T.li (l.map nI))=some (S.map λ l=>l.map nI):=by
  intro S
  induction S with
 |nil=>rfl
 |cons l r ih=>simp only [uK,zhg,ih];rfl
 rw [this]
 simp only [Option.map_some,vD]
 rfl
noncomputable def zzb:DSp:=λ ds Q=>∃ (n:Nat) (A:List Ar) (src snk:Nat) (fl:D) (f:List Int),ds=[nI n,.list (A.map dAr),nI src,nI snk,fl]/\((fl=.none/\f=uN A.length 0) \/ fl=.list (f.map .int))/\f.length=A.length/\n < 64/\A.length<=400000/\(∀ a∈A,a.1 < n/\a.2.1 < n) /\
 (∀ (k:Nat) a x,A[k]?=some a->f[k]?=some x->0<=x/\x<=a.2.2)/\src < n/\snk < n/\src≠snk /\
 ∀ (L:List Int) (side:List Nat),Best n A f src snk L side->Q (.tuple [.list ((uM A.length).map λ k=>.int (lf L (2 * k+1))),.list (side.map nI)])
theorem zm9:FnScope ["count", "arcs", "source", "sink", "flow", "stream", "levels"] ["count", "arcs", "source", "sink", "flow"] (zf0 zm7):=by walk_at "sc"
theorem zvf (M:Md K mg) (T:TopDefN K "greatest" zm7) (jJ:mg "len"=none) (kO:mg "sorted"=none) (jB:Cls K jA) (jO:zjc P w K mg base jA "levels" 2 ["self", "source"] (spT K (zu4 jA))) (jT:zjc P w K mg base jA "push_up" 3 ["self", "levels", "source", "sink"] (spT K (zy3 jA))) (jU:zjc P w K mg base jA "amounts" 1 ["self"] (spT K (zz3 jA))) (qJ:ziz P w K mg base "Stream" jA 1 ["self", "count", "arcs", "flow"] (spT K (zl3 jA))):DefN P w K mg base "greatest" 4 ["count", "arcs", "source", "sink", "flow"] (spD K zzb):=by
 refine zes M T zm9 (qs:=["count", "arcs", "source", "sink"]) rfl (λ _ _ _ _ _ _ _ us hl=>match us,hl with|[_,_,_,_,_],_=>⟨_,rfl,rfl⟩) (λ _ _ _ _ _ _ _ us hl=>match us,hl with|[_,_,_,_],_=>⟨_,rfl,rfl⟩) (zzl λ ds Qd h=>by obtain ⟨_,_,_,_,_,_,rfl,_⟩:=h;rfl) (zoc ?_)
 intro f cdv A outer s H E hr
 have nd:=zm9.nd
 refine ⟨_,_,(zc0 (pset 5 nd (zdp qJ (rmn hr) rfl (za0 (pv 0) (za0 (pv 1) (za0 (zpi (zz0 zy41 (pv 4) zxo (za2 _)) (zp1 zn3 (zg1 (za0 zl0 zg0)) (zu0 (zu1 (K:=K) rfl) rfl jJ zj7 (za0 (pv 1) zg0))) (pv 4)) zg0)))))
   (zc0 (pset 6 nd (za4 jO (rmn hr) (pv 5) (za0 (pv 2) zg0)))
   (zc0 (ze5 PassesOwn.never (zz0 (zn31 (w:=w) (K:=K) (Room.units hr) rfl rfl) (pv 3) (pv 6) (by with_unfolding_all rfl)) (zc0 (zo1 (za4 jT (rmn hr) (pv 5) (za0 (pv 6) (za0 (pv 2) (za0 (pv 3) zg0)))))
   (zj0 (pset 6 nd (za4 jO (rmn hr) (pv 5) (za0 (pv 2) zg0))))))
   (zj0 (zl1 (zk5 (za0 (zal jU (rmn hr) (pv 5)) (za0 (zu0 (zgd (K:=K) rfl rfl) rfl kO znj (za0 (pv 6) zg0)) zg0)))))))),(zk0 (zr1 (RfN.c (zps (at_d (zh0 0) (at_d (zh0 1) (at_d (zit (zy0 (zr0 zn81 (zb0 4) (RfE.v zxq))) (RfF.e (zqh (zw2 (ze0 zh1 zq0)) (zef zej (zw0 (zb0 1) zv1)))) (zh0 4)) zn5))))))
   (zk0 (zw6 5 [.fl "steps"] (zw6 5 [.fl "ends"] (zr1 (zo6 false (zm0 5) (at_d (zh0 2) zn5)))))
   (zk0 (zy4 (zy0 (zc41 (zh0 3) (zm0 6))) (zk0 (zq1 (zo6 true (zm0 5) (at_b (zm0 6) (at_d (zh0 2) (at_d (zh0 3) zn5)))))
   (zr1 (zo6 false (zm0 5) (at_d (zh0 2) zn5)))))
   (za3 (RfE.c (zac (ze0 (RfN.ex (zst (zm0 5) zn5)) (ze0 (RfF.e (zop (zm0 6))) zq0)))))))),?_⟩
 rintro ds Qd ⟨n,A,src,snk,fl,f,rfl,hfl,hf,hn,hA,hb,hc,hs1,hs2,hss,q⟩
 walk_at "ds"
 refine zd0 λ J hJ=>?_
 have start:∀ S,Net n A.length (zv4 A) S->J [.sh (nI n),.sh (.list (A.map dAr)),.sh (nI src),.sh (nI snk),.sh fl,.ow (.ob jA [("ends",.li ((zv4 A).map nI)),("left",.li ((zr6 A f).map .int)),("steps",tT S)]),.un]:=λ S N=>by
  refine hJ _ ?_
  clear hJ
  have cap:=zul hf hc
  refine zd0 λ J hJ=>?_
  walk_at "dd"
  refine ⟨_,dSt S,rfl,frzT S,_,_,rfl,rfl,?_⟩
  refine ⟨n,A.length,zv4 A,zr6 A f,S,src,rfl,by lia,N,cap.len,hs1,λ lv hv t=>hJ _ ?_⟩
  clear hJ
  refine zxh ?_
  refine ⟨λ μ U=>∃ L lv,Up A.length (zn1 A) (zv4 A) (zr6 A f) L src snk/\Lev n A.length (zv4 A) L src lv/\μ=(tot A.length (zn1 A) - bal A.length (zv4 A) L snk).toNat/\U=[.sh (nI n),.sh (.list (A.map dAr)),.sh (nI src),.sh (nI snk),.sh fl,.ow (oS jA (zv4 A) L S),.ow (.dk (kN lv))],
   ⟨_,zr6 A f,lv,Up.refl cap,hv,rfl,rfl⟩,?_⟩
  clear hv lv
  rintro μ U ⟨L,lv,up,hv,rfl,rfl⟩
  walk_at "dd"
  rw [xR]
  refine two (λ ht=>?_) λ ht=>?_
  ·refine zd0 λ J hJ=>?_
   walk_at "dd"
   refine ⟨n,A.length,zn1 A,zv4 A,L,S,lv,src,snk,rfl,by lia,by lia,N,up.cap,hs1,hss,hv,ht,λ L' up' hlt=>hJ _ ?_⟩
   clear hJ
   walk_at "dd"
   have up2:=up.trans up'
   have hle:=zxw (E:=zv4 A) up2.cap snk
   refine ⟨n,A.length,zv4 A,L',S,src,rfl,by lia,N,up2.cap.len,hs1,λ lv' hv' t=>⟨_,by lia,L',lv',up2,hv',rfl,rfl⟩⟩
  ·refine ⟨A.length,zv4 A,L,S,rfl,up.cap.len,hA,λ t=>?_⟩
   have hz:=zs0 n (lv.map (·.1)) hv.nd (λ x hx=>by obtain ⟨p,hp,rfl⟩:=uL.mp hx;exact hv.bd p hp)
   rw [uA] at hz
   refine ⟨lv.map λ p=>((p.1:Nat):Int),?_,by rw [uA];lia,λ ns' hp hs=>?_⟩
   ·unfold kN;rw [vD,vD];rfl
   ·obtain ⟨side,e,b⟩:=zvs up hv (by simpa using ht) hp hs
    rw [e]
    exact q L side b
 clear hJ
 rcases hfl with ⟨rfl,rfl⟩|rfl
 ·walk_at "dd"
  refine ⟨by rw [uA];lia,by rw [uA];lia,by rw [uA];lia,n,A,uN A.length 0,by rw [uA,uY,show (uN A.length [uB 0]).flatten=(uN A.length 0).map .int by rw [z6,z7]];rfl,hf,by lia,hA,hb,λ S N=>⟨trivial,start S N⟩⟩
 ·walk_at "dd"
  exact ⟨n,A,f,rfl,hf,by lia,hA,hb,λ S N=>⟨trivial,start S N⟩⟩
end
noncomputable def ArOk (n:Nat) (a:Ar):Prop:=a.1 < n/\a.2.1 < n/\0<=a.2.2
noncomputable def tab (n:Nat) (f:Nat->Int):List Int:=(uM n).map f
theorem zd2 (n:Nat) (f:Nat->Int):(tab n f).length=n:=by simp [tab]
theorem zkp {n i:Nat} {f:Nat->Int} (h:i < n):(tab n f)[i]?=some (f i):=by
 unfold tab;rw [uI,List.getElem?_range h];rfl
theorem ze6 {n i:Nat} {f:Nat->Int} (h:i < n):fx (tab n f) i=f i:=by unfold fx;rw [zkp h];rfl
noncomputable def slk (A:List Ar) (p h:List Int) (i:Nat):Int:=fx h (aU A i)+fx p i - fx h (aV A i)
noncomputable def fitX (A:List Ar) (s x:List Int) (i:Nat):Int:=if fx s i=0 then fx x i else if fx s i < 0 then zn1 A i else 0
noncomputable abbrev iL (l:List Int):D:=.list (l.map .int)
noncomputable abbrev zy6 (A:List Ar):D:=.list (A.map dAr)
noncomputable def zh8:DSp:=λ ds Q=>∃ (n:Nat) (A:List Ar) (x:List Int),ds=[nI n,zy6 A,iL x]/\n<=100/\A.length=x.length/\A.length<=1000/\(∀ a∈A,ArOk n a)/\Q (iL (tab n (bl A.length (aU A) (aV A) (fx x))))
noncomputable def zyh:DSpT:=λ as Q=>∃ (n:Nat) (A:List Ar) (x b:List Int),as=[.d (nI n),.d (zy6 A),.d (iL x),.d (iL b)]/\n<=100/\A.length=x.length/\A.length<=1000/\(∀ a∈A,ArOk n a)/\b.length=n/\Q (.li ((tab n λ v=>bl A.length (aU A) (aV A) (fx x) v - fx b v).map .int)) (.fz .none)
noncomputable def ze9:DSpT:=λ as Q=>∃ (n:Nat) (A:List Ar) (p h:List Int),as=[.d (zy6 A),.d (iL p),.d (iL h)]/\A.length=p.length/\A.length<=1000/\(∀ a∈A,ArOk n a)/\h.length=n/\Q (.li ((tab A.length (slk A p h)).map .int)) (.fz .none)
noncomputable def zlg:DSpT:=λ as Q=>∃ (A:List Ar) (s x:List Int),as=[.d (zy6 A),.d (iL s),.d (iL x)]/\A.length=s.length/\A.length=x.length/\A.length<=1000/\Q (.li ((tab A.length (fitX A s x)).map .int)) (.fz .none)
theorem zma {l:List Int} {i k:Nat} {x:Int} (h:i < l.length):fx (l.set i x) k=if k=i then x else fx l k:=by
 unfold fx
 by_cases e:k=i
 ·subst e;rw [vO h,if_pos rfl];rfl
 ·rw [vK (λ z=>e z.symm),if_neg e]
theorem zur {l:List Int} {i:Nat} (h:i < l.length):(l.map uB)[i]?=some (.int (fx l i)):=by
 unfold fx;rw [uI,uC h];rfl
theorem zg8 (l:List Int) (i:Nat) (x:Int):(l.map uB).set i (.int x)=(l.set i x).map uB:=by rw [xE]
theorem rep0 (n:Nat):(uN n [uB 0]).flatten=(uN n (0:Int)).map uB:=by rw [z7,z6]
theorem zbp (n k:Nat):fx (uN n 0) k=0:=by unfold fx;rw [vT];split <;> rfl
theorem zcl {l:List Int} {n:Nat} {f:Nat->Int} (h:l.length=n) (e:∀ i,i < n->fx l i=f i):l=tab n f:=by
 refine yH (by rw [zd2];exact h) λ i h1 h2=>?_
 have e1:=e i (by lia)
 unfold fx at e1
 rw [uC h1] at e1
 have e2:(tab n f)[i]?=some (f i):=zkp (by lia)
 rw [uC h2] at e2
 rw [u8.inj e2];exact e1
theorem zbf {α:Type} {xs:List α} {n:Nat} {f:Nat->Int} {g:α->Int} (h:xs.length=n) (e:∀ (i:Nat) q,xs[i]?=some q->g q=f i):(xs.map λ q=>uB (g q))=(tab n f).map uB:=by
 rw [show (xs.map λ q=>uB (g q))=(xs.map g).map uB by rw [vD];rfl]
 congr 1
 refine zcl (by rw [uA];exact h) λ i hi=>?_
 have:xs[i]?=some (xs[i]'(by lia)):=uC (by lia)
 unfold fx
 rw [uI,this]
 exact e i _ this
theorem zna {n k:Nat} (h:k < n):ixN n ((k:Nat):Int)=some k:=by
 unfold ixN
 rw [if_pos (by lia),if_pos (by lia)];simp
theorem zq8 {l:List Int} {i:Nat} (h:i < l.length):atI (l.map uB) (i:Int)=some (.int (fx l i)):=zr7 (zur h)
theorem zww {A:List Ar} {x:List Int} {i:Nat} {q:Ar×Int} (h:(A.zip x)[i]?=some q):i < A.length/\A[i]?=some q.1/\aU A i=q.1.1/\aV A i=q.1.2.1/\zn1 A i=q.1.2.2/\fx x i=q.2/\q.1∈A:=by
 obtain ⟨h1,h2⟩:=uZ.mp h
 rw [wA] at h1
 rw [yM] at h2
 have e1:A[i]?=some q.1:=by rw [uC (by lia),<- h2]
 have e2:x[i]?=some q.2:=by rw [uC (by lia),<- h2]
 refine ⟨by lia,e1,?_,?_,?_,?_,vM e1⟩
 ·unfold aU;rw [e1];rfl
 ·unfold aV;rw [e1];rfl
 ·unfold zn1;rw [e1];rfl
 ·unfold fx;rw [e2];rfl
section
variable {P:Program} {w:World} {K:Fg} {mg:Str->Option Value} {base:Heap}
theorem zj9:FnScope ["count", "arcs", "amounts", "told", "arc", "amount"] ["count", "arcs", "amounts"] (zf0 zk7):=by walk_at "sc"
theorem zbg (M:Md K mg) (T:TopDef K "balances" zk7) (jQ:mg "zip"=none):Def P w K mg base "balances" 1 ["count", "arcs", "amounts"] (spD K zh8):=by
 refine zn4 M T zj9 (λ _ _ _ _ _ _ us hl=>by obtain ⟨_,_,_,rfl⟩:=ar3 hl;rfl) (zzl λ ds Qd h=>by obtain ⟨_,_,_,rfl,_⟩:=h;rfl) (zoc ?_)
 intro f cdv A outer s H E hr
 have nd:=zj9.nd
 refine ⟨_,_,(zc0 (pset 3 nd (zp1 zn3 (zg1 (za0 zl0 zg0)) (pv 0)))
   (zc0 (zz4 PassesOwn.never rfl (zhi (K:=K) rfl rfl jQ (za0 (pv 1) (za0 (pv 2) zg0))) (zf2 (K:=K) (n:=2) rfl rfl (zp0 (pgn 4 nd) (zp0 (pgn 5 nd) zm2))) (zc0 (zf9 (pv 3) (pix w K hr (pv 4) zl0) (zsr (K:=K) (Room.units hr) rfl) (pv 5) zgq (zdj (Room.units hr)))
   (zj0 (zf9 (pv 3) (pix w K hr (pv 4) zl0) (zsr (K:=K) (Room.units hr) rfl) (pv 5) zjl (zdj (Room.units hr))))))
   (zj0 (zl1 (pv 3))))),(zk0 (zr1 (RfF.c (zqh (zw2 (ze0 zh1 zq0)) (zh0 0))))
   (zk0 (zb5 (zuu (ze0 (zh0 1) (ze0 (zh0 2) zq0))) (zd5 (zo0 (rgn 4) (zo0 (rgn 5) zh2))) (zk0 (zo9 (zm0 3) (zr0 r_ix (zb0 4) rvi) (zh0 5))
   (zo9 (zm0 3) (zr0 r_ix (zb0 4) rvi) (zh0 5))))
   (zv3 (i:=3)))),?_⟩
 rintro ds Qd ⟨n,A,x,rfl,hn,hx,hA,ok,q⟩
 walk_at "ds"
 refine zd0 λ J hJ=>?_
 walk_at "dd"
 refine ⟨by lia,by lia,by lia,hJ _ ?_⟩
 clear hJ
 rw [uY,rep0]
 refine zd0 λ J hJ=>?_
 refine zl2 λ B hB=>?_
 walk_at "dd"
 rw [zi8]
 refine zq2 (λ i U=>∃ (T:List Int) (s4 s5:Sl),U=[Sl.sh (.int (n:Int)),.sh (zy6 A),.sh (iL x),.ow (.li (T.map .int)),s4,s5]/\T.length=n/\∀ v,fx T v=if v < n then sm i (λ k=>trm (aU A k) (aV A k) (fx x k) v) else 0) ⟨uN n 0,_,_,rfl,wL ..,λ v=>by rw [zbp];split <;> rfl⟩ (λ i p U hi hp=>?_) λ U hp=>?_
 ·obtain ⟨T,s4,s5,rfl,hT,hv⟩:=hp
  obtain ⟨a1,a2,a3,a4,a5,a6,a7⟩:=zww hi
  obtain ⟨⟨u,v,c⟩,y⟩:=p
  have o:=ok _ a7
  obtain ⟨o1,o2,_⟩:=o
  simp only at a3 a4 a6 o1 o2
  walk_at "dd"
  unfold dAr nI
  walk_at "dd"
  refine hB _ _ ?_
  clear hB
  refine zd0 λ J2 hJ2=>?_
  walk_at "dd"
  refine ⟨_,rfl,?_⟩
  walk_at "dd"
  refine ⟨by lia,_,zur (by rw [uY];lia),?_⟩
  rw [uY]
  walk_at "dd"
  refine ⟨u,zna (by rw [uA];lia),?_⟩
  rw [zg8]
  refine hJ2 _ ?_
  clear hJ2
  walk_at "dd"
  refine ⟨_,rfl,?_⟩
  walk_at "dd"
  refine ⟨by lia,_,zur (by rw [uY,uU];lia),?_⟩
  rw [uY]
  walk_at "dd"
  refine ⟨v,zna (by rw [uA,uU];lia),(T.set u (fx T u - y)).set v (fx (T.set u (fx T u - y)) v+y),_,_,by rw [zg8],by rw [uU,uU];exact hT,λ z=>?_⟩
  rw [zma (by rw [uU];lia),zma (by lia),zma (by lia)]
  by_cases hz:z < n
  ·have hvz:=hv z
   rw [if_pos hz] at hvz ⊢
   rw [zi1,a3,a4,a6,<- hvz]
   unfold trm
   by_cases e1:z=v
   ·subst e1
    rw [if_pos rfl]
    by_cases e2:z=u
    ·rw [if_pos e2,if_pos rfl,if_pos e2.symm,<- e2];lia
    ·rw [if_neg e2,if_pos rfl,if_neg (λ k=>e2 k.symm)];lia
   ·rw [if_neg e1]
    by_cases e2:z=u
    ·rw [if_pos e2,if_neg (λ k=>e1 k.symm),if_pos e2.symm,<- e2];lia
    ·rw [if_neg e2,if_neg (λ k=>e1 k.symm),if_neg (λ k=>e2 k.symm)];lia
  ·rw [if_neg hz,if_neg (by lia),if_neg (by lia),hv z,if_neg hz]
 ·obtain ⟨T,s4,s5,rfl,hT,hv⟩:=hp
  refine hJ _ ?_
  clear hJ hB
  walk_at "dd"
  rw [wA,<- hx,yN] at hv
  rw [zcl hT λ v h=>(hv v).trans (if_pos h)]
  exact q
theorem zff:FnScope ["count", "arcs", "amounts", "wanted"] ["count", "arcs", "amounts", "wanted"] (zf0 zfa):=by walk_at "sc"
theorem zdk (M:Md K mg) (T:TopDef K "beyond" zfa) (jQ:mg "zip"=none) (jV:Def P w K mg base "balances" 1 ["count", "arcs", "amounts"] (spD K zh8)):Def P w K mg base "beyond" 2 ["count", "arcs", "amounts", "wanted"] (spT K zyh):=by
 refine zn4 M T zff (λ _ _ _ _ _ _ us hl=>by obtain ⟨_,_,_,_,rfl⟩:=ar4 hl;rfl) (zuc λ as Qd h=>by obtain ⟨_,_,_,_,rfl,_⟩:=h;rfl) (zm4 ?_)
 intro f cdv A outer s H E hr
 have nd:=zff.nd
 refine ⟨_,_,(zj0 (zl1 (zw3 (sc:=zf0 zfa) (N:=["count", "arcs", "amounts", "wanted"]) (own:=["told", "want"]) (ix:=[]) rfl rfl rfl (by walk_at "csc") (zhi (K:=K) rfl rfl jQ (za0 (zt0 jV (rmn hr) rfl (za0 (pv 0) (za0 (pv 1) (za0 (pv 2) zg0)))) (za0 (pv 3) zg0))) (λ _ _ _ _=>⟨(zf2 (K:=K) (n:=2) rfl rfl (zp0 (pgn 0 (nds ["told", "want"])) (zp0 (pgn 1 (nds ["told", "want"])) zm2))),ze3,(zp1 zyb (pv 0) (pv 1))⟩)))),(za3 (RfF.c (zn2 (zao (zw0 (RfE.v (zs5 (ze0 (zh0 0) (ze0 (zh0 1) (ze0 (zh0 2) zq0))))) (zw0 (zb0 3) zv1))) (zd5 (zo0 (zc1 (i:=0) (n:=2) (by decide)) (zo0 (zc1 (i:=1) (n:=2) (by decide)) zh2))) zq4 (zr0 zzm (zb0 0) (zb0 1))))),?_⟩
 rintro as Qd a ⟨n,A,x,b,rfl,hn,hx,hA,ok,hb,q⟩
 walk_at "ds"
 walk_at "dd"
 refine ⟨n,A,x,rfl,hn,hx,hA,ok,?_⟩
 walk_at "dd"
 rw [zi8]
 refine zog (λ p:Int×Int=>.int (p.1 - p.2)) (by rw [sizeLine_eq,wA,zd2];lia) (λ p hp=>?_) ?_
 ·walk_at "cs"
  walk_at "dd"
 ·rw [zbf (n:=n) (f:=λ v=>bl A.length (aU A) (aV A) (fx x) v - fx b v) (by rw [wA,zd2,hb,yN]) λ i p h=>?_]
  ·exact q
  obtain ⟨h1,h2⟩:=uZ.mp h
  rw [wA,zd2] at h1
  rw [yM] at h2
  have e1:(tab n (bl A.length (aU A) (aV A) (fx x)))[i]?=some p.1:=by rw [uC (by rw [zd2];lia),<- h2]
  rw [zkp (by lia)] at e1
  have e2:b[i]?=some p.2:=by rw [uC (by lia),<- h2]
  unfold fx
  rw [e2,<- u8.inj e1];rfl
theorem zc7:FnScope ["arcs", "prices", "heights"] ["arcs", "prices", "heights"] (zf0 zh4):=by walk_at "sc"
theorem zcd (M:Md K mg) (T:TopDef K "slacks_of" zh4) (jQ:mg "zip"=none):Def P w K mg base "slacks_of" 1 ["arcs", "prices", "heights"] (spT K ze9):=by
 refine zn4 M T zc7 (λ _ _ _ _ _ _ us hl=>by obtain ⟨_,_,_,rfl⟩:=ar3 hl;rfl) (zuc λ as Qd h=>by obtain ⟨_,_,_,_,rfl,_⟩:=h;rfl) (zm4 ?_)
 intro f cdv A outer s H E hr
 have nd:=zc7.nd
 refine ⟨_,_,(zj0 (zl1 (zw3 (sc:=zf0 zh4) (N:=["arcs", "prices", "heights"]) (own:=["arc", "price"]) (ix:=[2]) rfl rfl rfl (by walk_at "csc") (zhi (K:=K) rfl rfl jQ (za0 (pv 0) (za0 (pv 1) zg0))) (λ _ _ _ _=>⟨(zf2 (K:=K) (n:=2) rfl rfl (zp0 (pgn 0 (nds ["arc", "price", "heights"])) (zp0 (pgn 1 (nds ["arc", "price", "heights"])) zm2))),ze3,(zp1 zyb (zp1 (zw1 (K:=K) rfl) (pix w K hr (pv 2) (pix w K hr (pv 0) zl0)) (pv 1)) (pix w K hr (pv 2) (pix w K hr (pv 0) zl0)))⟩)))),(za3 (RfF.c (zn2 (zao (zw0 (zb0 0) (zw0 (zb0 1) zv1))) (zd5 (zo0 (zc1 (i:=0) (n:=2) (by decide)) (zo0 (zc1 (i:=1) (n:=2) (by decide)) zh2))) zq4 (zr0 zzm (RfE.v (zr0 zab (RfE.v (zr0 r_ix (zb0 2) (RfE.v (zr0 r_ix (zb0 0) rvi)))) (zb0 1))) (RfE.v (zr0 r_ix (zb0 2) (RfE.v (zr0 r_ix (zb0 0) rvi)))))))),?_⟩
 rintro as Qd a ⟨n,A,p,h,rfl,hp,hA,ok,hh,q⟩
 walk_at "ds"
 walk_at "dd"
 rw [zi8]
 refine zog (λ y:Ar×Int=>.int (fx h y.1.1+y.2 - fx h y.1.2.1)) (by rw [sizeLine_eq,wA];lia) (λ y hy=>?_) ?_
 ·obtain ⟨⟨u,v,c⟩,z⟩:=y
  obtain ⟨o1,o2,_⟩:=ok _ (xK hy).1
  simp only at o1 o2
  unfold dAr nI
  walk_at "cs"
  walk_at "dd"
  refine ⟨_,rfl,?_⟩
  walk_at "dd"
  refine ⟨_,zq8 (by lia),?_⟩
  walk_at "dd"
  refine ⟨_,rfl,?_⟩
  walk_at "dd"
  exact ⟨_,zq8 (by lia),rfl⟩
 ·rw [zbf (n:=A.length) (f:=slk A p h) (by rw [wA,hp,yN]) λ i y e=>?_]
  ·exact q
  obtain ⟨a1,a2,a3,a4,a5,a6,a7⟩:=zww e
  unfold slk
  rw [a3,a4,a6]
theorem zre:FnScope ["arcs", "slacks", "amounts", "told", "number", "slack"] ["arcs", "slacks", "amounts"] (zf0 zad):=by walk_at "sc"
theorem zsl (M:Md K mg) (T:TopDef K "fitted" zad) (jE:mg "enumerate"=none) (jK:mg "list"=none):Def P w K mg base "fitted" 1 ["arcs", "slacks", "amounts"] (spT K zlg):=by
 refine zn4 M T zre (λ _ _ _ _ _ _ us hl=>by obtain ⟨_,_,_,rfl⟩:=ar3 hl;rfl) (zuc λ as Qd h=>by obtain ⟨_,_,_,rfl,_⟩:=h;rfl) (zm4 ?_)
 intro f cdv A outer s H E hr
 have nd:=zre.nd
 refine ⟨_,_,(zc0 (pset 3 nd (zr2 (zx2 (K:=K) rfl) rfl jK zo5 (za0 (pv 2) zg0)))
   (zc0 (zz4 PassesOwn.never rfl (zl8 (K:=K) rfl rfl jE (za0 (pv 1) zg0)) (zf2 (K:=K) (n:=2) rfl rfl (zp0 (pgn 4 nd) (zp0 (pgn 5 nd) zm2))) (zj0 (zqb (zz0 (zfd (K:=K) rfl (Room.units hr)) (pv 5) zl0 (za2 _)) (zj0 (zzi (zpi (zz0 zmr (pv 5) zl0 (za2 _)) (pix w K hr (pix w K hr (pv 0) (pv 4)) zl0) zl0) (ztl (pv 3) (pv 4) (zdj (Room.units hr))))) zs2)))
   (zj0 (zl1 (pv 3))))),(zk0 (zr1 (RfF.c (zfr zwf (zw0 (zb0 2) zv1))))
   (zk0 (zb5 (ztm (ze0 (zh0 1) zq0)) (zd5 (zo0 (rgn 4) (zo0 (rgn 5) zh2))) (zjb (zy0 (zr8 q_ne (RfV.h (zb0 5)) (RfV.h rvi))) (zvl (zit (zy0 (zr0 r_lt (zb0 5) rvi)) (zr0 r_ix (RfE.v (zr0 r_ix (zb0 0) (zb0 4))) rvi) zh1) (zm0 3) (zh0 4)) zo2))
   (zv3 (i:=3)))),?_⟩
 rintro as Qd a ⟨A,s,x,rfl,hs,hx,hA,q⟩
 walk_at "ds"
 refine zd0 λ J hJ=>?_
 walk_at "dd"
 refine hJ _ ?_
 clear hJ
 refine zd0 λ J hJ=>?_
 refine zl2 λ B hB=>?_
 walk_at "dd"
 rw [zg4]
 refine zq2 (λ i U=>∃ (T:List Int) (s4 s5:Sl),U=[Sl.sh (zy6 A),.sh (iL s),.sh (iL x),.ow (.li (T.map .int)),s4,s5]/\T.length=A.length/\∀ v,fx T v=if v < i then fitX A s x v else fx x v) ⟨x,_,_,rfl,hx.symm,λ v=>by rw [if_neg (by lia)]⟩ (λ i p U hi hp=>?_) λ U hp=>?_
 ·obtain ⟨T,s4,s5,rfl,hT,hv⟩:=hp
  rw [xS] at hi
  obtain ⟨y,hy,rfl⟩:=u5.mp hi
  have hil:i < A.length:=by have:=(uZ.mp hy).1;lia
  have es:fx s i=y:=by unfold fx;rw [hy];rfl
  walk_at "dd"
  refine hB _ _ ?_
  clear hB
  have ea:A[i]?=some A[i]:=uC hil
  have em:zn1 A i=A[i].2.2:=by unfold zn1;rw [ea];rfl
  have gr:∀ z,z=fitX A s x i->∀ v,fx (T.set i z) v=if v < i+1 then fitX A s x v else fx x v:=λ z hz v=>by
   rw [zma (by lia)]
   by_cases e:v=i
   ·rw [if_pos e,if_pos (by lia),e];exact hz
   ·rw [if_neg e,hv v]
    by_cases e2:v < i
    ·rw [if_pos e2,if_pos (by lia)]
    ·rw [if_neg e2,if_neg (by lia)]
  walk_at "dd"
  refine two (λ h1=>two (λ h2=>⟨_,zr7 (by rw [uI,ea];rfl),?_⟩) λ h2=>⟨i,zna (by rw [uA];lia),T.set i 0,_,_,by rw [zg8],by rw [uU];exact hT,gr 0 ?_⟩) λ h1=>⟨T,_,_,rfl,hT,λ v=>?_⟩
  ·unfold dAr
   walk_at "dd"
   refine ⟨_,rfl,i,zna (by rw [uA];lia),T.set i A[i].2.2,_,_,by rw [zg8],by rw [uU];exact hT,gr _ ?_⟩
   unfold fitX
   rw [es,if_neg h1,if_pos h2,em]
  ·unfold fitX
   rw [es,if_neg h1,if_neg h2]
  ·have h1:y=0:=Classical.not_not.mp h1
   rw [hv v]
   by_cases e:v=i
   ·rw [if_neg (by lia),if_pos (by lia),e]
    unfold fitX
    rw [es,if_pos h1]
   ·by_cases e2:v < i
    ·rw [if_pos e2,if_pos (by lia)]
    ·rw [if_neg e2,if_neg (by lia)]
 ·obtain ⟨T,s4,s5,rfl,hT,hv⟩:=hp
  refine hJ _ ?_
  clear hJ hB
  walk_at "dd"
  rw [wW,<- hs] at hv
  rw [zcl hT λ v h=>(hv v).trans (if_pos h)]
  exact q
end
noncomputable def wyD (p:Wy):D:=.tuple [nI p.1,.int p.2]
noncomputable def wysD (W:List (List Wy)):D:=.list (W.map λ l=>.list (l.map wyD))
noncomputable def Stp (A:List Ar) (s x:List Int) (k u:Nat) (p:Wy):Prop:=(aU A k=u/\p=(aV A k,fx s k)/\fx x k < zn1 A k) \/ (aV A k=u/\p=(aU A k,-fx s k)/\0 < fx x k)
structure Wok (n i:Nat) (A:List Ar) (s x:List Int) (W:List (List Wy)):Prop where
 len:W.length=n
 iff:∀ u p,p∈wAt W u ↔ ∃ k,k < i/\Stp A s x k u p
 tot:(W.map vA).sum<=2 * i
theorem zpy {W:List (List Wy)} {u v:Nat} {l:List Wy} (h:u < W.length):wAt (W.set u l) v=if v=u then l else wAt W v:=by
 unfold wAt
 by_cases e:v=u
 ·subst e;rw [vO h,if_pos rfl];rfl
 ·rw [vK (λ z=>e z.symm),if_neg e]
theorem zmy:∀ {l:List Nat} {i x:Nat},(hi:i < l.length)->(l.set i (l[i]+x)).sum=l.sum+x
|a :: r,0,x,_=>by simp;lia
|a :: r,i+1,x,h=>by
  have:=zmy (l:=r) (i:=i) (x:=x) (by simpa using h)
  simp only [List.set_cons_succ,wV,List.getElem_cons_succ,this];lia
theorem zsm {W:List (List Wy)} {u:Nat} {p:Wy} (h:u < W.length):((W.set u (wAt W u++[p])).map vA).sum=(W.map vA).sum+1:=by
 rw [xE,vB]
 have:=zmy (l:=W.map vA) (i:=u) (x:=1) (by rw [uA];exact h)
 rw [yI] at this
 have e:wAt W u=W[u]:=by unfold wAt;rw [uC h];rfl
 rw [e];exact this
theorem zom {W:List (List Wy)} {u v:Nat} {p y:Wy} (h:u < W.length):y∈wAt (W.set u (wAt W u++[p])) v ↔ y∈wAt W v \/ (v=u/\y=p):=by
 rw [zpy h]
 by_cases e:v=u
 ·subst e;rw [if_pos rfl];simp
 ·rw [if_neg e];simp [e]
theorem zv61 {W:List (List Wy)} {u:Nat} {p:Wy}:(W.map λ l=>_4.T.li (l.map wyD)).set u (.li ((wAt W u).map wyD++[wyD p]))=(W.set u (wAt W u++[p])).map λ l=>_4.T.li (l.map wyD):=by
 rw [xE,uJ];rfl
theorem at_W {W:List (List Wy)} {u:Nat} (h:u < W.length):(W.map λ l=>_4.T.li (l.map wyD))[u]?=some (.li ((wAt W u).map wyD)):=by
 unfold wAt
 rw [uI,uC h];rfl
theorem znm {W:List (List Wy)} (u:Nat):(wAt W u).length<=(W.map vA).sum:=by
 unfold wAt
 induction W generalizing u with
|nil=>simp
|cons a r ih =>
  cases u with
 |zero=>simp
 |succ u=>have:=ih u;simp only [zW,uK,wV];lia
theorem frzW (W:List (List Wy)):(zhg (W.map λ l=>_4.T.li (l.map wyD))).map (λ dss=>vF (dss.map .list))=some (wysD W):=by
 have:∀ W:List (List Wy),zhg (W.map λ l=>_4.T.li (l.map wyD))=some (W.map λ l=>l.map wyD):=by
  intro W
  induction W with
 |nil=>rfl
 |cons l r ih=>simp only [uK,zhg,ih];rfl
 rw [this]
 simp only [Option.map_some,vD]
 rfl
noncomputable def zpb:DSp:=λ ds Q=>∃ (n:Nat) (A:List Ar) (s x:List Int),ds=[nI n,zy6 A,iL s,iL x]/\n<=100/\A.length=s.length/\A.length=x.length/\A.length<=1000/\(∀ a∈A,ArOk n a)/\∀ W,Wok n A.length A s x W->Q (wysD W)
noncomputable def kvD (kv:Kv):List (Key×D):=kv.map λ q=>(uP (q.1:Int),.int q.2)
noncomputable def lk (kv:Kv) (v:Nat):Option Int:=(kv.find? λ q=>decide (q.1=v)).map (·.2)
theorem zvv:∀ (kv:Kv) (v:Nat) (x:Int),(getA (kvD kv) (uP (v:Int))).getD (.int x)=.int ((lk kv v).getD x)
|[],v,x=>rfl
|q :: r,v,x=>by
  have ih:=zvv r v x
  unfold getA kvD lk at ih ⊢
  rw [uK]
  by_cases c:q.1=v
  ·rw [yO (by simp [c]),yO (by simp [c])];rfl
  ·rw [xC (by simp;lia),xC (by simp [c])];exact ih
theorem zyw (kv:Kv) (v:Nat):(getA (kvD kv) (uP (v:Int))).isSome=decide (v∈kv.map (·.1)):=by
 induction kv with
|nil=>rfl
|cons q r ih =>
  unfold getA kvD at ih ⊢
  rw [uK]
  by_cases c:q.1=v
  ·rw [yO (by simp [c])];simp [c]
  ·rw [xC (by simp;lia),ih]
   have c2:¬ v=q.1:=λ z=>c z.symm
   simp [c2]
theorem zn01 {kv:Kv} {h:Nat} {M:Int} (hh:h ∉ kv.map (·.1)):putD (kvD kv) (uP (h:Int)) (uB M)=kvD (kv++[(h,M)]):=by
 unfold putD
 rw [if_neg λ z=>?_]
 ·unfold kvD;rw [uJ];rfl
 obtain ⟨x,x1,x2⟩:=zD.mp z
 obtain ⟨y,y1,rfl⟩:=uL.mp x1
 have:(uP (y.1:Int):Key)=uP (h:Int):=of_decide_eq_true x2
 have:=uP.inj this
 exact hh (uL.mpr ⟨y,y1,by lia⟩)
noncomputable def rwT (R:Rw):List (Key×_4.T):=R.map λ q=>(uP q.1,.li (q.2.map nI))
noncomputable def lft (W:List (List Wy)) (ks:List Nat):Nat->Nat
|0=>0
|n+1=>lft W ks n+if n∈ks then 0 else (wAt W n).length
theorem zdm (W:List (List Wy)) {ks:List Nat} {h:Nat} (hh:h ∉ ks):∀ n,lft W (ks++[h]) n+(if h < n then (wAt W h).length else 0)=lft W ks n
|0=>by simp [lft]
|n+1=>by
  have ih:=zdm W hh n
  unfold lft
  by_cases e:n=h
  ·subst e
   rw [if_neg (by lia)] at ih
   rw [if_pos (by simp),if_pos (by lia),if_neg hh];lia
  ·have e2:(n∈ks++[h]) ↔ n∈ks:=by simp [e]
   simp only [e2]
   by_cases c:h < n
   ·rw [if_pos c] at ih;rw [if_pos (show h < n+1 by lia)];lia
   ·rw [if_neg c] at ih;rw [if_neg (show ¬h < n+1 by lia)];lia
noncomputable def rsm (R:Rw):Nat:=(R.map λ q=>q.2.length).sum
theorem zqc (A B:Rw):rsm (A++B)=rsm A+rsm B:=by unfold rsm;rw [uJ,wU]
theorem zca (q:Int×List Nat) (B:Rw):rsm (q :: B)=q.2.length+rsm B:=by unfold rsm;rw [uK,wV]
theorem zyl {dt:DT} {db:DS} {E:DEnds} {U:DSt} (h:∀ B:DS,(∀ E U,db E U->B E U)->zon dt B E U):zon dt db E U:=h db λ _ _ z=>z
theorem zln {dt:DT} {a b:DS} {E:DEnds} {U:DSt} (h:∀ X:DS,(∀ E U,a E U->X E U)->dIf dt X b E U):dIf dt a b E U:=h a λ _ _ z=>z
theorem zvt {i:Nat} {F:DS} {E:DEnds} {U:DSt} {ds:List D} (h:U[i]?=some (.ow (.li ds)) \/ U[i]?=some (.sh (.list ds))) (g:F E (U.set i (.sh (.list ds)))):dFrz i [] F E U:=by
 unfold dFrz fzS
 rcases h with h|h
 ·rw [h];exact ⟨_,_,rfl,rfl,g⟩
 ·rw [h]
  obtain ⟨h1,h2⟩:=uZ.mp h
  rwa [<- h2,List.set_getElem_self] at g
theorem zhh (A B:Rw):rwT (A++B)=rwT A++rwT B:=by unfold rwT;rw [uJ]
theorem zpz {X:Rw} {M:Int} (hX:M ∉ X.map (·.1)):(uP M:Key) ∉ (rwT X).map (·.1):=λ z=>by
 unfold rwT at z
 rw [vD] at z
 obtain ⟨y,y1,y2⟩:=uL.mp z
 have:=uP.inj y2
 exact hX (this ▸ uL.mpr ⟨y,y1,rfl⟩)
theorem zd31 {R:Rw} {ts:List (Key×_4.T)} {S:List Nat} {M:Int} (h:ts=rwT R \/ (R=[(0,S)]/\ts=[(uP 0,.fz (.list (S.map nI)))])) (nd:(R.map (·.1)).Nodup) (hM:M∈R.map (·.1)) :
  ∃ R1 l0 R2 t1 t t2,R=R1++(M,l0) :: R2/\ts=t1++(uP M,t) :: t2/\t1++t2=rwT (R1++R2)/\(uP M:Key) ∉ t1.map (·.1)/\(uP M:Key) ∉ t2.map (·.1)/\(t=.li (l0.map nI) \/ t=.fz (.list (l0.map nI))):=by
 obtain ⟨⟨M',l0⟩,q1,q2⟩:=uL.mp hM
 simp only at q2
 subst q2
 rcases h with h|⟨h1,h2⟩
 ·obtain ⟨R1,R2,e⟩:=z8 q1
  subst e
  rw [uJ,uK] at nd
  obtain ⟨_,n2,n3⟩:=uW.mp nd
  have n2:=(uQ.mp n2).1
  exact ⟨R1,l0,R2,rwT R1,_,rwT R2,rfl,by rw [h];unfold rwT;rw [uJ,uK],by unfold rwT;rw [uJ],zpz (λ z=>n3 _ z _ (by simp) rfl),zpz n2,.inl rfl⟩
 ·subst h1
  simp at q1
  obtain ⟨rfl,rfl⟩:=q1
  exact ⟨[],l0,[],[],_,[],rfl,h2,rfl,by simp,by simp,.inr rfl⟩
theorem zg11 {R:Rw} {ts:List (Key×_4.T)} {S:List Nat} (h:ts=rwT R \/ (R=[(0,S)]/\ts=[(uP 0,.fz (.list (S.map nI)))])):ts.map (·.1)=(R.map (·.1)).map uP:=by
 rcases h with h|⟨h1,h2⟩
 ·rw [h];unfold rwT;rw [vD,vD];rfl
 ·rw [h1,h2];rfl
noncomputable def zc9:DSpT:=λ as Q=>∃ (W:List (List Wy)) (S:List Nat),as=[.d (wysD W),.d (.list (S.map nI))]/\W.length<=100/\(∀ s∈S,s < W.length)/\(∀ u,∀ p∈wAt W u,p.1 < W.length/\0<=p.2)/\S.length+lft W [] W.length<=10000/\∀ kv,DJ W.length W (wAt W) S kv []->Q (.dk (kvD kv)) (.fz .none)
noncomputable def zzg:DSpT:=λ as Q=>∃ (h:List Int) (kv:Kv),as=[.d (iL h),.b (.dk (kvD kv))]/\h.length<=100/\kv≠[]/\∀ M,M∈kv.map (·.2)->(∀ q∈kv,q.2<=M)->Q (.li ((tab h.length λ v=>fx h v+(lk kv v).getD M).map .int)) (.fz .none)
section
variable {P:Program} {w:World} {K:Fg} {mg:Str->Option Value} {base:Heap}
theorem zk9:FnScope ["count", "arcs", "slacks", "amounts", "told", "arc", "slack", "amount"] ["count", "arcs", "slacks", "amounts"] (zf0 zi5):=by walk_at "sc"
theorem zsf (M:Md K mg) (T:TopDef K "ways_out" zi5) (jH:mg "range"=none) (jQ:mg "zip"=none):Def P w K mg base "ways_out" 1 ["count", "arcs", "slacks", "amounts"] (spD K zpb):=by
 refine zn4 M T zk9 (λ _ _ _ _ _ _ us hl=>by obtain ⟨_,_,_,_,rfl⟩:=ar4 hl;rfl) (zzl λ ds Qd h=>by obtain ⟨_,_,_,_,rfl,_⟩:=h;rfl) (zoc ?_)
 intro f cdv A outer s H E hr
 have nd:=zk9.nd
 refine ⟨_,_,(zc0 (zy2 (i:=4) (sc:=zf0 zi5) (N:=["count", "arcs", "slacks", "amounts", "told", "arc", "slack", "amount"]) (own:=["number"]) (ix:=[]) rfl rfl rfl (by walk_at "csc") nd rfl rfl (zj5 rfl jH (za0 (pv 0) zg0)) (λ _ _ _ _=>⟨(pgn 0 (nds ["number"])),ze3,(zg1 zg0)⟩))
   (zc0 (zz4 PassesOwn.never rfl (zyv (K:=K) rfl rfl jQ (za0 (pv 1) (za0 (pv 2) (za0 (pv 3) zg0)))) (zf2 (K:=K) (n:=3) rfl rfl (zp0 (pgn 5 nd) (zp0 (pgn 6 nd) (zp0 (pgn 7 nd) zm2)))) (zc0 (zqb (zz0 zmr (pv 7) (pix w K hr (pv 5) zl0) (za2 _)) (zj0 (zo1 (zj3 (K:=K) rfl PySem.F.plainAttrs_list PySem.F.slot_list_append PySem.F.type_list_append zf1 (pix w K hr (pv 4) (pix w K hr (pv 5) zl0)) (za0 (zk5 (za0 (pix w K hr (pv 5) zl0) (za0 (pv 6) zg0))) zg0)))) zs2)
   (zj0 (zqb (zz0 zuo (pv 7) zl0 (za2 _)) (zj0 (zo1 (zj3 (K:=K) rfl PySem.F.plainAttrs_list PySem.F.slot_list_append PySem.F.type_list_append zf1 (pix w K hr (pv 4) (pix w K hr (pv 5) zl0)) (za0 (zk5 (za0 (pix w K hr (pv 5) zl0) (za0 (zi61 zds (pv 6)) zg0))) zg0)))) zs2))))
   (zj0 (zl1 (pv 4))))),(zk0 (zr1 (RfN.c (zeh (RfI.j (ztb (ze0 (zh0 0) zq0))) (zc1 (i:=0) (n:=1) (by decide)) (RfF.new (zw2 zq0)))))
   (zk0 (zb5 (zdv (ze0 (zh0 1) (ze0 (zh0 2) (ze0 (zh0 3) zq0)))) (zd5 (zo0 (rgn 5) (zo0 (rgn 6) (zo0 (rgn 7) zh2)))) (zk0 (zjb (zy0 (zr0 r_lt (zb0 7) (RfE.v (zr0 r_ix (zb0 5) rvi)))) (zq1 (zud zs6 (zkn (zm0 4) (zr0 r_ix (zb0 5) rvi)) (ze0 (zac (ze0 (zr0 r_ix (zb0 5) rvi) (ze0 (zh0 6) zq0))) zq0))) zo2)
   (zjb (zy0 (zr0 r_gt (zb0 7) rvi)) (zq1 (zud zs6 (zkn (zm0 4) (zr0 r_ix (zb0 5) rvi)) (ze0 (zac (ze0 (zr0 r_ix (zb0 5) rvi) (ze0 (zyt (zh0 6)) zq0))) zq0))) zo2)))
   (zw6 4 [] (zv3 (i:=4))))),?_⟩
 rintro ds Qd ⟨n,A,s,x,rfl,hn,hs,hx,hA,ok,q⟩
 walk_at "ds"
 refine zd0 λ J hJ=>?_
 walk_at "dd"
 refine ⟨by lia,by lia,?_⟩
 rw [uY]
 refine zjq (λ _=>.li []) (by rw [vG,sizeLine_eq];lia) (λ i hi=>?_) (hJ _ ?_)
 ·walk_at "cs"
 clear hJ
 have e0:(uM n).map (λ _=>(_4.T.li []:_4.T))=(uN n ([]:List Wy)).map λ l=>.li (l.map wyD):=by simp [List.map_const']
 rw [e0]
 refine zd0 λ J hJ=>?_
 refine zl2 λ B hB=>?_
 walk_at "dd"
 refine ⟨_,_,_,rfl,by rw [uA,uA];exact hs,by rw [uA,uA];exact hx,?_⟩
 unfold zsq
 rw [uA]
 refine zq2 (λ i U=>∃ (W:List (List Wy)) (s5 s6 s7:Sl),U=[Sl.sh (.int (n:Int)),.sh (zy6 A),.sh (iL s),.sh (iL x),.ow (.ls (W.map λ l=>.li (l.map wyD))),s5,s6,s7]/\Wok n i A s x W) ⟨_,_,_,_,rfl,wL ..,λ u p=>?_,by simp⟩ (λ i k U hi hp=>?_) λ U hp=>?_
 ·refine ⟨λ z=>?_,λ ⟨k,z,_⟩=>by lia⟩
  unfold wAt at z
  rw [vT] at z
  split at z <;> simp at z
 ·obtain ⟨W,s5,s6,s7,rfl,ok2⟩:=hp
  obtain ⟨hi1,hi2⟩:=uZ.mp hi
  rw [vG] at hi1
  rw [wE] at hi2
  subst hi2
  have ea:A[i]?=some A[i]:=uC hi1
  have g1:(A.map dAr).getD i .none=dAr A[i]:=by rw [uR,uI,ea];rfl
  have gi:∀ {l:List Int},i < l.length->(l.map uB).getD i .none=.int (fx l i):=λ {l} h=>by rw [uR,zur h];rfl
  rw [g1,gi (by lia),gi (by lia)]
  have u1:aU A i=A[i].1:=by unfold aU;rw [ea];rfl
  have v1:aV A i=A[i].2.1:=by unfold aV;rw [ea];rfl
  have m1:zn1 A i=A[i].2.2:=by unfold zn1;rw [ea];rfl
  obtain ⟨o1,o2,_⟩:=ok _ (vR hi1)
  unfold dAr nI
  walk_at "dd"
  refine hB _ _ ?_
  clear hB
  refine zd0 λ J2 hJ2=>?_
  walk_at "dd"
  refine ⟨_,rfl,?_⟩
  walk_at "dd"
  have rest:∀ W1:List (List Wy),W1.length=n->(∀ u p,p∈wAt W1 u ↔ (∃ k,k < i/\Stp A s x k u p) \/ (aU A i=u/\p=(aV A i,fx s i)/\fx x i < zn1 A i))->(W1.map vA).sum<=2 * i+1->J2 [Sl.sh (uB (n:Int)),Sl.sh (zy6 A),Sl.sh (iL s),Sl.sh (iL x),Sl.ow (_4.T.ls (W1.map λ l=>_4.T.li (l.map wyD))),Sl.sh (v7 [uB (A[i].1:Int),uB (A[i].2.1:Int),uB A[i].2.2]),Sl.sh (uB (fx s i)),Sl.sh (uB (fx x i))]:=λ W1 l1 iff1 t1=>by
   refine hJ2 _ ?_
   clear hJ2
   walk_at "dd"
   refine two (λ h=>⟨_,rfl,A[i].2.1,_,zna (by rw [uA];lia),at_W (by lia),rfl,_,rfl,?_⟩) λ h=>⟨W1,_,_,_,rfl,l1,λ u p=>?_,by lia⟩
   ·have:=znm (W:=W1) A[i].2.1
    refine ⟨by rw [uA];lia,?_⟩
    rw [at_W (by lia)]
    dsimp only
    rw [show v7 [uB (A[i].1:Int),uB (-fx s i)]=wyD (A[i].1,-fx s i) from rfl,zv61]
    refine ⟨W1.set A[i].2.1 (wAt W1 A[i].2.1++[(A[i].1,-fx s i)]),_,_,_,rfl,by rw [uU];exact l1,λ u p=>?_,by rw [zsm (by lia)];lia⟩
    ·rw [zom (by lia),iff1]
     constructor
     ·rintro ((⟨k,k1,k2⟩|z)|⟨z1,z2⟩)
      ·exact ⟨k,by lia,k2⟩
      ·exact ⟨i,by lia,.inl z⟩
      ·exact ⟨i,by lia,.inr ⟨by rw [v1];exact z1.symm,by rw [u1];exact z2,h⟩⟩
     ·rintro ⟨k,k1,k2⟩
      by_cases e:k=i
      ·subst e
       rcases k2 with z|⟨z1,z2,_⟩
       ·exact .inl (.inr z)
       ·exact .inr ⟨by rw [<- v1];exact z1.symm,by rw [<- u1];exact z2⟩
      ·exact .inl (.inl ⟨k,by lia,k2⟩)
   ·rw [iff1]
    constructor
    ·rintro (⟨k,k1,k2⟩|z)
     ·exact ⟨k,by lia,k2⟩
     ·exact ⟨i,by lia,.inl z⟩
    ·rintro ⟨k,k1,k2⟩
     by_cases e:k=i
     ·subst e
      rcases k2 with z|⟨_,_,z⟩
      ·exact .inr z
      ·exact absurd z h
     ·exact .inl ⟨k,by lia,k2⟩
  refine two (λ h=>⟨_,rfl,A[i].1,_,zna (by rw [uA,ok2.len];exact o1),at_W (by rw [ok2.len];exact o1),rfl,_,rfl,?_⟩) λ h=>rest W ok2.len (λ u p=>?_) (by have:=ok2.tot;lia)
  ·have:=znm (W:=W) A[i].1
   have:=ok2.tot
   refine ⟨by rw [uA];lia,?_⟩
   rw [at_W (by rw [ok2.len];exact o1)]
   dsimp only
   rw [show v7 [uB (A[i].2.1:Int),uB (fx s i)]=wyD (A[i].2.1,fx s i) from rfl,zv61]
   refine rest _ (by rw [uU];exact ok2.len) (λ u p=>?_) (by rw [zsm (by rw [ok2.len];exact o1)];lia)
   rw [zom (by rw [ok2.len];exact o1),ok2.iff,u1,v1,m1]
   constructor
   ·rintro (z|⟨z1,z2⟩)
    ·exact .inl z
    ·exact .inr ⟨z1.symm,z2,h⟩
   ·rintro (z|⟨z1,z2,_⟩)
    ·exact .inl z
    ·exact .inr ⟨z1.symm,z2⟩
  ·rw [ok2.iff,m1]
   exact ⟨.inl,λ z=>z.elim id λ y=>absurd y.2.2 h⟩
 ·obtain ⟨W,s5,s6,s7,rfl,ok2⟩:=hp
  rw [vG] at ok2
  refine hJ _ ?_
  clear hJ hB
  walk_at "dd"
  exact ⟨_,_,rfl,frzW W,q W ok2⟩
theorem zx7:FnScope ["ways", "starts", "told", "rows", "far", "row", "here", "goal", "slack"] ["ways", "starts"] (zf0 zy5):=by walk_at "sc"
theorem zzd (M:Md K mg) (T:TopDef K "distances" zy5) (qH:mg "min"=none):Def P w K mg base "distances" 1 ["ways", "starts"] (spT K zc9):=by
 refine zn4 M T zx7 (λ _ _ _ _ _ _ us hl=>by obtain ⟨_,_,rfl⟩:=ar2 hl;rfl) (zuc λ as Qd h=>by obtain ⟨_,_,rfl,_⟩:=h;rfl) (zm4 ?_)
 intro f cdv A outer s H E hr
 have nd:=zx7.nd
 refine ⟨_,_,(zc0 (pset 2 nd zqo)
   (zc0 (pset 3 nd (zdn (zii zl0 (pv 1) zan) rfl rfl (by simp) (by decide)))
   (zc0 (ze5 PassesOwn.never (zp4 (K:=K) rfl (pv 3) (λ _=>rfl)) (zc0 (pset 4 nd (zu0 (zpl rfl) rfl qH zbs (za0 (pv 3) zg0)))
   (zc0 (pset 5 nd (zj3 (K:=K) rfl PySem.F.plainAttrs_dict PySem.F.slot_dict_pop PySem.F.type_dict_pop zrs (pv 3) (za0 (pv 4) zg0)))
   (zj0 (zz4 PassesOwn.never rfl (pi_W (K:=K) rfl (pv 5)) (pgn 6 nd) (zj0 (zqb (zz0 (zja (w:=w) (K:=K) (Room.units hr) rfl rfl) (pv 6) (pv 2) (by with_unfolding_all rfl)) (zc0 (zzi (pv 4) (ztl (pv 2) (pv 6) (zdj (Room.units hr))))
   (zj0 (zz4 PassesOwn.never rfl (pi_W (K:=K) rfl (pix w K hr (pv 0) (pv 6))) (zf2 (K:=K) (n:=2) rfl rfl (zp0 (pgn 7 nd) (zp0 (pgn 8 nd) zm2))) (zj0 (zqb (zz0 (zja (w:=w) (K:=K) (Room.units hr) rfl rfl) (pv 7) (pv 2) (by with_unfolding_all rfl)) (zj0 (zo1 (zj3 (K:=K) rfl PySem.F.plainAttrs_list PySem.F.slot_list_append PySem.F.type_list_append zf1 (zj3 (K:=K) rfl PySem.F.plainAttrs_dict PySem.F.slot_dict_setdefault PySem.F.type_dict_setdefault zxk (pv 3) (za0 (zp1 (zw1 (K:=K) rfl) (pv 4) (pv 8)) (za0 (zg1 zg0) zg0))) (za0 (pv 7) zg0)))) zs2))))) zs2)))))))
   (zj0 (zl1 (pv 2)))))),(zk0 (zr1 zp81)
   (zk0 (zr1 (zy01 zh1 (zh0 1)))
   (zk0 (zy4 (ziv 3) (zk0 (zk1 (zcy 3) (rgn 4))
   (zk0 (zr1 (zgv (i:=3) (zh0 4)))
   (zw6 5 [] (zb5 (zkr (zh0 5)) (rgn 6) (zjb (zy0 (zkg (zh0 6) (zm0 2))) (zk0 (zvl (zh0 4) (zm0 2) (zh0 6))
   (zb5 (zkr (zr0 r_ix (zb0 0) (zb0 6))) (zd5 (zo0 (rgn 7) (zo0 (rgn 8) zh2))) (zjb (zy0 (zkg (zh0 7) (zm0 2))) (zzj (i:=3) (zr0 zab (zb0 4) (zb0 8)) (zh0 7)) zo2))) zo2))))))
   (zv3 (i:=2))))),?_⟩
 rintro as Qd a ⟨W,S,rfl,hn,hS,hW,hB,q⟩
 walk_at "ds"
 refine zd0 λ J hJ=>?_
 walk_at "dd"
 refine hJ _ ?_
 clear hJ
 refine zd0 λ J hJ=>?_
 walk_at "dd"
 refine hJ _ ?_
 clear hJ
 refine zd0 λ J hJ=>?_
 refine zyl λ C hC=>?_
 refine ⟨λ m U=>∃ (kv:Kv) (R:Rw) (ts:List (Key×_4.T)) (s4 s5 s6 s7 s8:Sl),U=[Sl.sh (wysD W),.sh (.list (S.map nI)),.ow (.dk (kvD kv)),.ow (.dd ts),s4,s5,s6,s7,s8]/\DJ W.length W (wAt W) S kv R/\(R.map (·.1)).Nodup/\R.length+lft W (kv.map (·.1)) W.length<=m/\m<=10001/\rsm R+lft W (kv.map (·.1)) W.length<=10000/\(ts=rwT R \/ (R=[(0,S)]/\ts=[(uP 0,.fz (.list (S.map nI)))])),⟨1+lft W [] W.length,[],[(0,S)],_,_,_,_,_,_,rfl,.init hS,by simp,uG _,by lia,by simpa [rsm] using hB,.inr ⟨rfl,rfl⟩⟩,λ m U hw=>?_⟩
 obtain ⟨kv,R,ts,s4,s5,s6,s7,s8,rfl,dj,nd',hm,m1,hr',ht⟩:=hw
 have ek:=zg11 ht
 walk_at "dd"
 refine ⟨_,rfl,two (λ h=>hC _ _ ?_) λ h=>hJ _ ?_⟩
 ·clear hC hJ
  have hR:R.map (·.1)≠[]:=λ z=>by rw [z] at ek;rw [yF.mp ek] at h;cases h
  refine zd0 λ J hJ=>?_
  walk_at "dd"
  refine ⟨_,_,rfl,ek,hR,λ M hM hmin=>hJ _ ?_⟩
  clear hJ
  obtain ⟨R1,l0,R2,t1,t,t2,e1,e2,e3,e4,e5,e6⟩:=zd31 ht nd' hM
  refine ⟨λ U=>∃ s5,U=[Sl.sh (wysD W),.sh (.list (S.map nI)),.ow (.dk (kvD kv)),.ow (.dd (rwT (R1++R2))),.sh (.int M),s5,s6,s7,s8]/\(s5=.ow (.li (l0.map nI)) \/ s5=.sh (.list (l0.map nI))),?_,?_⟩
  ·walk_at "dd"
   refine ⟨_,rfl,_,_,_,_,e2,rfl,e4,e5,_,by rw [e3],?_⟩
   rcases e6 with rfl|rfl
   ·exact .inl rfl
   ·exact .inr rfl
  rintro U ⟨s5,rfl,h5⟩
  refine zvt (ds:=l0.map nI) (by rcases h5 with rfl|rfl;exact .inl rfl;exact .inr rfl) ?_
  have pe:∀ r,r∈(M,l0) :: (R1++R2) ↔ r∈R:=λ r=>by rw [e1];simp only [uD,uF];exact or_left_comm
  have dj:=dj.perm pe
  have M1:∀ r∈R1++R2,M<=r.1:=λ r hr=>hmin _ (uL.mpr ⟨r,(pe r).mp (u9 _ hr),rfl⟩)
  have nd2:((R1++R2).map (·.1)).Nodup:=by
   rw [e1,uJ,uK] at nd'
   rw [uJ]
   exact nd'.sublist (List.Sublist.append_left (List.sublist_cons_self ..) _)
  have hm2:(R1++R2).length+lft W (kv.map (·.1)) W.length+1<=m:=by rw [e1] at hm;simp at hm ⊢;lia
  have hr2:rsm (R1++R2)+lft W (kv.map (·.1)) W.length<=10000:=by rw [e1] at hr';rw [zqc,zca] at hr';rw [zqc];lia
  generalize R1++R2=R0 at dj M1 nd2 hm2 hr2 ⊢
  clear e1 e2 e3 e4 e5 e6 ht ek pe hmin hM h hR h5 nd' hm hr'
  refine zl2 λ B hB=>?_
  walk_at "dd"
  refine zq2 (λ i U=>∃ (kv:Kv) (R:Rw) (s6 s7 s8:Sl),U=[Sl.sh (wysD W),.sh (.list (S.map nI)),.ow (.dk (kvD kv)),.ow (.dd (rwT R)),.sh (.int M),.sh (.list (l0.map nI)),s6,s7,s8]/\DJ W.length W (wAt W) S kv ((M,l0.drop i) :: R)/\(∀ r∈R,M<=r.1)/\(R.map (·.1)).Nodup/\R.length+lft W (kv.map (·.1)) W.length+1<=m/\rsm R+lft W (kv.map (·.1)) W.length<=10000) ⟨kv,R0,_,_,_,rfl,dj,M1,nd2,hm2,hr2⟩ (λ i h U hi hp=>?_) λ U hp=>?_
  ·clear dj M1 nd2 hm2 hr2
   obtain ⟨kv,R,s6,s7,s8,rfl,dj,M1,nd2,hm2,hr2⟩:=hp
   obtain ⟨hi1,hi2⟩:=uZ.mp hi
   rw [List.drop_eq_getElem_cons hi1,hi2] at dj
   walk_at "dd"
   refine hB _ _ ?_
   clear hB
   refine zln λ X hX=>?_
   walk_at "dd"
   rw [zyw]
   refine two (λ h1=>hX _ _ ?_) λ h1=>?_
   ·clear hX
    have h1:h ∉ kv.map (·.1):=of_decide_eq_false h1
    refine zd0 λ J hJ=>?_
    walk_at "dd"
    have hl:=zs0 W.length (kv.map (·.1)) dj.nd λ x hx=>by obtain ⟨y,y1,rfl⟩:=uL.mp hx;exact (dj.nn y y1).1
    rw [uA] at hl
    refine ⟨by unfold kvD;rw [uA];lia,hJ _ ?_⟩
    clear hJ
    rw [zn01 h1]
    have hh:h < W.length:=(dj.rn (M,h :: l0.drop (i+1)) (by simp)).2 h (by simp)
    have dj:=dj.ins h1 M1
    have lf:=zdm W h1 W.length
    rw [if_pos hh] at lf
    have hM:(h,M)∈kv++[(h,M)]:=by simp
    have em:kv.map (·.1)++[h]=(kv++[(h,M)]).map (·.1):=by simp
    rw [em] at lf
    generalize kv++[(h,M)]=kv at dj lf hM ⊢
    have ew:wysD W=vF (W.map λ l=>.list (l.map wyD)):=rfl
    have ea:atI (W.map λ l=>vF (l.map wyD)) (h:Int)=some (.list ((wAt W h).map wyD)):=zr7 (by unfold wAt;rw [uI,uC hh];rfl)
    refine zl2 λ B hB=>?_
    rw [ew]
    walk_at "dd"
    refine ⟨_,ea,?_⟩
    walk_at "dd"
    refine zq2 (λ j U=>∃ (R:Rw) (s7 s8:Sl),U=[Sl.sh (wysD W),.sh (.list (S.map nI)),.ow (.dk (kvD kv)),.ow (.dd (rwT R)),.sh (.int M),.sh (.list (l0.map nI)),.sh (.int (h:Int)),s7,s8]/\DJ W.length W (λ u=>if u=h then (wAt W h).take j else wAt W u) S kv ((M,l0.drop (i+1)) :: R)/\(∀ r∈R,M<=r.1)/\(R.map (·.1)).Nodup/\R.length+lft W (kv.map (·.1)) W.length+1+(wAt W h).length<=m+j/\rsm R+lft W (kv.map (·.1)) W.length+(wAt W h).length<=10000+j) ⟨R,_,_,rfl,by simpa using dj,M1,nd2,by lia,by lia⟩ (λ j p U hj hp=>?_) λ U hp=>?_
    ·obtain ⟨R,s7,s8,rfl,dj,M1,nd2,hm2,hr2⟩:=hp
     obtain ⟨hj1,hj2⟩:=uZ.mp hj
     have hpm:p∈wAt W h:=hj2 ▸ vR hj1
     have hp0:=hW h p hpm
     unfold wyD nI
     walk_at "dd"
     refine hB _ _ ?_
     clear hB
     walk_at "dd"
     have et:∀ u,∀ y∈(if u=h then (wAt W h).take (j+1) else wAt W u),y∈(if u=h then (wAt W h).take j else wAt W u) \/ (u=h/\y=p):=λ u y hy=>by
      by_cases e:u=h
      ·rw [if_pos e] at hy ⊢
       rw [wO,hj] at hy
       simp at hy
       exact hy.imp id λ z=>⟨e,z⟩
      ·rw [if_neg e] at hy ⊢;exact .inl hy
     rw [zyw]
     refine two (λ h2=>⟨_,rfl,by unfold rwT;rw [uA];lia,?_⟩) λ h2=>?_
     ·by_cases c:M+p.2∈R.map (·.1)
      ·obtain ⟨⟨k,x⟩,k1,k2⟩:=uL.mp c
       simp only at k2
       subst k2
       obtain ⟨R1,R2,rfl⟩:=z8 k1
       rw [zqc,zca] at hr2
       simp only at hr2
       have nd3:=nd2
       rw [uJ,uK] at nd3
       have n3:=(uW.mp nd3).2.2
       refine .inr ⟨rwT R1,x.map nI,rwT R2,by rw [zhh];rfl,zpz λ z=>n3 _ z _ (by simp) rfl,by rw [uA];lia,R1++(M+p.2,x++[p.1]) :: R2,.sh (.int p.1),.sh (.int p.2),?_,dj.push hM hpm hp0.2 hp0.1 et ?_ ?_ ?_,?_,?_,?_,?_⟩
       ·rw [zhh R1 ((M+p.2,x++[p.1]) :: R2),show rwT ((M+p.2,x++[p.1]) :: R2)=(uP (M+p.2),.li (x.map nI++[.int p.1])) :: rwT R2 by unfold rwT;rw [uK,uJ];rfl]
       ·intro k y hy
        rcases uF.mp hy with z|z
        ·exact ⟨y,by simp [z],λ _ v=>v⟩
        ·rcases uD.mp z with z|z
         ·injection z with z1 z2
          subst z1 z2
          exact ⟨y++[p.1],by simp,λ v hv=>by simp [hv]⟩
         ·exact ⟨y,by simp [z],λ _ v=>v⟩
       ·exact ⟨x++[p.1],by simp,by simp⟩
       ·intro r hr
        have:r=(M+p.2,x++[p.1]) \/ r∈R1++(M+p.2,x) :: R2:=by
         rcases uF.mp hr with z|z
         ·exact .inr (by simp [z])
         ·rcases uD.mp z with z|z
          ·exact .inl z
          ·exact .inr (by simp [z])
        rcases this with z|z
        ·subst z
         refine ⟨.inr rfl,λ v hv=>?_⟩
         rcases uF.mp hv with w|w
         ·exact .inl ⟨(M+p.2,x),by simp,rfl,w⟩
         ·exact .inr ⟨rfl,by simpa using w⟩
        ·exact ⟨.inl ⟨r,z,rfl⟩,λ v hv=>.inl ⟨r,z,rfl,hv⟩⟩
       ·intro r hr
        rcases uF.mp hr with z|z
        ·exact M1 r (by simp [z])
        ·rcases uD.mp z with z|z
         ·subst z;show M<=M+p.2;lia
         ·exact M1 r (by simp [z])
       ·rw [uJ,uK];exact nd3
       ·simp only [vB,vS] at hm2 ⊢;lia
       ·rw [zqc,zca];simp only [vB,vS,xQ];lia
      ·refine .inl ⟨zpz c,R++[(M+p.2,[p.1])],.sh (.int p.1),.sh (.int p.2),?_,dj.push hM hpm hp0.2 hp0.1 et (λ k y hy=>⟨y,by simp [hy],λ _ v=>v⟩) ⟨[p.1],by simp,by simp⟩ ?_,?_,?_,?_,?_⟩
       ·rw [zhh];rfl
       ·intro r hr
        rcases uF.mp hr with z|z
        ·exact ⟨.inl ⟨r,z,rfl⟩,λ v hv=>.inl ⟨r,z,rfl,hv⟩⟩
        ·simp at z;subst z
         exact ⟨.inr rfl,λ v hv=>.inr ⟨rfl,by simpa using hv⟩⟩
       ·intro r hr
        rcases uF.mp hr with z|z
        ·exact M1 r z
        ·simp at z;subst z;show M<=M+p.2;lia
       ·rw [uJ]
        exact uW.mpr ⟨nd2,by simp,λ a ha b hb e=>c (by simp at hb;rw [hb] at e;rw [<- e];exact ha)⟩
       ·simp only [vB,vS,xQ];lia
       ·rw [zqc,zca];simp only [rsm,vS,xQ,wZ,List.sum_nil] at hr2 ⊢;lia
     ·have h1:p.1∈kv.map (·.1):=by simpa using h2
      obtain ⟨⟨_,b⟩,b1,b2⟩:=uL.mp h1
      simp only at b2
      subst b2
      exact ⟨R,_,_,rfl,dj.seen hM hp0.2 b1 et,M1,nd2,by lia,by lia⟩
    ·obtain ⟨R,s7,s8,rfl,dj,M1,nd2,hm2,hr2⟩:=hp
     rw [wP] at dj
     exact ⟨kv,R,_,_,_,rfl,dj.wy' λ q hq p hp=>by by_cases e:q.1=h;(simp only [if_pos e];rwa [e] at hp);simp only [if_neg e];exact hp,M1,nd2,by lia,by lia⟩
   ·have h1:h∈kv.map (·.1):=by simpa using h1
    obtain ⟨⟨_,b⟩,b1,b2⟩:=uL.mp h1
    simp only at b2
    subst b2
    exact ⟨kv,R,_,_,_,rfl,dj.skip b1,M1,nd2,hm2,hr2⟩
  ·obtain ⟨kv,R,s6,s7,s8,rfl,dj,M1,nd2,hm2,hr2⟩:=hp
   rw [List.drop_length] at dj
   exact ⟨m - 1,by lia,kv,R,_,_,_,_,_,_,rfl,dj.drop,nd2,by lia,by lia,hr2,.inl rfl⟩
 ·clear hC
  walk_at "dd"
  have:R=[]:=by
   cases ts with
  |nil=>cases R with
   |nil=>rfl
   |cons _ _=>cases ek
  |cons _ _=>exact absurd rfl h
  rw [this] at dj
  exact q kv dj
theorem zcf:FnScope ["heights", "far", "most"] ["heights", "far"] (zf0 zka):=by walk_at "sc"
theorem zrl (M:Md K mg) (T:TopDef K "raised" zka) (jE:mg "enumerate"=none) (qI:mg "max"=none):Def P w K mg base "raised" 1 ["heights", "far"] (spT K zzg):=by
 refine zn4 M T zcf (λ _ _ _ _ _ _ us hl=>by obtain ⟨_,_,rfl⟩:=ar2 hl;rfl) (zuc λ as Qd h=>by obtain ⟨_,_,rfl,_⟩:=h;rfl) (zm4 ?_)
 intro f cdv A outer s H E hr
 have nd:=zcf.nd
 refine ⟨_,_,(zc0 (pset 2 nd (zu0 (ztj rfl) rfl qI zcw (za0 (zfc (K:=K) rfl PySem.F.plainAttrs_dict PySem.F.slot_dict_values PySem.F.type_dict_values zks (pv 1)) zg0)))
   (zj0 (zl1 (zw3 (sc:=zf0 zka) (N:=["heights", "far", "most"]) (own:=["number", "height"]) (ix:=[2,1]) rfl rfl rfl (by walk_at "csc") (zl8 (K:=K) rfl rfl jE (za0 (pv 0) zg0)) (λ _ _ _ _=>⟨(zf2 (K:=K) (n:=2) rfl rfl (zp0 (pgn 0 (nds ["number", "height", "most", "far"])) (zp0 (pgn 1 (nds ["number", "height", "most", "far"])) zm2))),ze3,(zp1 (zw1 (K:=K) rfl) (pv 1) (zj3 (K:=K) rfl PySem.F.plainAttrs_dict PySem.F.slot_dict_get PySem.F.type_dict_get (zgy (Room.units hr)) (pv 3) (za0 (pv 0) (za0 (pv 2) zg0))))⟩))))),(zk0 (zk1 (zvx (zm0 1)) (rgn 2))
   (za3 (RfF.c (zn2 (zxb (zw0 (zb0 0) zv1)) (zd5 (zo0 (zc1 (i:=0) (n:=2) (by decide)) (zo0 (zc1 (i:=1) (n:=2) (by decide)) zh2))) zq4 (zr0 zab (zb0 1) (RfE.v (zts (zm0 3) (zh0 0) (zh0 2)))))))),?_⟩
 rintro as Qd a ⟨h,kv,rfl,hh,hk,q⟩
 walk_at "ds"
 refine zd0 λ J hJ=>?_
 walk_at "dd"
 refine ⟨_,kv.map (·.2),rfl,by unfold kvD;rw [vD,vD];rfl,λ z=>hk (yF.mp z),λ M hM hx=>hJ _ ?_⟩
 clear hJ
 have q:=q M hM λ q hq=>hx _ (uL.mpr ⟨q,hq,rfl⟩)
 walk_at "dd"
 rw [zg4]
 refine zog (λ p:Nat×Int=>.int (p.2+(lk kv p.1).getD M)) (by rw [sizeLine_eq,wW];lia) (λ p hp=>?_) ?_
 ·walk_at "cs"
  walk_at "dd"
  rw [zvv]
 ·rw [zbf (n:=h.length) (f:=λ v=>fx h v+(lk kv v).getD M) (by rw [wW]) λ i y e=>?_]
  ·exact q
  rw [xS] at e
  obtain ⟨z,hz,rfl⟩:=u5.mp e
  unfold fx
  rw [hz];rfl
end
noncomputable def lst (l:List Int) (p:Int->Bool):List Nat:=(uM l.length).filter λ k=>p (fx l k)
theorem zdh (l:List Int):(l.mapIdx λ i x=>(i,x))=(uM l.length).map λ k=>(k,fx l k):=by
 refine yH (by simp) λ i h1 h2=>?_
 have hi:i < l.length:=by simpa using h1
 rw [List.getElem_mapIdx,yI,wE]
 unfold fx
 rw [uC hi];rfl
theorem idxF {β:Type} (l:List Int) (p:Int->Bool) (g:Nat->Int->β):(l.mapIdx λ i x=>(i,x)).filterMap (λ q=>if p q.2=true then some (g q.1 q.2) else none)=(lst l p).map λ k=>g k (fx l k):=by
 rw [zdh,yU]
 unfold lst
 induction uM l.length with
|nil=>rfl
|cons k r ih =>
  by_cases c:p (fx l k)=true
  ·rw [List.filterMap_cons_some (b:=g k (fx l k)) (by simp [c]),List.filter_cons_of_pos (p:=λ k=>p (fx l k)) c,uK,ih]
  ·rw [List.filterMap_cons_none (by simp [c]),zV (p:=λ k=>p (fx l k)) c,ih]
theorem zje {l:List Int} {p:Int->Bool} {k:Nat}:k∈lst l p ↔ k < l.length/\p (fx l k)=true:=by unfold lst;rw [yR,wC]
theorem ziq (l:List Int) (p:Int->Bool):(lst l p).Nodup:=List.Nodup.sublist List.filter_sublist List.nodup_range
theorem zpe (l:List Int) (p:Int->Bool):(lst l p).length<=l.length:=by
 have:=zN (λ k=>p (fx l k)) (uM l.length)
 rw [vG] at this;exact this
theorem zdz {A:List Ar} {k:Nat} (h:k < A.length):atI (A.map dAr) (k:Int)=some (dAr (aU A k,aV A k,zn1 A k)):=zr7 (by
 unfold aU aV zn1
 rw [uI,uC h];rfl)
noncomputable def zni:DSpT:=λ as Q=>∃ (n:Nat) (A:List Ar) (s x o:List Int),as=[.d (nI n),.d (zy6 A),.d (iL s),.d (iL x),.d (iL o)]/\n<=60/\A.length<=1000/\A.length=s.length/\A.length=x.length/\o.length=n/\(∀ a∈A,ArOk n a)/\within A.length (zn1 A) (fx x)/\∀ x',Ev n A s x o x'->Q (.li (x'.map .int)) (.fz .none)
section
variable {P:Program} {w:World} {K:Fg} {mg:Str->Option Value} {base:Heap} {jA:Addr}
theorem zne:FnScope ["count", "arcs", "slacks", "amounts", "over", "level", "ends", "begun", "moved", "told", "number", "amount"] ["count", "arcs", "slacks", "amounts", "over"] (zf0 zq3):=by walk_at "sc"
theorem zxl (M:Md K mg) (T:TopDef K "evened" zq3) (jE:mg "enumerate"=none) (jJ:mg "len"=none) (jK:mg "list"=none) (jQ:mg "zip"=none) (kW:DefN P w K mg base "greatest" 4 ["count", "arcs", "source", "sink", "flow"] (spD K zzb)):Def P w K mg base "evened" 5 ["count", "arcs", "slacks", "amounts", "over"] (spT K zni):=by
 refine zn4 M T zne (λ _ _ _ _ _ _ us hl=>by obtain ⟨_,_,_,_,_,rfl⟩:=ar5 hl;rfl) (zuc λ as Qd h=>by obtain ⟨_,_,_,_,_,rfl,_⟩:=h;rfl) (zm4 ?_)
 intro f cdv A outer s H E hr
 have nd:=zne.nd
 refine ⟨_,_,(zc0 (zy2 (i:=5) (sc:=zf0 zq3) (N:=["count", "arcs", "slacks", "amounts", "over", "level", "ends", "begun", "moved", "told", "number", "amount"]) (own:=["number", "slack"]) (ix:=[]) rfl rfl rfl (by walk_at "csc") nd rfl rfl (zl8 (K:=K) rfl rfl jE (za0 (pv 2) zg0)) (λ _ _ _ _=>⟨(zf2 (K:=K) (n:=2) rfl rfl (zp0 (pgn 0 (nds ["number", "slack"])) (zp0 (pgn 1 (nds ["number", "slack"])) zm2))),(zze (zz0 (zbq (K:=K) rfl (Room.units hr)) (pv 1) zl0 (za2 _))),(pv 0)⟩))
   (zc0 (zy2 (i:=6) (sc:=zf0 zq3) (N:=["count", "arcs", "slacks", "amounts", "over", "level", "ends", "begun", "moved", "told", "number", "amount"]) (own:=["number", "extra"]) (ix:=[0]) rfl rfl rfl (by walk_at "csc") nd rfl rfl (zl8 (K:=K) rfl rfl jE (za0 (pv 4) zg0)) (λ _ _ _ _=>⟨(zf2 (K:=K) (n:=2) rfl rfl (zp0 (pgn 0 (nds ["number", "extra", "count"])) (zp0 (pgn 1 (nds ["number", "extra", "count"])) zm2))),(zze (zz0 zuo (pv 1) zl0 (za2 _))),(zk5 (za0 (pv 2) (za0 (pv 0) (za0 (pv 1) zg0))))⟩))
   (zc0 (zo1 (zj3 (K:=K) rfl PySem.F.plainAttrs_list PySem.F.slot_list_extend PySem.F.type_list_extend (zk8 (K:=K) rfl) (pv 6) (za0 (zw3 (sc:=zf0 zq3) (N:=["count", "arcs", "slacks", "amounts", "over", "level", "ends", "begun", "moved", "told", "number", "amount"]) (own:=["number", "extra"]) (ix:=[0]) rfl rfl rfl (by walk_at "csc") (zl8 (K:=K) rfl rfl jE (za0 (pv 4) zg0)) (λ _ _ _ _=>⟨(zf2 (K:=K) (n:=2) rfl rfl (zp0 (pgn 0 (nds ["number", "extra", "count"])) (zp0 (pgn 1 (nds ["number", "extra", "count"])) zm2))),(zze (zz0 zmr (pv 1) zl0 (za2 _))),(zk5 (za0 (pv 0) (za0 (zp1 (zw1 (K:=K) rfl) (pv 2) zl0) (za0 (zi61 zds (pv 1)) zg0))))⟩)) zg0)))
   (zc0 (pset 7 nd (zp1 (zw1 (K:=K) rfl) (zw3 (sc:=zf0 zq3) (N:=["count", "arcs", "slacks", "amounts", "over", "level", "ends", "begun", "moved", "told", "number", "amount"]) (own:=["number"]) (ix:=[3]) rfl rfl rfl (by walk_at "csc") (pi_W (K:=K) rfl (pv 5)) (λ _ _ _ _=>⟨(pgn 0 (nds ["number", "amounts"])),ze3,(pix w K hr (pv 1) (pv 0))⟩)) (zp1 zn3 (zg1 (za0 zl0 zg0)) (zu0 (zu1 (K:=K) rfl) rfl jJ zj7 (za0 (pv 6) zg0)))))
   (zc0 (pset 8 nd (pix w K hr (zt0 kW.d (rmn hr) rfl (za0 (zp1 (zw1 (K:=K) rfl) (pv 0) zl0) (za0 (zp1 (zw1 (K:=K) rfl) (zw3 (sc:=zf0 zq3) (N:=["count", "arcs", "slacks", "amounts", "over", "level", "ends", "begun", "moved", "told", "number", "amount"]) (own:=["number"]) (ix:=[1]) rfl rfl rfl (by walk_at "csc") (pi_W (K:=K) rfl (pv 5)) (λ _ _ _ _=>⟨(pgn 0 (nds ["number", "arcs"])),ze3,(pix w K hr (pv 1) (pv 0))⟩)) (pv 6)) (za0 (pv 0) (za0 (zp1 (zw1 (K:=K) rfl) (pv 0) zl0) (za0 (pv 7) zg0)))))) zl0))
   (zc0 (pset 9 nd (zr2 (zx2 (K:=K) rfl) rfl jK zo5 (za0 (pv 3) zg0)))
   (zc0 (zz4 PassesOwn.never rfl (zhi (K:=K) rfl rfl jQ (za0 (pv 5) (za0 (pv 8) zg0))) (zf2 (K:=K) (n:=2) rfl rfl (zp0 (pgn 10 nd) (zp0 (pgn 11 nd) zm2))) (zj0 (zzi (pv 11) (ztl (pv 9) (pv 10) (zdj (Room.units hr))))))
   (zj0 (zl1 (pv 9)))))))))),(zk0 (zk1 (RfF.e (zn2 (zxb (zw0 (zb0 2) zv1)) (zd5 (zo0 (zc1 (i:=0) (n:=2) (by decide)) (zo0 (zc1 (i:=1) (n:=2) (by decide)) zh2))) (zy0 (zr8 q_eq (RfV.h (zb0 1)) (RfV.h rvi))) (zh0 0))) (rgn 5))
   (zk0 (zr1 (RfF.c (zn2 (zxb (zw0 (zb0 4) zv1)) (zd5 (zo0 (zc1 (i:=0) (n:=2) (by decide)) (zo0 (zc1 (i:=1) (n:=2) (by decide)) zh2))) (zy0 (zr0 r_gt (zb0 1) rvi)) (zac (ze0 (zh0 2) (ze0 (zh0 0) (ze0 (zh0 1) zq0)))))))
   (zk0 (zq1 (zud znp (zm0 6) (ze0 (RfF.e (zn2 (zxb (zw0 (zb0 4) zv1)) (zd5 (zo0 (zc1 (i:=0) (n:=2) (by decide)) (zo0 (zc1 (i:=1) (n:=2) (by decide)) zh2))) (zy0 (zr0 r_lt (zb0 1) rvi)) (zac (ze0 (zh0 0) (ze0 (zr0 zab (zb0 2) rvi) (ze0 (zyt (zh0 1)) zq0)))))) zq0)))
   (zk0 (zk1 (zr0 zab (RfE.v (RfF.e (zn2 (zhp (zb0 5)) (zc1 (i:=0) (n:=1) (by decide)) zq4 (zr0 r_ix (zb0 1) (zb0 0))))) (RfE.v (RfF.e (zqh (zw2 (ze0 zh1 zq0)) (zef zej (zw0 (zb0 6) zv1)))))) (rgn 7))
   (zk0 (zk1 (zr0 r_ix (RfE.v (zs5 (ze0 (zr0 zab (zb0 0) rvi) (ze0 (zr0 zab (RfE.v (RfF.e (zn2 (zhp (zb0 5)) (zc1 (i:=0) (n:=1) (by decide)) zq4 (zr0 r_ix (zb0 1) (zb0 0))))) (zb0 6)) (ze0 (zh0 0) (ze0 (zr0 zab (zb0 0) rvi) (ze0 (zh0 7) zq0))))))) rvi) (rgn 8))
   (zk0 (zr1 (RfF.c (zfr zwf (zw0 (zb0 3) zv1))))
   (zk0 (zb5 (zuu (ze0 (zh0 5) (ze0 (zh0 8) zq0))) (zd5 (zo0 (rgn 10) (zo0 (rgn 11) zh2))) (zvl (zh0 11) (zm0 9) (zh0 10)))
   (zv3 (i:=9))))))))),?_⟩
 rintro as Qd a ⟨n,A,s,x,o,rfl,hn,hA,hs,hx,ho,ok,wx,q⟩
 walk_at "ds"
 refine zd0 λ J hJ=>?_
 walk_at "dd"
 rw [zg4]
 refine zas (λ q:Nat×Int=>if decide (q.2=0)=true then some (uB (q.1:Int)) else none) (by rw [sizeLine_eq,wW];lia) (λ q hq=>?_) (hJ _ ?_)
 ·walk_at "cs"
  walk_at "dd"
  exact two (λ h=>by rw [if_pos h]) λ h=>by rw [if_neg h]
 clear hJ
 rw [idxF s (λ z=>decide (z=0)) λ k _=>uB (k:Int)]
 have hlv:=λ k=>zje (l:=s) (p:=λ z=>decide (z=0)) (k:=k)
 have nlv:=ziq s λ z=>decide (z=0)
 have llv:=zpe s λ z=>decide (z=0)
 generalize lst s (λ z=>decide (z=0))=lv at hlv nlv llv ⊢
 refine zd0 λ J hJ=>?_
 walk_at "dd"
 rw [zg4]
 refine zas (λ q:Nat×Int=>if decide (0 < q.2)=true then some (v7 [.int (n:Int),.int (q.1:Int),.int q.2]) else none) (by rw [sizeLine_eq,wW];lia) (λ q hq=>?_) (hJ _ ?_)
 ·walk_at "cs"
  walk_at "dd"
  exact two (λ h=>by rw [if_pos h]) λ h=>by rw [if_neg h]
 clear hJ
 rw [idxF o (λ z=>decide (0 < z)) λ k z=>v7 [.int (n:Int),.int (k:Int),.int z]]
 have hst:=λ k=>zje (l:=o) (p:=λ z=>decide (0 < z)) (k:=k)
 have nst:=ziq o λ z=>decide (0 < z)
 have lst':=zpe o λ z=>decide (0 < z)
 generalize lst o (λ z=>decide (0 < z))=st at hst nst lst' ⊢
 refine zd0 λ J hJ=>?_
 walk_at "dd"
 rw [zg4]
 refine zas (λ q:Nat×Int=>if decide (q.2 < 0)=true then some (v7 [.int (q.1:Int),.int (n+1:Nat),.int (-q.2)]) else none) (by rw [sizeLine_eq,wW];lia) (λ q hq=>?_) ?_
 ·walk_at "cs"
  walk_at "dd"
  exact two (λ h=>by rw [if_pos h];rfl) λ h=>by rw [if_neg h]
 rw [idxF o (λ z=>decide (z < 0)) λ k z=>v7 [.int (k:Int),.int (n+1:Nat),.int (-z)]]
 have hdn:=λ k=>zje (l:=o) (p:=λ z=>decide (z < 0)) (k:=k)
 have ndn:=ziq o λ z=>decide (z < 0)
 have ldn:=zpe o λ z=>decide (z < 0)
 generalize lst o (λ z=>decide (z < 0))=dn at hdn ndn ldn ⊢
 refine ⟨by rw [uA,uA];lia,hJ _ ?_⟩
 clear hJ
 have ee:st.map (λ k:Nat=>v7 [uB (n:Int),uB (k:Int),uB (fx o k)])++dn.map (λ k:Nat=>v7 [uB (k:Int),uB (n+1:Nat),uB (-fx o k)])=(st.map (λ v=>((n,v,fx o v):Ar))++dn.map λ v=>(v,n+1,-fx o v)).map dAr:=by rw [uJ,vD,vD];rfl
 rw [ee]
 refine zd0 λ J hJ=>?_
 walk_at "dd"
 refine zog (λ k:Nat=>.int (fx x k)) (by rw [sizeLine_eq];lia) (λ k hk=>?_) ?_
 ·walk_at "cs"
  walk_at "dd"
  exact ⟨_,zq8 (by have:=(hlv k).mp hk;lia),rfl⟩
 have el:((st.map (λ v=>((n,v,fx o v):Ar))++dn.map λ v=>(v,n+1,-fx o v)).map dAr).length=st.length+dn.length:=by rw [uA,vB,uA,uA]
 rw [el,uY,rep0,uA,uA,wL,show lv.map (λ k=>uB (fx x k))++(uN (st.length+dn.length) (0:Int)).map uB=(eF x lv (st.length+dn.length)).map uB by unfold eF;rw [uJ,vD];rfl]
 refine ⟨by lia,by lia,by lia,by lia,hJ _ ?_⟩
 clear hJ
 refine zd0 λ J hJ=>?_
 walk_at "dd"
 refine zog (λ k:Nat=>dAr (aU A k,aV A k,zn1 A k)) (by rw [sizeLine_eq];lia) (λ k hk=>?_) ?_
 ·walk_at "cs"
  walk_at "dd"
  exact ⟨_,zdz (by have:=(hlv k).mp hk;lia),rfl⟩
 rw [el,uA,show lv.map (λ k=>dAr (aU A k,aV A k,zn1 A k))++(st.map (λ v=>((n,v,fx o v):Ar))++dn.map λ v=>(v,n+1,-fx o v)).map dAr=(eA n A lv st dn o).map dAr by unfold eA;rw [uJ (l₁:=lv.map _),vD];rfl]
 have ok':∀ k,k < A.length->aU A k < n/\aV A k < n:=λ k hk=>by
  have e:A[k]?=some A[k]:=uC hk
  unfold aU aV
  rw [e]
  have:=ok _ (vR hk)
  exact ⟨this.1,this.2.1⟩
 have eN:(eA n A lv st dn o).length=lv.length+(st.length+dn.length):=by unfold eA;simp
 refine ⟨by lia,n+2,eA n A lv st dn o,n,n+1,_,eF x lv (st.length+dn.length),rfl,.inr rfl,by rw [eN];unfold eF;simp,by lia,by lia,zp91 (λ k hk=>by have:=(hlv k).mp hk;lia) (λ k hk=>by have:=(hst k).mp hk;lia) (λ k hk=>by have:=(hdn k).mp hk;lia) ok',zj91 (λ k hk=>by have:=(hlv k).mp hk;lia) (λ k hk=>of_decide_eq_true ((hst k).mp hk).2) (λ k hk=>of_decide_eq_true ((hdn k).mp hk).2) wx,by lia,by lia,by lia,λ L side best=>⟨_,rfl,hJ _ ?_⟩⟩
 clear hJ
 refine zd0 λ J hJ=>?_
 walk_at "dd"
 refine hJ _ ?_
 clear hJ
 refine zd0 λ J hJ=>?_
 refine zl2 λ B hB=>?_
 walk_at "dd"
 rw [zi8]
 generalize vF ((uM (eA n A lv st dn o).length).map λ k=>uB (lf L (2 * k+1)))=d8
 generalize vF ((eF x lv (st.length+dn.length)).map uB)=d7
 generalize _4.T.li ((st.map (λ v=>((n,v,fx o v):Ar))++dn.map λ v=>(v,n+1,-fx o v)).map dAr)=t6
 have lz:(lv.zip (uM (eA n A lv st dn o).length)).length=lv.length:=by rw [wA,vG,eN];lia
 have lg:∀ j,(h:j < lv.length)->lv.getD j 0=lv[j]:=λ j h=>by rw [uR,uC h];rfl
 refine zq2 (λ i U=>∃ (T:List Int) (s10 s11:Sl),U=[Sl.sh (.int (n:Int)),.sh (zy6 A),.sh (iL s),.sh (iL x),.sh (iL o),.sh (.list (lv.map λ k:Nat=>uB (k:Int))),.ow t6,.sh d7,.sh d8,.ow (.li (T.map .int)),s10,s11]/\T.length=A.length/\(∀ j,j < lv.length->fx T (lv.getD j 0)=if j < i then lf L (2 * j+1) else fx x (lv.getD j 0))/\∀ k,k ∉ lv->fx T k=fx x k) ⟨x,_,_,rfl,hx.symm,λ j hj=>by rw [if_neg (by lia)],λ k _=>rfl⟩ (λ i p U hi hp=>?_) λ U hp=>?_
 ·obtain ⟨T,s10,s11,rfl,hT,t1,t2⟩:=hp
  obtain ⟨i1,i2⟩:=uZ.mp hi
  rw [lz] at i1
  rw [yM,wE] at i2
  subst i2
  have hk:=(hlv _).mp (vR i1)
  walk_at "dd"
  refine hB _ _ ?_
  clear hB
  walk_at "dd"
  refine ⟨lv[i],zna (by rw [uA];lia),?_⟩
  rw [zg8]
  refine ⟨T.set lv[i] (lf L (2 * i+1)),_,_,rfl,by rw [uU];exact hT,λ j hj=>?_,λ k hk'=>?_⟩
  ·rw [zma (by lia)]
   by_cases e:j=i
   ·subst e;rw [lg j hj,if_pos rfl,if_pos (by lia)]
   ·have ne:¬ lv.getD j 0=lv[i]:=λ z=>by
     rw [lg j hj] at z
     exact e ((xW nlv).mp z)
    rw [if_neg ne,t1 j hj]
    by_cases c:j < i
    ·rw [if_pos c,if_pos (by lia)]
    ·rw [if_neg c,if_neg (by lia)]
  ·rw [zma (by lia),if_neg (show ¬k=lv[i] from λ z=>hk' (by rw [z];exact vR i1))];exact t2 k hk'
 ·obtain ⟨T,s10,s11,rfl,hT,t1,t2⟩:=hp
  rw [lz] at t1
  refine hJ _ ?_
  clear hJ hB
  walk_at "dd"
  refine q T (zy81 (λ k=>?_) nlv (λ v=>?_) nst (λ v=>?_) ndn ok' wx best hT (λ j hj=>(t1 j hj).trans (if_pos hj)) t2)
  ·rw [hlv,<- hs];simp
  ·rw [hst,ho];simp
  ·rw [hdn,ho];simp
end
noncomputable def Fit (A:List Ar) (s x:Nat->Int):Prop:=∀ k,k < A.length->(x k < zn1 A k->0<=s k)/\(0 < x k->s k<=0)
theorem zxv:∀ {kv:Kv} {v:Nat} {b:Int},(kv.map (·.1)).Nodup->(v,b)∈kv->lk kv v=some b
|q :: r,v,b,nd,h=>by
  obtain ⟨n1,n2⟩:=uQ.mp nd
  unfold lk
  rcases uD.mp h with z|z
  ·subst z;rw [yO (by simp)];rfl
  ·have ne:¬ q.1=v:=λ y=>n1 (by show q.1∈_;rw [y];exact uL.mpr ⟨_,z,rfl⟩)
   rw [xC (by simp [ne])]
   exact zxv n2 z
theorem zwh {kv:Kv} {v:Nat} {b:Int} (h:lk kv v=some b):(v,b)∈kv:=by
 unfold lk at h
 obtain ⟨q,q1,q2⟩:=u5.mp h
 have e:q.1=v:=of_decide_eq_true (p:=q.1=v) (by simpa using List.find?_some q1)
 have m:=zT q1
 obtain ⟨q1,q2'⟩:=q
 simp only at e q2
 subst e q2;exact m
noncomputable def dsn (kv:Kv) (M:Int) (v:Nat):Int:=(lk kv v).getD M
section
variable {n:Nat} {A:List Ar} {s x:List Int} {W:List (List Wy)} {S:List Nat} {kv:Kv} {M:Int}
theorem zyi (dj:DJ n W (wAt W) S kv []) {u:Nat} {a:Int} {p:Wy} (hu:(u,a)∈kv) (hp:p∈wAt W u):∃ b,lk kv p.1=some b/\b<=a+p.2:=by
 rcases dj.cl _ hu p hp with ⟨b,b1,b2⟩|⟨_,_,z,_⟩
 ·exact ⟨b,zxv dj.nd b1,b2⟩
 ·simp at z
theorem zj21 (dj:DJ n W (wAt W) S kv []) (hM:0<=M) (v:Nat):0<=dsn kv M v:=by
 unfold dsn
 cases e:lk kv v with
|none=>exact hM
|some b=>exact (dj.nn _ (zwh e)).2
theorem zcp (hM:∀ q∈kv,q.2<=M) (v:Nat):dsn kv M v<=M:=by
 unfold dsn
 cases e:lk kv v with
|none=>exact vJ _
|some b=>exact hM _ (zwh e)
theorem znk (hw:Wok n A.length A s x W) (dj:DJ n W (wAt W) S kv []) (hM:∀ q∈kv,q.2<=M) (ft:Fit A (fx s) (fx x)):Fit A (λ k=>fx s k+dsn kv M (aU A k) - dsn kv M (aV A k)) (fx x):=λ k hk=>by
 obtain ⟨f1,f2⟩:=ft k hk
 have lU:=zcp hM (aU A k)
 have lV:=zcp hM (aV A k)
 refine ⟨λ h=>?_,λ h=>?_⟩
 ·have f1:=f1 h
  show 0<=fx s k+dsn kv M (aU A k) - dsn kv M (aV A k)
  cases e:lk kv (aU A k) with
 |none =>
   have:dsn kv M (aU A k)=M:=by unfold dsn;rw [e];rfl
   lia
 |some a =>
   obtain ⟨b,b1,b2⟩:=zyi dj (zwh e) ((hw.iff _ (aV A k,fx s k)).mpr ⟨k,hk,.inl ⟨rfl,rfl,h⟩⟩)
   have e1:dsn kv M (aU A k)=a:=by unfold dsn;rw [e];rfl
   have e2:dsn kv M (aV A k)=b:=by unfold dsn;rw [b1];rfl
   simp only at b2
   lia
 ·have f2:=f2 h
  show fx s k+dsn kv M (aU A k) - dsn kv M (aV A k)<=0
  cases e:lk kv (aV A k) with
 |none =>
   have:dsn kv M (aV A k)=M:=by unfold dsn;rw [e];rfl
   lia
 |some a =>
   obtain ⟨b,b1,b2⟩:=zyi dj (zwh e) ((hw.iff _ (aU A k,-fx s k)).mpr ⟨k,hk,.inr ⟨rfl,rfl,h⟩⟩)
   have e1:dsn kv M (aV A k)=a:=by unfold dsn;rw [e];rfl
   have e2:dsn kv M (aU A k)=b:=by unfold dsn;rw [b1];rfl
   simp only at b2
   lia
theorem zja1 {g h:Nat->Int} {m:Nat} (h1:∀ k,k < m->g k<=h k) (h2:∃ k,k < m/\g k < h k):sm m g < sm m h:=by
 have le:=zdg h1
 obtain ⟨k,k1,k2⟩:=h2
 rcases zB le with z|z
 ·exact z
 ·have:=zz5 h1 z k k1;lia
theorem znt {m n:Nat} {eu ev:Nat->Nat} (x:Nat->Int) (ok:∀ k,k < m->eu k < n/\ev k < n):((uM n).map (bl m eu ev x)).sum=0:=by
 rw [<- zw5 _ _ _ _ List.nodup_range]
 unfold flux
 rw [<- zc3 m]
 refine zv0 λ k hk=>?_
 obtain ⟨a,b⟩:=ok k hk
 rw [if_pos (wC.mpr b),if_pos (wC.mpr a)];lia
theorem zox (W:List (List Wy)) (ks:List Nat):∀ n,n<=W.length->lft W ks n<=((W.take n).map vA).sum
|0,_=>by simp [lft]
|n+1,h=>by
  have ih:=zox W ks n (by lia)
  have e:W[n]?=some W[n]:=uC (by lia)
  have w:wAt W n=W[n]:=by unfold wAt;rw [e];rfl
  rw [wO,e,uJ,wU]
  unfold lft
  rw [w]
  have:(yL vA (some W[n]).toList).sum=W[n].length:=by simp
  rw [this]
  split <;> lia
theorem zyo {f g:Nat->Int}:∀ {l:List Nat},(∀ t∈l,f t<=g t)->(∃ t∈l,f t < g t)->(l.map f).sum < (l.map g).sum
|[],_,⟨t,h,_⟩=>by simp at h
|a :: r,h1,h2=>by
  have ha:=h1 a (by simp)
  have hr:∀ t∈r,f t<=g t:=λ t ht=>h1 t (by simp [ht])
  have le:∀ l:List Nat,(∀ t∈l,f t<=g t)->(l.map f).sum<=(l.map g).sum:=λ l=>by
   induction l with
  |nil=>intro _;simp
  |cons b l ih=>intro h;have:=ih λ t ht=>h t (by simp [ht]);have:=h b (by simp);simp only [uK,wV];lia
  have hl:=le r hr
  simp only [uK,wV]
  obtain ⟨t,t1,t2⟩:=h2
  rcases uD.mp t1 with z|z
  ·subst z;lia
  ·have:=zyo hr ⟨t,z,t2⟩;lia
theorem zkl {x0 o:List Int} (hw:Wok n A.length A s x W) (dj:DJ n W (wAt W) S kv []) (wx:within A.length (zn1 A) (fx x)) (w0:within A.length (zn1 A) (fx x0)) (ho:∀ v,v < n->fx o v=bl A.length (aU A) (aV A) (fx x) v - bl A.length (aU A) (aV A) (fx x0) v) (hS:∃ t∈S,0 < fx o t):∃ t,t∈kv.map (·.1)/\fx o t < 0:=by
 refine Classical.byContradiction λ no=>?_
 have way:∀ {u:Nat} {p:Wy},u∈kv.map (·.1)->p∈wAt W u->p.1∈kv.map (·.1):=λ {u p} hu hp=>by
  obtain ⟨⟨u',a⟩,a1,a2⟩:=uL.mp hu
  simp only at a2
  subst a2
  obtain ⟨b,b1,_⟩:=zyi dj a1 hp
  exact uL.mpr ⟨_,zwh b1,rfl⟩
 have tg:tight A.length (aU A) (aV A) (zn1 A) (fx x) (kv.map (·.1)):=λ k hk=>by
  have:=wx k hk
  refine ⟨λ h1 h2=>Classical.byContradiction λ z=>h2 ?_,λ h1 h2=>Classical.byContradiction λ z=>h2 ?_⟩
  ·exact way h1 ((hw.iff _ (aV A k,fx s k)).mpr ⟨k,hk,.inl ⟨rfl,rfl,by lia⟩⟩)
  ·exact way h1 ((hw.iff _ (aU A k,-fx s k)).mpr ⟨k,hk,.inr ⟨rfl,rfl,by lia⟩⟩)
 have le:=zgs tg w0
 rw [zw5 _ _ _ _ dj.nd,zw5 _ _ _ _ dj.nd] at le
 have bd:∀ t∈kv.map (·.1),t < n:=λ t ht=>by obtain ⟨q,q1,rfl⟩:=uL.mp ht;exact (dj.nn q q1).1
 have:=zyo (f:=bl A.length (aU A) (aV A) (fx x0)) (g:=bl A.length (aU A) (aV A) (fx x)) (l:=kv.map (·.1)) (λ t ht=>by
  have h1:=ho t (bd t ht)
  have h2:¬ fx o t < 0:=λ z=>no ⟨t,ht,z⟩
  lia) (by
  obtain ⟨t,t1,t2⟩:=hS
  have tm:t∈kv.map (·.1):=by
   rcases dj.st t t1 with z|⟨_,z,_⟩
   ·exact uL.mpr ⟨_,z,rfl⟩
   ·simp at z
  have h1:=ho t (bd t tm)
  exact ⟨t,tm,by lia⟩)
 lia
theorem zzq {s':Nat->Int} {side:List Nat} (hw:Wok n A.length A s x W) (dj:DJ n W (wAt W) S kv []) (hs':∀ k,k < A.length->s' k=fx s k+dsn kv M (aU A k) - dsn kv M (aV A k)) (h0:∀ t∈S,t∈side)
  (cl:∀ k,k < A.length->s' k=0->(aU A k∈side->fx x k < zn1 A k->aV A k∈side)/\(aV A k∈side->0 < fx x k->aU A k∈side)):∀ (j:Nat) v b,kv[j]?=some (v,b)->v∈side:=by
 intro j
 induction j using Nat.strongRecOn with
|_ j ih =>
  intro v b e
  rcases dj.pr j v b e with ⟨z,_⟩|⟨i,u,a,t,i1,i2,i3,i4⟩
  ·exact h0 v z
  ·have hu:=ih i i1 u a i2
   have du:dsn kv M u=a:=by unfold dsn;rw [zxv dj.nd (vM i2)];rfl
   have dv:dsn kv M v=b:=by unfold dsn;rw [zxv dj.nd (vM e)];rfl
   obtain ⟨k,hk,st⟩:=(hw.iff u (v,t)).mp i3
   have hs:=hs' k hk
   rcases st with ⟨z1,z2,z3⟩|⟨z1,z2,z3⟩
   ·injection z2 with z2 z4
    subst z1 z2 z4
    exact (cl k hk (by lia)).1 hu z3
   ·injection z2 with z2 z4
    subst z1 z2 z4
    exact (cl k hk (by lia)).2 hu z3
end
theorem zb11 {a b:Nat} (h:a<=b):(2:Int) ^ a<=2 ^ b:=by
 have:=Nat.pow_le_pow_right (n:=2) (by lia) h
 exact_mod_cast this
theorem zbd (c:Int):∀ m:Nat,sm m (λ _=>c)=m * c
|0=>by simp [sm]
|m+1=>by rw [zi1,zbd c m,Int.natCast_add,yK];simp
theorem zoi {m:Nat} {eu ev:Nat->Nat} {cap x:Nat->Int} (w:within m cap x) (v:Nat):bl m eu ev x v<=sm m cap/\-sm m cap<=bl m eu ev x v:=by
 unfold bl
 rw [<- zav]
 refine ⟨zdg λ k hk=>?_,zdg λ k hk=>?_⟩
 ·have:=w k hk
  unfold trm;split <;> split <;> lia
 ·have:=w k hk
  show -cap k<=_
  unfold trm;split <;> split <;> lia
theorem zcv {n:Nat} {A:List Ar} {s x p h:List Int} {W:List (List Wy)} {S:List Nat} {kv:Kv} {H Pb:Int} (hw:Wok n A.length A s x W) (dj:DJ n W (wAt W) S kv []) (hs:∀ k,k < A.length->fx s k=fx h (aU A k)+fx p k - fx h (aV A k)) (hP:∀ k,k < A.length->-Pb<=fx p k/\fx p k<=Pb) (P0:0<=Pb) (hS:∀ v∈S,fx h v<=H):∀ (j:Nat) v b,kv[j]?=some (v,b)->fx h v+b<=H+j * Pb:=by
 intro j
 induction j using Nat.strongRecOn with
|_ j ih =>
  intro v b e
  rcases dj.pr j v b e with ⟨z1,z⟩|⟨i,u,a,t,i1,i2,i3,i4⟩
  ·have:=hS v z1
   have:0<=(j:Int) * Pb:=yJ (by lia) P0
   lia
  ·have h1:=ih i i1 u a i2
   have h3:((i:Int)+1) * Pb<=j * Pb:=wG (by lia) P0
   rw [yK,Int.one_mul] at h3
   obtain ⟨k,hk,st⟩:=(hw.iff u (v,t)).mp i3
   have h4:=hs k hk
   have h5:=hP k hk
   rcases st with ⟨z1,z2,z3⟩|⟨z1,z2,z3⟩
   ·injection z2 with z2 z4
    subst z1 z2 z4
    lia
   ·injection z2 with z2 z4
    subst z1 z2 z4
    lia
noncomputable def blA (A:List Ar) (x:List Int) (v:Nat):Int:=bl A.length (aU A) (aV A) (fx x) v
theorem ztr (l:List Int):zol (.li (l.map uB))=true:=by
 unfold zol
 rw [List.all_eq_true]
 intro d hd
 obtain ⟨z,_,rfl⟩:=uL.mp hd
 rfl
noncomputable def zrc:DSpV:=λ ds tr Q=>∃ (n:Nat) (A:List Ar) (p x0 h0:List Int) (T:Nat) (H Pb:Int),ds=[nI n,zy6 A,iL p,iL x0]/\tr=.li (h0.map .int)/\n<=60/\A.length<=1000/\A.length=p.length/\A.length=x0.length/\h0.length=n/\(∀ a∈A,ArOk n a)/\within A.length (zn1 A) (fx x0)/\(∀ k,k < A.length->-Pb<=fx p k/\fx p k<=Pb)/\0<=Pb/\0<=H/\(∀ v,v < n->0<=fx h0 v/\fx h0 v<=H)/\120 * sm A.length (zn1 A)<=(T:Int) /\
 ∀ x h,(∀ v,v < n->0<=fx h v/\fx h v<=((T:Int)+1) * (H+60 * Pb))->x.length=A.length->h.length=n->within A.length (zn1 A) (fx x)->Fit A (slk A p h) (fx x)->(∀ v,v < n->blA A x v=blA A x0 v)->Q (.tp [.li (x.map .int),.li (h.map .int)])
section
variable {P:Program} {w:World} {K:Fg} {mg:Str->Option Value} {base:Heap} {jA:Addr}
theorem zt9:FnScope ["count", "arcs", "prices", "amounts", "heights", "wanted", "slacks", "told", "over", "starts"] ["count", "arcs", "prices", "amounts", "heights"] (zf0 zl5):=by walk_at "sc"
theorem zqf (M:Md K mg) (T:TopDef K "repaired" zl5) (qS:mg "any"=none) (jE:mg "enumerate"=none) (jV:Def P w K mg base "balances" 1 ["count", "arcs", "amounts"] (spD K zh8)) (qF:Def P w K mg base "beyond" 2 ["count", "arcs", "amounts", "wanted"] (spT K zyh)) (kH:Def P w K mg base "slacks_of" 1 ["arcs", "prices", "heights"] (spT K ze9)) (qK:Def P w K mg base "fitted" 1 ["arcs", "slacks", "amounts"] (spT K zlg)) (kX:Def P w K mg base "ways_out" 1 ["count", "arcs", "slacks", "amounts"] (spD K zpb)) (kQ:Def P w K mg base "distances" 1 ["ways", "starts"] (spT K zc9)) (qL:Def P w K mg base "raised" 1 ["heights", "far"] (spT K zzg)) (qM:Def P w K mg base "evened" 5 ["count", "arcs", "slacks", "amounts", "over"] (spT K zni)):Def P w K mg base "repaired" 6 ["count", "arcs", "prices", "amounts", "heights"] (spV K zrc):=by
 refine zn4 M T zt9 (λ _ _ _ _ _ _ us hl=>by obtain ⟨_,_,_,_,_,rfl⟩:=ar5 hl;rfl) (zw81 λ ds t Qd h=>by obtain ⟨_,_,_,_,_,_,_,_,rfl,_⟩:=h;rfl) (zp01 ?_)
 intro f cdv A outer s H E hr
 have nd:=zt9.nd
 refine ⟨_,_,(zc0 (pset 5 nd (zt0 jV (rmn hr) rfl (za0 (pv 0) (za0 (pv 1) (za0 (pv 3) zg0)))))
   (zc0 (pset 6 nd (zt0 kH (rmn hr) rfl (za0 (pv 1) (za0 (pv 2) (za0 (pv 4) zg0)))))
   (zc0 (pset 7 nd (zt0 qK (rmn hr) rfl (za0 (pv 1) (za0 (pv 6) (za0 (pv 3) zg0)))))
   (zc0 (pset 8 nd (zt0 qF (rmn hr) rfl (za0 (pv 0) (za0 (pv 1) (za0 (pv 7) (za0 (pv 5) zg0))))))
   (zc0 (ze5 PassesOwn.never (zp4 (K:=K) rfl (zu0 (ztn (K:=K) rfl rfl) rfl qS zh21 (za0 (pv 8) zg0)) (λ _=>rfl)) (zc0 (zy2 (i:=9) (sc:=zf0 zl5) (N:=["count", "arcs", "prices", "amounts", "heights", "wanted", "slacks", "told", "over", "starts"]) (own:=["number", "extra"]) (ix:=[]) rfl rfl rfl (by walk_at "csc") nd rfl rfl (zl8 (K:=K) rfl rfl jE (za0 (pv 8) zg0)) (λ _ _ _ _=>⟨(zf2 (K:=K) (n:=2) rfl rfl (zp0 (pgn 0 (nds ["number", "extra"])) (zp0 (pgn 1 (nds ["number", "extra"])) zm2))),(zze (zz0 zuo (pv 1) zl0 (za2 _))),(pv 0)⟩))
   (zc0 (pset 4 nd (zt0 qL (rmn hr) rfl (za0 (pv 4) (za0 (zt0 kQ (rmn hr) rfl (za0 (zt0 kX (rmn hr) rfl (za0 (pv 0) (za0 (pv 1) (za0 (pv 6) (za0 (pv 7) zg0))))) (za0 (pv 9) zg0))) zg0))))
   (zc0 (pset 6 nd (zt0 kH (rmn hr) rfl (za0 (pv 1) (za0 (pv 2) (za0 (pv 4) zg0)))))
   (zc0 (pset 7 nd (zt0 qM (rmn hr) rfl (za0 (pv 0) (za0 (pv 1) (za0 (pv 6) (za0 (pv 7) (za0 (pv 8) zg0)))))))
   (zj0 (pset 8 nd (zt0 qF (rmn hr) rfl (za0 (pv 0) (za0 (pv 1) (za0 (pv 7) (za0 (pv 5) zg0))))))))))))
   (zj0 (zl1 (zk5 (za0 (pv 7) (za0 (pv 4) zg0)))))))))),(zk0 (zk1 (zs5 (ze0 (zh0 0) (ze0 (zh0 1) (ze0 (zh0 3) zq0)))) (rgn 5))
   (zk0 (zk1 (RfN.z (zf6 (zb1 (RfE.l (zh0 1)) (zb1 (RfE.l (zh0 2)) (zb1 (RfP.l (zm0 4)) zqa))))) (rgn 6))
   (zk0 (zr1 (ztg (at_d (zh0 1) (at_d (zh0 6) (at_d (zh0 3) zn5)))))
   (zk0 (zk1 (RfN.z (zf6 (zb1 (RfE.l (zh0 0)) (zb1 (RfE.l (zh0 1)) (zb1 (RfP.l (zm0 7)) (zb1 (RfE.l (zh0 5)) zqa)))))) (rgn 8))
   (zk0 (zy4 (zya (RfE.v (zef zc91 (zw0 (zb0 8) zv1)))) (zk0 (zw6 4 [] (zw6 7 [] (zk1 (RfF.e (zn2 (zxb (zw0 (zb0 8) zv1)) (zd5 (zo0 (zc1 (i:=0) (n:=2) (by decide)) (zo0 (zc1 (i:=1) (n:=2) (by decide)) zh2))) (zy0 (zr0 r_gt (zb0 1) rvi)) (zh0 0))) (rgn 9))))
   (zk0 (zr1 (RfN.c (zel (zh0 4) (znx (at_d (zs5 (ze0 (zh0 0) (ze0 (zh0 1) (ze0 (zh0 6) (ze0 (zh0 7) zq0))))) (at_d (zh0 9) zn5))))))
   (zk0 (zk1 (RfN.z (zf6 (zb1 (RfE.l (zh0 1)) (zb1 (RfE.l (zh0 2)) (zb1 (RfP.l (zm0 4)) zqa))))) (rgn 6))
   (zk0 (zr1 (ztg (at_d (zh0 0) (at_d (zh0 1) (at_d (zh0 6) (at_d (zh0 7) (at_d (zh0 8) zn5)))))))
   (zk1 (RfN.z (zf6 (zb1 (RfE.l (zh0 0)) (zb1 (RfE.l (zh0 1)) (zb1 (RfP.l (zm0 7)) (zb1 (RfE.l (zh0 5)) zqa)))))) (rgn 8)))))))
   (zqn (i:=7) (j:=4))))))),?_⟩
 rintro ds tr Qd ⟨n,A,p,x0,h0,T,H,Pb,rfl,rfl,hn,hA,hp,hx0,hh0,ok,w0,hP,P0,H0,hb0,hT,q⟩
 walk_at "ds"
 refine zd0 λ J hJ=>?_
 walk_at "dd"
 refine ⟨n,A,x0,rfl,by lia,hx0,hA,ok,hJ _ ?_⟩
 clear hJ
 refine zd0 λ J hJ=>?_
 walk_at "dd"
 refine ⟨n,A,p,h0,rfl,hp,hA,ok,hh0,ztr _,?_⟩
 walk_at "dd"
 refine hJ _ ?_
 clear hJ
 refine zd0 λ J hJ=>?_
 walk_at "dd"
 refine ⟨A,_,x0,rfl,(zd2 ..).symm,hx0,hA,hJ _ ?_⟩
 clear hJ
 refine zd0 λ J hJ=>?_
 walk_at "dd"
 refine ⟨n,A,_,_,rfl,by lia,(zd2 ..).symm,hA,ok,zd2 ..,ztr _,?_⟩
 walk_at "dd"
 refine hJ _ ?_
 clear hJ
 refine zd0 λ J hJ=>?_
 refine zyl λ C hC=>?_
 have wf:within A.length (zn1 A) (fx (tab A.length (fitX A (tab A.length (slk A p h0)) x0))):=λ k hk=>by
  rw [ze6 hk]
  have:=w0 k hk
  unfold fitX
  split
  ·exact this
  ·split <;> lia
 refine ⟨λ m U=>∃ (x h:List Int) (s9:Sl),U=[Sl.sh (.int (n:Int)),.sh (zy6 A),.sh (iL p),.sh (iL x0),.ow (.li (h.map .int)),.sh (iL (tab n (bl A.length (aU A) (aV A) (fx x0)))),.sh (iL (tab A.length (slk A p h))),.ow (.li (x.map .int)),.sh (iL (tab n λ v=>bl A.length (aU A) (aV A) (fx x) v - fx (tab n (bl A.length (aU A) (aV A) (fx x0))) v)),s9]/\x.length=A.length/\h.length=n/\within A.length (zn1 A) (fx x)/\Fit A (slk A p h) (fx x)/\sm n (λ v=>if blA A x0 v < blA A x v then blA A x v - blA A x0 v else 0)<=(m:Int)/\∃ j:Nat,j+m<=T/\∀ v,v < n->0<=fx h v/\fx h v<=((j:Int)+1) * (H+60 * Pb)/\(blA A x0 v < blA A x v->fx h v<=H),⟨(sm n (λ v=>if blA A x0 v < blA A (tab A.length (fitX A (tab A.length (slk A p h0)) x0)) v then blA A (tab A.length (fitX A (tab A.length (slk A p h0)) x0)) v - blA A x0 v else 0)).toNat,_,h0,_,rfl,zd2 ..,hh0,wf,λ k hk=>?_,by lia,0,?_,λ v hv=>⟨(hb0 v hv).1,by have:=(hb0 v hv).2;show _<=(0+1) * (H+60 * Pb);lia,λ _=>(hb0 v hv).2⟩⟩,λ m U hw=>?_⟩
 ·rw [ze6 hk]
  have:=w0 k hk
  unfold fitX
  rw [ze6 hk]
  split
  ·lia
  ·split <;> lia
 ·have s1:=znz (λ k hk=>by have:=w0 k hk;lia:∀ k,k < A.length->0<=zn1 A k)
  have s2:sm n (λ v=>if blA A x0 v < blA A (tab A.length (fitX A (tab A.length (slk A p h0)) x0)) v then blA A (tab A.length (fitX A (tab A.length (slk A p h0)) x0)) v - blA A x0 v else 0)<=sm n λ _=>2 * sm A.length (zn1 A):=zdg λ v hv=>by
   have a1:=(zoi (eu:=aU A) (ev:=aV A) wf v).1
   have a2:=(zoi (eu:=aU A) (ev:=aV A) w0 v).2
   unfold blA
   split <;> lia
  rw [zbd] at s2
  have s3:(n:Int) * (2 * sm A.length (zn1 A))<=60 * (2 * sm A.length (zn1 A)):=wG (by lia) (by lia)
  lia
 obtain ⟨x,h,s9,rfl,hx,hh,wx,ft,hm,j,hj,hb⟩:=hw
 have hov:∀ v,v < n->fx (tab n λ v=>bl A.length (aU A) (aV A) (fx x) v - fx (tab n (bl A.length (aU A) (aV A) (fx x0))) v) v=blA A x v - blA A x0 v:=λ v hv=>by rw [ze6 hv,ze6 hv];rfl
 have lo:(tab n λ v=>bl A.length (aU A) (aV A) (fx x) v - fx (tab n (bl A.length (aU A) (aV A) (fx x0))) v).length=n:=zd2 ..
 generalize (tab n λ v=>bl A.length (aU A) (aV A) (fx x) v - fx (tab n (bl A.length (aU A) (aV A) (fx x0))) v)=o at hov lo ⊢
 walk_at "dd"
 refine ⟨o,ints_map o,two (λ c=>hC _ _ ?_) λ c=>hJ _ ?_⟩
 ·clear hC hJ
  refine zd0 λ J hJ=>?_
  walk_at "dd"
  refine ⟨_,_,rfl,rfl,_,_,rfl,rfl,?_⟩
  rw [zg4]
  refine zas (λ q:Nat×Int=>if decide (0 < q.2)=true then some (uB (q.1:Int)) else none) (by rw [sizeLine_eq,wW];lia) (λ q hq=>?_) (hJ _ ?_)
  ·walk_at "cs"
   walk_at "dd"
   exact two (λ h=>by rw [if_pos h]) λ h=>by rw [if_neg h]
  clear hJ
  rw [idxF o (λ z=>decide (0 < z)) λ k _=>uB (k:Int)]
  have hst:=λ k=>zje (l:=o) (p:=λ z=>decide (0 < z)) (k:=k)
  have lst':=zpe o λ z=>decide (0 < z)
  generalize lst o (λ z=>decide (0 < z))=st at hst lst' ⊢
  have ok':∀ k,k < A.length->aU A k < n/\aV A k < n:=λ k hk=>by
   have e:A[k]?=some A[k]:=uC hk
   unfold aU aV
   rw [e]
   have:=ok _ (vR hk)
   exact ⟨this.1,this.2.1⟩
  have hpos:∃ t∈st,0 < fx o t:=by
   obtain ⟨y,y1,y2⟩:=zD.mp c
   obtain ⟨i,i1,i2⟩:=vV.mp y1
   have ei:fx o i=y:=by unfold fx;rw [uC i1,i2];rfl
   have y3:y≠0:=by simpa using y2
   refine Classical.byContradiction λ no=>?_
   have np:∀ v,v < n->¬ 0 < fx o v:=λ v hv z=>no ⟨v,(hst v).mpr ⟨by lia,decide_eq_true z⟩,z⟩
   have:=zyo (f:=blA A x) (g:=blA A x0) (l:=uM n) (λ t ht=>by
    have ht:=wC.mp ht
    have:=np t ht;have:=hov t ht;lia) ⟨i,wC.mpr (by lia),by have:=np i (by lia);have:=hov i (by lia);lia⟩
   have z1:((uM n).map (blA A x)).sum=0:=znt (fx x) ok'
   have z2:((uM n).map (blA A x0)).sum=0:=znt (fx x0) ok'
   lia
  have ft':Fit A (fx (tab A.length (slk A p h))) (fx x):=λ k hk=>by rw [ze6 hk];exact ft k hk
  refine zd0 λ J hJ=>?_
  walk_at "dd"
  refine ⟨n,A,_,x,rfl,by lia,(zd2 ..).symm,hx.symm,hA,ok,λ W hw=>⟨W,st,rfl,by rw [hw.len];lia,λ s hs=>by rw [hw.len];have:=(hst s).mp hs;lia,λ u y hy=>?_,?_,λ kv dj=>⟨h,kv,rfl,by lia,λ z=>?_,λ M hM hmax=>hJ _ ?_⟩⟩⟩
  ·obtain ⟨k,hk,z⟩:=(hw.iff u y).mp hy
   rw [hw.len]
   rcases z with ⟨_,rfl,z3⟩|⟨_,rfl,z3⟩
   ·exact ⟨(ok' k hk).2,(ft' k hk).1 z3⟩
   ·exact ⟨(ok' k hk).1,by have:=(ft' k hk).2 z3;show 0<=-_;lia⟩
  ·have:=zox W [] W.length (uG _)
   rw [wP] at this
   have:=hw.tot
   lia
  ·obtain ⟨t,t1,_⟩:=hpos
   rcases dj.st t t1 with y|⟨_,y,_⟩
   ·rw [z] at y;simp at y
   ·simp at y
  rw [hw.len] at dj
  clear hJ
  refine zd0 λ J hJ=>?_
  walk_at "dd"
  refine ⟨n,A,p,_,rfl,hp,hA,ok,by rw [zd2];exact hh,ztr _,?_⟩
  walk_at "dd"
  refine hJ _ ?_
  clear hJ
  have hs':∀ k,k < A.length->slk A p (tab h.length λ v=>fx h v+(lk kv v).getD M) k=fx (tab A.length (slk A p h)) k+dsn kv M (aU A k) - dsn kv M (aV A k):=λ k hk=>by
   have:=ok' k hk
   unfold slk
   rw [ze6 (by lia:aU A k < h.length),ze6 (by lia:aV A k < h.length),ze6 hk]
   show _=fx h (aU A k)+fx p k - fx h (aV A k)+(lk kv (aU A k)).getD M - (lk kv (aV A k)).getD M
   lia
  have hh':∀ v,v < n->fx (tab h.length λ v=>fx h v+(lk kv v).getD M) v=fx h v+dsn kv M v:=λ v hv=>ze6 (by lia)
  obtain ⟨⟨t0,M'⟩,M1,M2⟩:=uL.mp hM
  simp only at M2
  subst M2
  have M0:0<=M':=(dj.nn _ M1).2
  have hl:=zs0 n (kv.map (·.1)) dj.nd λ x hx=>by obtain ⟨y,y1,rfl⟩:=uL.mp hx;exact (dj.nn y y1).1
  rw [uA] at hl
  have hi:∀ v b,(v,b)∈kv->fx h v+b<=H+60 * Pb:=λ v b hvb=>by
   obtain ⟨i,i1,i2⟩:=vV.mp hvb
   have d1:=zcv hw dj (λ k hk=>ze6 hk) hP P0 (λ v hv=>by
    have v1:=(hst v).mp hv
    have v2:=of_decide_eq_true v1.2
    have v3:=hov v (by lia)
    exact (hb v (by lia)).2.2 (by lia)) i v b (by rw [uC i1,i2])
   have d2:(i:Int) * Pb<=60 * Pb:=wG (by lia) P0
   lia
  have MB:M'<=H+60 * Pb:=by
   have:=hi t0 M' M1
   have:=(hb t0 (dj.nn _ M1).1).1
   lia
  have lh:(tab h.length λ v=>fx h v+(lk kv v).getD M').length=n:=by rw [zd2];exact hh
  generalize (tab h.length λ v=>fx h v+(lk kv v).getD M')=h' at hs' lh hh' ⊢
  refine zd0 λ J hJ=>?_
  walk_at "dd"
  refine ⟨n,A,_,x,o,rfl,hn,hA,(zd2 ..).symm,hx.symm,lo,ok,wx,λ x' ev=>hJ _ ?_⟩
  clear hJ
  walk_at "dd"
  refine ⟨n,A,x',_,rfl,by lia,ev.len.symm,hA,ok,zd2 ..,ztr _,?_⟩
  walk_at "dd"
  have rf:=znk hw dj hmax ft'
  have neg:=zkl hw dj wx w0 hov hpos
  have lt:sm n (λ v=>if blA A x0 v < blA A x' v then blA A x' v - blA A x0 v else 0) < sm n (λ v=>if blA A x0 v < blA A x v then blA A x v - blA A x0 v else 0):=by
   refine zja1 (λ v hv=>?_) ?_
   ·obtain ⟨E,T,e1,e2,e3,e4,e5⟩:=ev.ov v hv
    have e5:blA A x' v=blA A x v - E+T:=e5
    have:=hov v hv
    split <;> split <;> lia
   ·rcases ev.pg with ⟨v,v1,v2,v3⟩|⟨side,s1,s2,s3⟩
    ·have v3:blA A x' v < blA A x v:=v3
     have:=hov v v1
     refine ⟨v,v1,?_⟩
     split <;> split <;> lia
    ·obtain ⟨t,t1,t2⟩:=neg
     obtain ⟨⟨t',b⟩,b1,b2⟩:=uL.mp t1
     simp only at b2
     subst b2
     obtain ⟨j,j1,j2⟩:=vV.mp b1
     refine absurd (zzq hw dj hs' (λ y hy=>?_) (λ k hk z=>s3 k hk (by rw [ze6 hk];exact z)) j t' b (by rw [uC j1,j2])) (s2 t' (dj.nn _ b1).1 t2)
     have:=(hst y).mp hy
     exact s1 y (by lia) (of_decide_eq_true this.2)
  have hb2:∀ v,v < n->0<=fx h' v/\fx h' v<=(((j+1:Nat):Int)+1) * (H+60 * Pb)/\(blA A x0 v < blA A x' v->fx h' v<=H):=λ v hv=>by
   have b1:=hb v hv
   have b3:=zj21 dj M0 v
   have b4:=zcp hmax v
   have b5:(((j+1:Nat):Int)+1) * (H+60 * Pb)=((j:Int)+1) * (H+60 * Pb)+(H+60 * Pb):=by rw [Int.natCast_add,yK ((j:Int)+((1:Nat):Int))];simp
   rw [hh' v hv,b5]
   refine ⟨by lia,by lia,λ c=>?_⟩
   obtain ⟨E,T,e1,e2,e3,e4,e5⟩:=ev.ov v hv
   have e5:blA A x' v=blA A x v - E+T:=e5
   have o1:=hov v hv
   have o2:0 < fx o v:=by lia
   have:dsn kv M' v=0:=by
    rcases dj.st v ((hst v).mpr ⟨by lia,decide_eq_true o2⟩) with y|⟨_,y,_⟩
    ·unfold dsn;rw [zxv dj.nd y];rfl
    ·simp at y
   have:=b1.2.2 (by lia)
   lia
  have nn:0<=sm n (λ v=>if blA A x0 v < blA A x' v then blA A x' v - blA A x0 v else 0):=znz λ v hv=>by split <;> lia
  refine ⟨(sm n (λ v=>if blA A x0 v < blA A x' v then blA A x' v - blA A x0 v else 0)).toNat,by lia,x',h',_,rfl,ev.len,lh,ev.wi,λ k hk=>?_,by lia,j+1,by lia,hb2⟩
  by_cases z:slk A p h' k=0
  ·rw [z];exact ⟨λ _=>vJ 0,λ _=>vJ 0⟩
  ·rw [ev.eq k hk (by rw [ze6 hk];exact z),hs' k hk];exact rf k hk
 ·clear hC
  walk_at "dd"
  refine ⟨_,_,rfl,rfl,trivial,q x h (λ v hv=>⟨(hb v hv).1,wJ (hb v hv).2.1 (wG (by lia) (by lia))⟩) hx hh wx ft λ v hv=>?_⟩
  have e:=hov v hv
  have:fx o v=0:=Classical.byContradiction λ z=>c (zD.mpr ⟨fx o v,by unfold fx;rw [uC (by lia)];exact vR _,by simpa using z⟩)
  lia
end
noncomputable def CSh (i j:Int):Prop:=0<=j/\(Builtin.Int.intBits i:Int)+j<=2 ^ 27
theorem zjv {X}:OpR X (binaryOp .LShift) (rI CSh λ i j=>.int (i * 2 ^ j.toNat)):=opI λ _ _ _ _ _ _ _ hc q=>lshift_int hc.1 hc.2 q
theorem zk51 {K:Fg}:R2E K (rI CSh λ i j=>V.int (i * 2 ^ j.toNat)) (fI CSh λ i j=>.int (i * 2 ^ j.toNat)):=r_I λ _ _ _=>.int _
theorem zcm {z:Int} {E:Nat} (h:z.natAbs < 2 ^ E):Builtin.Int.intBits z<=E:=by
 unfold Builtin.Int.intBits
 split
 ·lia
 ·rename_i c
  have:z.natAbs≠0:=by simpa using c
  exact (yW this).mpr h
theorem zqw {l:List Int} {g:Int->Int} {k:Nat} (h:k < l.length):fx (l.map g) k=g (fx l k):=by
 unfold fx;rw [uI,uC h];rfl
noncomputable def zbc:DSpT:=λ as Q=>∃ (n:Nat) (A:List Ar) (p x0:List Int) (e t:Nat) (Pb:Int),as=[.d (nI n),.d (zy6 A),.d (iL p),.d (iL x0)]/\n<=60/\A.length<=1000/\A.length=p.length/\A.length=x0.length/\(∀ a∈A,ArOk n a)/\within A.length (zn1 A) (fx x0)/\(∀ z∈p,-Pb<=z/\z<=Pb)/\0<=Pb/\Pb < 2 ^ e/\e<=1000/\120 * sm A.length (zn1 A) < (2:Int) ^ t/\e+(e+8) * (t+6)+8<=2 ^ 27 /\
 ∀ x h,x.length=A.length->h.length=n->within A.length (zn1 A) (fx x)->Fit A (slk A p h) (fx x)->(∀ v,v < n->blA A x v=blA A x0 v)->Q (.tp [.li (x.map .int),.li (h.map .int)]) (.fz .none)
section
variable {P:Program} {w:World} {K:Fg} {mg:Str->Option Value} {base:Heap} {jA:Addr}
theorem zu9:FnScope ["count", "arcs", "prices", "amounts", "told", "bits", "shifts", "shift", "rough"] ["count", "arcs", "prices", "amounts"] (zf0 zg3):=by walk_at "sc"
theorem zrf (M:Md K mg) (T:TopDef K "cheapest" zg3) (qT:mg "abs"=none) (jK:mg "list"=none) (qI:mg "max"=none) (jH:mg "range"=none) (kE:mg "reversed"=none) (kY:Def P w K mg base "repaired" 6 ["count", "arcs", "prices", "amounts", "heights"] (spV K zrc)) {gv_BITS:Value} (g_BITS:mg "BITS"=some gv_BITS) (r_BITS:RelV (.int 4) gv_BITS):Def P w K mg base "cheapest" 7 ["count", "arcs", "prices", "amounts"] (spT K zbc):=by
 refine zn4 M T zu9 (λ _ _ _ _ _ _ us hl=>by obtain ⟨_,_,_,_,rfl⟩:=ar4 hl;rfl) (zuc λ as Qd h=>by obtain ⟨_,_,_,_,_,_,_,rfl,_⟩:=h;rfl) (zm4 ?_)
 intro f cdv A outer s H E hr
 have nd:=zu9.nd
 refine ⟨_,_,(zc0 (pset 4 nd (zk5 (za0 (pv 3) (za0 (zp1 zn3 (zg1 (za0 zl0 zg0)) (pv 0)) zg0))))
   (zc0 (pset 5 nd (zfc (K:=K) rfl PySem.F.plainAttrs_int PySem.F.slot_int_bit_length PySem.F.type_int_bit_length zis (zn21 (K:=K) rfl rfl rfl qI zcw (zw3 (sc:=zf0 zg3) (N:=["count", "arcs", "prices", "amounts", "told", "bits", "shifts", "shift", "rough"]) (own:=["price"]) (ix:=[]) rfl rfl rfl (by walk_at "csc") (pi_W (K:=K) rfl (pv 2)) (λ _ _ _ _=>⟨(pgn 0 (nds ["price"])),ze3,(zu0 zzo rfl qT zy31 (za0 (pv 0) zg0))⟩)) zl0)))
   (zc0 (pset 6 nd (zr2 (zjh rfl) rfl jK zo5 (za0 (zr2 zjk rfl jH zmp (za0 zl0 (za0 (zp1 (zw1 (K:=K) rfl) (pv 5) (zuh rfl g_BITS r_BITS)) (za0 (zuh rfl g_BITS r_BITS) zg0)))) zg0)))
   (zc0 (zz4 PassesOwn.never rfl (ztz (K:=K) rfl rfl kE (za0 (pv 6) zg0)) (pgn 7 nd) (zc0 (zy2 (i:=8) (sc:=zf0 zg3) (N:=["count", "arcs", "prices", "amounts", "told", "bits", "shifts", "shift", "rough"]) (own:=["price"]) (ix:=[7]) rfl rfl rfl (by walk_at "csc") nd rfl rfl (pi_W (K:=K) rfl (pv 2)) (λ _ _ _ _=>⟨(pgn 0 (nds ["price", "shift"])),ze3,(zp1 za31 (pv 0) (pv 1))⟩))
   (zj0 (pset 4 nd (zt0 kY (rmn hr) rfl (za0 (pv 0) (za0 (pv 1) (za0 (pv 8) (za0 (pix w K hr (pv 4) zl0) (za0 (zw3 (sc:=zf0 zg3) (N:=["count", "arcs", "prices", "amounts", "told", "bits", "shifts", "shift", "rough"]) (own:=["height"]) (ix:=[]) rfl rfl rfl (by walk_at "csc") (pi_W (K:=K) rfl (pix w K hr (pv 4) zl0)) (λ _ _ _ _=>⟨(pgn 0 (nds ["height"])),ze3,(zp1 zjv (pv 0) (zuh rfl g_BITS r_BITS))⟩)) zg0))))))))))
   (zj0 (zl1 (pv 4))))))),(zk0 (zk1 (zac (ze0 (zh0 3) (ze0 (RfF.e (zqh (zw2 (ze0 zh1 zq0)) (zh0 0))) zq0))) (rgn 4))
   (zk0 (zk1 (zws (zk21 (RfF.e (zn2 (zhp (zb0 2)) (zc1 (i:=0) (n:=1) (by decide)) zq4 (zef zo81 (zw0 (zb0 0) zv1)))) zh1)) (rgn 5))
   (zk0 (zk1 (RfF.e (zzn (ze0 zh1 (ze0 (zr0 zab (zb0 5) rvi) (ze0 zh1 zq0))))) (rgn 6))
   (zk0 (zb5 (zd01 (ze0 (zh0 6) zq0)) (rgn 7) (zk0 (zm31 4 (zk1 (RfF.e (zn2 (zhp (zb0 2)) (zc1 (i:=0) (n:=1) (by decide)) zq4 (zr0 zz71 (zb0 0) (zb0 1)))) (rgn 8)))
   (zr1 (RfN.c (zup (zh0 0) (zh0 1) (zh0 8) (zr0 r_ix (zb0 4) rvi) (RfF.new (zn2 (zhp (RfE.v (zr0 r_ix (zb0 4) rvi))) (zc1 (i:=0) (n:=1) (by decide)) zq4 (zr0 zk51 (zb0 0) rvi))))))))
   (zv3 (i:=4)))))),?_⟩
 rintro as Qd a ⟨n,A,p,x0,e,t,Pb,rfl,hn,hA,hp,hx0,ok,w0,hP,hP0,hPe,he,hT,hE,q⟩
 walk_at "ds"
 refine zd0 λ J hJ=>?_
 walk_at "dd"
 refine ⟨by lia,by lia,by lia,hJ _ ?_⟩
 clear hJ
 rw [uY,rep0]
 refine zd0 λ J hJ=>?_
 walk_at "dd"
 refine zog (λ z:Int=>.int z.natAbs) (by rw [sizeLine_eq];lia) (λ z hz=>?_) ?_
 ·walk_at "cs"
  walk_at "dd"
  split <;> congr 1 <;> lia
 have rest:∀ b:Nat,b<=e+1->J [Sl.sh (uB (n:Int)),Sl.sh (zy6 A),Sl.sh (iL p),Sl.sh (iL x0),Sl.sh (v7 [iL x0,vF (yL uB (uN n 0))]),Sl.sh (uB (b:Int)),Sl.un,Sl.un,Sl.un]:=λ b hb=>by
  refine hJ _ ?_
  clear hJ
  refine zd0 λ J hJ=>?_
  walk_at "dd"
  refine ⟨0,_,4,rfl,by lia,by lia,(b+7) / 4,?_,by lia,hJ _ ?_⟩
  ·unfold Builtin.Range.rangeSize
   rw [if_pos (by lia),if_pos (by lia)];lia
  clear hJ
  have hb2:(b+7) / 4<=e+8:=by lia
  have hb1:1<=(b+7) / 4:=by lia
  generalize (b+7) / 4=N at hb1 hb2 ⊢
  refine zd0 λ J hJ=>?_
  refine zl2 λ B hB=>?_
  walk_at "dd"
  rw [<- List.map_reverse]
  generalize vF ((uM N).map λ k:Nat=>uB (0+(k:Int) * 4))=d6
  refine zq2 (λ i U=>∃ (x h:List Int) (s4 s7 s8:Sl),U=[Sl.sh (uB (n:Int)),.sh (zy6 A),.sh (iL p),.sh (iL x0),s4,.sh (.int (b:Int)),.sh d6,s7,s8]/\(i < N/\s4=.sh (.tuple [iL x,iL h]) \/ s4=.ow (.tp [.li (x.map .int),.li (h.map .int)]))/\x.length=A.length/\h.length=n/\within A.length (zn1 A) (fx x)/\(∀ v,v < n->blA A x v=blA A x0 v)/\(∀ v,v < n->0<=fx h v/\fx h v+Pb<=2 ^ (e+i * (t+6)))/\(i=N->Fit A (slk A p h) (fx x))) ⟨x0,uN n 0,_,_,_,rfl,.inl ⟨by lia,rfl⟩,hx0.symm,wL ..,w0,λ _ _=>rfl,λ v hv=>?_,λ z=>by lia⟩ (λ i k U hi hp=>?_) λ U hp=>?_
  ·rw [zbp,Nat.zero_mul];exact ⟨vJ 0,by rw [Nat.add_zero];lia⟩
  ·obtain ⟨x,h,s4,s7,s8,rfl,h4,hx,hh,wx,hbl,hbd,_⟩:=hp
   walk_at "dd"
   refine hB _ _ ?_
   clear hB
   refine zd0 λ J hJ=>?_
   suffices fin:J [Sl.sh (uB (n:Int)),.sh (zy6 A),.sh (iL p),.sh (iL x0),.sh (.tuple [iL x,iL h]),.sh (.int (b:Int)),.sh d6,.sh (.int (0+(k:Int) * 4)),.sh (.list (p.map λ z:Int=>uB (z / 2 ^ (0+(k:Int) * 4).toNat)))] by
    clear hJ
    rcases h4 with ⟨_,rfl⟩|rfl
    ·walk_at "dd"
     refine .inr ⟨⟨_,rfl⟩,?_⟩
     refine zog (λ z:Int=>.int (z / 2 ^ (0+(k:Int) * 4).toNat)) (by rw [sizeLine_eq];lia) (λ z hz=>?_) fin
     walk_at "cs"
     walk_at "dd"
     lia
    ·walk_at "dd"
     refine .inl ⟨_,_,rfl,?_⟩
     refine zog (λ z:Int=>.int (z / 2 ^ (0+(k:Int) * 4).toNat)) (by rw [sizeLine_eq];lia) (λ z hz=>?_) fin
     walk_at "cs"
     walk_at "dd"
     lia
   refine hJ _ ?_
   clear hJ h4
   rw [show (p.map λ z:Int=>uB (z / 2 ^ (0+(k:Int) * 4).toNat))=(p.map λ z=>z / 2 ^ (0+(k:Int) * 4).toNat).map uB by rw [vD];rfl]
   walk_at "dd"
   obtain ⟨i1,i2⟩:=uZ.mp hi
   rw [xD,vG] at i1
   rw [List.getElem_reverse,wE,vG] at i2
   have hEi:e+i * (t+6)+5<=2 ^ 27:=by
    have:i * (t+6)<=(e+8) * (t+6):=zC _ (by lia)
    lia
   have hk:((0+(k:Int) * 4).toNat)=4 * k:=by lia
   have aP:Pb < (2:Int) ^ (e+i * (t+6)):=by have:=zb11 (show e<=e+i * (t+6) by lia);lia
   rw [hk]
   have qd:∀ z:Int,-Pb<=z->z<=Pb->-Pb<=z / 2 ^ (4 * k)/\z / 2 ^ (4 * k)<=Pb:=λ z z1 z2=>by
    have pp:(0:Int) < 2 ^ (4 * k):=zE (by decide)
    constructor
    ·have:-Pb<=(-Pb) / 2 ^ (4 * k):=by
      refine (zL pp).mpr ?_
      have:Pb * 1<=Pb * 2 ^ (4 * k):=z9 (by lia) hP0
      rw [Int.neg_mul];lia
     exact wJ this (Int.ediv_le_ediv pp z1)
    ·exact wJ (Int.ediv_le_ediv pp z2) (Int.ediv_le_self _ hP0)
   refine ⟨_,rfl,_,rfl,?_⟩
   refine zog (λ z:Int=>.int (z * 2 ^ 4)) (by rw [sizeLine_eq];lia) (λ z hz=>?_) ?_
   ·walk_at "cs"
    walk_at "dd"
    refine ⟨by lia,?_⟩
    obtain ⟨v,v1,v2⟩:=vV.mp hz
    have ev:fx h v=z:=by unfold fx;rw [uC v1,v2];rfl
    have b:=hbd v (by lia)
    rw [ev] at b
    have:Builtin.Int.intBits z<=e+i * (t+6)+1:=zcm (by
     have:=zb11 (show e+i * (t+6)<=e+i * (t+6)+1 by lia)
     have c:(2:Int) ^ (e+i * (t+6)+1)=2 ^ (e+i * (t+6)) * 2:=Int.pow_succ ..
     have d:(0:Int) < 2 ^ (e+i * (t+6)):=zE (by decide)
     have:(z.natAbs:Int) < 2 ^ (e+i * (t+6)+1):=by rw [c];lia
     exact_mod_cast this)
    lia
   rw [show (h.map λ z:Int=>uB (z * 2 ^ 4))=(h.map λ z=>z * 2 ^ 4).map uB by rw [vD];rfl]
   refine ⟨n,A,p.map λ z=>z / 2 ^ (4 * k),x,h.map λ z=>z * 2 ^ 4,(120 * sm A.length (zn1 A)).toNat,16 * (2 ^ (e+i * (t+6)) - Pb),Pb,rfl,rfl,hn,hA,by rw [uA];exact hp,hx.symm,by rw [uA];exact hh,ok,wx,λ j hj=>?_,hP0,by lia,λ v hv=>?_,by lia,λ x' h' b1 b2 b3 b4 b5 b6=>⟨x',h',_,_,_,rfl,.inr rfl,b2,b3,b4,λ v hv=>(b6 v hv).trans (hbl v hv),λ v hv=>?_,λ hiN=>?_⟩⟩
   ·rw [zqw (by lia)]
    have:=hP (fx p j) (by unfold fx;rw [uC (by lia)];exact vR _)
    exact qd _ this.1 this.2
   ·rw [zqw (by lia)]
    have b:=hbd v hv
    have c:(2:Int) ^ 4=16:=by decide
    rw [c]
    lia
   ·have b:=b1 v hv
    refine ⟨b.1,?_⟩
    rw [show e+(i+1) * (t+6)=e+i * (t+6)+t+6 by rw [Nat.add_mul];lia,Int.pow_add,Int.pow_add,show (2:Int) ^ 6=64 by decide]
    have b2:=b.2
    have tb:(1:Int)<=2 ^ t:=by have:=zE (n:=2) (m:=t) (by decide);lia
    generalize (2:Int) ^ t=bb at hT tb ⊢
    generalize (2:Int) ^ (e+i * (t+6))=aa at aP b2 ⊢
    have sn:=znz (λ k hk=>by have:=w0 k hk;lia:∀ k,k < A.length->0<=zn1 A k)
    have m1:(((120 * sm A.length (zn1 A)).toNat:Int)+1) * (16 * (aa - Pb)+60 * Pb)<=bb * (16 * (aa - Pb)+60 * Pb):=wG (by lia) (by lia)
    have m2:bb * (16 * (aa - Pb)+60 * Pb)<=bb * (60 * aa):=z9 (by lia) (by lia)
    have m3:1 * aa<=bb * aa:=wG tb (by lia)
    have m4:bb * (60 * aa)=60 * (bb * aa):=Int.mul_left_comm ..
    rw [Int.mul_comm aa bb]
    lia
   ·have k0:k=0:=by lia
    rw [k0] at b5
    rw [show (p.map λ z=>z / 2 ^ (4 * 0))=p by rw [show (λ z:Int=>z / 2 ^ (4 * 0))=id from funext λ z=>by simp];exact List.map_id p] at b5
    exact b5
  ·obtain ⟨x,h,s4,s7,s8,rfl,h4,hx,hh,wx,hbl,hbd,ft⟩:=hp
   rcases h4 with ⟨z,_⟩|rfl
   ·rw [xD,vG] at z;lia
   refine hJ _ ?_
   clear hJ hB
   walk_at "dd"
   exact q x h hx hh wx (ft (by rw [xD,vG])) hbl
 refine ⟨_,p.map λ z:Int=>(z.natAbs:Int),rfl,by rw [show (p.map λ z:Int=>uB (z.natAbs:Int))=(p.map λ z:Int=>(z.natAbs:Int)).map uB by rw [vD];rfl];exact ints_map _,λ _=>⟨0,rfl,rest 0 (by lia)⟩,λ _ M hM _=>⟨M,rfl,rest _ (zcm ?_)⟩⟩
 obtain ⟨z,z1,rfl⟩:=uL.mp hM
 have:=hP z z1
 have e1:((z.natAbs:Int)).natAbs=z.natAbs:=by lia
 rw [e1]
 have:(z.natAbs:Int) < 2 ^ (e+1):=by have:=zb11 (show e<=e+1 by lia);lia
 exact_mod_cast this
end
noncomputable def zg5 (ns:List Int) (k:Int):Int:=(ns[k.toNat]?).getD 0
theorem zvu {ns:List Int} {k:Int} (h0:0<=k) (h:k < (ns.length:Int)):atI (ns.map uB) k=some (.int (zg5 ns k)):=by
 obtain ⟨x,h1,h2⟩:=zuj uB h0 h
 rw [h2]
 unfold zg5
 rw [h1];rfl
theorem zbh (c:Int) {n:Nat} (h:0 < n):∃ u:Nat,c % (n:Int)=(u:Int)/\u < n:=by
 refine ⟨(c % (n:Int)).toNat,?_,?_⟩
 ·have:=Int.emod_nonneg c (b:=(n:Int)) (by lia);lia
 ·have:=kP c (b:=(n:Int)) (by lia);lia
noncomputable def zu3:DSp:=λ ds Q=>∃ ns k,ds=[.list (ns.map .int),.int k]/\0<=k/\Q (.int (zg5 ns k))
noncomputable def zh9:DSp:=λ ds Q=>∃ i,ds=[.int i]/\Q (.bool true)
structure Mad (n:Nat) (unit:Int) (A:List Ar) (p x:List Int):Prop where
 lp:A.length=p.length
 lx:A.length=x.length
 ok:∀ a∈A,ArOk n a/\a.2.2<=3 * unit
 pb:∀ z∈p,-1000000<=z/\z<=1000000
 wi:∀ (k:Nat) a y,A[k]?=some a->x[k]?=some y->0<=y/\y<=a.2.2
noncomputable def zsc:DSp:=λ ds Q=>∃ (ns:List Int) (n:Nat) (unit:Int),ds=[.list (ns.map .int),nI n,.int unit]/\ns.length<=1000000/\2<=n/\n<=6/\1<=unit/\unit<=100000000000000/\∀ A p x,A.length<=61->Mad n unit A p x->Q (.tuple [zy6 A,iL p,iL x])
section
variable {P:Program} {w:World} {K:Fg} {mg:Str->Option Value} {base:Heap} {jA:Addr}
theorem zt4:FnScope ["script", "k"] ["script", "k"] (zf0 zk3):=by walk_at "sc"
theorem zw8 (M:Md K mg) (T:TopDef K "_law_cell_at" zk3) (jJ:mg "len"=none):Def P w K mg base "_law_cell_at" 1 ["script", "k"] (spD K zu3):=by
 refine zn4 M T zt4 (λ _ _ _ _ _ _ us hl=>by obtain ⟨_,_,rfl⟩:=ar2 hl;rfl) (zzl λ ds Qd h=>by obtain ⟨_,_,rfl,_⟩:=h;rfl) (zoc ?_)
 intro f cdv A outer s H E hr
 have nd:=zt4.nd
 refine ⟨_,_,(zc0 (zqb (zz0 zmr (pv 1) (zu0 (zu1 (K:=K) rfl) rfl jJ zj7 (za0 (pv 0) zg0)) (za2 _)) (zj0 (zl1 (pix w K hr (pv 0) (pv 1)))) zs2)
   (zj0 (zl1 zl0))),(zk0 (zjb (zy0 (zr0 r_lt (zb0 1) (RfE.v (zef zej (zw0 (zb0 0) zv1))))) (za3 (RfE.c (zr0 r_ix (zb0 0) (zb0 1)))) zo2)
   (za3 (RfE.c zh1))),?_⟩
 rintro ds Qd ⟨ns,k,rfl,h0,q⟩
 walk_at "ds"
 refine zxh ?_
 walk_at "dd"
 rw [uA]
 refine two (λ h=>⟨_,zvu h0 h,q⟩) λ h=>?_
 have e:zg5 ns k=0:=by unfold zg5;rw [vC (by lia)];rfl
 rw [e] at q;exact q
theorem zl6:FnScope ["found"] ["found"] (zf0 zx4):=by walk_at "sc"
theorem zib (M:Md K mg) (T:TopDef K "_law_whole" zx4) (kt:Kit K) (qN:mg "bool"=none) (qU:mg "int"=none) (jG:mg "isinstance"=none):Def P w K mg base "_law_whole" 1 ["found"] (spD K zh9):=by
 refine zn4 M T zl6 (λ _ _ _ _ _ _ us hl=>by obtain ⟨_,rfl⟩:=ar1 hl;rfl) (zzl λ ds Qd h=>by obtain ⟨_,rfl,_⟩:=h;rfl) (zoc ?_)
 intro f cdv A outer s H E hr
 have nd:=zl6.nd
 refine ⟨_,_,(zj0 (zl1 (zt21 (zu0 (zb7 (K:=K) rfl) rfl jG zy1 (za0 (pv 0) (za0 (zgc (v:=.ty "int") rfl qU zm11 rfl) zg0))) (zzz (zi31 (zu0 (zb7 (K:=K) rfl) rfl jG zy1 (za0 (pv 0) (za0 (zgc (v:=.ty "bool") rfl qN zkw rfl) zg0)))))))),(za3 (RfE.c (zkx (zmz kt (by simp) (zb0 0)) (zzv (zmz kt (by simp) (zb0 0)))))),?_⟩
 rintro ds Qd ⟨i,rfl,q⟩
 walk_at "ds"
 walk_at "dd"
 exact ⟨λ _=>trivial,λ _=>trivial,q⟩
theorem zn7:FnScope ["script", "count", "unit", "arcs", "prices", "amounts", "factor", "cell", "start", "goal", "rest", "units"] ["script", "count", "unit"] (zf0 zc6):=by walk_at "sc"
theorem zld (M:Md K mg) (T:TopDef K "_law_made" zc6) (jJ:mg "len"=none) (jI:Def P w K mg base "_law_cell_at" 1 ["script", "k"] (spD K zu3)):Def P w K mg base "_law_made" 2 ["script", "count", "unit"] (spD K zsc):=by
 refine zn4 M T zn7 (λ _ _ _ _ _ _ us hl=>by obtain ⟨_,_,_,rfl⟩:=ar3 hl;rfl) (zzl λ ds Qd h=>by obtain ⟨_,_,_,rfl,_⟩:=h;rfl) (zoc ?_)
 intro f cdv A outer s H E hr
 have nd:=zn7.nd
 refine ⟨_,_,(zc0 (pset 3 nd (zg1 zg0))
   (zc0 (pset 4 nd (zg1 zg0))
   (zc0 (pset 5 nd (zg1 zg0))
   (zc0 (pset 6 nd (pix w K hr (zg1 (za0 zl0 (za0 zl0 (za0 zl0 (za0 zl0 zg0))))) (zp1 zy8 (zp1 zw4 (zt0 jI (rmn hr) rfl (za0 (pv 0) (za0 zl0 zg0))) zl0) zl0)))
   (zc0 (zz4 PassesOwn.never rfl (pi_W (K:=K) rfl (zvq (sl_W (K:=K) rfl) (pv 0) (zpa zl0) (zpa zl0))) (pgn 7 nd) (zc0 (pset 8 nd (zp1 zy8 (pv 7) (pv 1)))
   (zc0 (pset 9 nd (zp1 zy8 (zp1 (zw1 (K:=K) rfl) (zp1 (zw1 (K:=K) rfl) (pv 8) zl0) (zp1 zy8 (zp1 zw4 (pv 7) (pv 1)) (zp1 zyb (pv 1) zl0))) (pv 1)))
   (zc0 (pset 10 nd (zp1 zw4 (zp1 zw4 (pv 7) (pv 1)) (zp1 zyb (pv 1) zl0)))
   (zc0 (pset 11 nd (pix w K hr (zg1 (za0 zl0 (za0 zl0 (za0 zl0 (za0 zl0 zg0))))) (zp1 zy8 (pv 10) zl0)))
   (zc0 (zo1 (zj3 (K:=K) rfl PySem.F.plainAttrs_list PySem.F.slot_list_append PySem.F.type_list_append zf1 (pv 3) (za0 (zk5 (za0 (pv 8) (za0 (pv 9) (za0 (zp1 zn3 (pv 11) (pv 2)) zg0)))) zg0)))
   (zc0 (zo1 (zj3 (K:=K) rfl PySem.F.plainAttrs_list PySem.F.slot_list_append PySem.F.type_list_append zf1 (pv 5) (za0 (zp1 zn3 (zp1 zy8 (zp1 zw4 (pv 10) zl0) (zp1 (zw1 (K:=K) rfl) (pv 11) zl0)) (pv 2)) zg0)))
   (zc0 (pset 10 nd (zp1 zw4 (zp1 zw4 (pv 10) zl0) (zp1 (zw1 (K:=K) rfl) (pv 11) zl0)))
   (zj0 (zqb (zz0 zmr (zu0 (zu1 (K:=K) rfl) rfl jJ zj7 (za0 (pv 0) zg0)) zl0 (za2 _)) (zj0 (zo1 (zj3 (K:=K) rfl PySem.F.plainAttrs_list PySem.F.slot_list_append PySem.F.type_list_append zf1 (pv 4) (za0 (zp1 zyb (zp1 zy8 (pv 10) zl0) zl0) zg0)))) (zj0 (zo1 (zj3 (K:=K) rfl PySem.F.plainAttrs_list PySem.F.slot_list_append PySem.F.type_list_append zf1 (pv 4) (za0 (zp1 zn3 (zp1 zyb (zp1 zy8 (pv 10) zl0) zl0) (pv 6)) zg0))))))))))))))
   (zj0 (zl1 (zk5 (za0 (pv 3) (za0 (pv 4) (za0 (pv 5) zg0))))))))))),(zk0 (zr1 (RfF.c (zw2 zq0)))
   (zk0 (zr1 (RfF.c (zw2 zq0)))
   (zk0 (zr1 (RfF.c (zw2 zq0)))
   (zk0 (zk1 (zr0 r_ix (RfE.v (RfF.e (zw2 (ze0 zh1 (ze0 zh1 (ze0 zh1 (ze0 zh1 zq0))))))) (RfE.v (zr0 zhj (RfE.v (zr0 zbo (RfE.v (zs5 (ze0 (zh0 0) (ze0 zh1 zq0)))) rvi)) rvi))) (rgn 6))
   (zk0 (zb5 (zkr (zaa1 (zb0 0) (zif zh1) (zif zh1))) (rgn 7) (zk0 (zk1 (zr0 zhj (zb0 7) (zb0 1)) (rgn 8))
   (zk0 (zk1 (zr0 zhj (RfE.v (zr0 zab (RfE.v (zr0 zab (zb0 8) rvi)) (RfE.v (zr0 zhj (RfE.v (zr0 zbo (zb0 7) (zb0 1))) (RfE.v (zr0 zzm (zb0 1) rvi)))))) (zb0 1)) (rgn 9))
   (zk0 (zk1 (zr0 zbo (RfE.v (zr0 zbo (zb0 7) (zb0 1))) (RfE.v (zr0 zzm (zb0 1) rvi))) (rgn 10))
   (zk0 (zk1 (zr0 r_ix (RfE.v (RfF.e (zw2 (ze0 zh1 (ze0 zh1 (ze0 zh1 (ze0 zh1 zq0))))))) (RfE.v (zr0 zhj (zb0 10) rvi))) (rgn 11))
   (zk0 (zq1 (zud zs6 (zm0 3) (ze0 (zac (ze0 (zh0 8) (ze0 (zh0 9) (ze0 (zr0 ztq (zb0 11) (zb0 2)) zq0)))) zq0)))
   (zk0 (zq1 (zud zs6 (zm0 5) (ze0 (zr0 ztq (RfE.v (zr0 zhj (RfE.v (zr0 zbo (zb0 10) rvi)) (RfE.v (zr0 zab (zb0 11) rvi)))) (zb0 2)) zq0)))
   (zk0 (zk1 (zr0 zbo (RfE.v (zr0 zbo (zb0 10) rvi)) (RfE.v (zr0 zab (zb0 11) rvi))) (rgn 10))
   (zjb (zy0 (zr0 r_lt (RfE.v (zef zej (zw0 (zb0 0) zv1))) rvi)) (zq1 (zud zs6 (zm0 4) (ze0 (zr0 zzm (RfE.v (zr0 zhj (zb0 10) rvi)) rvi) zq0))) (zq1 (zud zs6 (zm0 4) (ze0 (zr0 ztq (RfE.v (zr0 zzm (RfE.v (zr0 zhj (zb0 10) rvi)) rvi)) (zb0 6)) zq0))))))))))))
   (zw6 4 [] (zw6 3 [] (zw6 5 [] (za3 (RfE.c (zac (ze0 (zh0 3) (ze0 (zh0 4) (ze0 (zh0 5) zq0)))))))))))))),?_⟩
 rintro ds Qd ⟨ns,n,unit,rfl,hl,h2,h6,u1,u2,q⟩
 walk_at "ds"
 refine zd0 λ J hJ=>?_
 walk_at "dd"
 refine hJ _ ?_
 clear hJ
 refine zd0 λ J hJ=>?_
 walk_at "dd"
 refine hJ _ ?_
 clear hJ
 refine zd0 λ J hJ=>?_
 walk_at "dd"
 refine hJ _ ?_
 clear hJ
 refine zd0 λ J hJ=>?_
 walk_at "dd"
 refine ⟨ns,0,rfl,by lia,?_⟩
 walk_at "dd"
 obtain ⟨fa,f1,f2⟩:∃ f:Int,atI [uB 1,.int 7,.int 333333,.int 500000] (zg5 ns 0 / 5 % 4)=some (.int f)/\0<=f/\f<=500000:=by
  have:zg5 ns 0 / 5 % 4=0 \/ zg5 ns 0 / 5 % 4=1 \/ zg5 ns 0 / 5 % 4=2 \/ zg5 ns 0 / 5 % 4=3:=by lia
  rcases this with h|h|h|h
  all_goals rw [h]
  ·exact ⟨1,rfl,by decide,by decide⟩
  ·exact ⟨7,rfl,by decide,by decide⟩
  ·exact ⟨333333,rfl,by decide,by decide⟩
  ·exact ⟨500000,rfl,by decide,by decide⟩
 refine ⟨_,f1,hJ _ ?_⟩
 clear hJ
 refine zd0 λ J hJ=>?_
 refine zl2 λ B hB=>?_
 walk_at "dd"
 rw [zoq]
 have lc:(cutG ns (some 2) (some 63)).length<=61:=by
  unfold cutG
  rw [vZ]
  have a:HT.sIx ns.length 0 (some 2)=xF 2 ns.length:=HT.sIx_nat ..
  have b:HT.sIx ns.length ns.length (some 63)=xF 63 ns.length:=HT.sIx_nat ..
  rw [a,b]
  have:xF 63 ns.length<=63:=Nat.min_le_left ..
  have:xF 2 ns.length=2 \/ xF 2 ns.length=ns.length:=by rcases Nat.le_total 2 ns.length with z|z;exact .inl (yX z);exact .inr (Nat.min_eq_right z)
  have:xF 63 ns.length<=ns.length:=Nat.min_le_right ..
  lia
 generalize cutG ns (some 2) (some 63)=cs at lc ⊢
 refine zq2 (λ i U=>∃ (A:List Ar) (p x:List Int) (s7 s8 s9 s10 s11:Sl),U=[Sl.sh (vF (ns.map uB)),.sh (.int (n:Int)),.sh (.int unit),.ow (.li (A.map dAr)),.ow (.li (p.map .int)),.ow (.li (x.map .int)),.sh (.int fa),s7,s8,s9,s10,s11]/\A.length=i/\Mad n unit A p x) ⟨[],[],[],_,_,_,_,_,rfl,rfl,rfl,rfl,λ a ha=>by simp at ha,λ z hz=>by simp at hz,λ k a y h=>by simp at h⟩ (λ i c U hi hp=>?_) λ U hp=>?_
 ·obtain ⟨A,p,x,s7,s8,s9,s10,s11,rfl,hAi,md⟩:=hp
  have hi1:=(uZ.mp hi).1
  have l1:=md.lp
  have l2:=md.lx
  walk_at "dd"
  refine hB _ _ ?_
  clear hB
  refine zd0 λ J hJ=>?_
  obtain ⟨u,eu,hu⟩:=zbh c (n:=n) (by lia)
  walk_at "dd"
  rw [eu]
  refine ⟨by lia,hJ _ ?_⟩
  clear hJ
  refine zd0 λ J hJ=>?_
  walk_at "dd"
  obtain ⟨v,ev,hv⟩:=zbh ((u:Int)+1+c / (n:Int) % ((n:Int) - 1)) (n:=n) (by lia)
  rw [ev]
  refine ⟨by lia,by lia,by lia,hJ _ ?_⟩
  clear hJ
  refine zd0 λ J hJ=>?_
  walk_at "dd"
  refine ⟨by lia,by lia,hJ _ ?_⟩
  clear hJ
  generalize c / (n:Int) / ((n:Int) - 1)=rest
  refine zd0 λ J hJ=>?_
  walk_at "dd"
  obtain ⟨un,n1,n2⟩:∃ f:Int,atI [uB 1,.int 2,.int 3,.int 0] (rest % 4)=some (.int f)/\0<=f/\f<=3:=by
   have:rest % 4=0 \/ rest % 4=1 \/ rest % 4=2 \/ rest % 4=3:=by lia
   rcases this with h|h|h|h
   all_goals rw [h]
   ·exact ⟨1,rfl,by decide,by decide⟩
   ·exact ⟨2,rfl,by decide,by decide⟩
   ·exact ⟨3,rfl,by decide,by decide⟩
   ·exact ⟨0,rfl,by decide,by decide⟩
  refine ⟨_,n1,hJ _ ?_⟩
  clear hJ
  refine zd0 λ J hJ=>?_
  walk_at "dd"
  refine ⟨.inl ⟨by lia,by lia⟩,by rw [uA];lia,hJ _ ?_⟩
  clear hJ
  refine zd0 λ J hJ=>?_
  walk_at "dd"
  have am0:=Int.emod_nonneg (rest / 4) (b:=un+1) (by lia)
  have am1:=kP (rest / 4) (b:=un+1) (by lia)
  refine ⟨by lia,.inl ⟨by lia,by lia⟩,by rw [uA];lia,hJ _ ?_⟩
  clear hJ
  generalize rest / 4 % (un+1)=am at am0 am1 ⊢
  refine zd0 λ J hJ=>?_
  walk_at "dd"
  refine ⟨by lia,hJ _ ?_⟩
  clear hJ
  generalize rest / 4 / (un+1)=rest2
  have m1:0<=un * unit:=yJ n2.1 (by lia)
  have m2:un * unit<=3 * unit:=wG n2.2 (by lia)
  have m3:0<=am * unit:=yJ am0 (by lia)
  have m4:am * unit<=un * unit:=wG (by lia) (by lia)
  have rst:∀ pr:Int,-1000000<=pr->pr<=1000000->∃ (A':List Ar) (p' x':List Int) (s7 s8 s9 s10 s11:Sl),[Sl.sh (vF (ns.map uB)),.sh (.int (n:Int)),.sh (.int unit),.ow (.li (A.map dAr++[v7 [.int (u:Int),.int (v:Int),.int (un * unit)]])),.ow (.li (p.map .int++[.int pr])),.ow (.li (x.map .int++[.int (am * unit)])),.sh (.int fa),.sh (.int c),.sh (.int (u:Int)),.sh (.int (v:Int)),.sh (.int rest2),.sh (.int un)]=[Sl.sh (vF (ns.map uB)),.sh (.int (n:Int)),.sh (.int unit),.ow (.li (A'.map dAr)),.ow (.li (p'.map .int)),.ow (.li (x'.map .int)),.sh (.int fa),s7,s8,s9,s10,s11]/\A'.length=i+1/\Mad n unit A' p' x':=λ pr p1 p2=>by
   refine ⟨A++[(u,v,un * unit)],p++[pr],x++[am * unit],_,_,_,_,_,by rw [uJ,uJ,uJ];rfl,by simp [hAi],by simp [l1],by simp [l2],λ a ha=>?_,λ z hz=>?_,λ k a y h1 h2=>?_⟩
   ·rcases uF.mp ha with z|z
    ·exact md.ok a z
    ·simp at z;subst z;exact ⟨⟨hu,hv,m1⟩,m2⟩
   ·rcases uF.mp hz with y|y
    ·exact md.pb z y
    ·simp at y;subst y;exact ⟨p1,p2⟩
   ·by_cases e:k < A.length
    ·rw [u6 e] at h1
     rw [u6 (by lia)] at h2
     exact md.wi k a y h1 h2
    ·rw [u7 (by lia)] at h1 h2
     have e0:k - A.length=0:=by have:=(uZ.mp h1).1;simp at this;lia
     rw [e0] at h1
     rw [<- l2,e0] at h2
     simp at h1 h2
     subst h1 h2
     exact ⟨m3,m4⟩
  walk_at "dd"
  rw [uA,uA]
  have g1:(rest2 % 5 - 2) * fa<=2 * fa:=wG (by lia) f2.1
  have g2:-2 * fa<=(rest2 % 5 - 2) * fa:=wG (by lia) f2.1
  exact two (λ _=>⟨by lia,rst _ (by lia) (by lia)⟩) λ _=>⟨.inl ⟨by lia,by lia⟩,by lia,rst _ (by lia) (by lia)⟩
 ·obtain ⟨A,p,x,s7,s8,s9,s10,s11,rfl,hAi,md⟩:=hp
  refine hJ _ ?_
  clear hJ hB
  walk_at "dd"
  exact ⟨_,_,rfl,rfl,_,_,rfl,rfl,_,_,rfl,rfl,q A p x (by lia) md⟩
end
noncomputable def zn9:DSp:=λ ds Q=>∃ p x:List Int,ds=[iL p,iL x]/\p.length=x.length/\p.length<=1000/\(∀ y∈p,-1000000<=y/\y<=1000000)/\Q (.int (sm p.length λ k=>fx p k * fx x k))
noncomputable def zm5:DSpT:=λ as Q=>∃ (n:Nat) (A:List Ar) (x:List Int),as=[.d (nI n),.d (zy6 A),.d (iL x)]/\n<=100/\A.length=x.length/\A.length<=1000/\(∀ a∈A,ArOk n a)/\Q (.li ((tab n (bl A.length (aU A) (aV A) (fx x))).map .int)) (.fz .none)
noncomputable def zy7:DSp:=λ ds Q=>∃ p x:List Int,ds=[iL p,iL x]/\p.length=x.length/\p.length<=1000/\(∀ y∈p,-1000000<=y/\y<=1000000)/\Q (.int (sm p.length λ k=>fx p k * fx x k))
section
variable {P:Program} {w:World} {K:Fg} {mg:Str->Option Value} {base:Heap} {jA:Addr}
theorem zn6:FnScope ["prices", "amounts", "total", "k"] ["prices", "amounts"] (zf0 zc5):=by walk_at "sc"
theorem zwb (M:Md K mg) (T:TopDef K "_law_price" zc5) (jJ:mg "len"=none) (jH:mg "range"=none):Def P w K mg base "_law_price" 1 ["prices", "amounts"] (spD K zn9):=by
 refine zn4 M T zn6 (λ _ _ _ _ _ _ us hl=>by obtain ⟨_,_,rfl⟩:=ar2 hl;rfl) (zzl λ ds Qd h=>by obtain ⟨_,_,rfl,_⟩:=h;rfl) (zoc ?_)
 intro f cdv A outer s H E hr
 have nd:=zn6.nd
 refine ⟨_,_,(zc0 (pset 2 nd zl0)
   (zc0 (zz4 PassesOwn.never rfl (zj5 rfl jH (za0 (zu0 (zu1 (K:=K) rfl) rfl jJ zj7 (za0 (pv 0) zg0)) zg0)) (pgn 3 nd) (zj0 (zu31 (i:=2) nd rfl (by first|exact Or.inl rfl|exact w9 rfl) (zp1 zn3 (pix w K hr (pv 0) (pv 3)) (pix w K hr (pv 1) (pv 3))) zjl)))
   (zj0 (zl1 (pv 2))))),(zk0 (zk1 zh1 (rgn 2))
   (zk0 (zb5 (ztb (ze0 (zef zej (zw0 (zb0 0) zv1)) zq0)) (rgn 3) (zl31 (zr0 ztq (RfE.v (zr0 r_ix (zb0 0) (zb0 3))) (RfE.v (zr0 r_ix (zb0 1) (zb0 3))))))
   (za3 (RfE.c (zh0 2))))),?_⟩
 rintro ds Qd ⟨p,x,rfl,hl,hp,hb,q⟩
 walk_at "ds"
 refine zd0 λ J hJ=>?_
 walk_at "dd"
 refine hJ _ ?_
 clear hJ
 refine zd0 λ J hJ=>?_
 refine zl2 λ B hB=>?_
 walk_at "dd"
 rw [uA,uY]
 unfold rngD
 refine ⟨by lia,by lia,zq2 (λ k U=>∃ s3,U=[Sl.sh (iL p),.sh (iL x),.sh (.int (sm k λ j=>fx p j * fx x j)),s3]) ⟨_,rfl⟩ (λ k k' U hk hq=>?_) λ U hq=>?_⟩
 ·obtain ⟨s3,rfl⟩:=hq
  obtain ⟨k1,k2⟩:=uZ.mp hk
  rw [vG] at k1
  rw [wE] at k2
  subst k2
  rw [show (0:Int)+(k:Int)=(k:Int) by lia]
  walk_at "dd"
  refine hB _ _ ?_
  clear hB
  walk_at "dd"
  refine ⟨_,zq8 (by lia),_,zq8 (by lia),?_⟩
  dsimp only
  have:=hb (fx p k) (by unfold fx;rw [uC k1];exact vR _)
  exact ⟨.inl ⟨by lia,by lia⟩,_,by rw [zi1]⟩
 ·obtain ⟨s3,rfl⟩:=hq
  rw [vG]
  refine hJ _ ?_
  clear hJ hB
  walk_at "dd"
  exact q
theorem zr3:FnScope ["count", "arcs", "amounts", "over", "k"] ["count", "arcs", "amounts"] (zf0 zv2):=by walk_at "sc"
theorem zs7 (M:Md K mg) (T:TopDef K "_law_balances" zv2) (jJ:mg "len"=none) (jH:mg "range"=none):Def P w K mg base "_law_balances" 1 ["count", "arcs", "amounts"] (spT K zm5):=by
 refine zn4 M T zr3 (λ _ _ _ _ _ _ us hl=>by obtain ⟨_,_,_,rfl⟩:=ar3 hl;rfl) (zuc λ as Qd h=>by obtain ⟨_,_,_,rfl,_⟩:=h;rfl) (zm4 ?_)
 intro f cdv A outer s H E hr
 have nd:=zr3.nd
 refine ⟨_,_,(zc0 (pset 3 nd (zp1 zn3 (zg1 (za0 zl0 zg0)) (pv 0)))
   (zc0 (zz4 PassesOwn.never rfl (zj5 rfl jH (za0 (zu0 (zu1 (K:=K) rfl) rfl jJ zj7 (za0 (pv 1) zg0)) zg0)) (pgn 4 nd) (zc0 (zf9 (pv 3) (pix w K hr (pix w K hr (pv 1) (pv 4)) zl0) (zsr (K:=K) (Room.units hr) rfl) (pix w K hr (pv 2) (pv 4)) zgq (zdj (Room.units hr)))
   (zj0 (zf9 (pv 3) (pix w K hr (pix w K hr (pv 1) (pv 4)) zl0) (zsr (K:=K) (Room.units hr) rfl) (pix w K hr (pv 2) (pv 4)) zjl (zdj (Room.units hr))))))
   (zj0 (zl1 (pv 3))))),(zk0 (zr1 (RfF.c (zqh (zw2 (ze0 zh1 zq0)) (zh0 0))))
   (zk0 (zb5 (ztb (ze0 (zef zej (zw0 (zb0 1) zv1)) zq0)) (rgn 4) (zk0 (zo9 (zm0 3) (zr0 r_ix (RfE.v (zr0 r_ix (zb0 1) (zb0 4))) rvi) (zr0 r_ix (zb0 2) (zb0 4)))
   (zo9 (zm0 3) (zr0 r_ix (RfE.v (zr0 r_ix (zb0 1) (zb0 4))) rvi) (zr0 r_ix (zb0 2) (zb0 4)))))
   (zv3 (i:=3)))),?_⟩
 rintro as Qd a ⟨n,A,x,rfl,hn,hx,hA,ok,q⟩
 walk_at "ds"
 refine zd0 λ J hJ=>?_
 walk_at "dd"
 refine ⟨by lia,by lia,by lia,hJ _ ?_⟩
 clear hJ
 rw [uY,rep0]
 refine zd0 λ J hJ=>?_
 refine zl2 λ B hB=>?_
 walk_at "dd"
 rw [uA,uY]
 unfold rngD
 refine ⟨by lia,by lia,zq2 (λ i U=>∃ (T:List Int) (s4:Sl),U=[Sl.sh (.int (n:Int)),.sh (zy6 A),.sh (iL x),.ow (.li (T.map .int)),s4]/\T.length=n/\∀ v,fx T v=if v < n then sm i (λ k=>trm (aU A k) (aV A k) (fx x k) v) else 0) ⟨uN n 0,_,rfl,wL ..,λ v=>by rw [zbp];split <;> rfl⟩ (λ i k' U hi hp=>?_) λ U hp=>?_⟩
 ·obtain ⟨T,s4,rfl,hT,hv⟩:=hp
  obtain ⟨k1,k2⟩:=uZ.mp hi
  rw [vG] at k1
  rw [wE] at k2
  subst k2
  rw [show (0:Int)+(i:Int)=(i:Int) by lia]
  walk_at "dd"
  refine hB _ _ ?_
  clear hB
  have e:A[i]?=some A[i]:=uC k1
  have ok':aU A i < n/\aV A i < n:=by
   unfold aU aV
   rw [e]
   have:=ok _ (vR k1)
   exact ⟨this.1,this.2.1⟩
  obtain ⟨o1,o2⟩:=ok'
  refine zd0 λ J2 hJ2=>?_
  walk_at "dd"
  refine ⟨_,zdz k1,?_⟩
  unfold dAr nI
  dsimp only
  refine ⟨_,rfl,?_⟩
  dsimp only
  refine ⟨by lia,_,zur (by rw [uY];lia),_,zq8 (by lia),?_⟩
  rw [uY]
  dsimp only
  refine ⟨aU A i,zna (by rw [uA];lia),?_⟩
  rw [zg8]
  refine hJ2 _ ?_
  clear hJ2
  walk_at "dd"
  refine ⟨_,zdz k1,?_⟩
  unfold dAr nI
  dsimp only
  refine ⟨_,rfl,?_⟩
  dsimp only
  refine ⟨by lia,_,zur (by rw [uY,uU];lia),_,zq8 (by lia),?_⟩
  rw [uY]
  dsimp only
  refine ⟨aV A i,zna (by rw [uA,uU];lia),(T.set (aU A i) (fx T (aU A i) - fx x i)).set (aV A i) (fx (T.set (aU A i) (fx T (aU A i) - fx x i)) (aV A i)+fx x i),_,by rw [zg8],by rw [uU,uU];exact hT,λ z=>?_⟩
  rw [zma (by rw [uU];lia),zma (by lia),zma (by lia)]
  by_cases hz:z < n
  ·have hvz:=hv z
   rw [if_pos hz] at hvz ⊢
   rw [zi1,<- hvz]
   generalize aU A i=u at o1 ⊢
   generalize aV A i=v at o2 ⊢
   unfold trm
   by_cases e1:z=v
   ·subst e1
    rw [if_pos rfl]
    by_cases e2:z=u
    ·rw [if_pos e2,if_pos rfl,if_pos e2.symm,<- e2];lia
    ·rw [if_neg e2,if_pos rfl,if_neg (λ k=>e2 k.symm)];lia
   ·rw [if_neg e1]
    by_cases e2:z=u
    ·rw [if_pos e2,if_neg (λ k=>e1 k.symm),if_pos e2.symm,<- e2];lia
    ·rw [if_neg e2,if_neg (λ k=>e1 k.symm),if_neg (λ k=>e2 k.symm)];lia
  ·rw [if_neg hz,if_neg (by lia),if_neg (by lia),hv z,if_neg hz]
 ·obtain ⟨T,s4,rfl,hT,hv⟩:=hp
  refine hJ _ ?_
  clear hJ hB
  walk_at "dd"
  rw [vG] at hv
  rw [zcl hT λ v h=>(hv v).trans (if_pos h)]
  exact q
theorem zm6:FnScope ["prices", "amounts"] ["prices", "amounts"] (zf0 zi3):=by walk_at "sc"
theorem zeb (M:Md K mg) (T:TopDef K "flow_price" zi3) (qV:mg "sum"=none) (jQ:mg "zip"=none):Def P w K mg base "flow_price" 1 ["prices", "amounts"] (spD K zy7):=by
 refine zn4 M T zm6 (λ _ _ _ _ _ _ us hl=>by obtain ⟨_,_,rfl⟩:=ar2 hl;rfl) (zzl λ ds Qd h=>by obtain ⟨_,_,rfl,_⟩:=h;rfl) (zoc ?_)
 intro f cdv A outer s H E hr
 have nd:=zm6.nd
 refine ⟨_,_,(zj0 (zl1 (zu0 (zml (K:=K) rfl rfl) rfl qV zw11 (za0 (zw3 (sc:=zf0 zi3) (N:=["prices", "amounts"]) (own:=["price", "amount"]) (ix:=[]) rfl rfl rfl (by walk_at "csc") (zhi (K:=K) rfl rfl jQ (za0 (pv 0) (za0 (pv 1) zg0))) (λ _ _ _ _=>⟨(zf2 (K:=K) (n:=2) rfl rfl (zp0 (pgn 0 (nds ["price", "amount"])) (zp0 (pgn 1 (nds ["price", "amount"])) zm2))),ze3,(zp1 zn3 (pv 0) (pv 1))⟩)) zg0)))),(za3 (RfE.c (zef ze91 (zw0 (RfE.v (RfF.e (zn2 (zao (zw0 (zb0 0) (zw0 (zb0 1) zv1))) (zd5 (zo0 (zc1 (i:=0) (n:=2) (by decide)) (zo0 (zc1 (i:=1) (n:=2) (by decide)) zh2))) zq4 (zr0 ztq (zb0 0) (zb0 1))))) zv1)))),?_⟩
 rintro ds Qd ⟨p,x,rfl,hl,hp,hb,q⟩
 walk_at "ds"
 walk_at "dd"
 rw [zi8]
 refine zog (λ y:Int×Int=>.int (y.1 * y.2)) (by rw [wA,sizeLine_eq];lia) (λ y hy=>?_) ?_
 ·walk_at "cs"
  walk_at "dd"
  have:=hb _ (xK hy).1
  exact .inl ⟨by lia,by lia⟩
 ·rw [zbf (n:=p.length) (f:=λ k=>fx p k * fx x k) (by rw [wA,<- hl,yN]) λ i y e=>?_]
  ·exact ⟨_,ints_map _,q⟩
  obtain ⟨h1,h2⟩:=uZ.mp e
  rw [wA] at h1
  rw [yM] at h2
  unfold fx
  rw [uC (by lia),uC (by lia),<- h2];rfl
theorem zcs:FnScope ["script", "count", "unit", "arcs", "prices", "amounts", "handed", "found", "told", "k", "much"] ["script"] (zf0 zux):=by walk_at "sc"
theorem zrp (kt:Kit K) (jG:mg "isinstance"=none) (jJ:mg "len"=none) (jK:mg "list"=none) (jH:mg "range"=none) (qG:mg "tuple"=none) (kI:Def P w K mg base "flow_price" 1 ["prices", "amounts"] (spD K zy7)) (kZ:Def P w K mg base "cheapest" 7 ["count", "arcs", "prices", "amounts"] (spT K zbc)) (jI:Def P w K mg base "_law_cell_at" 1 ["script", "k"] (spD K zu3)) (kJ:Def P w K mg base "_law_whole" 1 ["found"] (spD K zh9)) (kR:Def P w K mg base "_law_made" 2 ["script", "count", "unit"] (spD K zsc)) (jP:Def P w K mg base "_law_balances" 1 ["count", "arcs", "amounts"] (spT K zm5)) (kC:Def P w K mg base "_law_price" 1 ["prices", "amounts"] (spD K zn9)) :
  ∀ (f:Addr) (cdv:Value) (A:Around) (outer:List Env) (s:Shared) (H:Hp) (E:XK),Room 7 (A.deeper (envOfC "law" (zf0 zux) s.heap.objs.size f cdv)) ->
   ∃ t d,PSs (cxOf CX0 P w K mg base ["script", "count", "unit", "arcs", "prices", "amounts", "handed", "found", "told", "k", "much"] "law" (zf0 zux) f cdv A outer s H E).nox (zz1 zux) t/\RfS K t d/\∀ (ns:List Int) (Qd:D->Prop),ns.length<=63->Qd (.bool true)->d { nx:=λ _=>Qd .none,rt:=rD Qd } (zua ["script", "count", "unit", "arcs", "prices", "amounts", "handed", "found", "told", "k", "much"] [.list (ns.map .int)]):=by
 intro f cdv A outer s H E hr
 have nd:=zcs.nd
 refine ⟨_,_,(zc0 (pset 1 nd (zp1 (zw1 (K:=K) rfl) zl0 (zp1 zy8 (zt0 jI (rmn hr) rfl (za0 (pv 0) (za0 zl0 zg0))) zl0)))
   (zc0 (pset 2 nd (zp1 (zw1 (K:=K) rfl) zl0 (zp1 zy8 (zt0 jI (rmn hr) rfl (za0 (pv 0) (za0 zl0 zg0))) (zp1 zo31 zl0 zl0))))
   (zc0 (zzi (zt0 kR (rmn hr) rfl (za0 (pv 0) (za0 (pv 1) (za0 (pv 2) zg0)))) (zf2 (K:=K) (n:=3) rfl rfl (zp0 (pgn 3 nd) (zp0 (pgn 4 nd) (zp0 (pgn 5 nd) zm2)))))
   (zc0 (pset 6 nd (zg1 (za0 (zr2 (zx2 (K:=K) rfl) rfl jK zo5 (za0 (pv 3) zg0)) (za0 (zr2 (zx2 (K:=K) rfl) rfl jK zo5 (za0 (pv 4) zg0)) (za0 (zr2 (zx2 (K:=K) rfl) rfl jK zo5 (za0 (pv 5) zg0)) zg0)))))
   (zc0 (pset 7 nd (zt0 kZ (rmn hr) rfl (za0 (pv 1) (za0 (pix w K hr (pv 6) zl0) (za0 (pix w K hr (pv 6) zl0) (za0 (pix w K hr (pv 6) zl0) zg0))))))
   (zc0 (zqb (zz0 (zfd (K:=K) rfl (Room.units hr)) (pv 6) (zg1 (za0 (pv 3) (za0 (pv 4) (za0 (pv 5) zg0)))) (za2 _)) (zj0 (zl1 zlr)) zs2)
   (zc0 (zqb (PW.pt (zjr (zlk (zp4 (K:=K) rfl (zu0 (zb7 (K:=K) rfl) rfl jG zy1 (za0 (pv 7) (za0 (zgc (v:=.ty "tuple") rfl qG zro rfl) zg0))) (λ _=>rfl))) (zzk (zz0 (zfd (K:=K) rfl (Room.units hr)) (zu0 (zu1 (K:=K) rfl) rfl jJ zj7 (za0 (pv 7) zg0)) zl0 (za2 _))))) (zj0 (zl1 zlr)) zs2)
   (zc0 (pset 8 nd (pix w K hr (pv 7) zl0))
   (zc0 (zqb (PW.pt (zjr (zlk (zp4 (K:=K) rfl (zu0 (zb7 (K:=K) rfl) rfl jG zy1 (za0 (pv 8) (za0 (zgc (v:=.ty "list") rfl jK zo5 rfl) zg0))) (λ _=>rfl))) (zjr (zz0 (zfd (K:=K) rfl (Room.units hr)) (zu0 (zu1 (K:=K) rfl) rfl jJ zj7 (za0 (pv 8) zg0)) (zu0 (zu1 (K:=K) rfl) rfl jJ zj7 (za0 (pv 3) zg0)) (za2 _)) (zzk (zlk (zp4 (K:=K) rfl (zu0 (zb7 (K:=K) rfl) rfl jG zy1 (za0 (pix w K hr (pv 7) zl0) (za0 (zgc (v:=.ty "list") rfl jK zo5 rfl) zg0))) (λ _=>rfl))))))) (zj0 (zl1 zlr)) zs2)
   (zc0 (zz4 PassesOwn.never rfl (zj5 rfl jH (za0 (zu0 (zu1 (K:=K) rfl) rfl jJ zj7 (za0 (pv 3) zg0)) zg0)) (pgn 9 nd) (zj0 (zqb (PW.pt (zjr (zlk (zp4 (K:=K) rfl (zt0 kJ (rmn hr) rfl (za0 (pix w K hr (pv 8) (pv 9)) zg0)) (λ _=>rfl))) (zjr (zz0 zmr (pix w K hr (pv 8) (pv 9)) zl0 (za2 _)) (zzk (zz0 zuo (pix w K hr (pv 8) (pv 9)) (pix w K hr (pix w K hr (pv 3) (pv 9)) zl0) (za2 _)))))) (zj0 (zl1 zlr)) zs2)))
   (zc0 (zqb (zz0 (zfd (K:=K) rfl (Room.units hr)) (zt0 jP (rmn hr) rfl (za0 (pv 1) (za0 (pv 3) (za0 (pv 8) zg0)))) (zt0 jP (rmn hr) rfl (za0 (pv 1) (za0 (pv 3) (za0 (pv 5) zg0)))) (za2 _)) (zj0 (zl1 zlr)) zs2)
   (zc0 (pset 10 nd (zt0 kC (rmn hr) rfl (za0 (pv 4) (za0 (pv 8) zg0))))
   (zc0 (zqb (PW.pt (zjr (zz0 (zfd (K:=K) rfl (Room.units hr)) (zt0 kI (rmn hr) rfl (za0 (pv 4) (za0 (pv 8) zg0))) (pv 10) (za2 _)) (zzk (zz0 zuo (pv 10) (zt0 kC (rmn hr) rfl (za0 (pv 4) (za0 (pv 5) zg0))) (za2 _))))) (zj0 (zl1 zlr)) zs2)
   (zc0 (zo1 (zj3 (K:=K) rfl PySem.F.plainAttrs_list PySem.F.slot_list_append PySem.F.type_list_append zf1 (pv 8) (za0 zl0 zg0)))
   (zc0 (zo1 (zj3 (K:=K) rfl PySem.F.plainAttrs_list PySem.F.slot_list_append PySem.F.type_list_append zf1 (pix w K hr (pv 7) zl0) (za0 zl0 zg0)))
   (zj0 (zl1 (zot (zbq (K:=K) rfl (Room.units hr)) (pv 6) (zg1 (za0 (pv 3) (za0 (pv 4) (za0 (pv 5) zg0)))) (za2 _))))))))))))))))))),(zk0 (zk1 (zr0 zab rvi (RfE.v (zr0 zhj (RfE.v (zs5 (ze0 (zh0 0) (ze0 zh1 zq0)))) rvi))) (rgn 1))
   (zk0 (zk1 (zr0 zab rvi (RfE.v (zr0 zhj (RfE.v (zs5 (ze0 (zh0 0) (ze0 zh1 zq0)))) (RfE.v (zr0 zm81 rvi rvi))))) (rgn 2))
   (zk0 (zk1 (zs5 (ze0 (zh0 0) (ze0 (zh0 1) (ze0 (zh0 2) zq0)))) (zd5 (zo0 (rgn 3) (zo0 (rgn 4) (zo0 (rgn 5) zh2)))))
   (zk0 (zk1 (RfF.e (zw2 (ze0 (RfF.e (zfr zwf (zw0 (zb0 3) zv1))) (ze0 (RfF.e (zfr zwf (zw0 (zb0 4) zv1))) (ze0 (RfF.e (zfr zwf (zw0 (zb0 5) zv1))) zq0))))) (rgn 6))
   (zk0 (zr1 (ztg (at_d (zh0 1) (at_d (zr0 r_ix (zb0 6) rvi) (at_d (zr0 r_ix (zb0 6) rvi) (at_d (zr0 r_ix (zb0 6) rvi) zn5))))))
   (zk0 (zjb (zy0 (zr8 q_ne (RfV.h (zb0 6)) (zuv (zg9 (RfV.h (zb0 3)) (zg9 (RfV.h (zb0 4)) (zg9 (RfV.h (zb0 5)) zft)))))) (za3 (RfE.c znr)) zo2)
   (zk0 (zjb (zir (zxj (zya (RfE.v (zj31 kt (by simp) (zm0 7))))) (zy0 (zr8 q_ne (RfV.h (RfE.v (zry (zm0 7)))) (RfV.h rvi)))) (za3 (RfE.c znr)) zo2)
   (zk0 (zow (i:=7) (k:=0) (j:=8))
   (zk0 (zjb (zir (zxj (zya (RfE.v (zmz kt (by simp) (zb0 8))))) (zir (zy0 (zr8 q_ne (RfV.h (RfE.v (zef zej (zw0 (zb0 8) zv1)))) (RfV.h (RfE.v (zef zej (zw0 (zb0 3) zv1)))))) (zxj (zya (RfE.v (zmz kt (by simp) (RfP.v (zkn (zm0 7) zh1)))))))) (za3 (RfE.c znr)) zo2)
   (zk0 (zb5 (ztb (ze0 (zef zej (zw0 (zb0 3) zv1)) zq0)) (rgn 9) (zjb (zir (zxj (zya (RfE.v (zs5 (ze0 (zr0 r_ix (zb0 8) (zb0 9)) zq0))))) (zir (zy0 (zr0 r_lt (RfE.v (zr0 r_ix (zb0 8) (zb0 9))) rvi)) (zy0 (zr0 r_gt (RfE.v (zr0 r_ix (zb0 8) (zb0 9))) (RfE.v (zr0 r_ix (RfE.v (zr0 r_ix (zb0 3) (zb0 9))) rvi)))))) (za3 (RfE.c znr)) zo2))
   (zk0 (zjb (zy0 (zr8 q_ne (RfV.h (RfE.v (RfN.z (zf6 (zb1 (RfE.l (zh0 1)) (zb1 (RfE.l (zh0 3)) (zb1 (RfP.l (zm0 8)) zqa))))))) (RfV.h (RfE.v (RfN.z (zf6 (zb1 (RfE.l (zh0 1)) (zb1 (RfE.l (zh0 3)) (zb1 (RfE.l (zh0 5)) zqa))))))))) (za3 (RfE.c znr)) zo2)
   (zk0 (zk1 (zwc (zb1 (RfE.l (zh0 4)) (zb1 (RfP.l (zm0 8)) zqa))) (rgn 10))
   (zk0 (zjb (zir (zy0 (zr8 q_ne (RfV.h (RfE.v (zwc (zb1 (RfE.l (zh0 4)) (zb1 (RfP.l (zm0 8)) zqa))))) (RfV.h (zb0 10)))) (zy0 (zr0 r_gt (zb0 10) (RfE.v (zwc (zb1 (RfE.l (zh0 4)) (zb1 (RfE.l (zh0 5)) zqa))))))) (za3 (RfE.c znr)) zo2)
   (zk0 (zq1 (zud zs6 (zm0 8) (ze0 zh1 zq0)))
   (zk0 (zq1 (zud zs6 (zkn (zm0 7) zh1) (ze0 zh1 zq0)))
   (za3 (RfE.c (zr8 q_eq (RfV.h (zb0 6)) (zuv (zg9 (RfV.h (zb0 3)) (zg9 (RfV.h (zb0 4)) (zg9 (RfV.h (zb0 5)) zft)))))))))))))))))))))),?_⟩
 intro ns Qd hl q
 walk_at "ds"
 refine zd0 λ J hJ=>?_
 walk_at "dd"
 refine ⟨ns,0,rfl,by lia,?_⟩
 walk_at "dd"
 obtain ⟨u,eu,hu⟩:=zbh (zg5 ns 0) (n:=5) (by lia)
 rw [show zg5 ns 0 % 5=(u:Int) from eu,show (2:Int)+(u:Int)=((2+u:Nat):Int) by lia]
 refine hJ _ ?_
 clear hJ
 generalize hn:2+u=n
 refine zd0 λ J hJ=>?_
 walk_at "dd"
 refine ⟨ns,1,rfl,by lia,?_⟩
 walk_at "dd"
 refine ⟨by decide,hJ _ ?_⟩
 clear hJ
 have u1:1<=1+zg5 ns 1 % 100000000000000:=by lia
 have u2:1+zg5 ns 1 % 100000000000000<=100000000000000:=by lia
 generalize 1+zg5 ns 1 % 100000000000000=unit at u1 u2 ⊢
 refine zd0 λ J hJ=>?_
 walk_at "dd"
 refine ⟨ns,n,unit,rfl,by lia,by lia,by lia,u1,u2,λ A p x hA md=>?_⟩
 walk_at "dd"
 refine hJ _ ?_
 clear hJ
 have l1:=md.lp
 have l2:=md.lx
 have wx:within A.length (zn1 A) (fx x):=λ k hk=>by
  have e1:A[k]?=some A[k]:=uC hk
  have e2:x[k]?=some (x[k]'(by lia)):=uC (by lia)
  have:=md.wi k _ _ e1 e2
  unfold zn1 fx
  rw [e1,e2];exact this
 have sb:sm A.length (zn1 A)<=61 * 300000000000000:=by
  have:sm A.length (zn1 A)<=sm A.length λ _=>300000000000000:=zdg λ k hk=>by
   have e1:A[k]?=some A[k]:=uC hk
   have:=(md.ok _ (vR hk)).2
   unfold zn1
   rw [e1]
   show A[k].2.2<=_
   lia
  rw [zbd] at this
  lia
 have p62:120 * sm A.length (zn1 A) < (2:Int) ^ 62:=by
  rw [show (2:Int) ^ 62=4611686018427387904 by decide]
  lia
 refine zd0 λ J hJ=>?_
 walk_at "dd"
 refine hJ _ ?_
 clear hJ
 refine zd0 λ J hJ=>?_
 walk_at "dd"
 refine ⟨_,rfl,_,rfl,_,rfl,n,A,p,x,20,62,1000000,rfl,by lia,by lia,l1,l2,λ a ha=>(md.ok a ha).1,wx,md.pb,by decide,by decide,by decide,p62,by decide,λ x' h b1 b2 b3 b4 b5=>hJ _ ?_⟩
 clear hJ
 have fH:_3.Fit 4 (.list [zy6 A,iL p,iL x]):=_3.Fit.lst λ d hd=>by
  simp only [uD,List.not_mem_nil,or_false] at hd
  rcases hd with rfl|rfl|rfl
  ·exact zys λ a _=>_3.Fit.tup λ d hd=>by
    simp only [uD,List.not_mem_nil,or_false] at hd
    rcases hd with rfl|rfl|rfl <;> exact _3.Fit.int _
  ·exact zrd p
  ·exact zrd x
 refine zd0 λ J hJ=>?_
 walk_at "dd"
 refine ⟨fH.shaped (by decide),fH.shaped (by decide),?_⟩
 rw [_4.eqv_refl fH]
 refine two (λ z=>by cases z) λ _=>hJ _ ?_
 clear hJ
 refine zd0 λ J hJ=>?_
 walk_at "dd"
 rw [if_neg (by simp),if_neg (by simp)]
 refine hJ _ ?_
 clear hJ
 refine zd0 λ J hJ=>?_
 walk_at "dd"
 refine ⟨_,_,rfl,rfl,trivial,hJ _ ?_⟩
 clear hJ
 rw [List.set_cons_zero]
 refine zd0 λ J hJ=>?_
 walk_at "dd"
 refine ⟨λ _=>trivial,?_⟩
 rw [if_neg (by rw [uA,uA,b1];simp)]
 refine ⟨1,_,rfl,rfl,?_⟩
 refine ⟨λ kvs=>nofun,?_⟩
 rw [if_neg (by rw [show isT "list" (vF (h.map uB))=true from rfl];simp)]
 refine hJ _ ?_
 clear hJ
 refine zd0 λ J hJ=>?_
 refine zl2 λ B hB=>?_
 walk_at "dd"
 rw [uA,uY]
 unfold rngD
 refine ⟨by lia,by lia,zq2 (λ i U=>∃ s9,U=[Sl.sh (vF (ns.map uB)),.sh (.int (n:Int)),.sh (.int unit),.sh (zy6 A),.sh (iL p),.sh (iL x),.sh (.list [zy6 A,iL p,iL x]),.ow (.tp [.wh,.li (h.map .int)]),.ow (.li (x'.map .int)),s9,.un]) ⟨_,rfl⟩ (λ i k' U hi hp=>?_) λ U hp=>?_⟩
 ·obtain ⟨s9,rfl⟩:=hp
  obtain ⟨k1,k2⟩:=uZ.mp hi
  rw [vG] at k1
  rw [wE] at k2
  subst k2
  rw [show (0:Int)+(i:Int)=(i:Int) by lia]
  have w:=b3 i k1
  walk_at "dd"
  refine hB _ _ ?_
  clear hB
  walk_at "dd"
  refine ⟨_,zq8 (by lia),fx x' i,rfl,?_⟩
  dsimp only
  rw [if_neg (by decide)]
  refine ⟨_,zq8 (by lia),?_⟩
  walk_at "dd"
  refine two (λ y=>by lia) λ _=>⟨_,zq8 (by lia),_,zdz k1,?_⟩
  unfold dAr
  dsimp only
  refine ⟨_,rfl,?_⟩
  walk_at "dd"
  exact two (λ y=>by lia) λ _=>⟨_,rfl⟩
 ·obtain ⟨s9,rfl⟩:=hp
  refine hJ _ ?_
  clear hJ hB
  refine zd0 λ J hJ=>?_
  walk_at "dd"
  refine ⟨n,A,x',rfl,by lia,b1.symm,by lia,λ a ha=>(md.ok a ha).1,ztr _,_,rfl,n,A,x,rfl,by lia,l2,by lia,λ a ha=>(md.ok a ha).1,ztr _,_,rfl,?_⟩
  rw [show tab n (bl A.length (aU A) (aV A) (fx x'))=tab n (bl A.length (aU A) (aV A) (fx x)) from xB λ v hv=>b5 v (wC.mp hv)]
  have ft:=zrd (tab n (bl A.length (aU A) (aV A) (fx x))) (n:=0)
  refine ⟨ft.shaped (by decide),ft.shaped (by decide),?_⟩
  rw [_4.eqv_refl ft]
  refine two (λ z=>by cases z) λ _=>hJ _ ?_
  clear hJ
  have ok':∀ k,k < A.length->aU A k < n/\aV A k < n:=λ k hk=>by
   have e:A[k]?=some A[k]:=uC hk
   unfold aU aV
   rw [e]
   have:=(md.ok _ (vR hk)).1
   exact ⟨this.1,this.2.1⟩
  have f2:∀ k,k < A.length->(fx x' k < zn1 A k->0<=fx h (aU A k)+fx p k - fx h (aV A k))/\(0 < fx x' k->fx h (aU A k)+fx p k - fx h (aV A k)<=0):=b4
  have p1:=zeg (p:=fx p) (h:=fx h) ok' b3 wx f2 λ v hv=>b5 v hv
  refine zd0 λ J hJ=>?_
  walk_at "dd"
  refine ⟨p,x',rfl,by lia,by lia,md.pb,?_⟩
  walk_at "dd"
  refine hJ _ ?_
  clear hJ
  refine zd0 λ J hJ=>?_
  walk_at "dd"
  refine ⟨p,x',rfl,by lia,by lia,md.pb,?_⟩
  walk_at "dd"
  refine ⟨p,x,rfl,by lia,by lia,md.pb,rfl,?_⟩
  walk_at "dd"
  rw [<- l1]
  refine two (λ z=>by lia) λ _=>hJ _ ?_
  clear hJ
  refine zd0 λ J hJ=>?_
  walk_at "dd"
  refine ⟨by rw [uA];lia,hJ _ ?_⟩
  clear hJ
  refine zd0 λ J hJ=>?_
  walk_at "dd"
  refine ⟨1,_,rfl,rfl,by first|rfl|trivial,by rw [uA];lia,hJ _ ?_⟩
  clear hJ
  walk_at "dd"
  refine ⟨fH.shaped (by decide),fH.shaped (by decide),?_⟩
  rw [_4.eqv_refl fH]
  exact q
end
theorem all_mk {l:PySem.W.OpenLaw} {w:World} {K:Fg} {h:Heap} {mg:Str->Option Value} {fa:Addr} {jA:Addr} (X:K.In h) (G:h.Ns mainGlobals mg) (hfa:mg "law"=some (.ref fa))
  (jB:TopCls K "Stream" jA)
  (jF:PySem.W.findIn K (.ref jA) "steps"=some none)
  (jD:PySem.W.findIn K (.ref jA) "ends"=some none)
  (jC:PySem.W.findIn K (.ref jA) "left"=some none)
  (kK:TopDef K "flow_price" zi3)
  (qA:TopDef K "balances" zk7)
  (qO:TopDef K "beyond" zfa)
  (kS:TopDef K "slacks_of" zh4)
  (qP:TopDef K "fitted" zad)
  (qB:TopDef K "ways_out" zi5)
  (kT:TopDef K "distances" zy5)
  (qQ:TopDef K "raised" zka)
  (jM:TopMeth K jA "row_behind" "Stream.row_behind" zt1)
  (jZ:TopMeth K jA "levels" "Stream.levels" zt2)
  (jW:TopMeth K jA "step_up" "Stream.step_up" zk2)
  (kA:TopMeth K jA "way_up" "Stream.way_up" zu2)
  (kF:TopMeth K jA "carry" "Stream.carry" zc2)
  (jX:TopMeth K jA "push_up" "Stream.push_up" zs1)
  (jY:TopMeth K jA "amounts" "Stream.amounts" zj2)
  (jR:TopMeth K jA "__init__" "Stream.__init__" zm1)
  (qC:TopDefN K "greatest" zm7)
  (qR:TopDef K "evened" zq3)
  (qD:TopDef K "repaired" zl5)
  (qE:TopDef K "cheapest" zg3)
  (kG:TopDef K "_law_cell_at" zk3)
  (kL:TopDef K "_law_whole" zx4)
  (kU:TopDef K "_law_made" zc6)
  (kB:TopDef K "_law_balances" zv2)
  (kM:TopDef K "_law_price" zc5)
  (qW:TopDef K "law" zux)
  {t_BITS:Tok} (g_BITS:PySem.W.nsIn K mainGlobals "BITS"=some (some (.int 4 t_BITS)))
  (qT:PySem.W.nsIn K mainGlobals "abs"=some none)
  (qS:PySem.W.nsIn K mainGlobals "any"=some none)
  (qN:PySem.W.nsIn K mainGlobals "bool"=some none)
  (jE:PySem.W.nsIn K mainGlobals "enumerate"=some none)
  (qU:PySem.W.nsIn K mainGlobals "int"=some none)
  (jG:PySem.W.nsIn K mainGlobals "isinstance"=some none)
  (jJ:PySem.W.nsIn K mainGlobals "len"=some none)
  (jK:PySem.W.nsIn K mainGlobals "list"=some none)
  (qI:PySem.W.nsIn K mainGlobals "max"=some none)
  (qH:PySem.W.nsIn K mainGlobals "min"=some none)
  (jH:PySem.W.nsIn K mainGlobals "range"=some none)
  (kE:PySem.W.nsIn K mainGlobals "reversed"=some none)
  (kO:PySem.W.nsIn K mainGlobals "sorted"=some none)
  (qV:PySem.W.nsIn K mainGlobals "sum"=some none)
  (qG:PySem.W.nsIn K mainGlobals "tuple"=some none)
  (jQ:PySem.W.nsIn K mainGlobals "zip"=some none) (kt:Kit K)
 :∃ fd:FuncData,(∀ (s:Shared) (v:Value),BindsTo s fd ⟨[v],[]⟩ [("script",v)])/\∀ base:Heap,K.In base->base.Ns mainGlobals mg->FnOk l.prog w K mg base CX0 8 fa fd ["script"] (zoz K):=by
 have M:Md K mg:=⟨⟨h,X,G⟩⟩
 refine zb81 M qW hfa zcs (λ _ _ _ _ _ _ us hl=>by obtain ⟨_,rfl⟩:=ar1 hl;rfl) λ base kb nb=>?_
 have kI:=zeb (P:=l.prog) (w:=w) (K:=K) (mg:=mg) (base:=base) M kK (M.not qV) (M.not jQ)
 have jV:=zbg (P:=l.prog) (w:=w) (K:=K) (mg:=mg) (base:=base) M qA (M.not jQ)
 have qF:=zdk (P:=l.prog) (w:=w) (K:=K) (mg:=mg) (base:=base) M qO (M.not jQ) jV
 have kH:=zcd (P:=l.prog) (w:=w) (K:=K) (mg:=mg) (base:=base) M kS (M.not jQ)
 have qK:=zsl (P:=l.prog) (w:=w) (K:=K) (mg:=mg) (base:=base) M qP (M.not jE) (M.not jK)
 have kX:=zsf (P:=l.prog) (w:=w) (K:=K) (mg:=mg) (base:=base) M qB (M.not jH) (M.not jQ)
 have kQ:=zzd (P:=l.prog) (w:=w) (K:=K) (mg:=mg) (base:=base) M kT (M.not qH)
 have qL:=zrl (P:=l.prog) (w:=w) (K:=K) (mg:=mg) (base:=base) M qQ (M.not jE) (M.not qI)
 have jL:=za5 (P:=l.prog) (w:=w) (K:=K) (mg:=mg) (base:=base) jB.cls jM jF jD jC
 have jO:=zb8 (P:=l.prog) (w:=w) (K:=K) (mg:=mg) (base:=base) jB.cls jZ jL
 have jS:=zv6 (P:=l.prog) (w:=w) (K:=K) (mg:=mg) (base:=base) jB.cls jW (M.not jJ) jC jD
 have jN:=zn8 (P:=l.prog) (w:=w) (K:=K) (mg:=mg) (base:=base) jB.cls kA jD jS
 have kD:=za9 (P:=l.prog) (w:=w) (K:=K) (mg:=mg) (base:=base) jB.cls kF (M.not qH) jC
 have jT:=zt6 (P:=l.prog) (w:=w) (K:=K) (mg:=mg) (base:=base) jB.cls jX (M.not jK) jF jN kD
 have jU:=zu6 (P:=l.prog) (w:=w) (K:=K) (mg:=mg) (base:=base) jB.cls jY jC
 have qJ:=zd6 (P:=l.prog) (w:=w) (K:=K) (mg:=mg) (base:=base) M jB jR (M.not jE) (M.not jH) jD jC jF
 have kW:=zvf (P:=l.prog) (w:=w) (K:=K) (mg:=mg) (base:=base) M qC (M.not jJ) (M.not kO) jB.cls jO jT jU qJ
 have qM:=zxl (P:=l.prog) (w:=w) (K:=K) (mg:=mg) (base:=base) M qR (M.not jE) (M.not jJ) (M.not jK) (M.not jQ) kW
 have kY:=zqf (P:=l.prog) (w:=w) (K:=K) (mg:=mg) (base:=base) M qD (M.not qS) (M.not jE) jV qF kH qK kX kQ qL qM
 have kZ:=zrf (P:=l.prog) (w:=w) (K:=K) (mg:=mg) (base:=base) M qE (M.not qT) (M.not jK) (M.not qI) (M.not jH) (M.not kE) kY (M.got g_BITS) ⟨_,rfl⟩
 have jI:=zw8 (P:=l.prog) (w:=w) (K:=K) (mg:=mg) (base:=base) M kG (M.not jJ)
 have kJ:=zib (P:=l.prog) (w:=w) (K:=K) (mg:=mg) (base:=base) M kL kt (M.not qN) (M.not qU) (M.not jG)
 have kR:=zld (P:=l.prog) (w:=w) (K:=K) (mg:=mg) (base:=base) M kU (M.not jJ) jI
 have jP:=zs7 (P:=l.prog) (w:=w) (K:=K) (mg:=mg) (base:=base) M kB (M.not jJ) (M.not jH)
 have kC:=zwb (P:=l.prog) (w:=w) (K:=K) (mg:=mg) (base:=base) M kM (M.not jJ) (M.not jH)
 exact zrp kt (M.not jG) (M.not jJ) (M.not jK) (M.not jH) (M.not qG) kI kZ jI kJ kR jP kC
end _39
local macro_rules|`(tactic| walk_at "top")=>`(tactic| (refine' zpj ?a ?l ?c ?k;(case a=>k_is);(case l=>k_is);(case c=>k_is);(case k=>k_is)))
local macro_rules|`(tactic| walk_at "topn")=>`(tactic| (refine' zoh ?a ?l ?c ?k ?t ?d;(case a=>k_is);(case l=>k_is);(case c=>k_is);(case k=>k_is);(case t=>k_is);(case d=>rfl)))
local macro_rules|`(tactic| walk_at "meth")=>`(tactic| (refine' zai ?a ?i ?l ?c ?k;(case a=>k_is);(case i=>k_is);(case l=>k_is);(case c=>k_is);(case k=>k_is)))
local macro_rules|`(tactic| walk_at "cls")=>`(tactic| (refine' zwl ?a ?pg ?hd ?po ?sa ?mk ?kc;(case a=>k_is);(case pg=>k_is);(case hd=>k_is);(case po=>k_is);(case sa=>k_is);(case mk=>k_is);(case kc=>k_is)))
namespace PySem.W.Fast
def tw8506765053402860206:=0
def tw17380354491208990002:=0
def tw17075134880524196691:=0
def tw14657589931956209201:=0
def tw3321794136651602112:=0
def tw915370255683550349:=0
def tw7455108322699078978:=0
def tw4680423945382813917:=0
def tw9864066328538488268:=0
def tw10187158367658356304:=0
def tw17127924435245928990:=0
def tw17659164128414827420:=0
def tw11701317602307152702:=0
def tw10395970751126082428:=0
def tw2405320140841802517:=0
def tw15184563543961940276:=0
def tw582186283281534895:=0
def tw2506946055009638162:=0
def tw16105383791678260491:=0
def tw3753567894792812813:=0
def tw9297953041314710626:=0
def tw10055056316139426741:=0
def tw10507328142163274828:=0
def tw14500453287961312566:=0
def tw6728764001729814829:=0
def tw9560227155363332448:=0
def tw10506348018863656312:=0
def tw11356926584696806491:=0
def tw16438329639106044308:=0
def tw18407484384111833461:=0
def tw18415552415299356725:=0
def tw15235699619122846082:=0
def tw3673849252141701791:=0
def tw9206645909908779675:=0
def tw11753695263296495107:=0
def tw9567121217024997760:=0
def tw1943810854279925464:=0
def tw17864818385913498428:=0
def tw14867411205583536745:=0
def tw11571248899142549052:=0
def tw11308777795233007842:=0
def tw12420631529439020913:=0
def tw16893796666858171081:=0
def tw10962090804891748528:=0
def tw10488574507247083954:=0
def tw12721561355688053101:=0
def tw9888968438564759954:=0
def tw2681795573964451041:=0
def tw2270022378257363243:=0
def tw3761518725351293110:=0
def tw15885664004939110844:=0
def tw782371477848025872:=0
def tw1109094689740528732:=0
def tw812908837115719280:=0
def tw18281386830891563258:=0
def tw1794215997832908566:=0
def tw1708633656689742691:=0
end PySem.W.Fast
open PySem PySem.W PyProof.Rows _3 _4
set_option maxRecDepth 100000 in
set_option maxHeartbeats 0 in
theorem PySem.Challenge.cw_vatyard_k39_cheapest_keeps_holds : PySem.Challenge.rw_vatyard_k39_cheapest_keeps.Holds := by
  w_on; o_law; k_head; (case hw => w_witness2)
  k_fill
  refine _3.law_walk (k := 8) (l := PySem.Challenge.rw_vatyard_k39_cheapest_keeps) ⟨rfl, by decide, rfl, by decide⟩ rfl rfl (fun w h Yv => PySem.W.kIn_of Yv) ?F
  case F =>
    intro w mg fa h KX G hmg
    refine' _39.all_mk KX G hmg ?jB ?jF ?jD ?jC ?kK ?qA ?qO ?kS ?qP ?qB ?kT ?qQ ?jM ?jZ ?jW ?kA ?kF ?jX ?jY ?jR ?qC ?qR ?qD ?qE ?kG ?kL ?kU ?kB ?kM ?qW ?g_BITS ?qT ?qS ?qN ?jE ?qU ?jG ?jJ ?jK ?qI ?qH ?jH ?kE ?kO ?qV ?qG ?jQ ?kt
    (case jB => walk_at "cls")
    (case jF => k_is)
    (case jD => k_is)
    (case jC => k_is)
    (case kK => walk_at "top")
    (case qA => walk_at "top")
    (case qO => walk_at "top")
    (case kS => walk_at "top")
    (case qP => walk_at "top")
    (case qB => walk_at "top")
    (case kT => walk_at "top")
    (case qQ => walk_at "top")
    (case jM => walk_at "meth")
    (case jZ => walk_at "meth")
    (case jW => walk_at "meth")
    (case kA => walk_at "meth")
    (case kF => walk_at "meth")
    (case jX => walk_at "meth")
    (case jY => walk_at "meth")
    (case jR => walk_at "meth")
    (case qC => walk_at "topn")
    (case qR => walk_at "top")
    (case qD => walk_at "top")
    (case qE => walk_at "top")
    (case kG => walk_at "top")
    (case kL => walk_at "top")
    (case kU => walk_at "top")
    (case kB => walk_at "top")
    (case kM => walk_at "top")
    (case qW => walk_at "top")
    (case g_BITS => k_is)
    (case qT => k_is)
    (case qS => k_is)
    (case qN => k_is)
    (case jE => k_is)
    (case qU => k_is)
    (case jG => k_is)
    (case jJ => k_is)
    (case jK => k_is)
    (case qI => k_is)
    (case qH => k_is)
    (case jH => k_is)
    (case kE => k_is)
    (case kO => k_is)
    (case qV => k_is)
    (case qG => k_is)
    (case jQ => k_is)
    (case kt => exact ⟨fun t ht T hT => by simp only [List.mem_cons, List.not_mem_nil, or_false] at ht hT; rcases ht with rfl | rfl | rfl | rfl | rfl | rfl <;> rcases hT with rfl | rfl | rfl | rfl | rfl <;> rfl⟩)
