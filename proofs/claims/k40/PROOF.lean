import PyProof.Rows.All
import Wide.All
import OpenK.AllK
import Wide.FinOn
import Lean
import PyProof.EqAt
import PyProof.EqKinds
import PyProof.TupleCall
import PyProof.StrLawsIn
import PyProof.StrLawsJoin
import PyProof.ZipIter
import PyProof.EnumFor
import PyProof.EnumMake
import PyProof.EnumStmt
import PyProof.DictItems
import KE.KPairComp
import KE.KSortTup
import PyProof.DictWalks
import PyProof.Rows.SortWalk
import PyProof.ReprRoads
import PyProof.ReprLen
import PyProof.NsDelKeeps
import PyProof.RulesAs
import PyProof.AttrMissHeap
import KE.KDictOf
import PyProof.MinMaxWalk
import PyProof.ConsumeWalk
import PyProof.ListRange
import KE.KDictLaws
import KE.KRevIter
import PyProof.Rows.RuleM_int
import PySem.Challenge.RW_vatyard_k40_heights_fit
set_option Elab.async false
set_option genSizeOf false
set_option compiler.extract_closed false
set_option linter.all false
set_option maxRecDepth 100000
set_option maxHeartbeats 4000000
open List renaming length_map → uA, getElem?_eq_getElem → uB, mem_cons → uE, mem_append → uG, getElem?_map → uI, map_append → uJ, map_cons → uK, range → uL, mem_map → uM, replicate → uP, getD_eq_getElem?_getD → uQ, size_toArray → uS, nodup_cons → uU, length_set → uW, nodup_append → uX, getElem?_eq_some_iff → uZ, lookup_cons → u3, getElem?_append_left → u5, length → u8, getElem?_append_right → u9, length_append → vA, mem_cons_of_mem → vB, map_map → vC, getElem?_eq_none → vF, mem_of_getElem? → vI, mem_cons_self → vK, getElem?_set_self → vL, getElem?_set_ne → vO, length_cons → vP, mem_iff_getElem → vQ, lookup → vR, length_take → vS, getElem?_replicate → vT, length_range → vV, getElem_mem → vW, mem_append_right → vY, filterMap_cons → v9, getElem?_set → wA, mem_range → wD, append_nil → wE, append_assoc → wG, find?_cons → wH, any_cons → wK, take_succ → wM, take_length → wN, length_zip → wO, length_replicate → wP, replicate_succ → wR, sum_append → wS, sum_cons → wT, getElem_range → wU, length_mapIdx → wV, map_nil → wZ, flatten_cons → w8, find?_cons_of_neg → xA, map_set → xB, length_singleton → xI, forIn_cons → xJ, forIn_nil → xL, length_nil → xM, getElem?_mapIdx → xO, map_congr_left → xP, length_reverse → xR, getElem_inj → xT, of_mem_zip → xW, zipIdx_cons → xY, zipIdx_nil → xZ, map_eq_nil_iff → x6, filter_cons_of_neg → x8, mem_map_of_mem → x9, ext_getElem → yA, getElem_map → yB, map → yC, find?_cons_of_pos → yD, getElem?_eq_none_iff → yF, mem_filter → yH, mem_append_left → yI, filterMap_map → yL, all_cons → yM, filterMap → yQ, dropLast_eq_take → yR, set_set → yT, ext_getElem? → yU, filter_cons_of_pos → yV, range_succ → yW, length_pos_iff → yX, getElem_zip → yZ, any_eq_true → y9, mem_filterMap → zD, getElem?_take_of_lt → zF, length_filter_le → zJ, length_eq_zero_iff → zL, filterMap_append → zM, eq_nil_of_length_eq_zero → zO, mem_of_find?_eq_some → zP, pairwise_cons → zQ, getLast?_cons → zR, getLast?_eq_some_iff → zS, dropLast_concat → zT, flatten_replicate_singleton → zU, map_replicate → zV, append_of_mem → zW
open PySem.PyData renaming int → uC, list → vG, tuple → vU
open PySem.Str renaming ofString → uD
open Nat renaming le_refl → uF, ne_of_lt → uY, lt_of_lt_of_le → vE, le_trans → vJ, lt_irrefl → vM, lt_or_ge → vN, zero_le → vZ, lt_succ_of_lt → w9, min → xC, le_of_lt → xE, lt_succ_self → xF, le_succ → xG, le_of_succ_le → xK, add_sub_cancel → xQ, ne_of_gt → xU, le_of_eq → yK, log2_lt → yO, min_eq_left → yP, mul_le_mul_right → yY, min_self → y0, eq_zero_or_pos → zN
open PySem.Heap renaming get?_push_of_some → uH, lt_size → uN, get?_push_size → uT, size_push → vD, get?_update_other → wQ, get?_update_self → xH, get?_some_iff → zK
open Sum renaming inl → uO, inr → wJ
open PySem.Value renaming ref → uR, none → v8, isStrOf → wC, int → wW, str → wX, isInt → xD, bool → xS, float → yE
open Bool renaming false_ne_true → uV, false_eq_true → wL, and_eq_true → wY, eq_iff_iff → xV, not_eq_true → yN, and_eq_true_iff → zH
open Int renaming toNat_natCast → u4, le_refl → vH, mul_le_mul_of_nonneg_right → wB, le_trans → wI, add_mul → zA, mul_nonneg → zB, pow_pos → zC, fdiv_eq_ediv_of_nonneg → zE, le_ediv_iff_mul_le → zI, mul_le_mul_of_nonneg_left → zX, emod_lt_of_pos → zY
open Option renaming map_eq_some_iff → u6, some → u7, isSome_iff_exists → v7, isSome_map → xN, bind_eq_some_iff → yS, isSome_some → zG
open Array renaming length_toList → vX, getElem?_toList → xX, append_assoc → yG, toList → yJ
abbrev Fg:=PySem.W.Frag
namespace _2
open PySem PySem.Spec PyProof.Rows
abbrev Key:=Sum Int Str
def zto:Key->Value->Bool
|.inl k,v=>xD k v
|.inr x,v=>wC x v
def keyH (w:World):Key->Int
|.inl k=>hashInt k
|.inr x=>hashStr w x
theorem za1:∀ {k:Key} {v:Value},zto k v=true->(∃ i t,k=uO i/\v=wW i t) \/ (∃ x t,k=wJ x/\v=wX x t)
|.inl i,v,h=>by
  obtain ⟨t,e⟩:=Value.isInt_shape (k:=i) (v:=v) h
  exact .inl ⟨i,t,rfl,e⟩
|.inr x,v,h=>by
  obtain ⟨t,e⟩:=Value.isStrOf_shape (x:=x) (v:=v) h
  exact .inr ⟨x,t,rfl,e⟩
theorem zga (i:Int) (t:Tok):zto (.inl i) (.int i t)=true:=by simp [zto,xD]
theorem zej (x:Str) (t:Tok):zto (.inr x) (.str x t)=true:=by simp [zto,wC]
theorem zpy (a b:Int):decide ((uO a:Key)=uO b)=(a == b):=by
 by_cases e:a=b
 ·subst e;simp
 ·have h:¬ (uO a:Key)=uO b:=λ q=>e (uO.inj q)
  rw [decide_eq_false h]
  exact (beq_eq_false_iff_ne.mpr e).symm
theorem zcz (a b:Str):decide ((wJ a:Key)=wJ b)=decide (a=b):=by
 by_cases e:a=b
 ·subst e;simp
 ·have h:¬ (wJ a:Key)=wJ b:=λ q=>e (wJ.inj q)
  rw [decide_eq_false h,decide_eq_false e]
theorem zo11 (a:Int) (b:Str):decide ((uO a:Key)=wJ b)=false:=decide_eq_false (λ q=>nomatch q)
theorem zbz (a:Str) (b:Int):decide ((wJ a:Key)=uO b)=false:=decide_eq_false (λ q=>nomatch q)
def zu0 (prog:Program) (w:World):PySem.KeyKind prog w Key where
 is:=zto
 hash:=keyH w
 inj:=λ v a b ha hb=>by
  rcases za1 ha with ⟨i,t,rfl,rfl⟩|⟨x,t,rfl,rfl⟩
  ·rcases za1 hb with ⟨j,u,rfl,e⟩|⟨y,u,rfl,e⟩
   ·injection e with e1 _;rw [e1]
   ·exact nomatch e
  ·rcases za1 hb with ⟨j,u,rfl,e⟩|⟨y,u,rfl,e⟩
   ·exact nomatch e
   ·injection e with e1 _;rw [e1]
 byValue:=λ k v h=>by
  rcases za1 h with ⟨i,t,rfl,rfl⟩|⟨x,t,rfl,rfl⟩ <;> rfl
 pyHash:=λ hv h=>by
  rcases za1 hv with ⟨i,t,rfl,rfl⟩|⟨x,t,rfl,rfl⟩
  ·exact wpAny_pyHash_int h
  ·exact wpAny_pyHash_str h
 eqBool:=λ hu hv h=>by
  rcases za1 hu with ⟨i,t,rfl,rfl⟩|⟨x,t,rfl,rfl⟩
  ·rcases za1 hv with ⟨j,u,rfl,rfl⟩|⟨y,u,rfl,rfl⟩
   ·rw [zpy] at h;exact wpAny_eqBool_int h
   ·rw [zo11] at h;exact SeqAt.EqAt.int_str i t y u _ _ _ _ h
  ·rcases za1 hv with ⟨j,u,rfl,rfl⟩|⟨y,u,rfl,rfl⟩
   ·rw [zbz] at h;exact SeqAt.EqAt.str_int x t j u _ _ _ _ h
   ·rw [zcz] at h;exact wpAny_eqBool_str h
 «strs»:=λ k x t v h=>by
  rcases za1 h with ⟨i,u,rfl,e⟩|⟨y,u,rfl,e⟩
  ·exact nomatch e
  ·injection e with e1 _
   subst e1
   cases v <;> rfl
theorem zre (prog:Program) (w:World) (i:Int) (t:Tok):(zu0 prog w).is (.inl i) (.int i t)=true:=zga i t
theorem zaf (prog:Program) (w:World) (x:Str) (t:Tok):(zu0 prog w).is (.inr x) (.str x t)=true:=zej x t
inductive V where
|non|bl (b:Bool)|int (i:Int)|str (x:Str)|byt (b:Array UInt8)|flt (b:UInt64)|ref (a:Addr)|ty (n:String)
 deriving DecidableEq
def RelV:V->Value->Prop
|.non,u=>u=v8
|.bl b,u=>u=xS b
|.int i,u=>∃ t,u=wW i t
|.str x,u=>∃ t,u=wX x t
|.byt b,u=>∃ t,u=Value.bytes b t
|.flt b,u=>∃ t,u=yE b t
|.ref a,u=>u=uR a
|.ty n,u=>u=Value.type n
abbrev Vals:List V->List Value->Prop:=Paired RelV
theorem Vals.length {xs:List V} {us:List Value} (r:Vals xs us):xs.length=us.length:=Paired.length r
theorem Vals.get:∀ {xs:List V} {us:List Value} {i:Nat} {x:V},Vals xs us->xs[i]?=some x->∃ u,us[i]?=some u/\RelV x u
|_,_,_,_,.nil,e=>by simp at e
|_,_,0,_,.cons r _,e=>by simp at e;subst e;exact ⟨_,rfl,r⟩
|_,_,i+1,x,.cons _ t,e=>by
  obtain ⟨u,h1,h2⟩:=Vals.get (i:=i) (x:=x) t (by simpa using e)
  exact ⟨u,by simpa using h1,h2⟩
theorem Vals.set {x:V} {u:Value} (r:RelV x u):∀ {xs:List V} {us:List Value} (i:Nat),Vals xs us->Vals (xs.set i x) (us.set i u)
|_,_,_,.nil=>.nil
|_,_,0,.cons _ t=>.cons r t
|_,_,i+1,.cons q t=>.cons q (Vals.set r i t)
theorem Vals.append:∀ {xs ys:List V} {us ws:List Value},Vals xs us->Vals ys ws->Vals (xs++ys) (us++ws)
|_,_,_,_,.nil,s=>s
|_,_,_,_,.cons r t,s=>.cons r (Vals.append t s)
theorem Vals.take:∀ {xs:List V} {us:List Value} (n:Nat),Vals xs us->Vals (xs.take n) (us.take n)
|_,_,0,_=>.nil
|_,_,_+1,.nil=>.nil
|_,_,n+1,.cons r t=>.cons r (Vals.take n t)
theorem Vals.drop:∀ {xs:List V} {us:List Value} (n:Nat),Vals xs us->Vals (xs.drop n) (us.drop n)
|_,_,0,r=>r
|_,_,_+1,.nil=>.nil
|_,_,n+1,.cons _ t=>Vals.drop n t
theorem Vals.none_of:∀ {xs:List V} {us:List Value} {i:Nat},Vals xs us->xs[i]?=none->us[i]?=none:=λ {xs us i} r e=>by
 have h1:=r.length
 have h2:xs.length<=i:=yF.mp e
 exact yF.mpr (by lia)
def RelO:Option V->Option Value->Prop
|some v,some u=>RelV v u
|none,none=>True
|_,_=>False
def KV {κ:Type}:List (κ×V)->List (κ×Value)->Prop:=Paired λ (p:κ×V) (q:κ×Value)=>p.1=q.1/\RelV p.2 q.2
def kV:Key->V
|.inl i=>.int i
|.inr x=>.str x
inductive HO where
 /-- a list -/
|lst (xs:List V)
 /-- a tuple (never changes) -/
|tup (xs:List V)
 /-- a dict whose keys are ints and texts;one whose keys are tuples of ints and texts (the empty one is both) -/
|dK (kvs:List (Key×V))|dT (kvs:List (List Key×V))
 /-- a set of ints: its members,its size -/
|set (S:Int->Bool) (n:Nat)
 /-- an instance of the class at C,its dict at dx,its attributes -/
|ins (C dx:Addr) (fs:List (Str×V))
 /-- the dict of the instance at x -/
|own (x:Addr)
 /-- the dict of an exception -/
|xd (fs:List (Str×V))
 /-- a bound method,f of x -/
|met (f x:Addr)
 /-- a range object lo,lo+1,.. below hi -/
|rng (lo hi:Int)
 /-- a thing that is known to the object (the script;a dict while a loop walks it): read,never written while it is so -/
|frz (o:Obj) (u:HO)
 /-- a code object's table -/
|tbl (ps:Array Value)
 /-- any other thing,by what is true of its one object (a def of one's own: SetO a S n:=HO.ext λ h=>..) -/
|ext (φ:Heap->Prop)
abbrev Hp:=Addr->Option HO
def upd (H:Hp) (a:Addr) (o:HO):Hp:=λ b=>if b=a then some o else H b
theorem zi0 {H:Hp} {a:Addr} {o:HO}:upd H a o a=some o:=by unfold upd;rw [if_pos rfl]
theorem zm0 {H:Hp} {a b:Addr} {o:HO} (h:b≠a):upd H a o b=H b:=by unfold upd;rw [if_neg h]
theorem zi71 {H:Hp} {a b:Addr} {o u:HO} (h:H a=some o) (h':H b=some u) (d:o≠u):a≠b:=by
 intro e;subst e;rw [h] at h';exact d (u7.inj h')
theorem zt2 {H:Hp} {a b:Addr} {o:HO} (h:H a=some o) (h':H b=none):a≠b:=by
 intro e;subst e;rw [h] at h';cases h'
section
variable (P:Program) (w:World)
def ObjOk (H:Hp) (h:Heap) (a:Addr):HO->Prop
|.lst xs=>xs.length<=sizeLine/\∃ (its:List Value) (n:Nat),Vals xs its/\h.get? a=some { cls:=.type "list",data:=.seq its.toArray n }
|.tup xs=>xs.length<=sizeLine/\∃ its:List Value,Vals xs its/\IsTup h a its.toArray
|.dK kvs=>kvs.length<=sizeLine/\(a == sysModules)=false/\∃ vs,KV kvs vs/\h.DictOf (zu0 P w) a vs
|.dT kvs=>kvs.length<=sizeLine/\(a == sysModules)=false/\∃ xs:List (List Key×Addr×Value),
   Paired (λ (p:List Key×V) (q:List Key×Addr×Value)=>p.1=q.1/\H q.2.1=some (.tup (p.1.map kV))/\RelV p.2 q.2.2) kvs xs /\
   ∃ o es ep,h.get? a=some o/\o.ExactDict/\o.data=.dict es ep/\es.toList=xs.map (entryOfKey (tupleKind (zu0 P w)))/\(xs.map (·.1)).Nodup
|.set S n=>h.SetOf (intKind P w) a S n
|.ins C dx fs=>H dx=some (.own a)/\fs.length<=1000/\dx≠a/\h.get? a=some (PySem.W.instObj C dx) /\
   ∃ mA,h.Ns1 dx mA/\(∀ f,RelO (fs.lookup f) (mA f))/\PySem.Within mA (fs.map (·.1))
|.own _=>∃ o,h.get? a=some o
|.xd fs=>∃ mA,h.Ns1 a mA/\∀ f,RelO (fs.lookup f) (mA f)
|.rng lo hi=>∃ t u v,h.get? a=some { cls:=.type "range",data:=.fields #[.int lo t,.int hi u,.int 1 v] }
|.frz o u=>h.get? a=some o/\ObjOk H h a u
|.tbl ps=>h.get? a=some { cls:=.none,data:=.fields ps }
|.met f x=>h.get? a=some (PySem.W.methodObj (.ref f) (.ref x))
|.ext φ=>φ h/\(∃ o,h.get? a=some o)/\∀ h1 h2:Heap,φ h1->(∀ o,h1.get? a=some o->h2.get? a=some o)->φ h2
def HOk (H:Hp) (h:Heap):Prop:=∀ a o,H a=some o->ObjOk P w H h a o
end
section
variable {P:Program} {w:World} {H H':Hp} {h h':Heap} {a:Addr} {o:HO}
theorem ObjOk.lt (x:ObjOk P w H h a o):a < h.objs.size:=by
 cases o with
|lst xs=>obtain ⟨_,_,_,_,e⟩:=x;exact uN e
|tup xs=>obtain ⟨_,_,_,p⟩:=x;exact p.lt
|dK kvs=>obtain ⟨_,_,_,_,o,_,_,e,_⟩:=x;exact uN e
|dT kvs=>obtain ⟨_,_,_,_,o,_,_,e,_⟩:=x;exact uN e
|set S n=>obtain ⟨o,_,_,_,e,_⟩:=x;exact uN e
|ins C dx fs=>obtain ⟨_,_,_,e,_⟩:=x;exact uN e
|own y=>obtain ⟨_,e⟩:=x;exact uN e
|xd fs=>obtain ⟨_,⟨_,_,_,e,_⟩,_⟩:=x;exact uN e
|rng lo hi=>obtain ⟨_,_,_,e⟩:=x;exact uN e
|frz ob u=>obtain ⟨e,_⟩:=x;exact uN e
|tbl ps=>exact uN (show h.get? a=some _ from x)
|met f y=>exact uN (show h.get? a=some _ from x)
|ext φ=>obtain ⟨_,⟨_,e⟩,_⟩:=x;exact uN e
theorem Paired.mapP {α β:Type} {F G:α->β->Prop}:∀ {l₁:List α} {l₂:List β},Paired F l₁ l₂->(∀ a b,F a b->G a b)->Paired G l₁ l₂
|_,_,.nil,_=>.nil
|_,_,.cons r t,f=>.cons (f _ _ r) (Paired.mapP t f)
theorem ObjOk.stay (x:ObjOk P w H h a o) (k:∀ b u,(b=a \/ H b=some (.own a))->h.get? b=some u->h'.get? b=some u)
  (ho:∀ b,H b=some (.own a)->H' b=some (.own a)) (ht:∀ b xs,H b=some (.tup xs)->H' b=some (.tup xs)):ObjOk P w H' h' a o:=by
 induction o with
|lst xs=>obtain ⟨z,its,n,r,e⟩:=x;exact ⟨z,its,n,r,k _ _ (.inl rfl) e⟩
|tup xs=>obtain ⟨z,its,r,ob,e,c⟩:=x;exact ⟨z,its,r,ob,k _ _ (.inl rfl) e,c⟩
|dK kvs=>obtain ⟨z,y,vs,r,ob,es,ep,e,c⟩:=x;exact ⟨z,y,vs,r,ob,es,ep,k _ _ (.inl rfl) e,c⟩
|dT kvs =>
  obtain ⟨z,y,xs,r,ob,es,ep,e,c⟩:=x
  exact ⟨z,y,xs,Paired.mapP r λ p q z=>⟨z.1,ht _ _ z.2.1,z.2.2⟩,ob,es,ep,k _ _ (.inl rfl) e,c⟩
|set S n=>obtain ⟨ob,es,ep,t,e,c⟩:=x;exact ⟨ob,es,ep,t,k _ _ (.inl rfl) e,c⟩
|ins C dx fs =>
  obtain ⟨d,z,ne,e,mA,⟨od,es,ep,e2,c⟩,r⟩:=x
  exact ⟨ho _ d,z,ne,k _ _ (.inl rfl) e,mA,⟨od,es,ep,k _ _ (.inr d) e2,c⟩,r⟩
|own y=>obtain ⟨ob,e⟩:=x;exact ⟨ob,k _ _ (.inl rfl) e⟩
|xd fs=>obtain ⟨mA,⟨od,es,ep,e,c⟩,r⟩:=x;exact ⟨mA,⟨od,es,ep,k _ _ (.inl rfl) e,c⟩,r⟩
|rng lo hi=>obtain ⟨t,u,v,e⟩:=x;exact ⟨t,u,v,k _ _ (.inl rfl) e⟩
|frz ob u ih=>obtain ⟨e,q⟩:=x;exact ⟨k _ _ (.inl rfl) e,ih q⟩
|tbl ps =>
  have e:h.get? a=some { cls:=.none,data:=.fields ps }:=x
  show h'.get? a=some { cls:=.none,data:=.fields ps }
  exact k a _ (.inl rfl) e
|met f y =>
  have e:h.get? a=some (PySem.W.methodObj (.ref f) (.ref y)):=x
  show h'.get? a=some (PySem.W.methodObj (.ref f) (.ref y))
  exact k a _ (.inl rfl) e
|ext φ=>obtain ⟨p,⟨o,e⟩,st⟩:=x;exact ⟨st _ _ p λ o q=>k _ _ (.inl rfl) q,⟨o,k _ _ (.inl rfl) e⟩,st⟩
theorem HOk.lt (x:HOk P w H h) (e:H a=some o):a < h.objs.size:=(x a o e).lt
theorem HOk.fresh (x:HOk P w H h) (e:h.objs.size<=a):H a=none:=by
 cases q:H a with
|none=>rfl
|some u=>exact absurd (vE (x.lt q) e) (vM _)
theorem HOk.kept (x:HOk P w H h) (k:∀ b u,h.get? b=some u->h'.get? b=some u):HOk P w H h':=λ a o e =>
 (x a o e).stay (λ b u _ q=>k b u q) (λ _ q=>q) λ _ _ q=>q
theorem HOk.laid (x:HOk P w H h) (k:∀ b u,h.get? b=some u->h'.get? b=some u) (hp:h.objs.size<=a) (new:ObjOk P w (upd H a o) h' a o):HOk P w (upd H a o) h':=λ b u e=>by
 have hn:=x.fresh hp
 by_cases hb:b=a
 ·subst hb;rw [zi0] at e;cases e;exact new
 ·rw [zm0 hb] at e
  exact (x b u e).stay (λ c v _ q=>k c v q) (λ c q=>by rw [zm0 (zt2 q hn)];exact q) λ c xs q=>by rw [zm0 (zt2 q hn)];exact q
end
def Rd (H:Hp) (a:Addr) (u:HO):Prop:=H a=some u \/ ∃ o,H a=some (.frz o u)
theorem Rd.ok {P:Program} {w:World} {H:Hp} {h:Heap} {a:Addr} {u:HO} (r:Rd H a u) (x:HOk P w H h):ObjOk P w H h a u:=by
 rcases r with r|⟨o,r⟩
 ·exact x a u r
 ·obtain ⟨_,q⟩:=x a _ r
  exact q
def Mut:Option HO->Prop
|some (.lst _)=>True
|some (.dK _)=>True
|some (.dT _)=>True
|some (.set _ _)=>True
|some (.ins _ _ _)=>True
|some (.ext _)=>True
|_=>False
section
variable {P:Program} {w:World} {H:Hp} {h h':Heap} {x e:Addr} {o':HO}
theorem HOk.write (ok:HOk P w H h) (mu:Mut (H x)) (he:e=x \/ H e=some (.own x)) (k:∀ b u,b≠e->h.get? b=some u->h'.get? b=some u) (heo:∃ u,h'.get? e=some u)
  (new:ObjOk P w (upd H x o') h' x o'):HOk P w (upd H x o') h':=λ b u q=>by
 have nown:∀ c y,H c=some (.own y)->c≠x:=λ c y r z=>by subst z;rw [r] at mu;exact mu
 have ntup:∀ c xs,H c=some (.tup xs)->c≠x:=λ c xs r z=>by subst z;rw [r] at mu;exact mu
 by_cases hb:b=x
 ·subst hb;rw [zi0] at q;cases q;exact new
 ·rw [zm0 hb] at q
  by_cases hbe:b=e
  ·have q':H b=some (.own x):=by
    rcases he with z|z
    ·exact absurd (hbe.trans z) hb
    ·rw [hbe];exact z
   rw [q] at q';cases q'
   obtain ⟨v,hv⟩:=heo
   exact ⟨v,by rw [hbe];exact hv⟩
  ·refine (ok b u q).stay (λ c v hc r=>k c v ?_ r) (λ c r=>by rw [zm0 (nown c b r)];exact r) λ c xs r=>by rw [zm0 (ntup c xs r)];exact r
   rcases hc with rfl|hc
   ·exact hbe
   ·rintro rfl
    rcases he with z|z
    ·exact nown c b hc z
    ·rw [hc] at z;cases z;exact hb rfl
end
structure Un (fs ex:List Addr) (H H':Hp) (h h':Heap):Prop where
 keep:∀ b o,h.get? b=some o->H b=none->b ∉ fs->b ∉ ex->h'.get? b=some o
 slot:∀ b o,h.get? b=some o->H b=none->b∈fs->b ∉ ex->∃ sl,h'.get? b=some { o with slots:=sl }
 free:∀ b o,h.get? b=some o->H b=none->b ∉ ex->H' b=none
 there:∀ b o,h.get? b=some o->b ∉ ex->∃ o',h'.get? b=some o'
 tups:∀ b xs,H b=some (.tup xs)->H' b=some (.tup xs)
 frzs:∀ b o u,H b=some (.frz o u)->H' b=some (.frz o u)
 tbls:∀ b ps,H b=some (.tbl ps)->∃ more,H' b=some (.tbl (ps++more))
section
variable {fs fs' ex ex':List Addr} {H H1 H2:Hp} {h h1 h2 h':Heap} {a x e:Addr} {o:HO}
theorem Un.any (u:Un fs ex H H1 h h1) {b:Addr} {ob:Obj} (q:h.get? b=some ob) (n:H b=none) (hx:b ∉ ex):∃ sl,h1.get? b=some { ob with slots:=sl }:=by
 by_cases hb:b∈fs
 ·exact u.slot b ob q n hb hx
 ·exact ⟨ob.slots,u.keep b ob q n hb hx⟩
theorem Un.trans (a:Un fs ex H H1 h h1) (b:Un fs ex H1 H2 h1 h2):Un fs ex H H2 h h2 where
 keep:=λ c ob q n hc hx=>b.keep c ob (a.keep c ob q n hc hx) (a.free c ob q n hx) hc hx
 slot:=λ c ob q n hc hx=>by
  obtain ⟨sl,e1⟩:=a.slot c ob q n hc hx
  obtain ⟨sl',e2⟩:=b.slot c _ e1 (a.free c ob q n hx) hc hx
  exact ⟨sl',e2⟩
 free:=λ c ob q n hx=>by
  obtain ⟨o',e1⟩:=a.there c ob q hx
  exact b.free c o' e1 (a.free c ob q n hx) hx
 there:=λ c ob q hx=>by
  obtain ⟨o',e1⟩:=a.there c ob q hx
  exact b.there c o' e1 hx
 tups:=λ c xs q=>b.tups c xs (a.tups c xs q)
 frzs:=λ c ob xs q=>b.frzs c ob xs (a.frzs c ob xs q)
 tbls:=λ c ps q=>by
  obtain ⟨m1,e1⟩:=a.tbls c ps q
  obtain ⟨m2,e2⟩:=b.tbls c _ e1
  exact ⟨m1++m2,by rw [e2,yG]⟩
theorem Un.kept (k:∀ b u,h.get? b=some u->h'.get? b=some u):Un fs ex H H h h' :=
 ⟨λ b ob q _ _ _=>k b ob q,λ b ob q _ _ _=>⟨ob.slots,k b ob q⟩,λ _ _ _ n _=>n,λ b ob q _=>⟨ob,k b ob q⟩,λ _ _ q=>q,λ _ _ _ q=>q,λ _ ps q=>⟨#[],by rw [q];simp⟩⟩
theorem Un.refl:Un fs ex H H h h:=Un.kept λ _ _ q=>q
theorem Un.laid (k:∀ b u,h.get? b=some u->h'.get? b=some u) (hp:h.objs.size<=a) (hn:H a=none):Un fs ex H (upd H a o) h h' where
 keep:=λ b u q _ _ _=>k b u q
 slot:=λ b u q _ _ _=>⟨u.slots,k b u q⟩
 free:=λ b u q n _=>by rw [zm0 (uY (vE (uN q) hp))];exact n
 there:=λ b u q _=>⟨u,k b u q⟩
 tups:=λ b xs q=>by rw [zm0 (zt2 q hn)];exact q
 frzs:=λ b u xs q=>by rw [zm0 (zt2 q hn)];exact q
 tbls:=λ b ps q=>⟨#[],by rw [zm0 (zt2 q hn),q];simp⟩
theorem Un.write (mu:Mut (H x)) (he:e=x \/ H e=some (.own x)) (k:∀ b u,b≠e->h.get? b=some u->h'.get? b=some u) (heo:∃ u,h'.get? e=some u):Un fs ex H (upd H x o) h h':=by
 have hx:∀ b,H b=none->b≠x:=λ b n z=>by subst z;rw [n] at mu;exact mu
 have hb:∀ b,H b=none->b≠e:=λ b n z=>by
  subst z
  rcases he with r|r
  ·exact hx b n r
  ·rw [n] at r;cases r
 have hm:∀ b u,H b=some u->¬ Mut (some u)->b≠x:=λ b u q nm z=>by subst z;rw [q] at mu;exact nm mu
 refine ⟨λ b u q n _ _=>k b u (hb b n) q,λ b u q n _ _=>⟨u.slots,k b u (hb b n) q⟩,λ b u q n _=>by rw [zm0 (hx b n)];exact n,λ b u q _=>?_,
  λ b xs q=>by rw [zm0 (hm b _ q λ z=>z)];exact q,λ b u xs q=>by rw [zm0 (hm b _ q λ z=>z)];exact q,λ b ps q=>⟨#[],by rw [zm0 (hm b _ q λ z=>z),q];simp⟩⟩
 by_cases hbe:b=e
 ·subst hbe;exact heo
 ·exact ⟨u,k b u hbe q⟩
theorem Un.mono (u:Un fs ex H H1 h h1) (hs:∀ b∈fs,b∈fs') (hx:∀ b∈ex,b∈ex'):Un fs' ex' H H1 h h1 :=
 ⟨λ b ob q n hb he=>u.keep b ob q n (λ z=>hb (hs b z)) λ z=>he (hx b z),λ _ _ q n _ he=>u.any q n λ z=>he (hx _ z),λ b ob q n he=>u.free b ob q n λ z=>he (hx b z),λ b ob q he=>u.there b ob q λ z=>he (hx b z),u.tups,u.frzs,u.tbls⟩
end
def trk (h:Heap) (H:Hp):List Addr:=(uL h.objs.size).filter λ a=>(H a).isSome
def hidT (h:Heap) (H:Hp):Heap:=PySem.W.hideAll h (trk h H)
theorem zyj (h:Heap) (H:Hp):(hidT h H).objs.size=h.objs.size:=PySem.W.hideAll_size _ _
theorem zvn {h:Heap} {H:Hp} {b:Addr} {o:Obj} (e:h.get? b=some o) (n:H b=none):(hidT h H).get? b=some o :=
 PySem.W.hideAll_get _ e λ hm=>by
  have q:(H b).isSome=true:=(yH.mp hm).2
  rw [n] at q;simp at q
theorem zjt {h:Heap} {H:Hp} {b:Addr} {o:Obj} (e:(hidT h H).get? b=some o):h.get? b=some o/\H b=none:=by
 have e':h.get? b=some o:=PySem.W.of_hideAll (trk h H) e
 refine ⟨e',?_⟩
 cases q:H b with
|none=>rfl
|some x =>
  have hm:b∈trk h H:=yH.mpr ⟨wD.mpr (uN e'),by simp [q]⟩
  have z:(hidT h H).get? b=none:=PySem.W.hideAll_none (trk h H) hm
  rw [z] at e;cases e
def zet (g h:Heap) (L:Addr):List (Addr×Obj):=(uL h.objs.size).filterMap λ a=>if a=L \/ (g.get? a).isSome=true then none else (h.get? a).map λ o=>(a,o)
def rest (g h:Heap) (L d:Addr):List (Addr×Obj):=(zet g h L).filter λ p=>decide (p.1≠d)
structure Mod (K:Fg) (mg:Str->Option Value) (base:Heap):Prop where
 kin:K.In base
 glob:base.Ns mainGlobals mg
 blt:∃ mb,base.Ns builtinsNs mb/\∀ x:Str,x ≠ "__name__"->mb x=bootBuiltins x
 nolimit:base.NoLimit
structure Cx where
 prog:Program
 w:World
 K:Fg
 mg:Str->Option Value
 base:Heap
 A:Around
 N:List Str
 s₀:Shared
 H₀:Hp
 env:Env
 outer:List Env
 stack:List Env
 ex:List Addr
 fn:Str->Bool
 calm:Bool
 pn:List (Addr×Obj)
 xe:Value->Shared->Prop
def frs (l:List Env):List Addr:=l.filterMap (·.frame)
abbrev Cx.fs (X:Cx):List Addr:=frs X.outer
def Vis (sc:Scope) (x:Str):Prop:=sc.names.lookup x=some .local \/ sc.names.lookup x=some .cell \/ sc.names.lookup x=some .free
def Loc (sc:Scope) (x:Str):Prop:=sc.names.lookup x=some .local \/ sc.names.lookup x=some .cell
def Look (env:Env) (h:Heap) (m:Str->Option Value) (x:Str) (u:Value):Prop :=
 (env.kindOf x=some .local/\m x=some u) \/ ((env.kindOf x=some .cell \/ env.kindOf x=some .free)/\∃ c,env.cells.lookup x=some c/\h.IsCell c (some u))
structure Cx.Ok (X:Cx):Prop where
 mod:Mod X.K X.mg X.base
 kind:X.env.scope.kind=.function
 glob:X.env.globals=mainGlobals
 blt:X.env.builtins=builtinsNs
 above:X.s₀.heap.objs.size<=X.env.locals
 inj:∀ x y c,X.env.cells.lookup x=some c->X.env.cells.lookup y=some c->x=y
 has:∀ x,(X.env.kindOf x=some .cell \/ X.env.kindOf x=some .free)->∃ c,X.env.cells.lookup x=some c
 cab:∀ x c,X.fn x=true->X.env.cells.lookup x=some c->X.s₀.heap.objs.size<=c
 hd:X.calm=true->X.A.handled=none
 frames:X.A.frames=some X.stack
 stk:X.stack=X.outer \/ (X.stack=X.env :: X.outer/\X.env.frame=some X.env.locals)
 exf:∀ b∈X.ex,b≠X.env.locals/\∀ x c,X.env.cells.lookup x=some c->c≠b
 bs:∀ b o,X.base.get? b=some o->X.s₀.heap.get? b=some o/\X.H₀ b=none
 bsz:X.base.objs.size<=X.s₀.heap.objs.size
 noex:∀ b o,X.base.get? b=some o->b ∉ X.ex
 exfs:∀ b∈X.ex,b ∉ X.fs
 funs:X.s₀.heap.FunFrames X.base X.outer
 frf:∀ b∈X.fs,X.H₀ b=none
structure Inv (X:Cx) (pins:List (Addr×Obj)) (Y:List (Option V)) (H:Hp) (s:Shared):Prop where
 ok:X.Ok
 os:s.os=X.s₀.os
 bare:AllBare s.gens
 base:Un X.fs X.ex X.H₀ H X.s₀.heap s.heap
 loc:∃ m,s.heap.Ns X.env.locals m/\∀ (i:Nat) (x:Str) (v:V),X.N[i]?=some x->Y[i]?=some (some v)->Vis X.env.scope x->∃ u,RelV v u/\Look X.env s.heap m x u
 cell:∀ x c,X.env.cells.lookup x=some c->∃ v,s.heap.IsCell c v
 free:H X.env.locals=none
 freeC:∀ x c,X.env.cells.lookup x=some c->H c=none
 pin:∀ p∈X.pn++pins,s.heap.get? p.1=some p.2/\H p.1=none/\p.1≠X.env.locals/\p.1 ∉ X.fs/\∀ v,p.2.data≠.cell v
 hok:HOk X.prog X.w H s.heap
 len:Y.length=X.N.length
section
variable {X:Cx} {pins:List (Addr×Obj)} {Y:List (Option V)} {H H':Hp} {s:Shared} {h':Heap}
theorem Cx.Ok.nofr (ok:X.Ok) {b:Addr} {o:Obj} (e:X.base.get? b=some o):b ∉ X.fs:=λ hb=>by
 have:=(ok.funs.mem hb).1
 rw [e] at this;cases this
theorem Inv.bs (I:Inv X pins Y H s):∀ b o,X.base.get? b=some o->s.heap.get? b=some o/\H b=none:=λ b o e =>
 ⟨I.base.keep b o (I.ok.bs b o e).1 (I.ok.bs b o e).2 (I.ok.nofr e) (I.ok.noex b o e),I.base.free b o (I.ok.bs b o e).1 (I.ok.bs b o e).2 (I.ok.noex b o e)⟩
theorem Inv.bk (I:Inv X pins Y H s):∀ b o,X.base.get? b=some o->s.heap.get? b=some o:=λ b o e=>(I.bs b o e).1
theorem Inv.mod (I:Inv X pins Y H s):Mod X.K X.mg X.base:=I.ok.mod
theorem Inv.kIn (I:Inv X pins Y H s):X.K.In s.heap:=I.ok.mod.kin.keeps I.bk
theorem Inv.lt (I:Inv X pins Y H s):X.env.locals < s.heap.objs.size:=let ⟨_,hn,_⟩:=I.loc;hn.lt
theorem Inv.sz (I:Inv X pins Y H s):X.s₀.heap.objs.size<=s.heap.objs.size:=vJ I.ok.above (xE I.lt)
theorem Inv.nofs (I:Inv X pins Y H s) {a:Addr} (h:s.heap.objs.size<=a):a ∉ X.fs:=λ hb=>by
 obtain ⟨_,o,ho,_⟩:=I.ok.funs.mem hb
 exact absurd (vE (uN ho) (vJ I.sz h)) (vM _)
theorem Inv.cne (I:Inv X pins Y H s):∀ x c,X.env.cells.lookup x=some c->c≠X.env.locals:=λ x c e z=>by
 obtain ⟨v,o,ho,hd⟩:=I.cell x c e
 obtain ⟨m,⟨o',es,ep,ho',hd',_⟩,_⟩:=I.loc
 rw [z,ho'] at ho;cases ho;rw [hd'] at hd;cases hd
theorem Inv.funs (I:Inv X pins Y H s):s.heap.FunFrames X.base X.outer:=by
 have all:∀ (l:List Env),(∀ b∈frs l,b∈X.fs)->X.s₀.heap.FunFrames X.base l->s.heap.FunFrames X.base l:=by
  intro l
  induction l with
 |nil=>intro _ _;trivial
 |cons env r ih =>
   intro hs hl
   obtain ⟨hk,⟨L,o,hf,hn,ho,hd⟩,hr⟩:=hl
   have hL:L∈X.fs:=hs L (by unfold frs;rw [v9,hf];exact vK)
   obtain ⟨sl,e⟩:=I.base.slot L o ho (I.ok.frf L hL) hL λ z=>I.ok.exfs L z hL
   exact ⟨hk,⟨L,_,hf,hn,e,hd⟩,ih (λ b hb=>hs b (by unfold frs;rw [v9,hf];exact vB _ hb)) hr⟩
 exact all X.outer (λ _ hb=>hb) I.ok.funs
theorem Inv.stack (I:Inv X pins Y H s):s.heap.FunFrames X.base X.stack:=by
 rcases I.ok.stk with e|⟨e,hf⟩
 ·rw [e];exact I.funs
 ·rw [e]
  obtain ⟨m,hn,_⟩:=I.loc
  refine .cons (by rw [I.ok.kind];decide) hf hn ?_ I.funs
  exact Heap.get?_none_of_le (vJ I.ok.bsz I.ok.above)
theorem Inv.stkSub (I:Inv X pins Y H s):∀ b∈frs X.stack,b∈X.env.locals :: X.fs:=λ b hb=>by
 rcases I.ok.stk with e|⟨e,hf⟩
 ·rw [e] at hb;exact vB _ hb
 ·rw [e] at hb
  unfold frs at hb
  rw [v9,hf] at hb
  exact hb
theorem Inv.stkFree (I:Inv X pins Y H s):∀ b∈frs X.stack,H b=none:=λ b hb=>by
 rcases uE.mp (I.stkSub b hb) with e|hb
 ·rw [e];exact I.free
 ·obtain ⟨_,o,ho,_⟩:=I.ok.funs.mem hb
  exact I.base.free b o ho (I.ok.frf b hb) λ z=>I.ok.exfs b z hb
theorem Inv.step {g':Array GenState} {t':Nat} {d':Drawn} {ch:List Addr} (I:Inv X pins Y H s)
  (hch:∀ b∈ch,(b∈X.ex \/ X.s₀.heap.objs.size<=b)/\b≠X.env.locals/\(∀ x c,X.env.cells.lookup x=some c->c≠b)/\∀ p∈X.pn++pins,p.1≠b)
  (keep:∀ b o,b≠X.env.locals->b ∉ X.fs->b ∉ ch->s.heap.get? b=some o->H b=none->h'.get? b=some o)
  (slot:∀ b o,b≠X.env.locals->b∈X.fs->b ∉ ch->s.heap.get? b=some o->H b=none->∃ sl,h'.get? b=some { o with slots:=sl }) (free:∀ b o,b ∉ ch->s.heap.get? b=some o->H b=none->H' b=none)
  (there:∀ b o,b ∉ ch->s.heap.get? b=some o->∃ o',h'.get? b=some o')
  (tups:∀ b xs,H b=some (.tup xs)->H' b=some (.tup xs)) (frzs:∀ b o u,H b=some (.frz o u)->H' b=some (.frz o u)) (tbls:∀ b ps,H b=some (.tbl ps)->∃ more,H' b=some (.tbl (ps++more)))
  (ns:∀ m,s.heap.Ns X.env.locals m->h'.Ns X.env.locals m) (hok:HOk X.prog X.w H' h') (hg:AllBare g') :
  Inv X pins Y H' { s with heap:=h',gens:=g',drawn:=d',toks:=t' }:=by
 have neL:∀ b o,X.s₀.heap.get? b=some o->b≠X.env.locals:=λ b o e=>uY (vE (uN e) I.ok.above)
 have neC:∀ b o,X.s₀.heap.get? b=some o->b ∉ X.ex->b ∉ ch:=λ b o e hx hb=>by
  rcases (hch b hb).1 with z|z
  ·exact hx z
  ·exact absurd (vE (uN e) z) (vM _)
 have cellK:∀ x c,X.env.cells.lookup x=some c->∀ v,s.heap.IsCell c v->h'.IsCell c v:=λ x c e v ⟨o,ho,hd⟩=>by
  have nch:c ∉ ch:=λ z=>(hch c z).2.2.1 x c e rfl
  by_cases hc:c∈X.fs
  ·obtain ⟨sl,q⟩:=slot c o (I.cne x c e) hc nch ho (I.freeC x c e)
   exact ⟨_,q,hd⟩
  ·exact ⟨o,keep c o (I.cne x c e) hc nch ho (I.freeC x c e),hd⟩
 refine ⟨I.ok,I.os,hg,⟨λ b o e n hb hx=>?_,λ b o e n hb hx=>?_,λ b o e n hx=>?_,λ b o e hx=>?_,λ b xs e=>tups b xs (I.base.tups b xs e),λ b o xs e=>frzs b o xs (I.base.frzs b o xs e),λ b ps e=>?_⟩,?_,λ x c e=>?_,?_,λ x c e=>?_,λ p hp=>?_,hok,I.len⟩
 ·exact keep b o (neL b o e) hb (neC b o e hx) (I.base.keep b o e n hb hx) (I.base.free b o e n hx)
 ·obtain ⟨sl,e1⟩:=I.base.slot b o e n hb hx
  obtain ⟨sl',e2⟩:=slot b _ (neL b o e) hb (neC b o e hx) e1 (I.base.free b o e n hx)
  exact ⟨sl',e2⟩
 ·obtain ⟨o',e1⟩:=I.base.there b o e hx
  exact free b o' (neC b o e hx) e1 (I.base.free b o e n hx)
 ·obtain ⟨o',e1⟩:=I.base.there b o e hx
  exact there b o' (neC b o e hx) e1
 ·obtain ⟨m1,e1⟩:=I.base.tbls b ps e
  obtain ⟨m2,e2⟩:=tbls b _ e1
  exact ⟨m1++m2,by rw [e2,yG]⟩
 ·obtain ⟨m,hn,hl⟩:=I.loc
  refine ⟨m,ns m hn,λ i x v e1 e2 e3=>?_⟩
  obtain ⟨u,r,l⟩:=hl i x v e1 e2 e3
  refine ⟨u,r,?_⟩
  rcases l with l|⟨k,c,e,z⟩
  ·exact .inl l
  ·exact .inr ⟨k,c,e,cellK x c e _ z⟩
 ·obtain ⟨v,z⟩:=I.cell x c e
  exact ⟨v,cellK x c e v z⟩
 ·obtain ⟨m,⟨o,_,_,ho,_⟩,_⟩:=I.loc
  exact free _ o (λ z=>(hch _ z).2.1 rfl) ho I.free
 ·obtain ⟨v,o,ho,hd⟩:=I.cell x c e
  exact free c o (λ z=>(hch c z).2.2.1 x c e rfl) ho (I.freeC x c e)
 ·obtain ⟨e,n,ne,nf,d⟩:=I.pin p hp
  have nch:p.1 ∉ ch:=λ z=>(hch p.1 z).2.2.2 p hp rfl
  exact ⟨keep p.1 p.2 ne nf nch e n,free p.1 p.2 nch e n,ne,nf,d⟩
theorem Inv.un {t':Nat} (I:Inv X pins Y H s) (u:Un X.fs [] H H' s.heap h') (hok:HOk X.prog X.w H' h'):Inv X pins Y H' { s with heap:=h',toks:=t' }:=by
 obtain ⟨m,⟨o,es,ep,ho,r⟩,_⟩:=id I.loc
 obtain ⟨sl,hL⟩:=u.any ho I.free (by simp)
 exact I.step (g':=s.gens) (d':=s.drawn) (ch:=[]) (λ _ z=>nomatch z) (λ b o _ hb _ e n=>u.keep b o e n hb (by simp)) (λ b o _ hb _ e n=>u.slot b o e n hb (by simp)) (λ b o _ e n=>u.free b o e n (by simp)) (λ b o _ e=>u.there b o e (by simp)) u.tups u.frzs u.tbls (λ m' hm=>by
  obtain ⟨o',es',ep',ho',r'⟩:=hm
  rw [ho] at ho';cases ho'
  exact ⟨_,es',ep',hL,r'⟩) hok I.bare
theorem Inv.call {g':Array GenState} {t':Nat} {d':Drawn} {ch:List Addr} (I:Inv X pins Y H s) (u:Un (frs X.stack) ch H H' s.heap h') (hok:HOk X.prog X.w H' h') (hg:AllBare g')
  (hch:∀ b∈ch,(b∈X.ex \/ X.s₀.heap.objs.size<=b)/\b≠X.env.locals/\(∀ x c,X.env.cells.lookup x=some c->c≠b)/\∀ p∈X.pn++pins,p.1≠b) :
  Inv X pins Y H' { s with heap:=h',gens:=g',drawn:=d',toks:=t' }:=by
 obtain ⟨m,⟨o,es,ep,ho,r⟩,_⟩:=id I.loc
 obtain ⟨sl,hL⟩:=u.any ho I.free λ z=>(hch _ z).2.1 rfl
 exact I.step (ch:=ch) hch (λ b o hL hb hc e n=>u.keep b o e n (λ z=>(uE.mp (I.stkSub b z)).elim hL hb) hc) (λ b o _ _ hc e n=>u.any e n hc) (λ b o hc e n=>u.free b o e n hc) (λ b o hc e=>u.there b o e hc) u.tups u.frzs u.tbls (λ m' hm=>by
  obtain ⟨o',es',ep',ho',r'⟩:=hm
  rw [ho] at ho';cases ho'
  exact ⟨_,es',ep',hL,r'⟩) hok hg
theorem Inv.turned {t':Nat} {it:Addr} (I:Inv X pins Y H s) (k:∀ b o,b≠it->s.heap.get? b=some o->h'.get? b=some o) (hn:H it=none) (hL:it≠X.env.locals)
  (h1:it∈X.ex \/ X.s₀.heap.objs.size<=it) (h2:∀ x c,X.env.cells.lookup x=some c->c≠it) (h3:∀ p∈X.pn++pins,p.1≠it):Inv X pins Y H { s with heap:=h',toks:=t' }:=by
 have nit:∀ b u,H b=some u->b≠it:=λ b u e z=>by rw [z,hn] at e;cases e
 refine I.step (g':=s.gens) (d':=s.drawn) (ch:=[it]) (λ b hb=>?_) (λ b o _ _ hc e _=>k b o (λ z=>hc (by simp [z])) e) (λ b o _ _ hc e _=>⟨o.slots,k b o (λ z=>hc (by simp [z])) e⟩) (λ _ _ _ _ n=>n)
  (λ b o hc e=>⟨o,k b o (λ z=>hc (by simp [z])) e⟩) (λ _ _ e=>e) (λ _ _ _ e=>e) (λ b ps e=>⟨#[],by rw [e];simp⟩) (λ m hm=>?_) (λ b u e=>?_) I.bare
 ·have e:b=it:=by simpa using hb
  subst e
  exact ⟨h1,hL,h2,h3⟩
 ·obtain ⟨o,es,ep,ho,r⟩:=hm
  exact ⟨o,es,ep,k _ o (Ne.symm hL) ho,r⟩
 ·refine (I.hok b u e).stay (λ c v hc q=>k c v ?_ q) (λ _ q=>q) λ _ _ q=>q
  rcases hc with z|z
  ·rw [z];exact nit b u e
  ·exact nit c _ z
theorem Inv.tok (I:Inv X pins Y H s) (t:Nat):Inv X pins Y H { s with toks:=t }:=I.un (h':=s.heap) (t':=t) Un.refl I.hok
theorem Inv.kept {t':Nat} (I:Inv X pins Y H s) (k:∀ b u,s.heap.get? b=some u->h'.get? b=some u):Inv X pins Y H { s with heap:=h',toks:=t' }:=I.un (Un.kept k) (I.hok.kept k)
theorem Inv.laid {a:Addr} {o:HO} {t':Nat} (I:Inv X pins Y H s) (k:∀ b u,s.heap.get? b=some u->h'.get? b=some u) (hp:s.heap.objs.size<=a) (new:ObjOk X.prog X.w (upd H a o) h' a o) :
  Inv X pins Y (upd H a o) { s with heap:=h',toks:=t' }:=I.un (Un.laid k hp (I.hok.fresh hp)) (I.hok.laid k hp new)
theorem Inv.write {x e:Addr} {o:HO} {t':Nat} (I:Inv X pins Y H s) (mu:Mut (H x)) (he:e=x \/ H e=some (.own x)) (k:∀ b u,b≠e->s.heap.get? b=some u->h'.get? b=some u) (heo:∃ u,h'.get? e=some u)
  (new:ObjOk X.prog X.w (upd H x o) h' x o):Inv X pins Y (upd H x o) { s with heap:=h',toks:=t' }:=I.un (Un.write mu he k heo) (I.hok.write mu he k heo new)
theorem Inv.pins_of {pins':List (Addr×Obj)} (I:Inv X pins Y H s) (h:∀ p∈pins',s.heap.get? p.1=some p.2/\H p.1=none/\p.1≠X.env.locals/\p.1 ∉ X.fs/\∀ v,p.2.data≠.cell v):Inv X pins' Y H s :=
 ⟨I.ok,I.os,I.bare,I.base,I.loc,I.cell,I.free,I.freeC,λ p hp=>(uG.mp hp).elim (λ z=>I.pin p (yI _ z)) (h p),I.hok,I.len⟩
theorem zwf {N:List Str} (hN:N.Nodup) {i j:Nat} {x:Str} (a:N[i]?=some x) (b:N[j]?=some x):i=j:=by
 obtain ⟨h1,e1⟩:=uZ.mp a
 obtain ⟨h2,e2⟩:=uZ.mp b
 exact (xT hN).mp (e1.trans e2.symm)
theorem zae {M:Model} {A:Around} {E:Value->Shared->Prop} {i:Nat} {x:Str} {v:V} {u:Value} {Q:Unit->Shared->Prop} (I:Inv X pins Y H s) (hN:X.N.Nodup) (hi:X.N[i]?=some x) (hx:Loc X.env.scope x) (r:RelV v u)
  (h:∀ s',Inv X pins (Y.set i (some v)) H s'->(∃ a,Heap.SameBut a s.heap s'.heap/\(a=X.env.locals \/ X.env.cells.lookup x=some a))->Q () s') (hf:X.fn x=true \/ X.env.scope.names.lookup x=some .local:=by first|exact .inl rfl|exact .inr rfl|assumption):wpAny M A (storeName X.env x u) Q E s:=by
 obtain ⟨m,hn,hl⟩:=id I.loc
 have hcls:(X.env.scope.kind == .class || (X.env.scope.kind == .module && X.env.locals != X.env.globals))=false:=by rw [I.ok.kind];rfl
 have hiY:i < Y.length:=by rw [I.len];exact (uZ.mp hi).1
 have cne:=I.cne
 have tracked:∀ {a:Addr} {h':Heap},(∃ o,s.heap.get? a=some o/\H a=none)->Heap.SameBut a s.heap h'->HOk X.prog X.w H h':=λ {a h'} ha hs b ob e=>by
  obtain ⟨_,_,hfree⟩:=ha
  refine (I.hok b ob e).stay (λ c w' hc q=>(hs.2 c ?_).trans q) (λ _ q=>q) λ _ _ q=>q
  rintro rfl
  rcases hc with rfl|hc
  ·rw [hfree] at e;cases e
  ·rw [hfree] at hc;cases hc
 rcases hx with hk|hk
 ·refine wpAny_storeName_local hk hn (λ h' hn' hs=>?_) hcls
  obtain ⟨oL,_,_,hoL,_⟩:=id hn
  refine h _ ⟨I.ok,I.os,I.bare,⟨λ b o e n hb hx=>?_,λ b o e n hb hx=>?_,I.base.free,λ b o e hx=>?_,I.base.tups,I.base.frzs,I.base.tbls⟩,⟨_,hn',λ j y v' e1 e2 e3=>?_⟩,λ y c e=>?_,I.free,I.freeC,λ p hp=>?_,tracked ⟨oL,hoL,I.free⟩ hs,by simpa using I.len⟩ ⟨_,hs,.inl rfl⟩
  ·exact (hs.2 b (uY (vE (uN e) I.ok.above))).trans (I.base.keep b o e n hb hx)
  ·obtain ⟨sl,e1⟩:=I.base.slot b o e n hb hx
   exact ⟨sl,(hs.2 b (uY (vE (uN e) I.ok.above))).trans e1⟩
  ·obtain ⟨o',e1⟩:=I.base.there b o e hx
   exact ⟨o',(hs.2 b (uY (vE (uN e) I.ok.above))).trans e1⟩
  ·by_cases hj:j=i
   ·subst hj
    rw [hi] at e1;cases e1
    rw [vL hiY] at e2
    cases e2
    exact ⟨u,r,.inl ⟨hk,by simp⟩⟩
   ·rw [vO (Ne.symm hj)] at e2
    obtain ⟨u',r',q⟩:=hl j y v' e1 e2 e3
    refine ⟨u',r',?_⟩
    rcases q with ⟨k,e⟩|⟨k,c,e,z⟩
    ·refine .inl ⟨k,?_⟩
     have:y≠x:=λ e=>hj (zwf hN e1 (e ▸ hi))
     simp [this,e]
    ·exact .inr ⟨k,c,e,z.sameBut hs (cne y c e)⟩
  ·obtain ⟨w',z⟩:=I.cell y c e
   exact ⟨w',z.sameBut hs (cne y c e)⟩
  ·obtain ⟨e,n,ne,nf,d⟩:=I.pin p hp
   exact ⟨(hs.2 p.1 ne).trans e,n,ne,nf,d⟩
 ·have hfn:X.fn x=true:=by
   rcases hf with z|z
   ·exact z
   ·rw [z] at hk;cases hk
  obtain ⟨c,hc⟩:=I.ok.has x (.inl hk)
  obtain ⟨w',z⟩:=I.cell x c hc
  refine wpAny_storeName_cell I.ok.kind hk hc z (λ h' hc' hs=>?_)
  obtain ⟨oc,hoc,hocd⟩:=id z
  refine h { s with heap:=h' } ⟨I.ok,I.os,I.bare,⟨λ b o e n hb hx=>?_,λ b o e n hb hx=>?_,I.base.free,λ b o e hx=>?_,I.base.tups,I.base.frzs,I.base.tbls⟩,⟨m,hn.sameBut hs (Ne.symm (cne x c hc)),λ j y v' e1 e2 e3=>?_⟩,λ y c' e=>?_,I.free,I.freeC,λ p hp=>?_,tracked ⟨oc,hoc,I.freeC x c hc⟩ hs,by simpa using I.len⟩ ⟨c,hs,.inr hc⟩
  ·exact (hs.2 b (uY (vE (uN e) (I.ok.cab x c hfn hc)))).trans (I.base.keep b o e n hb hx)
  ·obtain ⟨sl,e1⟩:=I.base.slot b o e n hb hx
   exact ⟨sl,(hs.2 b (uY (vE (uN e) (I.ok.cab x c hfn hc)))).trans e1⟩
  ·obtain ⟨o',e1⟩:=I.base.there b o e hx
   exact ⟨o',(hs.2 b (uY (vE (uN e) (I.ok.cab x c hfn hc)))).trans e1⟩
  ·by_cases hj:j=i
   ·subst hj
    rw [hi] at e1;cases e1
    rw [vL hiY] at e2
    cases e2
    exact ⟨u,r,.inr ⟨.inl hk,c,hc,hc'⟩⟩
   ·rw [vO (Ne.symm hj)] at e2
    obtain ⟨u',r',q⟩:=hl j y v' e1 e2 e3
    refine ⟨u',r',?_⟩
    rcases q with q|⟨k,c',e,z'⟩
    ·exact .inl q
    ·refine .inr ⟨k,c',e,z'.sameBut hs ?_⟩
     rintro rfl
     exact hj (zwf hN e1 (I.ok.inj _ _ _ e hc ▸ hi))
  ·by_cases hcc:c'=c
   ·subst hcc;exact ⟨_,hc'⟩
   ·obtain ⟨w2,z2⟩:=I.cell y c' e
    exact ⟨w2,z2.sameBut hs hcc⟩
  ·obtain ⟨e,n,ne,nf,d⟩:=I.pin p hp
   refine ⟨(hs.2 p.1 ?_).trans e,n,ne,nf,d⟩
   intro q
   rw [q,hoc] at e
   have q':oc=p.2:=u7.inj e
   exact d w' (by rw [<- q'];exact hocd)
theorem zog {M:Model} {A:Around} {E:Value->Shared->Prop} {i:Nat} {x:Str} {v:V} {u:Value} {Q:Unit->Shared->Prop} (I:Inv X pins Y H s) (hN:X.N.Nodup) (hi:X.N[i]?=some x) (hx:Loc X.env.scope x) (r:RelV v u)
  (h:∀ s',Inv X pins (Y.set i (some v)) H s'->Q () s') (hf:X.fn x=true \/ X.env.scope.names.lookup x=some .local:=by first|exact .inl rfl|exact .inr rfl|assumption):wpAny M A (storeName X.env x u) Q E s :=
 zae I hN hi hx r (λ s' I' _=>h s' I') hf
theorem Inv.call' {s':Shared} {ch:List Addr} (I:Inv X pins Y H s) (ho:s'.os=s.os) (u:Un (frs X.stack) ch H H' s.heap s'.heap) (hok:HOk X.prog X.w H' s'.heap) (hg:AllBare s'.gens)
  (hch:∀ b∈ch,(b∈X.ex \/ X.s₀.heap.objs.size<=b)/\b≠X.env.locals/\(∀ x c,X.env.cells.lookup x=some c->c≠b)/\∀ p∈X.pn++pins,p.1≠b):Inv X pins Y H' s':=by
 obtain ⟨h',g',d',t',o'⟩:=s'
 have e:o'=s.os:=ho
 subst e
 exact I.call (g':=g') (t':=t') (d':=d') u hok hg hch
end
abbrev XK:=Value->Option Addr->Hp->Prop
abbrev St:=List (Option V)
abbrev VK:=V->Hp->Prop
abbrev TE:=St->Hp->VK->Prop
abbrev TT:=St->Hp->(Bool->Hp->Prop)->Prop
abbrev TA:=St->Hp->(List V->Hp->Prop)->Prop
structure Ends where
 nx:St->Hp->Prop
 rt:VK
 bk:St->Hp->Prop:=λ _ _=>False
 ct:St->Hp->Prop:=λ _ _=>False
abbrev TS:=Ends->St->Hp->Prop
def EP (X:Cx) (pins:List (Addr×Obj)) (Y:St) (Q:VK) (u:Value) (s':Shared):Prop:=∃ v H',Inv X pins Y H' s'/\RelV v u/\Q v H'
def TP (X:Cx) (pins:List (Addr×Obj)) (Y:St) (Q:Bool->Hp->Prop) (b:Bool) (s':Shared):Prop:=∃ H',Inv X pins Y H' s'/\Q b H'
def AP (X:Cx) (pins:List (Addr×Obj)) (Y:St) (Q:List V->Hp->Prop) (us:List Value) (s':Shared):Prop:=∃ vs H',Inv X pins Y H' s'/\Vals vs us/\Q vs H'
def SP (X:Cx) (pins:List (Addr×Obj)) (D:Ends) (f:Flow) (s':Shared):Prop :=
 match f with
|.next=>∃ Y' H',Inv X pins Y' H' s'/\D.nx Y' H'
|.brk=>∃ Y' H',Inv X pins Y' H' s'/\D.bk Y' H'
|.cont=>∃ Y' H',Inv X pins Y' H' s'/\D.ct Y' H'
|.ret u=>∃ v Y' H',Inv X pins Y' H' s'/\RelV v u/\D.rt v H'
def PE (X:Cx) (e:Expr) (t:TE):Prop :=
 ∀ (pins:List (Addr×Obj)) (s:Shared) (Y:St) (H:Hp) (Q:VK),Inv X pins Y H s->t Y H Q->wpAny (model X.prog X.w) X.A (eval e X.env) (EP X pins Y Q) X.xe s
def PT (X:Cx) (e:Expr) (t:TT):Prop :=
 ∀ (pins:List (Addr×Obj)) (s:Shared) (Y:St) (H:Hp) (Q:Bool->Hp->Prop),Inv X pins Y H s->t Y H Q->wpAny (model X.prog X.w) X.A (isTrue e X.env (eval e X.env)) (TP X pins Y Q) X.xe s
def PW (X:Cx) (e:Expr) (t:TT):Prop :=
 ∀ (whole:Sem Value) (pins:List (Addr×Obj)) (s:Shared) (Y:St) (H:Hp) (Q:Bool->Hp->Prop),Inv X pins Y H s->t Y H Q->wpAny (model X.prog X.w) X.A (isTrue e X.env whole) (TP X pins Y Q) X.xe s
theorem PW.pt {X:Cx} {e:Expr} {t:TT} (h:PW X e t):PT X e t:=h _
def PA (X:Cx) (es:List Expr) (t:TA):Prop :=
 ∀ (pos:Pos) (pins:List (Addr×Obj)) (s:Shared) (Y:St) (H:Hp) (Q:List V->Hp->Prop),Inv X pins Y H s->t Y H Q->wpAny (model X.prog X.w) X.A (spliced (backTo pos (starEach es X.env))) (AP X pins Y Q) X.xe s
def PS (X:Cx) (st:Stmt) (t:TS):Prop :=
 ∀ (pins:List (Addr×Obj)) (s:Shared) (Y:St) (H:Hp) (D:Ends),Inv X pins Y H s->t D Y H->wpAny (model X.prog X.w) X.A (exec st X.env) (SP X pins D) X.xe s
def PSs (X:Cx) (st:List Stmt) (t:TS):Prop :=
 ∀ (pins:List (Addr×Obj)) (s:Shared) (Y:St) (H:Hp) (D:Ends),Inv X pins Y H s->t D Y H->wpAny (model X.prog X.w) X.A (execs st X.env) (SP X pins D) X.xe s
theorem thn {α:Type} {t:Sem α} {Q Q':α->Shared->Prop} {M:Model} {A:Around} {E:Value->Shared->Prop} {s:Shared} (h:wpAny M A t Q E s) (hQ:∀ a s,Q a s->Q' a s):wpAny M A t Q' E s:=wpAny_mono h hQ λ _ _ x=>x
section
variable {X:Cx}
theorem bin {a b:Expr} {ta tb:TE} (ha:PE X a ta) (hb:PE X b tb) {pins:List (Addr×Obj)} {s:Shared} {Y:St} {H:Hp} {R:V->V->Hp->Prop} (I:Inv X pins Y H s) (h:ta Y H λ x H1=>tb Y H1 λ y H2=>R x y H2)
  {α:Type} {Q:α->Shared->Prop} {f:Value->Value->Sem α}
  (hf:∀ v u s2 x y H2,Inv X pins Y H2 s2->RelV x v->RelV y u->R x y H2->wpAny (model X.prog X.w) X.A (f v u) Q X.xe s2) :
  wpAny (model X.prog X.w) X.A (eval a X.env) (λ v s₁=>wpAny (model X.prog X.w) X.A (eval b X.env) (λ u s₂=>wpAny (model X.prog X.w) X.A (f v u) Q X.xe s₂) X.xe s₁) X.xe s:=by
 refine thn (ha pins s Y H _ I h) λ v s1 ⟨x,H1,I1,r1,q1⟩=>?_
 refine thn (hb pins s1 Y H1 _ I1 q1) λ u s2 ⟨y,H2,I2,r2,q2⟩=>?_
 exact hf v u s2 x y H2 I2 r1 r2 q2
def tVar (i:Nat):TE:=λ Y H Q=>∃ v,Y[i]?=some (some v)/\Q v H
def tC (v:V):TE:=λ _ H Q=>Q v H
theorem zp11 {i:Nat} {x:Str} {pos:Pos} (hN:X.N[i]?=some x) (hv:Vis X.env.scope x) (hd:(x == ("__debug__":Str))=false:=by decide) (hcd:(x == ("__classdict__":Str))=false:=by decide):PE X (.Name x pos) (tVar i):=by
 intro pins s Y H Q I h
 obtain ⟨v,e,h⟩:=h
 obtain ⟨m,hn,hl⟩:=I.loc
 obtain ⟨u,r,l⟩:=hl i x v hN e hv
 have fin:EP X pins Y Q u s:=⟨v,H,I,r,h⟩
 rcases l with ⟨hk,hm⟩|⟨hk,c,hc,hcell⟩
 ·exact wpAny_Name (wpAny_loadName_local I.ok.kind hk hn hm fin) hd
 ·rcases hk with hk|hk
  ·exact wpAny_Name (wpAny_loadName_cell I.ok.kind hk hc hcell fin) hd
  ·exact wpAny_Name (wpAny_loadName_free I.ok.kind hk hc hcell fin hcd) hd
theorem zl0 {i j pos}:PE X (.Constant (.int i) j pos) (tC (.int i)):=λ _ _ _ H _ I h=>wpAny_Constant_int ⟨.int i,H,I.tok _,⟨_,rfl⟩,h⟩
theorem zll {b j pos}:PE X (.Constant (.bool b) j pos) (tC (.bl b)):=λ _ _ _ H _ I h=>Constant_bool ⟨.bl b,H,I,rfl,h⟩
theorem zjp {j pos}:PE X (.Constant .none j pos) (tC .non):=λ _ _ _ H _ I h=>Constant_none ⟨.non,H,I,rfl,h⟩
def Gl (X:Cx) (x:Str):Prop:=X.env.kindOf x=some .globalImplicit
theorem ztf {E:Value->Shared->Prop} {pins:List (Addr×Obj)} {s:Shared} {Y:St} {H:Hp} {x:Str} {u:Value} {pos:Pos} {Q:Value->Shared->Prop} (I:Inv X pins Y H s) (hg:Gl X x) (hm:X.mg x=some u) (h:Q u s)
  (hd:(x == ("__debug__":Str))=false:=by decide):wpAny (model X.prog X.w) X.A (eval (.Name x pos) X.env) Q E s :=
 Calls.Name_function_global I.ok.kind hg (Calls.loadGlobal_global (by rw [I.ok.glob];exact I.mod.glob.keeps I.bk) hm h) hd
theorem zg9 {E:Value->Shared->Prop} {pins:List (Addr×Obj)} {s:Shared} {Y:St} {H:Hp} {x:Str} {u:Value} {pos:Pos} {Q:Value->Shared->Prop} (I:Inv X pins Y H s) (hg:Gl X x) (hm:X.mg x=none) (hv:bootBuiltins x=some u) (h:Q u s)
  (hn:x ≠ "__name__":=by decide) (hd:(x == ("__debug__":Str))=false:=by decide):wpAny (model X.prog X.w) X.A (eval (.Name x pos) X.env) Q E s:=by
 obtain ⟨mb,h1,h2⟩:=I.mod.blt
 exact Calls.Name_function_global I.ok.kind hg (Calls.loadGlobal_builtin (by rw [I.ok.glob];exact I.mod.glob.keeps I.bk) hm (by rw [I.ok.blt];exact h1.keeps I.bk) ((h2 x hn).trans hv) h) hd
theorem zeg {x:Str} {v:V} {u:Value} {pos:Pos} (hg:Gl X x) (hm:X.mg x=some u) (r:RelV v u) (hd:(x == ("__debug__":Str))=false:=by decide):PE X (.Name x pos) (tC v) :=
 λ _ _ _ H _ I h=>ztf I hg hm ⟨v,H,I,r,h⟩ hd
theorem zhe {x:Str} {v:V} {u:Value} {pos:Pos} (hg:Gl X x) (hm:X.mg x=none) (hv:bootBuiltins x=some u) (r:RelV v u) (hn:x ≠ "__name__":=by decide) (hd:(x == ("__debug__":Str))=false:=by decide):PE X (.Name x pos) (tC v) :=
 λ _ _ _ H _ I h=>zg9 I hg hm hv ⟨v,H,I,r,h⟩ hn hd
variable {a b:Expr} {ta tb:TE} {pos:Pos}
variable {tA tB':TT} {rest:List Expr}
def tAnd (t u:TT):TT:=λ Y H Q=>t Y H λ c H1=>if c=true then u Y H1 Q else Q false H1
def tOr (t u:TT):TT:=λ Y H Q=>t Y H λ c H1=>if c=true then Q true H1 else u Y H1 Q
def tNot (t:TT):TT:=λ Y H Q=>t Y H λ c H1=>Q (!c) H1
theorem zqd (ha:PT X a tA):PW X (.BoolOp .And [a] pos) tA:=by
 intro wh pins s Y H Q I h
 refine isTrue_and (thn (ha pins s Y H Q I h) λ c s1 e=>?_)
 cases c with
|true=>exact isTrue_and_nil e
|false=>exact e
theorem znm (ha:PT X a tA):PW X (.BoolOp .Or [a] pos) tA:=by
 intro wh pins s Y H Q I h
 refine isTrue_or (thn (ha pins s Y H Q I h) λ c s1 e=>?_)
 cases c with
|false=>exact isTrue_or_nil e
|true=>exact e
theorem zbj (ha:PT X a tA) (hb:PW X (.BoolOp .And (b :: rest) pos) tB'):PW X (.BoolOp .And (a :: b :: rest) pos) (tAnd tA tB'):=by
 intro wh pins s Y H Q I h
 refine isTrue_and (thn (ha pins s Y H _ I h) λ c s1 ⟨H1,I1,q1⟩=>?_)
 cases c with
|true=>exact hb wh pins s1 Y H1 Q I1 q1
|false=>exact ⟨H1,I1,q1⟩
theorem zg11 (ha:PT X a tA) (hb:PW X (.BoolOp .Or (b :: rest) pos) tB'):PW X (.BoolOp .Or (a :: b :: rest) pos) (tOr tA tB'):=by
 intro wh pins s Y H Q I h
 refine isTrue_or (thn (ha pins s Y H _ I h) λ c s1 ⟨H1,I1,q1⟩=>?_)
 cases c with
|true=>exact ⟨H1,I1,q1⟩
|false=>exact hb wh pins s1 Y H1 Q I1 q1
theorem zoh (ha:PT X a tA):PT X (.UnaryOp .Not a pos) (tNot tA):=by
 intro pins s Y H Q I h
 exact isTrue_not (ha pins s Y H (λ c H1=>Q (!c) H1) I h)
def zn21 (ta tb:TE):TE:=λ Y H Q=>ta Y H λ x H1=>∃ c,x=.bl c/\if c=true then tb Y H1 Q else Q (.bl false) H1
def zd41 (ta:TE):TE:=λ Y H Q=>ta Y H λ x H1=>∃ c,x=.bl c/\Q (.bl (!c)) H1
theorem zuy {op} {t:TE} (h:PE X a t):PE X (.BoolOp op [a] pos) t:=λ pins s Y H Q I hw=>BoolOp_one (h pins s Y H Q I hw)
theorem zk01 (ha:PE X a ta) (hb:PE X (.BoolOp .And (b :: rest) pos) tb):PE X (.BoolOp .And (a :: b :: rest) pos) (zn21 ta tb):=by
 intro pins s Y H Q I h
 refine BoolOp_and (thn (ha pins s Y H _ I h) λ v s1 ⟨x,H1,I1,r1,q1⟩=>?_)
 obtain ⟨c,rfl,q1⟩:=q1
 cases r1
 refine wpAny_truthy_bool ?_
 cases c with
|true=>exact hb pins s1 Y H1 Q I1 q1
|false=>exact ⟨.bl false,H1,I1,rfl,q1⟩
theorem zvz (ha:PE X a ta):PE X (.UnaryOp .Not a pos) (zd41 ta):=by
 intro pins s Y H Q I h
 refine UnaryOp_ (thn (ha pins s Y H _ I h) λ v s1 ⟨x,H1,I1,r1,q1⟩=>?_)
 obtain ⟨c,rfl,q1⟩:=q1
 cases r1
 exact not_of (wpAny_truthy_bool ⟨.bl (!c),H1,I1,rfl,q1⟩)
def tIf (t:TT) (ta tb:TE):TE:=λ Y H Q=>t Y H λ c H1=>if c=true then ta Y H1 Q else tb Y H1 Q
theorem zqh {c:Expr} (hc:PT X c tA) (ha:PE X a ta) (hb:PE X b tb):PE X (.IfExp c a b pos) (tIf tA ta tb):=by
 intro pins s Y H Q I h
 refine wpAny_IfExp (thn (hc pins s Y H _ I h) λ d s1 ⟨H1,I1,q1⟩=>?_)
 cases d with
|true=>exact ha pins s1 Y H1 Q I1 q1
|false=>exact hb pins s1 Y H1 Q I1 q1
end
def SqL (K:Fg) (H:Hp) (a:Addr) (xs:List V):Prop :=
 Rd H a (.lst xs) \/
  ∃ (o:Obj) (its:Array Value) (n:Nat),K.lookup a=some o/\o.cls=.type "list"/\o.dict=none/\o.data=.seq its n/\its.size<=sizeLine/\Vals xs its.toList
def SqT (K:Fg) (H:Hp) (a:Addr) (xs:List V):Prop :=
 Rd H a (.tup xs) \/
  ∃ (o:Obj) (its:Array Value) (n:Nat),K.lookup a=some o/\o.cls=.type "tuple"/\o.data=.seq its n/\its.size<=sizeLine/\Vals xs its.toList
def absV:Value->Option V
|.none=>some .non
|.bool b=>some (.bl b)
|.int i _=>some (.int i)
|.str x _=>some (.str x)
|.bytes b _=>some (.byt b)
|.float b _=>some (.flt b)
|.ref a=>some (.ref a)
|.type n=>some (.ty n)
|_=>none
theorem RelV.abs {x:V} {u:Value} (r:RelV x u):absV u=some x:=by
 cases x with
|non=>cases r;rfl
|bl _=>cases r;rfl
|int _=>obtain ⟨t,rfl⟩:=r;rfl
|str _=>obtain ⟨t,rfl⟩:=r;rfl
|byt _=>obtain ⟨t,rfl⟩:=r;rfl
|flt _=>obtain ⟨t,rfl⟩:=r;rfl
|ref _=>cases r;rfl
|ty _=>cases r;rfl
theorem RelV.inj {x y:V} {u:Value} (r:RelV x u) (q:RelV y u):x=y:=u7.inj (r.abs.symm.trans q.abs)
theorem Vals.inj:∀ {xs ys:List V} {us:List Value},Vals xs us->Vals ys us->xs=ys
|_,_,_,.nil,.nil=>rfl
|_,_,_,.cons r t,.cons r' t'=>by rw [r.inj r',Vals.inj t t']
section
variable {X:Cx} {pins:List (Addr×Obj)} {Y:St} {H:Hp} {s:Shared} {a:Addr} {xs ys:List V}
theorem SqL.of {K:Fg} (h:H a=some (.lst xs)):SqL K H a xs:=.inl (.inl h)
theorem SqT.of {K:Fg} (h:H a=some (.tup xs)):SqT K H a xs:=.inl (.inl h)
theorem Inv.list (I:Inv X pins Y H s) (h:SqL X.K H a xs):∃ its:List Value,Vals xs its/\PlainL s.heap a its.toArray/\xs.length<=sizeLine:=by
 rcases h with h|⟨o,its,n,hk,hc,hd,hs,hz,r⟩
 ·obtain ⟨z,its,n,r,e⟩:=h.ok I.hok
  exact ⟨its,r,⟨_,n,e,rfl,rfl,rfl⟩,z⟩
 ·refine ⟨its.toList,r,⟨o,n,I.kIn a o hk,hc,hd,by simpa using hs⟩,?_⟩
  have e:=r.length
  simp only [vX] at e
  lia
theorem Inv.tuple (I:Inv X pins Y H s) (h:SqT X.K H a xs):∃ its:List Value,Vals xs its/\IsTup s.heap a its.toArray/\xs.length<=sizeLine:=by
 rcases h with h|⟨o,its,n,hk,hc,hs,hz,r⟩
 ·obtain ⟨z,its,r,p⟩:=h.ok I.hok
  exact ⟨its,r,p,z⟩
 ·refine ⟨its.toList,r,⟨o,I.kIn a o hk,hc,n,by simpa using hs⟩,?_⟩
  have e:=r.length
  simp only [vX] at e
  lia
theorem Inv.list_inj (I:Inv X pins Y H s) (h:SqL X.K H a xs) (h':SqL X.K H a ys):xs=ys:=by
 obtain ⟨its,r,⟨o,n,e,_,_,d⟩,_⟩:=I.list h
 obtain ⟨its',r',⟨o',n',e',_,_,d'⟩,_⟩:=I.list h'
 rw [e] at e';cases e'
 rw [d] at d'
 injection d' with d1 _
 have:its=its':=by simpa using congrArg yJ d1
 subst this
 exact r.inj r'
theorem Inv.tuple_inj (I:Inv X pins Y H s) (h:SqT X.K H a xs) (h':SqT X.K H a ys):xs=ys:=by
 obtain ⟨its,r,⟨o,e,_,n,d⟩,_⟩:=I.tuple h
 obtain ⟨its',r',⟨o',e',_,n',d'⟩,_⟩:=I.tuple h'
 rw [e] at e';cases e'
 rw [d] at d'
 injection d' with d1 _
 have:its=its':=by simpa using congrArg yJ d1
 subst this
 exact r.inj r'
end
abbrev Cx.wish (X:Cx) (E:Value->Shared->Prop):Cx:={ X with xe:=E }
abbrev Cx.nox (X:Cx):Cx:=X.wish λ _ _=>False
theorem Cx.Ok.wish {X:Cx} (ok:X.Ok) (E:Value->Shared->Prop):(X.wish E).Ok :=
 ⟨ok.mod,ok.kind,ok.glob,ok.blt,ok.above,ok.inj,ok.has,ok.cab,ok.hd,ok.frames,ok.stk,ok.exf,ok.bs,ok.bsz,ok.noex,ok.exfs,ok.funs,ok.frf⟩
theorem Cx.Ok.unwish {X:Cx} {E:Value->Shared->Prop} (ok:(X.wish E).Ok):X.Ok :=
 ⟨ok.mod,ok.kind,ok.glob,ok.blt,ok.above,ok.inj,ok.has,ok.cab,ok.hd,ok.frames,ok.stk,ok.exf,ok.bs,ok.bsz,ok.noex,ok.exfs,ok.funs,ok.frf⟩
section
variable {X:Cx} {pins:List (Addr×Obj)} {Y:St} {H:Hp} {s:Shared} {E:Value->Shared->Prop}
theorem Inv.wish (I:Inv X pins Y H s) (E:Value->Shared->Prop):Inv (X.wish E) pins Y H s:=⟨I.ok.wish E,I.os,I.bare,I.base,I.loc,I.cell,I.free,I.freeC,I.pin,I.hok,I.len⟩
theorem Inv.unwish (I:Inv (X.wish E) pins Y H s):Inv X pins Y H s:=⟨I.ok.unwish,I.os,I.bare,I.base,I.loc,I.cell,I.free,I.freeC,I.pin,I.hok,I.len⟩
theorem SP.unwish {D:Ends} {f:Flow} {s':Shared} (h:SP (X.wish E) pins D f s'):SP X pins D f s':=by
 cases f with
|next=>obtain ⟨Y',H',I,q⟩:=h;exact ⟨Y',H',I.unwish,q⟩
|brk=>obtain ⟨Y',H',I,q⟩:=h;exact ⟨Y',H',I.unwish,q⟩
|cont=>obtain ⟨Y',H',I,q⟩:=h;exact ⟨Y',H',I.unwish,q⟩
|ret u=>obtain ⟨v,Y',H',I,r,q⟩:=h;exact ⟨v,Y',H',I.unwish,r,q⟩
theorem PE.nox {e:Expr} {t:TE} (h:PE X.nox e t):PE X e t:=λ pins s Y H Q I hw =>
 wpAny_mono (h pins s Y H Q (I.wish _) hw) (λ _ _ ⟨v,H',I',r,q⟩=>⟨v,H',I'.unwish,r,q⟩) λ _ _ z=>False.elim z
theorem PT.nox {e:Expr} {t:TT} (h:PT X.nox e t):PT X e t:=λ pins s Y H Q I hw =>
 wpAny_mono (h pins s Y H Q (I.wish _) hw) (λ _ _ ⟨H',I',q⟩=>⟨H',I'.unwish,q⟩) λ _ _ z=>False.elim z
theorem PSs.nox {st:List Stmt} {t:TS} (h:PSs X.nox st t):PSs X st t:=λ pins s Y H D I hw =>
 wpAny_mono (h pins s Y H D (I.wish _) hw) (λ _ _ q=>q.unwish) λ _ _ z=>False.elim z
end
section
variable {X:Cx} {st:Stmt} {rest:List Stmt} {t u:TS} {e:Expr} {te:TE} {pos:Pos}
def zh31:TS:=λ D Y H=>D.nx Y H
def tSeq (t u:TS):TS:=λ D Y H=>t { D with nx:=u D } Y H
theorem zn2:PSs X [] zh31:=λ _ _ Y H _ I h=>wpAny_execs_nil ⟨Y,H,I,h⟩
theorem zd0 (h1:PS X st t) (h2:PSs X rest u):PSs X (st :: rest) (tSeq t u):=by
 intro pins s Y H D I h
 refine wpAny_execs_cons (thn (h1 pins s Y H { D with nx:=u D } I h) λ f s1 q=>?_)
 cases f with
|next =>
  obtain ⟨Y',H',I',q⟩:=q
  exact h2 pins s1 Y' H' D I' q
|ret v=>exact q
|brk=>exact q
|cont=>exact q
theorem zj0 (h1:PS X st t):PSs X [st] t:=by
 intro pins s Y H D I h
 refine wpAny_execs_cons (thn (h1 pins s Y H D I h) λ f s1 q=>?_)
 cases f with
|next=>exact wpAny_execs_nil q
|ret v=>exact q
|brk=>exact q
|cont=>exact q
theorem Inv.quiet {pins:List (Addr×Obj)} {Y:St} {H:Hp} {s:Shared} (I:Inv X pins Y H s):interactive X.env=false:=by simp [interactive,I.ok.kind]
def zr11 (te:TE):TS:=λ D Y H=>te Y H λ _ H1=>D.nx Y H1
theorem zr1 (he:PE X e te) (hs:swapsWith e none pos.line X.env=pure false:=by rfl):PS X (.Expr e pos) (zr11 te):=by
 intro pins s Y H D I h
 exact wpAny_Expr_any (thn (he pins s Y H _ I h) λ v s1 ⟨x,H1,I1,r1,q1⟩=>⟨Y,H1,I1,q1⟩) I.quiet hs
def tRet (te:TE):TS:=λ D Y H=>te Y H D.rt
theorem zi1 (he:PE X e te):PS X (.Return (some e) pos) (tRet te):=by
 intro pins s Y H D I h
 exact wpAny_Return_some (thn (he pins s Y H _ I h) λ v s1 ⟨x,H1,I1,r1,q1⟩=>⟨x,Y,H1,I1,r1,q1⟩)
def tIfS (c:TT) (t u:TS):TS:=λ D Y H=>c Y H λ b H1=>if b=true then t D Y H1 else u D Y H1
theorem zsa {c:Expr} {a b:List Stmt} {tc:TT} (hc:PT X c tc) (ha:PSs X a t) (hb:PSs X b u):PS X (.If c a b pos) (tIfS tc t u):=by
 intro pins s Y H D I h
 refine wpAny_If (thn (hc pins s Y H _ I h) λ d s1 ⟨H1,I1,q1⟩=>?_)
 cases d with
|true=>exact ha pins s1 Y H1 D I1 q1
|false=>exact hb pins s1 Y H1 D I1 q1
end
abbrev TG:=V->St->Hp->(St->Hp->Prop)->Prop
abbrev TGs:=List V->St->Hp->(St->Hp->Prop)->Prop
def PG (X:Cx) (target:Expr) (t:TG):Prop :=
 ∀ (pins:List (Addr×Obj)) (s:Shared) (Y:St) (H:Hp) (v:V) (u:Value) (Q:St->Hp->Prop),Inv X pins Y H s->RelV v u->t v Y H Q ->
  wpAny (model X.prog X.w) X.A (assign target X.env u) (λ _ s'=>∃ Y' H',Inv X pins Y' H' s'/\Q Y' H') X.xe s
def PGs (X:Cx) (ts:List Expr) (t:TGs):Prop :=
 ∀ (pins:List (Addr×Obj)) (s:Shared) (Y:St) (H:Hp) (vs:List V) (us:List Value) (Q:St->Hp->Prop),Inv X pins Y H s->Vals vs us->t vs Y H Q ->
  wpAny (model X.prog X.w) X.A (assignInOrder ((assignEach ts X.env).map (·.2)) us) (λ _ s'=>∃ Y' H',Inv X pins Y' H' s'/\Q Y' H') X.xe s
abbrev TSet:=V->V->V->Hp->(Hp->Prop)->Prop
def PSet (X:Cx) (t:TSet):Prop :=
 ∀ (pins:List (Addr×Obj)) (s:Shared) (Y:St) (H:Hp) (o i v:V) (ov iv u:Value) (Q:Hp->Prop),Inv X pins Y H s->RelV o ov->RelV i iv->RelV v u->t o i v H Q ->
  wpAny (model X.prog X.w) X.A (setItem ov iv u) (λ _ s'=>∃ H',Inv X pins Y H' s'/\Q H') X.xe s
abbrev TIp:=V->V->Hp->VK->Prop
def PIp (X:Cx) (op:Operator) (t:TIp):Prop :=
 ∀ (pins:List (Addr×Obj)) (s:Shared) (Y:St) (H:Hp) (x y:V) (v u:Value) (Q:VK),Inv X pins Y H s->RelV x v->RelV y u->t x y H Q ->
  wpAny (model X.prog X.w) X.A (inplaceOp op v u) (EP X pins Y Q) X.xe s
section
variable {X:Cx} {pos:Pos}
def zuj (i:Nat):TG:=λ v Y H Q=>Q (Y.set i (some v)) H
theorem zlq {i:Nat} {x:Str} (hN:X.N.Nodup) (hi:X.N[i]?=some x) (hx:Loc X.env.scope x) (hf:X.fn x=true \/ X.env.scope.names.lookup x=some .local:=by first|exact .inl rfl|exact .inr rfl|assumption):PG X (.Name x pos) (zuj i):=by
 intro pins s Y H v u Q I r h
 exact wpAny_assign_Name (zog I hN hi hx r (λ s' I'=>⟨_,H,I',h⟩) hf)
def gNil:TGs:=λ vs Y H Q=>vs=[]/\Q Y H
def zd51 (t:TG) (u:TGs):TGs:=λ vs Y H Q=>∃ v r,vs=v :: r/\t v Y H λ Y' H'=>u r Y' H' Q
theorem zb2:PGs X [] gNil:=by
 intro pins s Y H vs us Q I r h
 obtain ⟨e,h⟩:=h
 subst e
 cases r
 exact assignInOrder_nil ⟨Y,H,I,h⟩
theorem zo0 {e:Expr} {es:List Expr} {t:TG} {u:TGs} (h1:PG X e t) (h2:PGs X es u)
  (hs:(assignEach (e :: es) X.env).map (·.2)=assign e X.env :: (assignEach es X.env).map (·.2):=by rfl):PGs X (e :: es) (zd51 t u):=by
 intro pins s Y H vs us Q I r h
 obtain ⟨v,vr,e1,h⟩:=h
 subst e1
 cases r with
|cons r rr =>
  rw [hs]
  refine assignInOrder_cons (thn (h1 pins s Y H _ _ _ I r h) λ _ s1 ⟨Y1,H1,I1,q1⟩=>?_)
  exact h2 pins s1 Y1 H1 _ _ Q I1 rr q1
def gTup (K:Fg) (n:Nat) (t:TGs):TG:=λ v Y H Q=>∃ a xs,v=.ref a/\SqT K H a xs/\xs.length=n/\t xs Y H Q
theorem zz11 {es:List Expr} {k:Nat} {t:TGs} {n:Nat} (hc:X.calm=true) (h:PGs X es t)
  (hn:(assignEach es X.env).length=n:=by rfl) (hst:(assignEach es X.env).findIdx? (·.1)=none:=by rfl):PG X (.Tuple es k pos) (gTup X.K n t):=by
 intro pins s Y H v u Q I r hw
 obtain ⟨a,xs,e1,hq,hl,hw⟩:=hw
 subst e1
 cases r
 obtain ⟨its,rv,ht,hz⟩:=I.tuple hq
 refine assign_Tuple_tuple (I.ok.hd hc) ht (by simp [hn,<- hl,rv.length]) hst λ h' hx=>?_
 have I1:Inv X pins Y H { s with heap:=h' }:=I.kept (t':=s.toks) λ b o e=>hx b o (uY (uN e)) e
 exact h pins _ Y H xs _ Q I1 (by simpa using rv) hw
def gSub (to ti:TE) (t:TSet):TG:=λ v Y H Q=>to Y H λ o H1=>ti Y H1 λ i H2=>t o i v H2 λ H3=>Q Y H3
theorem zak {o i:Expr} {to ti:TE} {t:TSet} (ho:PE X o to) (hi:PE X i ti) (hs:PSet X t)
  (ha:∀ v,assign (.Subscript o i pos) X.env v=(do
   let ov <- holding [v] (eval o X.env)
   let iv <- holding [v,ov] (eval i X.env)
   standAt pos
   holding [v,ov,iv] (setItem ov iv v)
   release [v,ov,iv] []):=by intro _;rfl):PG X (.Subscript o i pos) (gSub to ti t):=by
 intro pins s Y H v u Q I r h
 rw [ha]
 refine wpAny_bind (wpAny_holding (thn (ho pins s Y H _ I h) λ ov s1 ⟨x,H1,I1,r1,q1⟩=>?_))
 refine wpAny_bind (wpAny_holding (thn (hi pins s1 Y H1 _ I1 q1) λ iv s2 ⟨y,H2,I2,r2,q2⟩=>?_))
 refine wpAny_bind (wpAny_standAt (wpAny_bind (wpAny_holding (thn (hs pins s2 Y H2 x y v ov iv u _ I2 r1 r2 r q2) λ _ s3 ⟨H3,I3,q3⟩=>?_))))
 exact wpAny_release ⟨Y,H3,I3,q3⟩
def tAsg (te:TE) (g:TG):TS:=λ D Y H=>te Y H λ x H1=>g x Y H1 D.nx
theorem zcf {tg e:Expr} {te:TE} {g:TG} (he:PE X e te) (hg:PG X tg g) (hs:swapsWithSole [tg] e pos.line X.env=pure false:=by rfl) (hw:swappedStores [tg] e X.env=pure none:=by rfl)
  (h1:(assignEach [tg] X.env).map (·.2)=[assign tg X.env]:=by rfl):PS X (.Assign [tg] e pos) (tAsg te g):=by
 intro pins s Y H D I h
 refine wpAny_Assign_stores (thn (he pins s Y H _ I h) λ v s1 ⟨x,H1,I1,r1,q1⟩=>?_) hs hw
 rw [h1]
 exact thn (hg pins s1 Y H1 x v _ I1 r1 q1) λ _ s2 q=>q
theorem zlz {i:Nat} {x:Str} {e:Expr} {te:TE} {pos':Pos} (hN:X.N.Nodup) (hi:X.N[i]?=some x) (hx:Loc X.env.scope x) (he:PE X e te) (hs:swapsWith e (some (.Name x pos')) pos.line X.env=pure false:=by rfl) (hf:X.fn x=true \/ X.env.scope.names.lookup x=some .local:=by first|exact .inl rfl|exact .inr rfl|assumption) :
  PS X (.Assign [.Name x pos'] e pos) (tAsg te (zuj i)):=by
 intro pins s Y H D I h
 refine wpAny_Assign_Name (thn (he pins s Y H _ I h) λ v s1 ⟨y,H1,I1,r1,q1⟩=>?_) hs
 exact zog I1 hN hi hx r1 (λ s2 I2=>⟨_,H1,I2,q1⟩) hf
def zf41 (to ti te:TE) (tget:V->V->Hp->VK->Prop) (tip:TIp) (tset:TSet):TS:=λ D Y H=>to Y H λ o H1=>ti Y H1 λ i H2=>tget o i H2 λ x H3=>te Y H3 λ y H4=>tip x y H4 λ z H5=>tset o i z H5 λ H6=>D.nx Y H6
def PGet (X:Cx) (t:V->V->Hp->VK->Prop):Prop :=
 ∀ (pins:List (Addr×Obj)) (s:Shared) (Y:St) (H:Hp) (o i:V) (ov iv:Value) (Q:VK),Inv X pins Y H s->RelV o ov->RelV i iv->t o i H Q ->
  wpAny (model X.prog X.w) X.A (getItem ov iv) (EP X pins Y Q) X.xe s
theorem zbe {o i e:Expr} {to ti te:TE} {tget:V->V->Hp->VK->Prop} {tip:TIp} {tset:TSet} {op:Operator} {tpos:Pos} (ho:PE X o to) (hi:PE X i ti) (hg:PGet X tget) (he:PE X e te) (hp:PIp X op tip) (hs:PSet X tset)
  (ha:∀ ov iv new,augStore i ov iv new=(do holding [new,ov,iv] (setItem ov iv new);release [new,ov,iv] [];pure .next):=by intros;rfl):PS X (.AugAssign (.Subscript o i tpos) op e pos) (zf41 to ti te tget tip tset):=by
 intro pins s Y H D I h
 refine wpAny_AugAssign_SubscriptAny (thn (ho pins s Y H _ I h) λ ov s1 ⟨x1,H1,I1,r1,q1⟩=>?_) ha
 refine thn (hi pins s1 Y H1 _ I1 q1) λ iv s2 ⟨x2,H2,I2,r2,q2⟩=>?_
 refine thn (hg pins s2 Y H2 x1 x2 ov iv _ I2 r1 r2 q2) λ old s3 ⟨x3,H3,I3,r3,q3⟩=>?_
 refine thn (he pins s3 Y H3 _ I3 q3) λ v s4 ⟨x4,H4,I4,r4,q4⟩=>?_
 refine thn (hp pins s4 Y H4 x3 x4 old v _ I4 r3 r4 q4) λ new s5 ⟨x5,H5,I5,r5,q5⟩=>?_
 exact thn (hs pins s5 Y H5 x1 x2 x5 ov iv new _ I5 r1 r2 r5 q5) λ _ s6 ⟨H6,I6,q6⟩=>⟨Y,H6,I6,q6⟩
def ipI (f:Int->Int->Int):TIp:=λ x y H Q=>∃ i j,x=.int i/\y=.int j/\Q (.int (f i j)) H
theorem zmw:PIp X .Add (ipI λ i j=>i+j):=by
 intro pins s Y H x y v u Q I r1 r2 h
 obtain ⟨i,j,e1,e2,q⟩:=h
 subst e1;subst e2
 obtain ⟨t,rfl⟩:=r1
 obtain ⟨t',rfl⟩:=r2
 exact iadd_int ⟨.int _,H,I.tok _,⟨_,rfl⟩,q⟩
theorem zjs:PIp X .Sub (ipI λ i j=>i - j):=by
 intro pins s Y H x y v u Q I r1 r2 h
 obtain ⟨i,j,e1,e2,q⟩:=h
 subst e1;subst e2
 obtain ⟨t,rfl⟩:=r1
 obtain ⟨t',rfl⟩:=r2
 exact isub_int ⟨.int _,H,I.tok _,⟨_,rfl⟩,q⟩
end
section
variable {X:Cx} {pos:Pos}
def zhs (c:TT) (tb:TS):TS:=λ D Y H=>∃ W:Nat->St->Hp->Prop,(∃ m,W m Y H)/\∀ m Y H,W m Y H ->
 c Y H λ b H1=>if b=true then ∃ N:St->Hp->Prop,(∀ Y' H',N Y' H'->∃ m',m' < m/\W m' Y' H')/\tb { D with nx:=N,ct:=N,bk:=D.nx } Y H1 else D.nx Y H1
theorem zo4 {c:Expr} {body:List Stmt} {tc:TT} {tb:TS} (hp:PassesOwn (model X.prog X.w) X.A X.env X.xe) (hc:PT X c tc) (hb:PSs X body tb):PS X (.While c body [] pos) (zhs tc tb):=by
 intro pins s Y H D I h
 obtain ⟨W,⟨m0,w0⟩,turn⟩:=h
 refine wpAny_While (codeAny_whileLoop (λ n s'=>∃ Y' H',Inv X pins Y' H' s'/\W n Y' H') ?_ m0 ⟨Y,H,I,w0⟩)
 rintro n s1 ⟨Y1,H1,I1,w1⟩
 refine wpAny_passesOwn hp (thn (hc pins s1 Y1 H1 _ I1 (turn n Y1 H1 w1)) λ b s2 ⟨H2,I2,q2⟩=>?_)
 cases b with
|true =>
  obtain ⟨N,hN,q2⟩:=q2
  rw [if_pos rfl]
  refine wpAny_passesOwn hp (thn (hb pins s2 Y1 H2 _ I2 q2) λ f s3 q3=>?_)
  cases f with
 |next =>
   obtain ⟨Y3,H3,I3,n3⟩:=q3
   obtain ⟨m',hm,w3⟩:=hN Y3 H3 n3
   exact ⟨m',hm,Y3,H3,I3,w3⟩
 |cont =>
   obtain ⟨Y3,H3,I3,n3⟩:=q3
   obtain ⟨m',hm,w3⟩:=hN Y3 H3 n3
   exact ⟨m',hm,Y3,H3,I3,w3⟩
 |brk=>exact q3
 |ret v=>exact q3
|false =>
  rw [if_neg uV]
  exact wpAny_execs_nil ⟨Y1,H2,I2,q2⟩
end
structure It where
 go:Nat->Hp->Prop
 yld:Nat->Hp->V->Hp->Prop
 stop:Nat->Hp->Prop
def FpOk (X:Cx) (pins:List (Addr×Obj)) (H:Hp) (b:Addr):Prop :=
 H b=none/\b≠X.env.locals/\b ∉ X.fs/\(b∈X.ex \/ X.s₀.heap.objs.size<=b)/\(∀ x c,X.env.cells.lookup x=some c->c≠b)/\∀ p∈X.pn++pins,p.1≠b
theorem Inv.fpOk {X:Cx} {pins:List (Addr×Obj)} {Y:St} {H H':Hp} {s:Shared} {b:Addr} (I:Inv X pins Y H s) (hb:s.heap.objs.size<=b) (hn:H' b=none):FpOk X pins H' b:=by
 refine ⟨hn,xU (vE I.lt hb),I.nofs hb,.inr (vJ I.sz hb),λ x c e z=>?_,λ p hp z=>?_⟩
 ·obtain ⟨v,q⟩:=I.cell x c e
  exact absurd (vE q.lt (by rw [z];exact hb)) (vM _)
 ·exact absurd (vE (uN (I.pin p hp).1) (by rw [z];exact hb)) (vM _)
structure Turn (P:Program) (w:World) (K:Fg) (tg:Expr) (J:It) (fp:List Addr) (it:Addr) (tn:Nat->Heap->Prop):Prop where
 mem:it∈fp
 obj:∀ i h,tn i h->∀ b∈fp,∃ o,h.get? b=some o/\∀ v,o.data≠.cell v
 keep:∀ i h h',tn i h->(∀ b∈fp,∀ o,h.get? b=some o->h'.get? b=some o)->tn i h'
 item:∀ (X:Cx),X.prog=P->X.w=w->X.K=K->X.calm=true->∀ (i:Nat) (pins:List (Addr×Obj)) (s:Shared) (Y:St) (H:Hp) (E:Value->Shared->Prop),Inv X pins Y H s->(∀ b∈fp,FpOk X pins H b)->tn i s.heap->J.go i H ->
  wpAny (model P w) X.A (pyNext (.ref it)) (λ r s1=>∃ u,r=some u /\
   wpAny (model P w) X.A (letOwnedTupleGo tg (.ref it) u) (λ _ s2=>∃ x H',Inv X pins Y H' s2/\RelV x u/\J.yld i H x H'/\tn (i+1) s2.heap/\∀ b∈fp,H' b=none) E s1) E s
 done:∀ (X:Cx),X.prog=P->X.w=w->X.K=K->X.calm=true->∀ (i:Nat) (pins:List (Addr×Obj)) (s:Shared) (Y:St) (H:Hp) (E:Value->Shared->Prop),Inv X pins Y H s->(∀ b∈fp,FpOk X pins H b)->tn i s.heap->J.stop i H ->
  wpAny (model P w) X.A (pyNext (.ref it)) (λ r s1=>r=none/\Inv X pins Y H s1) E s
 self:∀ (A:Around) (i:Nat) (s:Shared) (Q:Value->Shared->Prop) (E:Value->Shared->Prop),tn i s.heap->Q (.ref it) s->wpAny (model P w) A (pyIter (.ref it)) Q E s
abbrev TI:=St->Hp->(It->Hp->Prop)->Prop
def PIE (X:Cx) (pins:List (Addr×Obj)) (Y:St) (tg:Expr) (R:It->Hp->Prop) (itv:Value) (s2:Shared):Prop :=
 ∃ (it:Addr) (fp:List Addr) (tn:Nat->Heap->Prop) (J:It) (H':Hp),itv=.ref it/\Inv X pins Y H' s2/\Turn X.prog X.w X.K tg J fp it tn/\tn 0 s2.heap/\(∀ b∈fp,FpOk X pins H' b)/\R J H'
def PI (X:Cx) (tg iter:Expr) (wi:TI):Prop :=
 ∀ (pins:List (Addr×Obj)) (s:Shared) (Y:St) (H:Hp) (R:It->Hp->Prop),Inv X pins Y H s->wi Y H R ->
  wpAny (model X.prog X.w) X.A (eval iter X.env) (λ v s1=>wpAny (model X.prog X.w) X.A (pyIter v) (PIE X pins Y tg R) X.xe s1) X.xe s
theorem zjv {M : Model} {A : Around} {E : Value → Shared → Prop} {s : Shared} {tg : Expr} {it : Addr} {u : Value} {o : Obj} {n : String} {vs : Array Value} {Q : Unit → Shared → Prop} (ho : s.heap.get? it = some o) (hc : o.cls = .type n) (hd : o.data = .fields vs)
    (hn : ["enumerate", "zip", "dict_itemiterator", "dict_reverseitemiterator", "odict_iterator", "itertools.zip_longest", "itertools.pairwise"].contains n = false) (hQ : Q () s) : wpAny M A (letOwnedTupleGo tg (.ref it) u) Q E s := by
  unfold letOwnedTupleGo
  cases tg <;> first
    | exact wpAny_pure hQ
    | (cases u <;> first
        | exact wpAny_pure hQ
        | (refine wpAny_bind (wpAny_load ho ?_)
           rw [hc, hd]
           show wpAny M A (if (["enumerate", "zip", "dict_itemiterator", "dict_reverseitemiterator", "odict_iterator", "itertools.zip_longest", "itertools.pairwise"].contains n && vs[0]? == some (rawInt _)) = true then _ else _) Q E s
           rw [if_neg (by intro h; rw [hn, Bool.false_and] at h; cases h)]
           exact wpAny_pure hQ))
def Itl (K:Fg) (a:Addr):It :=
 ⟨λ i H=>∃ xs x,SqL K H a xs/\xs[i]?=some x,λ i H x H'=>H'=H/\∀ xs,SqL K H a xs->xs[i]?=some x,λ i H=>∃ xs,SqL K H a xs/\xs.length<=i⟩
def Itt (K:Fg) (a:Addr):It :=
 ⟨λ i H=>∃ xs x,SqT K H a xs/\xs[i]?=some x,λ i H x H'=>H'=H/\∀ xs,SqT K H a xs->xs[i]?=some x,λ i H=>∃ xs,SqT K H a xs/\xs.length<=i⟩
def Itr (lo:Int) (n:Nat):It:=⟨λ i _=>i < n,λ i H x H'=>H'=H/\x=.int (lo+i),λ i _=>n<=i⟩
theorem zmi {P:Program} {w:World} {K:Fg} {tg:Expr} (a it:Addr):Turn P w K tg (Itl K a) [it] it (λ i h=>h.IsListIter it a i) where
 mem:=by simp
 obj:=λ i h st b hb=>by
  have e:b=it:=by simpa using hb
  subst e
  obtain ⟨o,e,c,d⟩:=st
  exact ⟨o,e,λ v z=>by rw [d] at z;cases z⟩
 keep:=λ i h h' st k=>st.at λ o e=>k it (by simp) o e
 item:=by
  intro X hP hw hK hc i pins s Y H E I hf st hg
  subst hP hw hK
  obtain ⟨xs,x,hq,hx⟩:=hg
  obtain ⟨its,rv,p,hz⟩:=I.list hq
  obtain ⟨u,hu,ru⟩:=rv.get hx
  obtain ⟨f0,f1,f2,f3,f4,f5⟩:=hf it (by simp)
  refine wpAny_pyNext_list_item st p.isList (x:=u) (by simpa using hu) λ h' st' sb=>?_
  have I1:Inv X pins Y H { s with heap:=h' }:=I.turned (t':=s.toks) (λ b o hb e=>(sb.2 b hb).trans e) f0 f1 f3 f4 f5
  obtain ⟨o,e,c,d⟩:=id st'
  exact ⟨u,rfl,zjv (s:={ s with heap:=h' }) e c d (by decide) ⟨x,H,I1,ru,⟨rfl,λ ys hy=>by rw [I.list_inj hy hq];exact hx⟩,st',λ b hb=>(hf b hb).1⟩⟩
 done:=by
  intro X hP hw hK hc i pins s Y H E I hf st hg
  subst hP hw hK
  obtain ⟨xs,hq,hx⟩:=hg
  obtain ⟨its,rv,p,hz⟩:=I.list hq
  obtain ⟨f0,f1,f2,f3,f4,f5⟩:=hf it (by simp)
  have hl:=rv.length
  exact wpAny_pyNext_list_end (I.ok.hd hc) st p.isList (by simp;lia) λ h' eb=>⟨rfl,I.turned (t':=s.toks) (λ b o hb e=>eb b o hb e) f0 f1 f3 f4 f5⟩
 self:=λ _ _ _ _ _ st h=>wpAny_pyIter_listiter st h
theorem zjg {P:Program} {w:World} {K:Fg} {tg:Expr} (a it:Addr):Turn P w K tg (Itt K a) [it] it (λ i h=>h.IsTupleIter it a i) where
 mem:=by simp
 obj:=λ i h st b hb=>by
  have e:b=it:=by simpa using hb
  subst e
  obtain ⟨o,e,c,d⟩:=st
  exact ⟨o,e,λ v z=>by rw [d] at z;cases z⟩
 keep:=λ i h h' st k=>st.at λ o e=>k it (by simp) o e
 item:=by
  intro X hP hw hK hc i pins s Y H E I hf st hg
  subst hP hw hK
  obtain ⟨xs,x,hq,hx⟩:=hg
  obtain ⟨its,rv,p,hz⟩:=I.tuple hq
  obtain ⟨u,hu,ru⟩:=rv.get hx
  obtain ⟨f0,f1,f2,f3,f4,f5⟩:=hf it (by simp)
  refine wpAny_pyNext_tuple_item st (show s.heap.IsTuple a its.toArray from p) (x:=u) (by simpa using hu) λ h' st' sb=>?_
  have I1:Inv X pins Y H { s with heap:=h' }:=I.turned (t':=s.toks) (λ b o hb e=>(sb.2 b hb).trans e) f0 f1 f3 f4 f5
  obtain ⟨o,e,c,d⟩:=id st'
  exact ⟨u,rfl,zjv (s:={ s with heap:=h' }) e c d (by decide) ⟨x,H,I1,ru,⟨rfl,λ ys hy=>by rw [I.tuple_inj hy hq];exact hx⟩,st',λ b hb=>(hf b hb).1⟩⟩
 done:=by
  intro X hP hw hK hc i pins s Y H E I hf st hg
  subst hP hw hK
  obtain ⟨xs,hq,hx⟩:=hg
  obtain ⟨its,rv,p,hz⟩:=I.tuple hq
  obtain ⟨f0,f1,f2,f3,f4,f5⟩:=hf it (by simp)
  have hl:=rv.length
  exact wpAny_pyNext_tuple_end (I.ok.hd hc) st (show s.heap.IsTuple a its.toArray from p) (by simp;lia) λ h' eb=>⟨rfl,I.turned (t':=s.toks) (λ b o hb e=>eb b o hb e) f0 f1 f3 f4 f5⟩
 self:=λ _ _ _ _ _ st h=>wpAny_pyIter_tupleiter st h
theorem zsg {P:Program} {w:World} {K:Fg} {tg:Expr} (it:Addr) (lo:Int) (n:Nat):Turn P w K tg (Itr lo n) [it] it (λ i h=>IsRangeIter h it (lo+(i:Nat) * 1) ((n:Int) - (i:Nat)) 1) where
 mem:=by simp
 obj:=λ i h st b hb=>by
  have e:b=it:=by simpa using hb
  subst e
  exact ⟨_,st,λ v z=>by
   have z':Data.fields _=Data.cell v:=z
   cases z'⟩
 keep:=λ i h h' st k=>k it (by simp) _ st
 item:=by
  intro X hP hw hK hc i pins s Y H E I hf st hg
  subst hP hw hK
  obtain ⟨f0,f1,f2,f3,f4,f5⟩:=hf it (by simp)
  have W:=Walks.range (prog:=X.prog) (w:=X.w) (I.ok.hd hc) it lo 1 n
  refine W.item i s _ _ hg st λ v h' tk hv st' kk=>?_
  obtain ⟨t,rfl⟩:=hv
  have I1:Inv X pins Y H { s with heap:=h',toks:=tk }:=I.turned (λ b o hb e=>kk b o (by simpa using hb) e) f0 f1 f3 f4 f5
  refine ⟨_,rfl,zjv (s:={ s with heap:=h',toks:=tk }) (n := "range_iterator") st' rfl rfl (by decide) ⟨.int (lo+i),H,I1,⟨t,?_⟩,⟨rfl,rfl⟩,st',λ b hb=>(hf b hb).1⟩⟩
  rw [Int.mul_one]
 done:=by
  intro X hP hw hK hc i pins s Y H E I hf st hg
  subst hP hw hK
  obtain ⟨f0,f1,f2,f3,f4,f5⟩:=hf it (by simp)
  exact wpAny_pyNext_range_end (I.ok.hd hc) st (by have:n<=i:=hg;lia) λ h' eb=>⟨rfl,I.turned (t':=s.toks) (λ b o hb e=>eb b o hb e) f0 f1 f3 f4 f5⟩
 self:=λ _ _ _ _ _ st h=>wpAny_pyIter_rangeiter st h
section
variable {X:Cx} {tg:Expr}
theorem zmo {pins:List (Addr×Obj)} {Y:St} {H:Hp} {s:Shared} {R:It->Hp->Prop} {E:Value->Shared->Prop} {lo hi:Int} {t u v:Tok} {tk:Nat} (I:Inv X pins Y H s) (h1:-(2 ^ 62)<=lo) (h2:lo < 2 ^ 62) (h3:-(2 ^ 62)<=hi) (h4:hi < 2 ^ 62)
  (q:R (Itr lo (hi - lo).toNat) H):wpAny (model X.prog X.w) X.A (pyIter (.ref s.heap.objs.size)) (PIE X pins Y tg R) E { s with heap:=s.heap.push { cls:=.type "range",data:=.fields #[.int lo t,.int hi u,.int 1 v] },toks:=tk }:=by
 refine wpAny_pyIter_range (IsRange.new ..) (small_one h1 h2 h3 h4) ?_
 have I1:Inv X pins Y H { s with heap:=s.heap.push { cls:=.type "range",data:=.fields #[.int lo t,.int hi u,.int 1 v] },toks:=tk }:=I.kept λ b o e=>uH _ e
 refine ⟨(s.heap.push { cls:=.type "range",data:=.fields #[.int lo t,.int hi u,.int 1 v] }).objs.size,[(s.heap.push { cls:=.type "range",data:=.fields #[.int lo t,.int hi u,.int 1 v] }).objs.size],_,_,H,rfl,
  I1.kept (t':=tk) λ b o e=>uH _ e,zsg _ lo (hi - lo).toNat,?_,λ b hb=>?_,q⟩
 ·have e1:lo+((0:Nat):Int) * 1=lo:=by simp
  have e2:(((hi - lo).toNat:Nat):Int) - ((0:Nat):Int)=Builtin.Range.rangeSize lo hi 1:=by rw [rangeSize_one];split <;> lia
  show IsRangeIter _ _ (lo+((0:Nat):Int) * 1) ((((hi - lo).toNat:Nat):Int) - ((0:Nat):Int)) 1
  rw [e1,e2]
  exact uT _ rfl
 ·have e:b=(s.heap.push { cls:=.type "range",data:=.fields #[.int lo t,.int hi u,.int 1 v] }).objs.size:=by simpa using hb
  subst e
  exact I1.fpOk (uF _) (I1.hok.fresh (uF _))
def zo41 (ta:TA):TI:=λ Y H R=>ta Y H λ vs H1=>∃ j:Int,vs=[.int j]/\-(2 ^ 62)<=j/\j < 2 ^ 62/\R (Itr 0 j.toNat) H1
theorem zca {a:Expr} {ta:TA} {p pos:Pos} (hg:Gl X "range") (hm:X.mg "range"=none) (ha:PA X [a] ta) (hs:starEach [a] X.env=[(false,eval a X.env)]:=by rfl):PI X tg (.Call (.Name "range" p) [a] [] pos) (zo41 ta):=by
 intro pins s Y H R I h
 refine Call_ (zg9 I hg hm boot_range (PyProof.Rows.callWith_type1 (thn (ha pos pins s Y H _ I h) λ us s1 ⟨vs,H1,I1,r1,q1⟩=>?_) hs rfl))
 obtain ⟨j,e,q1,q2,q⟩:=q1
 subst e
 cases r1 with
|cons r rr =>
  cases rr
  obtain ⟨t,rfl⟩:=r
  exact call_range_1 (zmo I1 (by lia) (by lia) q1 q2 (by simpa using q))
def tFor (wi:TI) (g:TG) (tb:TS):TS:=λ D Y H=>wi Y H λ J H1=>∃ W:Nat->Nat->St->Hp->Prop,(∃ m,W 0 m Y H1)/\∀ i m Y H,W i m Y H ->
 (J.stop i H/\D.nx Y H) \/ (J.go i H/\∃ N:St->Hp->Prop,(∀ Y' H',N Y' H'->∃ m',m' < m/\W (i+1) m' Y' H')/\∀ x H',J.yld i H x H'->g x Y H' λ Y2 H2=>tb { D with nx:=N,ct:=N,bk:=D.nx } Y2 H2)
def zbg (fp:List Addr) (h:Heap):List (Addr×Obj):=fp.filterMap λ b=>(h.get? b).map λ o=>(b,o)
theorem zx4 {fp:List Addr} {h:Heap} {b:Addr} {o:Obj} (hb:b∈fp) (e:h.get? b=some o):(b,o)∈zbg fp h:=zD.mpr ⟨b,hb,by rw [e];rfl⟩
theorem zuk {fp:List Addr} {h:Heap} {p:Addr×Obj} (hp:p∈zbg fp h):p.1∈fp/\h.get? p.1=some p.2:=by
 obtain ⟨b,hb,e⟩:=zD.mp hp
 cases q:h.get? b with
|none=>rw [q] at e;cases e
|some o =>
  rw [q] at e
  have e':(b,o)=p:=u7.inj e
  subst e'
  exact ⟨hb,q⟩
theorem Inv.pinned {pins:List (Addr×Obj)} {Y:St} {H:Hp} {s:Shared} {fp:List Addr} (I:Inv X pins Y H s) (hf:∀ b∈fp,FpOk X pins H b) (ho:∀ b∈fp,∃ o,s.heap.get? b=some o/\∀ v,o.data≠.cell v):Inv X (pins++zbg fp s.heap) Y H s :=
 I.pins_of λ p hp=>(uG.mp hp).elim (λ z=>I.pin p (vY _ z)) λ z=>by
  obtain ⟨hb,e⟩:=zuk z
  obtain ⟨f0,f1,f2,_⟩:=hf p.1 hb
  obtain ⟨o,e',d⟩:=ho p.1 hb
  rw [e] at e';cases e'
  exact ⟨e,f0,f1,f2,d⟩
theorem Inv.unpinned {pins pl:List (Addr×Obj)} {Y:St} {H:Hp} {s:Shared} (I:Inv X (pins++pl) Y H s):Inv X pins Y H s:=I.pins_of λ p hp=>I.pin p (vY _ (yI _ hp))
theorem zw4 {iter:Expr} {body:List Stmt} {wi:TI} {g:TG} {tb:TS} {pos:Pos} (hp:PassesOwn (model X.prog X.w) X.A X.env X.xe) (hc:X.calm=true) (hi:PI X tg iter wi) (hg:PG X tg g) (hb:PSs X body tb)
  (hs:∀ x,foldedSetIterable iter X.env x=pure x:=by intro _;rfl):PS X (.For tg iter body [] pos) (tFor wi g tb):=by
 intro pins s Y H D I h
 refine wpAny_For (thn (hi pins s Y H _ I h) λ v s1 h1=>thn h1 λ itv s2 h2=>?_) hs
 obtain ⟨it,fp,tn,J,H2,e,I2,T,st2,f2,W,⟨m0,w0⟩,turn⟩:=h2
 subst e
 -- what stays true of the iterator's objects through the loop
 have stat:∀ {H':Hp},(∀ b∈fp,H' b=none)->∀ b∈fp,FpOk X pins H' b:=λ hn b hb=>⟨hn b hb,(f2 b hb).2⟩
 refine codeAny_forLoop_any (λ n s'=>∃ i Y' H',Inv X pins Y' H' s'/\tn i s'.heap/\(∀ b∈fp,H' b=none)/\W i n Y' H') ?_ m0 ⟨0,Y,H2,I2,st2,λ b hb=>(f2 b hb).1,w0⟩
 rintro n s3 ⟨i,Y3,H3,I3,st3,fr3,w3⟩
 rcases turn i n Y3 H3 w3 with ⟨stop,qn⟩|⟨go,N,hN,step⟩
 ·refine wpAny_passesOwn hp (thn (T.done X rfl rfl rfl hc i pins s3 Y3 H3 X.xe I3 (stat fr3) st3 stop) λ r s4 ⟨hr,I4⟩=>?_)
  subst hr
  exact wpAny_execs_nil ⟨Y3,H3,I4,qn⟩
 ·refine wpAny_passesOwn hp (thn (T.item X rfl rfl rfl hc i pins s3 Y3 H3 X.xe I3 (stat fr3) st3 go) λ r s4 ⟨u,hr,h4⟩=>?_)
  subst hr
  refine wpAny_passesOwn hp (thn h4 λ _ s5 ⟨x,H5,I5,r5,y5,st5,fr5⟩=>?_)
  have I5':=I5.pinned (stat fr5) (T.obj _ _ st5)
  refine wpAny_passesOwn hp (thn (hg _ s5 Y3 H5 x u _ I5' r5 (step x H5 y5)) λ _ s6 ⟨Y6,H6,I6,q6⟩=>?_)
  refine wpAny_passesOwn hp (thn (hb _ s6 Y6 H6 _ I6 q6) λ f s7 q7=>?_)
  have again:∀ {Y7:St} {H7:Hp},Inv X (pins++zbg fp s5.heap) Y7 H7 s7->N Y7 H7->∃ m,m < n/\∃ i Y' H',Inv X pins Y' H' s7/\tn i s7.heap/\(∀ b∈fp,H' b=none)/\W i m Y' H':=λ {Y7 H7} I7 n7=>by
   obtain ⟨m',hm,w7⟩:=hN Y7 H7 n7
   refine ⟨m',hm,i+1,Y7,H7,I7.unpinned,T.keep _ _ _ st5 λ b hb o e=>(I7.pin (b,o) (vY _ (vY _ (zx4 hb e)))).1,λ b hb=>?_,w7⟩
   obtain ⟨o,e,d⟩:=T.obj _ _ st5 b hb
   exact (I7.pin (b,o) (vY _ (vY _ (zx4 hb e)))).2.1
  cases f with
 |next=>obtain ⟨Y7,H7,I7,n7⟩:=q7;exact again I7 n7
 |cont=>obtain ⟨Y7,H7,I7,n7⟩:=q7;exact again I7 n7
 |brk=>obtain ⟨Y7,H7,I7,q7⟩:=q7;exact ⟨Y7,H7,I7.unpinned,q7⟩
 |ret v=>obtain ⟨x7,Y7,H7,I7,r7,q7⟩:=q7;exact ⟨x7,Y7,H7,I7.unpinned,r7,q7⟩
end
abbrev R2:=V->V->Hp->VK->Prop
def OpR (X:Cx) (f:Value->Value->Sem Value) (r:R2):Prop :=
 ∀ (pins:List (Addr×Obj)) (s:Shared) (Y:St) (H:Hp) (x y:V) (v u:Value) (Q:VK),Inv X pins Y H s->RelV x v->RelV y u->r x y H Q ->
  wpAny (model X.prog X.w) X.A (f v u) (EP X pins Y Q) X.xe s
def UnR (X:Cx) (f:Value->Sem Value) (r:V->Hp->VK->Prop):Prop :=
 ∀ (pins:List (Addr×Obj)) (s:Shared) (Y:St) (H:Hp) (x:V) (v:Value) (Q:VK),Inv X pins Y H s->RelV x v->r x H Q ->
  wpAny (model X.prog X.w) X.A (f v) (EP X pins Y Q) X.xe s
def CallR (X:Cx) (f:Value) (r:List V->Hp->VK->Prop):Prop :=
 ∀ (pins:List (Addr×Obj)) (s:Shared) (Y:St) (H:Hp) (xs:List V) (us:List Value) (Q:VK),Inv X pins Y H s->Vals xs us->r xs H Q ->
  wpAny (model X.prog X.w) X.A (call f us) (EP X pins Y Q) X.xe s
def TruR (X:Cx) (r:V->Hp->(Bool->Hp->Prop)->Prop):Prop :=
 ∀ (pins:List (Addr×Obj)) (s:Shared) (Y:St) (H:Hp) (x:V) (v:Value) (Q:Bool->Hp->Prop),Inv X pins Y H s->RelV x v->r x H Q ->
  wpAny (model X.prog X.w) X.A (truthy v) (TP X pins Y Q) X.xe s
def tOp (r:R2) (ta tb:TE):TE:=λ Y H Q=>ta Y H λ x H1=>tb Y H1 λ y H2=>r x y H2 Q
def tUn (r:V->Hp->VK->Prop) (ta:TE):TE:=λ Y H Q=>ta Y H λ x H1=>r x H1 Q
def rI (C:Int->Int->Prop) (g:Int->Int->V):R2:=λ x y H Q=>∃ i j,x=.int i/\y=.int j/\C i j/\Q (g i j) H
def rI0 (g:Int->Int->V):R2:=λ x y H Q=>∃ i j,x=.int i/\y=.int j/\Q (g i j) H
def rU (g:Int->V):V->Hp->VK->Prop:=λ x H Q=>∃ i,x=.int i/\Q (g i) H
section
variable {X:Cx} {a b c:Expr} {ta tb tc:TE} {pos:Pos}
theorem binT (ha:PE X a ta) (hb:PE X b tb) {pins:List (Addr×Obj)} {s:Shared} {Y:St} {H:Hp} {R:V->V->Hp->Prop} (I:Inv X pins Y H s)
  (h:ta Y H λ x H1=>tb Y H1 λ y H2=>R x y H2) {Q:Value->Shared->Prop} {f:Value->Value->Sem Value}
  (hf:∀ v u s2 x y H2,Inv X pins Y H2 s2->RelV x v->RelV y u->R x y H2->wpAny (model X.prog X.w) X.A (f v u) Q X.xe s2) :
  wpAny (model X.prog X.w) X.A (eval a X.env) (λ v s₁=>wpAny (model X.prog X.w) X.A (eval b X.env) (λ u s₂=>wpAny (model X.prog X.w) X.A (f v u) Q X.xe s₂) X.xe s₁) X.xe s:=by
 refine thn (ha pins s Y H _ I h) λ v s1 ⟨x,H1,I1,r1,q1⟩=>?_
 refine thn (hb pins s1 Y H1 _ I1 q1) λ u s2 ⟨y,H2,I2,r2,q2⟩=>?_
 exact hf v u s2 x y H2 I2 r1 r2 q2
theorem zo1 {op:Operator} {r:R2} (ho:OpR X (binaryOp op) r) (ha:PE X a ta) (hb:PE X b tb):PE X (.BinOp a op b pos) (tOp r ta tb):=by
 intro pins s Y H Q I h
 exact wpAny_BinOp (binT ha hb I h λ v u s2 x y H2 I2 rx ry q=>ho pins s2 Y H2 x y v u Q I2 rx ry q)
theorem zx31 {op:UnaryOp} {r:V->Hp->VK->Prop} (ho:UnR X (unaryOp op) r) (ha:PE X a ta):PE X (.UnaryOp op a pos) (tUn r ta):=by
 intro pins s Y H Q I h
 exact UnaryOp_ (thn (ha pins s Y H _ I h) λ v s1 ⟨x,H1,I1,r1,q1⟩=>ho pins s1 Y H1 x v Q I1 r1 q1)
theorem opI {f:Value->Value->Sem Value} {C:Int->Int->Prop} {g:Int->Int->Int}
  (rule:∀ (i j:Int) (t u:Tok) (s:Shared) (Q:Value->Shared->Prop) (E:Value->Shared->Prop),C i j->Q (.int (g i j) s.toks) { s with toks:=s.toks+1 }->wpAny (model X.prog X.w) X.A (f (.int i t) (.int j u)) Q E s) :
  OpR X f (rI C λ i j=>.int (g i j)):=by
 intro pins s Y H x y v u Q I rx ry h
 obtain ⟨i,j,rfl,rfl,hc,q⟩:=h
 obtain ⟨t,rfl⟩:=rx
 obtain ⟨t',rfl⟩:=ry
 exact rule i j t t' s _ _ hc ⟨.int (g i j),H,I.tok _,⟨_,rfl⟩,q⟩
theorem opI0 {f:Value->Value->Sem Value} {g:Int->Int->Int}
  (rule:∀ (i j:Int) (t u:Tok) (s:Shared) (Q:Value->Shared->Prop) (E:Value->Shared->Prop),Q (.int (g i j) s.toks) { s with toks:=s.toks+1 }->wpAny (model X.prog X.w) X.A (f (.int i t) (.int j u)) Q E s) :
  OpR X f (rI0 λ i j=>.int (g i j)):=by
 intro pins s Y H x y v u Q I rx ry h
 obtain ⟨i,j,rfl,rfl,q⟩:=h
 obtain ⟨t,rfl⟩:=rx
 obtain ⟨t',rfl⟩:=ry
 exact rule i j t t' s _ _ ⟨.int (g i j),H,I.tok _,⟨_,rfl⟩,q⟩
theorem opB0 {f:Value->Value->Sem Value} {g:Int->Int->Bool}
  (rule:∀ (i j:Int) (t u:Tok) (s:Shared) (Q:Value->Shared->Prop) (E:Value->Shared->Prop),Q (.bool (g i j)) s->wpAny (model X.prog X.w) X.A (f (.int i t) (.int j u)) Q E s) :
  OpR X f (rI0 λ i j=>.bl (g i j)):=by
 intro pins s Y H x y v u Q I rx ry h
 obtain ⟨i,j,rfl,rfl,q⟩:=h
 obtain ⟨t,rfl⟩:=rx
 obtain ⟨t',rfl⟩:=ry
 exact rule i j t t' s _ _ ⟨.bl (g i j),H,I,rfl,q⟩
def CPow (i j:Int):Prop:=0<=j/\j<=1000000/\i.natAbs < 2 ^ 64
def CMul (i j:Int):Prop:=(-(2 ^ 64) < i/\i < 2 ^ 64) \/ (-(2 ^ 64) < j/\j < 2 ^ 64)
theorem CMul.ok {i j:Int} (h:CMul i j):IntMulOk i j:=by
 rcases h with ⟨h1,h2⟩|⟨h1,h2⟩
 ·exact .of_left (intBits_le_64 h1 h2)
 ·exact .of_right (intBits_le_64 h1 h2)
theorem zdh (k:Nat):(0:Int)<=2 ^ k:=by
 rw [two_pow_cast]
 exact Int.natCast_nonneg _
theorem zwx:OpR X (binaryOp .Add) (rI0 λ i j=>.int (i+j)):=opI0 λ _ _ _ _ _ _ _ q=>add_int q
theorem zt9:OpR X (binaryOp .Sub) (rI0 λ i j=>.int (i - j)):=opI0 λ _ _ _ _ _ _ _ q=>sub_int q
theorem zi11:OpR X (binaryOp .Mult) (rI CMul λ i j=>.int (i * j)):=opI λ _ _ _ _ _ _ _ hc q=>mul_int q hc.ok
theorem zd8:OpR X (binaryOp .Mod) (rI (λ _ j=>0 < j) λ i j=>.int (i % j)):=opI λ i j _ _ _ _ _ hc q=>by
 have h1:(0:Int) < j:=hc
 exact mod_int' (by lia) (by rw [Int.fmod_eq_emod_of_nonneg i (by lia)];exact q)
theorem zc11:OpR X (binaryOp .Pow) (rI CPow λ i j=>.int (i ^ j.toNat)):=opI λ _ _ _ _ _ _ _ hc q=>pow_int_small hc.1 hc.2.1 hc.2.2 q
theorem zfr:OpR X (binaryOp .LShift) (rI CPow λ i j=>.int (i * 2 ^ j.toNat)):=opI λ _ _ _ _ _ _ _ hc q=>lshift_int_small hc.1 hc.2.1 hc.2.2 q
theorem zvy:OpR X (binaryOp .RShift) (rI (λ _ j=>0<=j) λ i j=>.int (i / 2 ^ j.toNat)):=opI λ i j _ _ _ _ _ hc q =>
 rshift_int hc (by rw [zE i (zdh _)];exact q)
theorem zgq:OpR X (binaryOp .BitXor) (rI0 λ i j=>.int (Builtin.bitXor i j)):=opI0 λ _ _ _ _ _ _ _ q=>xor_int q
theorem unI {f:Value->Sem Value} {g:Int->Int}
  (rule:∀ (i:Int) (t:Tok) (s:Shared) (Q:Value->Shared->Prop) (E:Value->Shared->Prop),Q (.int (g i) s.toks) { s with toks:=s.toks+1 }->wpAny (model X.prog X.w) X.A (f (.int i t)) Q E s) :
  UnR X f (rU λ i=>.int (g i)):=by
 intro pins s Y H x v Q I rx h
 obtain ⟨i,rfl,q⟩:=h
 obtain ⟨t,rfl⟩:=rx
 exact rule i t s _ _ ⟨.int (g i),H,I.tok _,⟨_,rfl⟩,q⟩
theorem zvt:UnR X (unaryOp .USub) (rU λ i=>.int (-i)):=unI λ _ _ _ _ _ q=>neg_int q
end
def scal:V->V->Bool
|.non,.non=>true|.non,.int _=>true|.int _,.non=>true|.non,.bl _=>true|.bl _,.non=>true|.non,.str _=>true|.str _,.non=>true
|.int _,.int _=>true|.bl _,.bl _=>true|.str _,.str _=>true|.byt _,.byt _=>true
|.int _,.str _=>true|.str _,.int _=>true|.bl _,.str _=>true|.str _,.bl _=>true
|_,_=>false
def rEq:R2:=λ x y H Q=>scal x y=true/\Q (.bl (decide (x=y))) H
def rNe:R2:=λ x y H Q=>scal x y=true/\Q (.bl (!decide (x=y))) H
theorem zub {i j:Int}:decide (V.int i=V.int j)=(i == j):=by
 rw [xV]
 simp
theorem zph {i j:Bool}:decide (V.bl i=V.bl j)=(i == j):=by
 rw [xV]
 simp
theorem zhb {i j:Str}:decide (V.str i=V.str j)=(i == j):=by
 rw [xV]
 simp
theorem zbm {i j:Array UInt8}:decide (V.byt i=V.byt j)=(i.toList == j.toList):=by
 rw [xV]
 cases i
 cases j
 simp
section
variable {X:Cx} {a b c:Expr} {ta tb tc:TE} {pos:Pos}
theorem ze1 {pins:List (Addr×Obj)} {Y:St} {H:Hp} {s:Shared} {Q:VK} {k k':Bool} (I:Inv X pins Y H s) (q:Q (.bl k) H) (e:k=k'):EP X pins Y Q (.bool k') s:=by
 subst e
 exact ⟨.bl k,H,I,rfl,q⟩
theorem zw61:OpR X (compareOp .Eq) rEq:=by
 intro pins s Y H x y v u Q I rx ry h
 obtain ⟨hs,q⟩:=h
 cases x with
|non =>
  cases rx
  cases y with
 |non=>cases ry;exact PySem.EqNone.eq_none_none (ze1 I q (by simp))
 |bl j=>cases ry;exact PySem.EqNone.eq_none_bool (ze1 I q (by simp))
 |int j=>obtain ⟨t',rfl⟩:=ry;exact PySem.EqNone.eq_none_int (ze1 I q (by simp))
 |str j=>obtain ⟨t',rfl⟩:=ry;exact PySem.EqNone.eq_none_str (ze1 I q (by simp))
 |_=>exact absurd (show false=true from hs) uV
|bl i =>
  cases rx
  cases y with
 |non=>cases ry;exact PySem.EqNone.eq_bool_none (ze1 I q (by simp))
 |bl j=>cases ry;exact eq_bool (ze1 I q zph)
 |str j=>obtain ⟨t',rfl⟩:=ry;exact PySem.EqMixed.eq_bool_str (ze1 I q (by simp))
 |_=>exact absurd (show false=true from hs) uV
|int i =>
  obtain ⟨t,rfl⟩:=rx
  cases y with
 |non=>cases ry;exact PySem.EqNone.eq_int_none (ze1 I q (by simp))
 |int j=>obtain ⟨t',rfl⟩:=ry;exact eq_int (ze1 I q zub)
 |str j=>obtain ⟨t',rfl⟩:=ry;exact PySem.EqMixed.eq_int_str (ze1 I q (by simp))
 |_=>exact absurd (show false=true from hs) uV
|str i =>
  obtain ⟨t,rfl⟩:=rx
  cases y with
 |non=>cases ry;exact PySem.EqNone.eq_str_none (ze1 I q (by simp))
 |bl j=>cases ry;exact PySem.EqMixed.eq_str_bool (ze1 I q (by simp))
 |int j=>obtain ⟨t',rfl⟩:=ry;exact PySem.EqMixed.eq_str_int (ze1 I q (by simp))
 |str j=>obtain ⟨t',rfl⟩:=ry;exact eq_str (ze1 I q zhb)
 |_=>exact absurd (show false=true from hs) uV
|byt i =>
  obtain ⟨t,rfl⟩:=rx
  cases y with
 |byt j=>obtain ⟨t',rfl⟩:=ry;exact PySem.W.eq_bytes (ze1 I q zbm)
 |_=>exact absurd (show false=true from hs) uV
|_=>cases y <;> exact absurd (show false=true from hs) uV
theorem zm61:OpR X (compareOp .NotEq) rNe:=by
 intro pins s Y H x y v u Q I rx ry h
 obtain ⟨hs,q⟩:=h
 cases x with
|non =>
  cases rx
  cases y with
 |non=>cases ry;exact PySem.EqNone.ne_none_none (ze1 I q (by simp))
 |bl j=>cases ry;exact PySem.EqNone.ne_none_bool (ze1 I q (by simp))
 |int j=>obtain ⟨t',rfl⟩:=ry;exact PySem.EqNone.ne_none_int (ze1 I q (by simp))
 |str j=>obtain ⟨t',rfl⟩:=ry;exact PySem.EqNone.ne_none_str (ze1 I q (by simp))
 |_=>exact absurd (show false=true from hs) uV
|bl i =>
  cases rx
  cases y with
 |non=>cases ry;exact PySem.EqNone.ne_bool_none (ze1 I q (by simp))
 |bl j=>cases ry;exact ne_bool (ze1 I q (congrArg not zph))
 |str j=>obtain ⟨t',rfl⟩:=ry;exact PySem.EqMixed.ne_bool_str (ze1 I q (by simp))
 |_=>exact absurd (show false=true from hs) uV
|int i =>
  obtain ⟨t,rfl⟩:=rx
  cases y with
 |non=>cases ry;exact PySem.EqNone.ne_int_none (ze1 I q (by simp))
 |int j=>obtain ⟨t',rfl⟩:=ry;exact ne_int (ze1 I q (congrArg not zub))
 |str j=>obtain ⟨t',rfl⟩:=ry;exact PySem.EqMixed.ne_int_str (ze1 I q (by simp))
 |_=>exact absurd (show false=true from hs) uV
|str i =>
  obtain ⟨t,rfl⟩:=rx
  cases y with
 |non=>cases ry;exact PySem.EqNone.ne_str_none (ze1 I q (by simp))
 |bl j=>cases ry;exact PySem.EqMixed.ne_str_bool (ze1 I q (by simp))
 |int j=>obtain ⟨t',rfl⟩:=ry;exact PySem.EqMixed.ne_str_int (ze1 I q (by simp))
 |str j=>obtain ⟨t',rfl⟩:=ry;exact ne_str (ze1 I q (congrArg not zhb))
 |_=>exact absurd (show false=true from hs) uV
|byt i =>
  obtain ⟨t,rfl⟩:=rx
  cases y with
 |byt j=>obtain ⟨t',rfl⟩:=ry;exact PySem.W.ne_bytes (ze1 I q (congrArg not zbm))
 |_=>exact absurd (show false=true from hs) uV
|_=>cases y <;> exact absurd (show false=true from hs) uV
theorem zmp:OpR X (compareOp .Lt) (rI0 λ i j=>.bl (decide (i < j))):=opB0 λ _ _ _ _ _ _ _ q=>lt_int q
theorem zbp:OpR X (compareOp .Gt) (rI0 λ i j=>.bl (decide (j < i))):=opB0 λ _ _ _ _ _ _ _ q=>gt_int q
theorem zoi:OpR X (compareOp .In) (λ x y H Q=>∃ i j,x=.str i/\y=.str j/\Q (.bl (!(Builtin.Str.occurrences j i 0 j.length 1).isEmpty)) H):=by
 intro pins s Y H x y v u Q I rx ry h
 obtain ⟨i,j,rfl,rfl,q⟩:=h
 obtain ⟨t,rfl⟩:=rx
 obtain ⟨t',rfl⟩:=ry
 exact in_str (ze1 I q rfl)
theorem zd11:OpR X (compareOp .Is) (λ x y H Q=>y=.non/\Q (.bl (decide (x=.non))) H):=by
 intro pins s Y H x y v u Q I rx ry h
 obtain ⟨rfl,q⟩:=h
 cases ry
 refine is_none_gen (ze1 I q ?_)
 cases x <;> first
 |(cases rx;rfl)
 |(obtain ⟨t,rfl⟩:=rx;rfl)
theorem zxu:OpR X (compareOp .IsNot) (λ x y H Q=>y=.non/\Q (.bl (!decide (x=.non))) H):=by
 intro pins s Y H x y v u Q I rx ry h
 obtain ⟨rfl,q⟩:=h
 cases ry
 refine isnot_none_gen (ze1 I q ?_)
 cases x <;> first
 |(cases rx;rfl)
 |(obtain ⟨t,rfl⟩:=rx;rfl)
theorem OpR.or {f:Value->Value->Sem Value} {r r':R2} (h:OpR X f r) (h':OpR X f r'):OpR X f (λ x y H Q=>r x y H Q \/ r' x y H Q):=by
 intro pins s Y H x y v u Q I rx ry q
 rcases q with q|q
 ·exact h pins s Y H x y v u Q I rx ry q
 ·exact h' pins s Y H x y v u Q I rx ry q
theorem zi2 (b:Expr) {op:CmpOp} (h:op≠.In:=by decide) (h2:op≠.NotIn:=by decide):behindInMarks op b=false:=by
 have e1:(op == CmpOp.In)=false:=by cases op <;> first|rfl|exact absurd rfl h
 have e2:(op == CmpOp.NotIn)=false:=by cases op <;> first|rfl|exact absurd rfl h2
 cases b <;> simp [behindInMarks,e1,e2]
def zb61 (t:TE):TT:=λ Y H Q=>t Y H λ x H'=>∃ k,x=.bl k/\Q k H'
theorem zqt {op:CmpOp} {r:R2} (ho:OpR X (compareOp op) r) (ha:PE X a ta) (hb:PE X b tb) (hm:behindInMarks op b=false):PT X (.Compare a [op] [b] pos) (zb61 (tOp r ta tb)):=by
 intro pins s Y H Q I h
 refine wpAny_isTrue_Compare1 (thn (ha pins s Y H _ I h) λ v s1 ⟨x,H1,I1,r1,q1⟩=>thn (hb pins s1 Y H1 _ I1 q1) λ u s2 ⟨y,H2,I2,r2,q2⟩ =>
  thn (ho pins s2 Y H2 x y v u _ I2 r1 r2 q2) λ c s3 ⟨z,H3,I3,r3,k,e,q3⟩=>?_) hm
 subst e
 cases r3
 exact wpAny_truthy_bool ⟨H3,I3,q3⟩
def TruV (K:Fg) (x:V) (H:Hp) (k:Bool):Prop :=
 match x with
|.non=>k=false
|.bl b=>k=b
|.int i=>k=(i != 0)
|.str y=>y.length<=sizeLine/\k=((y.length:Int) != 0)
|.byt y=>y.size<=sizeLine/\k=((y.size:Int) != 0)
|.ref p=>(∃ xs,SqL K H p xs/\k=!xs.isEmpty) \/ (∃ xs,SqT K H p xs/\k=!xs.isEmpty) \/ ∃ kvs,H p=some (.dK kvs)/\k=!kvs.isEmpty
|_=>False
theorem znf {κ:Type} {kvs:List (κ×V)} {vs:List (κ×Value)} (r:KV kvs vs):(!vs.isEmpty)=!kvs.isEmpty:=by
 cases r <;> rfl
theorem znb {xs:List V} {its:List Value} (r:Vals xs its):(!its.toArray.isEmpty)=!xs.isEmpty:=by
 cases r <;> simp
theorem zvc:(sizeLine:Nat) < 2 ^ 63:=by rw [sizeLine_eq];decide
theorem zk11:TruR X (λ x H Q=>∃ k,TruV X.K x H k/\Q k H):=by
 intro pins s Y H x v Q I rx h
 obtain ⟨k,e,q⟩:=h
 have hl:=zvc
 have hs:sizeLine=16777216:=sizeLine_eq
 cases x with
|non =>
  cases rx
  have e':k=false:=e
  subst e'
  exact truthy_none ⟨H,I,q⟩
|bl b =>
  cases rx
  have e':k=b:=e
  subst e'
  exact wpAny_truthy_bool ⟨H,I,q⟩
|int i =>
  obtain ⟨t,rfl⟩:=rx
  have e':k=(i != 0):=e
  subst e'
  exact PySem.P.truthy_int ⟨H,I,q⟩
|str y =>
  obtain ⟨t,rfl⟩:=rx
  obtain ⟨hy,e'⟩:y.length<=sizeLine/\k=((y.length:Int) != 0):=e
  subst e'
  exact PySem.P.truthy_str (by lia) ⟨H,I.tok _,q⟩
|byt y =>
  obtain ⟨t,rfl⟩:=rx
  obtain ⟨hy,e'⟩:y.size<=sizeLine/\k=((y.size:Int) != 0):=e
  subst e'
  exact PySem.W.truthy_bytes (by lia) ⟨H,I.tok _,q⟩
|ref p =>
  cases rx
  have e':(∃ xs,SqL X.K H p xs/\k=!xs.isEmpty) \/ (∃ xs,SqT X.K H p xs/\k=!xs.isEmpty) \/ ∃ kvs,H p=some (.dK kvs)/\k=!kvs.isEmpty:=e
  rcases e' with ⟨xs,hx,e'⟩|⟨xs,hx,e'⟩|⟨kvs,hx,e'⟩
  ·subst e'
   obtain ⟨its,r,pl,hz⟩:=I.list hx
   have hlen:=r.length
   exact wpAny_truthy_list pl.isList (by simp only [uS];lia) ⟨H,I.tok _,by rw [znb r];exact q⟩
  ·subst e'
   obtain ⟨its,r,pl,hz⟩:=I.tuple hx
   have hlen:=r.length
   exact truthy_tuple pl (by simp only [uS];lia) ⟨H,I.tok _,by rw [znb r];exact q⟩
  ·subst e'
   obtain ⟨hz,hS,vs,r,m⟩:kvs.length<=sizeLine/\(p == sysModules)=false/\∃ vs,KV kvs vs/\s.heap.DictOf (zu0 X.prog X.w) p vs:=I.hok p _ hx
   have hlen:kvs.length=vs.length:=Paired.length r
   exact wpAny_truthy_dict hS m (by lia) ⟨H,I.tok _,by rw [znf r];exact q⟩
|_=>exact (show False from e).elim
theorem zcn (ha:PE X a ta) (he:∀ whole,isTrue a X.env whole=(do let v <- whole;standAt a.pos;holding [v] (truthy v))) :
  PT X a (λ Y H Q=>ta Y H λ x H'=>∃ k,TruV X.K x H' k/\Q k H'):=by
 intro pins s Y H Q I h
 exact isTrue_plain (thn (ha pins s Y H _ I h) λ v s1 ⟨x,H1,I1,r1,q1⟩=>zk11 pins s1 Y H1 x v Q I1 r1 q1) (he _)
theorem zdg:OpR X (binaryOp .Add) (λ x y H Q=>∃ i j,x=.str i/\y=.str j/\i.length+j.length<=sizeLine/\Q (.str (i++j)) H):=by
 intro pins s Y H x y v u Q I rx ry h
 obtain ⟨i,j,rfl,rfl,hz,q⟩:=h
 obtain ⟨t,rfl⟩:=rx
 obtain ⟨t',rfl⟩:=ry
 exact add_str (λ t' tk=>⟨.str (i++j),H,I.tok _,⟨_,rfl⟩,q⟩) hz
theorem zoe {x:V} {us:List Value} (r:Vals [x] us):∃ u,us=[u]/\RelV x u:=by
 cases r with
|cons r1 r2=>cases r2;exact ⟨_,rfl,r1⟩
theorem zt21 {x y:V} {us:List Value} (r:Vals [x,y] us):∃ u w',us=[u,w']/\RelV x u/\RelV y w':=by
 cases r with
|cons r1 r2 =>
  cases r2 with
 |cons r3 r4=>cases r4;exact ⟨_,_,rfl,r1,r3⟩
theorem zgn:CallR X (.builtin "abs") (λ xs H Q=>∃ i,xs=[.int i]/\Q (.int (if i < 0 then -i else i)) H):=by
 intro pins s Y H xs us Q I r h
 obtain ⟨i,rfl,q⟩:=h
 obtain ⟨u,rfl,t,rfl⟩:=zoe r
 exact call_abs_int λ u tk=>⟨.int (if i < 0 then -i else i),H,I.tok _,⟨_,rfl⟩,q⟩
def LenV (K:Fg) (x:V) (H:Hp) (n:Nat):Prop :=
 match x with
|.str y=>y.length<=sizeLine/\n=y.length
|.byt y=>y.size<=sizeLine/\n=y.size
|.ref p=>(∃ xs,SqL K H p xs/\n=xs.length) \/ ∃ xs,SqT K H p xs/\n=xs.length
|_=>False
theorem zmm:CallR X (.builtin "len") (λ xs H Q=>∃ x n,xs=[x]/\LenV X.K x H n/\Q (.int n) H):=by
 intro pins s Y H xs us Q I r h
 obtain ⟨x,n,rfl,e,q⟩:=h
 obtain ⟨u,rfl,rx⟩:=zoe r
 have hl:=zvc
 have hs:sizeLine=16777216:=sizeLine_eq
 cases x with
|str y =>
  obtain ⟨t,rfl⟩:=rx
  obtain ⟨hy,e'⟩:y.length<=sizeLine/\n=y.length:=e
  subst e'
  exact len_str (by lia) ⟨.int _,H,I.tok _,⟨_,rfl⟩,q⟩
|byt y =>
  obtain ⟨t,rfl⟩:=rx
  obtain ⟨hy,e'⟩:y.size<=sizeLine/\n=y.size:=e
  subst e'
  exact PySem.W.len_bytes (by lia) ⟨.int _,H,I.tok _,⟨_,rfl⟩,q⟩
|ref p =>
  cases rx
  have e':(∃ xs,SqL X.K H p xs/\n=xs.length) \/ ∃ xs,SqT X.K H p xs/\n=xs.length:=e
  rcases e' with ⟨xs,hx,e'⟩|⟨xs,hx,e'⟩
  ·subst e'
   obtain ⟨its,r',pl,hz⟩:=I.list hx
   have hlen:=r'.length
   exact Calls.call_len_list pl.isList (by simp only [uS];lia) ⟨.int xs.length,H,I.tok _,⟨_,by simp only [uS];rw [hlen]⟩,q⟩
  ·subst e'
   obtain ⟨its,r',pl,hz⟩:=I.tuple hx
   have hlen:=r'.length
   exact len_tuple pl (by simp only [uS];lia) ⟨.int xs.length,H,I.tok _,⟨_,by simp only [uS];rw [hlen]⟩,q⟩
|_=>exact (show False from e).elim
end
structure ObjM (h:Heap) (x dx C:Addr) (mA:Str->Option Value):Prop where
 obj:h.get? x=some (PySem.W.instObj C dx)
 ns:h.Ns1 dx mA
 ne:dx≠x
theorem zyi {h:Heap} {dx:Addr} {mA:Str->Option Value} (n:h.Ns1 dx mA):∃ od,h.get? dx=some od/\∀ name,PySem.W.lookIn name od=some (mA name):=by
 obtain ⟨o,es,ep,ho,hd,hk,_,hm⟩:=n
 refine ⟨o,ho,λ name=>?_⟩
 have e:=hm name
 unfold nsFind findBy at e
 rw [<- Array.find?_toList] at e
 unfold PySem.W.lookIn
 rw [hd]
 dsimp only
 split
 ·rename_i y q
  rw [q] at e
  exact congrArg some e
 ·rename_i q
  rw [q] at e
  have a:es.toList.any (·.refKey)=false:=by
   rw [List.any_eq_false]
   intro y hy
   obtain ⟨z,t,hkey⟩:=hk y (Array.mem_toList_iff.mp hy)
   simp [DictEntry.refKey,hkey]
  have a':¬ es.toList.any (·.refKey)=true:=by rw [a];exact uV
  rw [if_neg a']
  exact congrArg some e
theorem ObjM.look {h:Heap} {x dx C:Addr} {mA:Str->Option Value} (I:ObjM h x dx C mA):∃ od,PySem.W.InstAt h x (PySem.W.instObj C dx) C (some od)/\∀ name,PySem.W.lookIn name od=some (mA name) :=
 let ⟨od,ho,hl⟩:=zyi I.ns
 ⟨od,⟨I.obj,rfl,rfl,ho⟩,hl⟩
section
variable {prog:Program} {w:World} {A:Around} {E:Value->Shared->Prop} {s:Shared} {K:Fg} {x dx C f:Addr} {mA:Str->Option Value} {name:Str} {v:Value}
theorem zlw {expr:Bool} {Q:Value->Shared->Prop} (X:K.In s.heap) (I:ObjM s.heap x dx C mA) (hg:PySem.W.plainGet K C name=true) (hh:PySem.W.hasDictIn K C=true)
  (ha:PySem.W.findIn K (.ref C) name=some none) (hv:mA name=some v) (hv':PySem.W.handedIn v=true) (h:Q v { s with toks:=s.toks+1 }) :
  wpAny (model prog w) A (getAttr (.ref x) name expr) Q E s:=by
 obtain ⟨od,J,hl⟩:=I.look
 exact PySem.W.get_value X J (PySem.W.plainGet_of hg).1 (PySem.W.findObj_own hh ha rfl (by rw [hl,hv])) hv' h
theorem zkm {pl:Sem Bool} {Q:Value×List Value->Shared->Prop} (X:K.In s.heap) (I:ObjM s.heap x dx C mA) (hg:PySem.W.plainGet K C name=true)
  (hf:PySem.W.findIn K (.ref C) name=some (some (.ref f))) (ht:PySem.W.isFn K (.ref f)=true) (hv:mA name=none) (h:Q (.ref f,[.ref x]) s) :
  wpAny (model prog w) A (getMethod (.ref x) name pl) Q E s:=by
 obtain ⟨od,J,hl⟩:=I.look
 exact PySem.W.method_fn X J (PySem.W.plainGet_of hg).1 (PySem.W.plainGet_of hg).2 hf (beq_iff_eq.mp ht) (by show (PySem.W.lookIn name od).map (·.isSome)=some false;rw [hl,hv];rfl) h
theorem zbt {ns:List Str} {Q:Unit->Shared->Prop} (X:K.In s.heap) (I:ObjM s.heap x dx C mA)
  (hs:PySem.W.findIn K (.ref C) "__setattr__"=some (some (.builtin "object.__setattr__"))) (hp:PySem.W.plainOver K C=true) (ht:PySem.W.takerIn K C name=some none) (hh:PySem.W.hasDictIn K C=true)
  (hw:PySem.Within mA ns) (hsz:ns.length<=sizeLine)
  (h:∀ h',ObjM h' x dx C (λ y=>if y=name then some v else mA y)->Heap.SameBut dx s.heap h'->Q () { s with heap:=h',toks:=s.toks+2 }) :
  wpAny (model prog w) A (setAttr (.ref x) name v) Q E s:=by
 obtain ⟨od,J,hl⟩:=I.look
 refine PySem.W.set_plain X J hs (PySem.W.osa_open (s:={ s with toks:=s.toks+1 }) (r:=none) X J hp ht λ b=>?_)
 obtain ⟨cd,hc,hd'⟩:=PySem.W.any_some hh
 have hx:s.heap.get? x=some ⟨.ref C,some dx,.plain,#[]⟩:=I.obj
 refine wpAny_bind (wpAny_pure (wpAny_bind (wpAny_bind (wpAny_loadPart hx (wpAny_bind (PySem.W.Looks.here (s:={ s with toks:=s.toks+1 }) (PySem.W.looks_clsIn X hc) ?_))))))
 rw [hd']
 refine wpAny_pure (a:=some dx) (wpAny_bind (wpAny_pure (wpAny_bind ?_)))
 refine wpAny_nsSet1 (s:={ s with toks:=s.toks+1 }) I.ns λ h' hn2 hs2=>?_
 obtain ⟨oD,esD,epD,hoD,hdD,hcD⟩:=hn2.count (PySem.Within.cons name v hw)
 refine wpAny_bind (wpAny_lookBehind hoD (by rw [hdD];exact pastItsLine_dict (vJ hcD (by rw [vP];lia))) ?_)
 exact wpAny_pure (h _ ⟨(hs2.2 _ (Ne.symm I.ne)).trans I.obj,hn2,I.ne⟩ hs2)
theorem zln {R:Result->Shared->Prop} {vs:List Value} {kw:List (Str×Value)} (X:K.In s.heap) (hm:PySem.W.makesIn K C=true)
  (hi:PySem.W.findIn K (.ref C) "__init__"=some (some (.ref f))) (hf:PySem.W.typeIn K (.ref f)=some (.type "function"))
  (h:codeAny (model prog w) (A.under (.builtin "type.__call__" ⟨.ref C :: vs,kw⟩)) (.call (.ref f) ⟨.ref (s.heap.objs.size+1) :: vs,kw⟩) (PySem.W.InitBack (s.heap.objs.size+1) R)
   { s with heap:=(s.heap.push PySem.W.emptyDict).push (PySem.W.instObj C s.heap.objs.size) }) :
  codeAny (model prog w) A (.call (.ref C) ⟨vs,kw⟩) R s:=by
 obtain ⟨hh,g,d,t,os⟩:=s
 exact PySem.W.make_core (PySem.W.makes_of X hm) (PySem.W.looks_findIn X hi) (λ self=>PySem.W.bind_fn X self hf) (.inl rfl) h
end
def putF (f:Str) (v:V):List (Str×V)->List (Str×V)
|[]=>[(f,v)]
|(g,x) :: r=>if g=f then (g,v) :: r else (g,x) :: putF f v r
theorem zd9 (f g:Str) (v:V):∀ fs:List (Str×V),(putF f v fs).lookup g=if g=f then some v else fs.lookup g
|[]=>by
  show vR g [(f,v)]=_
  by_cases h:g=f
  ·have hb:(g == f)=true:=beq_iff_eq.mpr h
   simp only [vR,hb,if_pos h]
  ·have hb:(g == f)=false:=beq_eq_false_iff_ne.mpr h
   simp only [vR,hb,if_neg h]
|(k,x) :: r=>by
  have ih:=zd9 f g v r
  rw [show putF f v ((k,x) :: r)=(if k=f then (k,v) :: r else (k,x) :: putF f v r) from rfl]
  by_cases hk:k=f
  ·rw [if_pos hk]
   by_cases h:g=k
   ·have hb:(g == k)=true:=beq_iff_eq.mpr h
    simp only [vR,hb,if_pos (h.trans hk)]
   ·have hb:(g == k)=false:=beq_eq_false_iff_ne.mpr h
    simp only [vR,hb,if_neg (λ e:g=f=>h (e.trans hk.symm))]
  ·rw [if_neg hk]
   by_cases h:g=k
   ·have hb:(g == k)=true:=beq_iff_eq.mpr h
    simp only [vR,hb,if_neg (λ e:g=f=>hk (h.symm.trans e))]
   ·have hb:(g == k)=false:=beq_eq_false_iff_ne.mpr h
    simp only [vR,hb]
    exact ih
theorem zba (f:Str) (v:V):∀ fs:List (Str×V),f∈(putF f v fs).map (·.1)/\∀ g,g∈fs.map (·.1)->g∈(putF f v fs).map (·.1)
|[]=>⟨by simp [putF],λ g h=>by simp at h⟩
|(k,x) :: r=>by
  obtain ⟨i1,i2⟩:=zba f v r
  rw [show putF f v ((k,x) :: r)=(if k=f then (k,v) :: r else (k,x) :: putF f v r) from rfl]
  by_cases hk:k=f
  ·rw [if_pos hk]
   subst hk
   exact ⟨by simp,λ g h=>by simpa using h⟩
  ·rw [if_neg hk]
   refine ⟨?_,λ g h=>?_⟩
   ·rw [uK]
    exact vB _ i1
   ·rw [uK] at h ⊢
    rcases uE.mp h with e|e
    ·exact uE.mpr (.inl e)
    ·exact vB _ (i2 g e)
theorem za9 (f:Str) (v:V):∀ fs:List (Str×V),(putF f v fs).length<=fs.length+1
|[]=>by simp [putF]
|(k,x) :: r=>by
  have ih:=za9 f v r
  rw [show putF f v ((k,x) :: r)=(if k=f then (k,v) :: r else (k,x) :: putF f v r) from rfl]
  by_cases hk:k=f
  ·rw [if_pos hk,vP,vP];lia
  ·rw [if_neg hk,vP,vP];lia
theorem RelO.some_of {v:V} {o:Option Value} (r:RelO (some v) o):∃ u,o=some u/\RelV v u:=by
 cases o with
|none=>exact (show False from r).elim
|some u=>exact ⟨u,rfl,r⟩
theorem RelO.none_of {o:Option Value} (r:RelO none o):o=none:=by
 cases o with
|none=>rfl
|some u=>exact (show False from r).elim
theorem zbk {v:V} {u:Value} (r:RelV v u):PySem.W.handedIn u=true:=by
 cases v with
|non=>cases (show u=v8 from r);rfl
|bl b=>cases (show u=xS b from r);rfl
|int i=>obtain ⟨t,e⟩:=(show ∃ t,u=wW i t from r);cases e;rfl
|str x=>obtain ⟨t,e⟩:=(show ∃ t,u=wX x t from r);cases e;rfl
|byt b=>obtain ⟨t,e⟩:=(show ∃ t,u=Value.bytes b t from r);cases e;rfl
|flt b=>obtain ⟨t,e⟩:=(show ∃ t,u=yE b t from r);cases e;rfl
|ref a=>cases (show u=uR a from r);rfl
|ty n=>cases (show u=Value.type n from r);rfl
section
variable {P:Program} {w:World} {H H':Hp} {h h':Heap} {a C dx:Addr} {fs fs':List (Str×V)}
theorem zkd (hok:HOk P w H h) (e:H a=some (.ins C dx fs)):∃ mA,ObjM h a dx C mA/\(∀ f,RelO (fs.lookup f) (mA f))/\PySem.Within mA (fs.map (·.1))/\fs.length<=1000/\H dx=some (.own a):=by
 obtain ⟨d,z,ne,ob,mA,n,r,q⟩:=(show ObjOk P w H h a (.ins C dx fs) from hok a _ e)
 exact ⟨mA,⟨ob,n,ne⟩,r,q,z,d⟩
end
structure Cls (K:Fg) (C:Addr):Prop where
 pg:PySem.W.plainGet K C Str.empty=true
 hd:PySem.W.hasDictIn K C=true
 po:PySem.W.plainOver K C=true
 sa:PySem.W.findIn K (.ref C) "__setattr__"=some (some (.builtin "object.__setattr__"))
theorem Cls.get {K:Fg} {C:Addr} (c:Cls K C) (f:Str):PySem.W.plainGet K C f=true:=c.pg
def NoAttr (K:Fg) (C:Addr) (f:Str):Prop:=PySem.W.findIn K (.ref C) f=some none
theorem NoAttr.taker {K:Fg} {C:Addr} {f:Str} (n:NoAttr K C f):PySem.W.takerIn K C f=some none:=by
 unfold PySem.W.takerIn
 rw [show PySem.W.findIn K (.ref C) f=some none from n]
 rfl
structure Meth (K:Fg) (C:Addr) (m:Str) (f:Addr):Prop where
 at_:PySem.W.findIn K (.ref C) m=some (some (.ref f))
 fn:PySem.W.isFn K (.ref f)=true
 kp:PySem.W.keepIn K (.ref f)=true
section
variable {X:Cx} {pins:List (Addr×Obj)} {Y:St} {H:Hp} {s:Shared} {a C dx:Addr} {fs:List (Str×V)} {f:Str} {v:V} {A:Around} {E:Value->Shared->Prop}
theorem zmh {b:Bool} {Q:Value->Shared->Prop} (I:Inv X pins Y H s) (e:H a=some (.ins C dx fs)) (c:Cls X.K C) (n:NoAttr X.K C f) (l:fs.lookup f=some v)
  (h:∀ u s',Inv X pins Y H s'->RelV v u->Q u s'):wpAny (model X.prog X.w) A (getAttr (.ref a) f b) Q E s:=by
 obtain ⟨mA,O,r,_,_,_⟩:=zkd I.hok e
 obtain ⟨u,hu,ru⟩:=RelO.some_of (v:=v) (o:=mA f) (by rw [<- l];exact r f)
 exact zlw I.kIn O (c.get f) c.hd n hu (zbk ru) (h u _ (I.tok _) ru)
theorem zj7 {m:Str} {g:Addr} {pl:Sem Bool} {Q:Value×List Value->Shared->Prop} (I:Inv X pins Y H s) (e:H a=some (.ins C dx fs)) (c:Cls X.K C) (k:Meth X.K C m g) (l:fs.lookup m=none)
  (h:Q (.ref g,[.ref a]) s):wpAny (model X.prog X.w) A (getMethod (.ref a) m pl) Q E s:=by
 obtain ⟨mA,O,r,_,_,_⟩:=zkd I.hok e
 have hn:mA m=none:=RelO.none_of (by rw [<- l];exact r m)
 exact zkm I.kIn O (c.get m) k.at_ k.fn hn h
theorem zgg {y:V} {u:Value} {Q:Unit->Shared->Prop} (I:Inv X pins Y H s) (e:H a=some (.ins C dx fs)) (c:Cls X.K C) (n:NoAttr X.K C f) (hl:fs.length < 1000) (ry:RelV y u)
  (h:∀ s',Inv X pins Y (upd H a (.ins C dx (putF f y fs))) s'->Q () s'):wpAny (model X.prog X.w) A (setAttr (.ref a) f u) Q E s:=by
 obtain ⟨mA,O,r,wi,_,ho⟩:=zkd I.hok e
 have hz:(fs.map (·.1)).length<=sizeLine:=by rw [uA,sizeLine_eq];lia
 refine zbt I.kIn O c.sa c.po n.taker c.hd wi hz λ h' O' sb=>h _ ?_
 have hd:∃ o,h'.get? dx=some o:=let ⟨o,_,_,e',_⟩:=O'.ns;⟨o,e'⟩
 refine I.write (x:=a) (e:=dx) (by rw [e];exact True.intro) (.inr ho) (λ b q hb z=>(sb.2 b hb).trans z) hd ?_
 refine ⟨by rw [zm0 O.ne];exact ho,?_,O.ne,O'.obj,_,O'.ns,λ g=>?_,λ g hg=>?_⟩
 ·have:=za9 f y fs;lia
 ·show RelO ((putF f y fs).lookup g) (if g=f then some u else mA g)
  rw [zd9]
  by_cases q:g=f
  ·rw [if_pos q,if_pos q];exact ry
  ·rw [if_neg q,if_neg q];exact r g
 ·by_cases q:g=f
  ·rw [q];exact (zba f y fs).1
  ·refine (zba f y fs).2 g (wi g λ z=>hg ?_)
   show (if g=f then some u else mA g)=none
   rw [if_neg q];exact z
theorem Inv.made (I:Inv X pins Y H s):Inv X pins Y (upd (upd H s.heap.objs.size (.own (s.heap.objs.size+1))) (s.heap.objs.size+1) (.ins C s.heap.objs.size []))
  { s with heap:=(s.heap.push PySem.W.emptyDict).push (PySem.W.instObj C s.heap.objs.size) }:=by
 have e1:(s.heap.push PySem.W.emptyDict).get? s.heap.objs.size=some PySem.W.emptyDict:=uT s.heap rfl
 have e2:((s.heap.push PySem.W.emptyDict).push (PySem.W.instObj C s.heap.objs.size)).get? (s.heap.objs.size+1)=some (PySem.W.instObj C s.heap.objs.size):=by
  have:=uT (s.heap.push PySem.W.emptyDict) (o:=PySem.W.instObj C s.heap.objs.size) rfl
  rwa [vD] at this
 have e3:(s.heap.push PySem.W.emptyDict).Ns s.heap.objs.size (λ _=>none):=⟨PySem.W.emptyDict,#[],_,e1,rfl,(λ e he=>absurd he (by simp)),λ _=>rfl⟩
 have I1:=I.laid (a:=s.heap.objs.size) (o:=.own (s.heap.objs.size+1)) (h':=s.heap.push PySem.W.emptyDict) (t':=s.toks) (λ b u q=>uH _ q) (uF _) ⟨_,e1⟩
 refine I1.laid (a:=s.heap.objs.size+1) (o:=.ins C s.heap.objs.size []) (t':=s.toks) (λ b u q=>uH _ q) (yK (vD _ _)) ?_
 have ne:s.heap.objs.size≠s.heap.objs.size+1:=uY (xF _)
 refine ⟨by rw [zm0 ne,zi0],vZ _,ne,e2,λ _=>none,(Heap.Ns1.of_empty e3).at λ o q=>uH _ q,λ _=>True.intro,λ y hy=>absurd rfl hy⟩
theorem zpu {prog:Program} {w:World} {env:Env} {e:Expr} {f:Str} {pos:Pos} {s:Shared} {Q:Value->Shared->Prop} (hb:attributeBase e f env (eval e env)=eval e env)
  (h:wpAny (model prog w) A (eval e env) (λ o s₁=>wpAny (model prog w) A (getAttr o f true) Q E s₁) E s):wpAny (model prog w) A (eval (.Attribute e f pos) env) Q E s :=
 Attribute_any_ h (by rw [arm_eval_Attribute,hb])
end
def tFld (K:Fg) (ta:TE) (f:Str):TE:=λ Y H Q=>ta Y H λ x H1=>∃ a C dx fs v,x=.ref a/\H1 a=some (.ins C dx fs)/\Cls K C/\NoAttr K C f/\fs.lookup f=some v/\Q v H1
def sFld (K:Fg) (ta tv:TE) (f:Str):TS:=λ D Y H=>tv Y H λ y H1=>ta Y H1 λ x H2=>∃ a C dx fs,x=.ref a/\H2 a=some (.ins C dx fs)/\Cls K C/\NoAttr K C f/\fs.length < 1000 /\
 D.nx Y (upd H2 a (.ins C dx (putF f y fs)))
section
variable {X:Cx} {o e value:Expr} {f:Str} {pos pos' tpos:Pos} {ta tv:TE}
theorem zkx (he:PE X e ta) (hb:attributeBase e f X.env (eval e X.env)=eval e X.env):PE X (.Attribute e f pos) (tFld X.K ta f):=by
 intro pins s Y H Q I h
 refine zpu hb (thn (he pins s Y H _ I h) λ u s1 ⟨x,H1,I1,rx,a,C,dx,fs,v,ex,ea,c,n,l,q⟩=>?_)
 subst ex
 obtain rfl:u=uR a:=rx
 exact zmh I1 ea c n l λ u' s2 I2 ru=>⟨v,H1,I2,ru,q⟩
theorem zpm (ha:PE X o ta) (hv:PE X value tv) (hs:swapsWith value (some (.Attribute o f pos')) pos.line X.env=pure false):PS X (.Assign [.Attribute o f pos'] value pos) (sFld X.K ta tv f):=by
 intro pins s Y H D I h
 refine plainObj_wpAny_Assign_Attribute (thn (hv pins s Y H _ I h) λ u s1 ⟨y,H1,I1,ry,q⟩=>thn (ha pins s1 Y H1 _ I1 q) λ ov s2 ⟨x,H2,I2,rx,a,C,dx,fs,ex,ea,c,n,l,q2⟩=>?_) hs
 subst ex
 obtain rfl:ov=uR a:=rx
 exact zgg I2 ea c n l ry λ s3 I3=>⟨Y,_,I3,q2⟩
theorem zxp {pl:Sem Bool} {m:Str} {apos:Pos} {args:List Expr} {pins:List (Addr×Obj)} {s:Shared} {Y:St} {H:Hp} {Q:Value->Shared->Prop} {te:TE} (he:PE X e te) (I:Inv X pins Y H s)
  (h:te Y H λ x H1=>∃ a C dx fs g,x=.ref a/\H1 a=some (.ins C dx fs)/\Cls X.K C/\Meth X.K C m g/\fs.lookup m=none /\
   ∀ s1,Inv X pins Y H1 s1->wpAny (model X.prog X.w) X.A (callWith pos (.ref g) [.ref a] (backTo pos (starEach args X.env)) (backToKw pos (keywordEach [] X.env))) Q X.xe s1)
  (ht:eval (.Call (.Attribute e m apos) args [] pos) X.env=(do
   let ov <- eval e X.env
   standAt apos.atName
   let (f,first) <- holding [ov] (getMethod ov m pl)
   callWith pos f first (backTo pos (starEach args X.env)) (backToKw pos (keywordEach [] X.env)))) :
  wpAny (model X.prog X.w) X.A (eval (.Call (.Attribute e m apos) args [] pos) X.env) Q X.xe s:=by
 refine PySem.W.methodCall_KW (pl:=pl) (thn (he pins s Y H _ I h) λ u s1 ⟨x,H1,I1,rx,a,C,dx,fs,g,ex,ea,c,k,l,q⟩=>?_) ht
 subst ex
 obtain rfl:u=uR a:=rx
 exact zj7 I1 ea c k l (q s1 I1)
end
section
variable {X:Cx} {pins:List (Addr×Obj)} {Y:St} {H:Hp} {s:Shared} {A:Around} {E:Value->Shared->Prop} {Q:Value->Shared->Prop} {c:Value} {b:Bool}
inductive TyOf (K:Fg) (H:Hp):V->Value->Prop where
|non:TyOf K H .non (.type "NoneType")
|bl (x:Bool):TyOf K H (.bl x) (.type "bool")
|int (i:Int):TyOf K H (.int i) (.type "int")
|str (x:Str):TyOf K H (.str x) (.type "str")
|flt (x:UInt64):TyOf K H (.flt x) (.type "float")
|lst {a:Addr} {xs:List V} (e:H a=some (.lst xs)):TyOf K H (.ref a) (.type "list")
|frz {a:Addr} {o:Obj} {xs:List V} (e:H a=some (.frz o (.lst xs))):TyOf K H (.ref a) (.type "list")
|tup {a:Addr} {xs:List V} (e:H a=some (.tup xs)):TyOf K H (.ref a) (.type "tuple")
|dK {a:Addr} {kvs:List (Key×V)} (e:H a=some (.dK kvs)):TyOf K H (.ref a) (.type "dict")
|dT {a:Addr} {kvs:List (List Key×V)} (e:H a=some (.dT kvs)):TyOf K H (.ref a) (.type "dict")
|ins {a C dx:Addr} {fs:List (Str×V)} (e:H a=some (.ins C dx fs)) (cl:Cls K C) (ha:PySem.W.findIn K (.ref C) "__class__"=some (some (.builtin "object.__class__")))
   (hn:PySem.W.specialIn K (.builtin "object.__class__") "__get__"=some (some (.builtin "getset_descriptor.__get__"))) (htk:PySem.W.takesIn K (.builtin "object.__class__")=some true)
   (hm:PySem.W.mroIn K C (.type "object")=some true):TyOf K H (.ref a) (.ref C)
theorem zsk {x:V} {u t:Value} (I:Inv X pins Y H s) (rx:RelV x u) (ty:TyOf X.K H x t) (e:PySem.W.kitOne X.K t c=some b) (h:∀ tk,Q (.bool b) { s with toks:=tk }) :
  wpAny (model X.prog X.w) A (call (.builtin "isinstance") [u,c]) Q E s:=by
 cases ty with
|non=>cases (show u=v8 from rx);exact PySem.W.kia_one PySem.W.kitx_none I.kIn True.intro e (λ z=>nomatch z) h
|bl y=>cases (show u=xS y from rx);exact PySem.W.kia_one PySem.W.kitx_bool I.kIn True.intro e (λ z=>nomatch z) h
|int i=>obtain ⟨t,q⟩:=(show ∃ t,u=wW i t from rx);cases q;exact PySem.W.kia_one PySem.W.kitx_int I.kIn True.intro e (λ z=>nomatch z) h
|str y=>obtain ⟨t,q⟩:=(show ∃ t,u=wX y t from rx);cases q;exact PySem.W.kia_one PySem.W.kitx_str I.kIn True.intro e (λ z=>nomatch z) h
|flt y=>obtain ⟨t,q⟩:=(show ∃ t,u=yE y t from rx);cases q;exact PySem.W.kia_one PySem.W.kitx_float I.kIn True.intro e (λ z=>nomatch z) h
|@lst a xs ea =>
  cases (show u=uR a from rx)
  obtain ⟨_,_,n,_,h1⟩:=(show ObjOk X.prog X.w H s.heap a (.lst xs) from I.hok a _ ea)
  exact PySem.W.kia_one PySem.W.kitx_list I.kIn ⟨_,h1,rfl⟩ e (λ z=>nomatch z) h
|@frz a ob xs ea =>
  cases (show u=uR a from rx)
  obtain ⟨_,_,_,n,_,h1⟩:=(show ObjOk X.prog X.w H s.heap a (.frz ob (.lst xs)) from I.hok a _ ea)
  exact PySem.W.kia_one PySem.W.kitx_list I.kIn ⟨_,h1,rfl⟩ e (λ z=>nomatch z) h
|@tup a xs ea =>
  cases (show u=uR a from rx)
  obtain ⟨_,_,_,p⟩:=(show ObjOk X.prog X.w H s.heap a (.tup xs) from I.hok a _ ea)
  obtain ⟨o,h1,h2,_⟩:=p
  exact PySem.W.kia_one PySem.W.kitx_tuple I.kIn ⟨o,h1,h2⟩ e (λ z=>nomatch z) h
|@dK a kvs ea =>
  cases (show u=uR a from rx)
  obtain ⟨_,_,vs,_,p⟩:=(show ObjOk X.prog X.w H s.heap a (.dK kvs) from I.hok a _ ea)
  obtain ⟨o,es,ep,h1,h2,_⟩:=p
  exact PySem.W.kia_one PySem.W.kitx_dict I.kIn ⟨o,h1,h2.1⟩ e (λ z=>nomatch z) h
|@dT a kvs ea =>
  cases (show u=uR a from rx)
  obtain ⟨_,_,xs,_,o,es,ep,h1,h2,_⟩:=(show ObjOk X.prog X.w H s.heap a (.dT kvs) from I.hok a _ ea)
  exact PySem.W.kia_one PySem.W.kitx_dict I.kIn ⟨o,h1,h2.1⟩ e (λ z=>nomatch z) h
|@ins a C dx fs ea cl ha hn htk hm =>
  cases (show u=uR a from rx)
  obtain ⟨mA,O,_⟩:=zkd I.hok ea
  obtain ⟨od,J,_⟩:=O.look
  exact PySem.W.kia_one (PySem.W.kitx_own (cl.get _) cl.hd ha hn htk hm) I.kIn J e (λ z=>nomatch z) h
end
structure Room (k:Nat) (A:Around):Prop where
 hd:A.handled=none
 dp:A.depth+3 * k+5 < recursionLimit
 gd:A.guards=some []
 un:A.units+16 * k+200 < cLine
theorem Room.mono {j k:Nat} {A:Around} (r:Room k A) (h:j<=k):Room j A:=⟨r.hd,by have:=r.dp;lia,r.gd,by have:=r.un;lia⟩
theorem Room.deeper {k:Nat} {A:Around} (r:Room (k+1) A) (env:Env):Room k (A.deeper env) :=
 ⟨r.hd,by have:=r.dp;show A.depth+1+3 * k+5 < _;lia,r.gd,by have:=r.un;show A.units+3+16 * k+200 < _;lia⟩
theorem zzh {A:Around} {C:Addr} {us:List Value} {kw:List (Str×Value)}:(A.under (.builtin "type.__call__" ⟨.ref C :: us,kw⟩)).depth=A.depth+1:=by
 first|rfl|simp [Around.under,Code.weight,Code.isCreation,Code.isGuard,Code.isCaller,Code.frames,Code.isFrame,guardIds]
theorem zqg {A:Around} {C:Addr} {us:List Value} {kw:List (Str×Value)}:(A.under (.builtin "type.__call__" ⟨.ref C :: us,kw⟩)).units=A.units+1:=by
 first|rfl|simp [Around.under,Code.cUnits,Code.frames,Code.isFrame]
theorem Room.make {k:Nat} {A:Around} (r:Room (k+1) A) (C:Addr) (us:List Value) (kw:List (Str×Value)):Room k (A.under (.builtin "type.__call__" ⟨.ref C :: us,kw⟩)) :=
 ⟨r.hd,by have:=r.dp;rw [zzh];lia,r.gd,by have:=r.un;rw [zqg];lia⟩
theorem Room.depth {k:Nat} {A:Around} (r:Room k A):A.depth < recursionLimit:=by have:=r.dp;lia
theorem Room.units {k:Nat} {A:Around} (r:Room k A):A.units+64 < cLine:=by have:=r.un;lia
def tNil:TA:=λ _ H Q=>Q [] H
def zu7 (ta:TE) (tr:TA):TA:=λ Y H Q=>ta Y H λ x H1=>tr Y H1 λ xs H2=>Q (x :: xs) H2
section
variable {X:Cx} {e:Expr} {es:List Expr} {te:TE} {t:TA} {pos:Pos}
theorem zh0:PA X [] tNil:=λ _ _ _ _ H Q I h=>Calls.spliced_nil ⟨[],H,I,.nil,h⟩
theorem za0 (ha:PE X e te) (hr:PA X es t) (hs:starEach (e :: es) X.env=(false,eval e X.env) :: starEach es X.env:=by rfl):PA X (e :: es) (zu7 te t):=by
 intro pos pins s Y H Q I h
 rw [hs]
 show wpAny _ _ (spliced ((false,eval e X.env) :: backTo pos (starEach es X.env))) _ _ s
 refine Calls.spliced_cons (thn (ha pins s Y H _ I h) λ u s1 ⟨x,H1,I1,r1,q1⟩=>?_)
 exact thn (hr pos pins s1 Y H1 _ I1 q1) λ us s2 ⟨xs,H2,I2,r2,q2⟩=>⟨x :: xs,H2,I2,.cons r1 r2,q2⟩
def tTup (t:TA):TE:=λ Y H Q=>t Y H λ xs H1=>xs.length<=sizeLine/\∀ p,H1 p=none->Q (.ref p) (upd H1 p (.tup xs))
def tLst (t:TA):TE:=λ Y H Q=>t Y H λ xs H1=>xs.length<=sizeLine/\∀ p,H1 p=none->Q (.ref p) (upd H1 p (.lst xs))
theorem zpz {x1} (h:PA X es t):PE X (.Tuple es x1 pos) (tTup t):=by
 intro pins s Y H Q I hq
 refine wpAny_Tuple_spliced (thn (h pos pins s Y H _ I hq) λ us s1 ⟨xs,H1,I1,r,z,q⟩=>⟨by rw [<- r.length];exact z,?_⟩)
 have hf:H1 s1.heap.objs.size=none:=I1.hok.fresh (uF _)
 refine ⟨.ref s1.heap.objs.size,upd H1 s1.heap.objs.size (.tup xs),I1.laid (t':=s1.toks) (λ b u e=>uH _ e) (uF _) ?_,rfl,q _ hf⟩
 exact ⟨z,us,r,⟨_,uT _ rfl,rfl,_,rfl⟩⟩
theorem zqz (h:PA X es t):PE X (.List es pos) (tLst t):=by
 intro pins s Y H Q I hq
 refine wpAny_List_spliced (thn (h pos pins s Y H _ I hq) λ us s1 ⟨xs,H1,I1,r,z,q⟩=>⟨by rw [<- r.length];exact z,?_⟩)
 have hf:H1 s1.heap.objs.size=none:=I1.hok.fresh (uF _)
 refine ⟨.ref s1.heap.objs.size,upd H1 s1.heap.objs.size (.lst xs),I1.laid (t':=s1.toks) (λ b u e=>uH _ e) (uF _) ?_,rfl,q _ hf⟩
 exact ⟨z,us,0,r,uT _ rfl⟩
end
abbrev Sp:=List V->Hp->VK->XK->Prop
abbrev CXT:=List Env->Hp->Shared->XK->Value->Shared->Prop
structure Env0 (P:Program) (w:World) (K:Fg) (mg:Str->Option Value) (base:Heap) (A:Around) (outer:List Env) (s:Shared) (H:Hp):Prop where
 frames:A.frames=some outer
 mod:Mod K mg base
 bs:∀ b o,base.get? b=some o->s.heap.get? b=some o/\H b=none
 bsz:base.objs.size<=s.heap.objs.size
 funs:s.heap.FunFrames base outer
 frf:∀ b∈frs outer,H b=none
 hok:HOk P w H s.heap
 bare:AllBare s.gens
def CE (outer:List Env) (P:Program) (w:World) (H:Hp) (s:Shared) (Q:VK) (u:Value) (s':Shared):Prop :=
 ∃ v H',s'.os=s.os/\AllBare s'.gens/\Un (frs outer) [] H H' s.heap s'.heap/\HOk P w H' s'.heap/\RelV v u/\Q v H'
def CR (CX:CXT) (outer:List Env) (P:Program) (w:World) (H:Hp) (s:Shared) (Q:VK) (E:XK) (r:Result) (s':Shared):Prop :=
 match r with
|.ok (.ret u)=>CE outer P w H s Q u s'
|.ok _=>False
|.error e=>CX outer H s E e s'
structure FnOk (P:Program) (w:World) (K:Fg) (mg:Str->Option Value) (base:Heap) (CX:CXT) (k:Nat) (f:Addr) (fd:FuncData) (ps:List Str) (sp:Sp):Prop where
 len:∀ vs H Q E,sp vs H Q E->vs.length=ps.length
 run:∀ (A:Around) (outer:List Env) (s:Shared) (H:Hp) (args:Args) (us:List Value) (vs:List V) (Q:VK) (E:XK),Room k A->Env0 P w K mg base A outer s H->BindsTo s fd args (ps.zip us)->Vals vs us->sp vs H Q E ->
  codeAny (model P w) A (.call (.ref f) args) (CR CX outer P w H s Q E) s
theorem FnOk.mono {P:Program} {w:World} {K:Fg} {mg:Str->Option Value} {base:Heap} {CX:CXT} {j k:Nat} {f:Addr} {fd:FuncData} {ps:List Str} {sp:Sp} (F:FnOk P w K mg base CX j f fd ps sp) (h:j<=k) :
  FnOk P w K mg base CX k f fd ps sp:=⟨F.len,λ A outer s H args us vs Q E hr=>F.run A outer s H args us vs Q E (hr.mono h)⟩
theorem FnOk.imp {P:Program} {w:World} {K:Fg} {mg:Str->Option Value} {base:Heap} {CX:CXT} {k:Nat} {f:Addr} {fd:FuncData} {ps:List Str} {sp sp':Sp} (F:FnOk P w K mg base CX k f fd ps sp)
  (h:∀ vs H Q E,sp' vs H Q E->sp vs H Q E):FnOk P w K mg base CX k f fd ps sp' :=
 ⟨λ vs H Q E q=>F.len vs H Q E (h _ _ _ _ q),λ A outer s H args us vs Q E hr he hb hv hs=>F.run A outer s H args us vs Q E hr he hb hv (h _ _ _ _ hs)⟩
theorem Env0.make {P:Program} {w:World} {K:Fg} {mg:Str->Option Value} {base:Heap} {A:Around} {outer:List Env} {s:Shared} {H:Hp} (e:Env0 P w K mg base A outer s H) (C:Addr) (us:List Value) (kw:List (Str×Value)) :
  Env0 P w K mg base (A.under (.builtin "type.__call__" ⟨.ref C :: us,kw⟩)) outer s H:=⟨by first|exact e.frames|(simpa [Around.under,Code.envs,Code.isFrame,pushEnvs] using e.frames),e.mod,e.bs,e.bsz,e.funs,e.frf,e.hok,e.bare⟩
section
variable {X:Cx} {pins:List (Addr×Obj)} {Y:St} {H:Hp} {s s':Shared}
theorem Inv.env0 (I:Inv X pins Y H s):Env0 X.prog X.w X.K X.mg X.base X.A X.stack s H :=
 ⟨I.ok.frames,I.ok.mod,I.bs,vJ I.ok.bsz I.sz,I.stack,I.stkFree,I.hok,I.bare⟩
theorem Inv.after {Q:VK} {u:Value} (I:Inv X pins Y H s) (h:CE X.stack X.prog X.w H s Q u s'):EP X pins Y Q u s':=by
 obtain ⟨v,H',os,bare,un,hok,r,q⟩:=h
 obtain ⟨hh,g,d,t,os'⟩:=s'
 obtain rfl:os'=s.os:=os
 exact ⟨v,H',I.call (h':=hh) (g':=g) (d':=d) (t':=t) (ch:=[]) un hok bare (λ b z=>absurd z (by simp)),r,q⟩
end
def zpq (sp:Sp) (dvs:List V) (E:XK) (t:TA):TE:=λ Y H Q=>t Y H λ vs H1=>sp (vs++dvs) H1 Q E
def zsp (C:Addr) (m:Str) (sp:Sp) (dvs:List V) (E:XK) (ta:TE) (t:TA):TE:=λ Y H Q=>ta Y H λ x H1=>∃ a dx fs,x=.ref a/\H1 a=some (.ins C dx fs)/\fs.lookup m=none /\
 t Y H1 λ vs H2=>sp (x :: (vs++dvs)) H2 Q E
def zb21 (C:Addr) (sp:Sp) (dvs:List V) (E:XK) (t:TA):TE:=λ Y H Q=>t Y H λ vs H1=>∀ x dx,H1 x=none->H1 dx=none->dx≠x ->
 sp (.ref x :: (vs++dvs)) (upd (upd H1 dx (.own x)) x (.ins C dx [])) (λ v H2=>v=.non/\Q (.ref x) H2) E
def Binds (K:Fg) (fd:FuncData) (ps:List Str) (ds:List Value):Prop :=
 ∀ (s:Shared) (us:List Value),K.In s.heap->(us++ds).length=ps.length->BindsTo s fd ⟨us,[]⟩ (ps.zip (us++ds))
theorem Binds.all {K:Fg} {fd:FuncData} {ps:List Str} (h:∀ us:List Value,us.length=ps.length->bindArgs fd ⟨us,[]⟩=pure (ps.zip us)):Binds K fd ps []:=λ s us _ hl=>by
 rw [wE] at hl ⊢
 exact .of_eq (h us hl)
def zcc (CX:CXT) (X:Cx) (E:XK):Prop:=∀ (pins:List (Addr×Obj)) (Y:St) (H:Hp) (s:Shared) (e:Value) (s':Shared),Inv X pins Y H s->CX X.stack H s E e s'->X.xe e s'
section
variable {X:Cx} {CX:CXT} {k:Nat} {f C:Addr} {fd:FuncData} {ps:List Str} {sp:Sp} {dvs:List V} {ds:List Value} {E:XK} {x m:Str} {p pos apos:Pos} {e o:Expr} {es:List Expr} {ta:TE} {t:TA}
theorem zzn {pins:List (Addr×Obj)} {Y:St} {H:Hp} {s:Shared} {Q:VK} {us:List Value} {vs:List V} (F:FnOk X.prog X.w X.K X.mg X.base CX k f fd ps sp) (hr:Room k X.A) (hb:Binds X.K fd ps ds) (hd:Vals dvs ds) (hx:zcc CX X E)
  (I:Inv X pins Y H s) (r:Vals vs us) (h:sp (vs++dvs) H Q E):wpAny (model X.prog X.w) X.A (call (.ref f) us) (EP X pins Y Q) X.xe s:=by
 have r2:Vals (vs++dvs) (us++ds):=r.append hd
 have hl:(us++ds).length=ps.length:=by rw [<- r2.length];exact F.len _ _ _ _ h
 refine wpAny_call (codeAny_mono (F.run X.A X.stack s H ⟨us,[]⟩ (us++ds) (vs++dvs) Q E hr I.env0 (hb s us I.kIn hl) r2 h) λ r s' hq=>?_)
 cases r with
|error e=>exact hx pins Y H s e s' I hq
|ok fl =>
  cases fl with
 |ret u=>exact I.after hq
 |next=>exact False.elim hq
 |brk=>exact False.elim hq
 |cont=>exact False.elim hq
theorem zys (F:FnOk X.prog X.w X.K X.mg X.base CX k f fd ps sp) (hr:Room k X.A) (hg:Gl X x) (hm:X.mg x=some (.ref f)) (hk:PySem.W.keepIn X.K (.ref f)=true) (hb:Binds X.K fd ps ds) (hd:Vals dvs ds) (hx:zcc CX X E)
  (ha:PA X (e :: es) t) (hdb:(x == ("__debug__":Str))=false:=by decide) (he:starEach (e :: es) X.env=(false,eval e X.env) :: starEach es X.env:=by rfl) (hpl:(backTo pos (starEach es X.env)).any (·.1)=false:=by rfl) :
  PE X (.Call (.Name x p) (e :: es) [] pos) (zpq sp dvs E t):=by
 intro pins s Y H Q I h
 refine wpAny_Call_Name_kw (ztf I hg hm ?_ hdb)
 refine PySem.W.callWith_K (h₀:=X.base) I.ok.mod.kin hk (thn (ha pos pins s Y H _ I h) λ us s1 ⟨vs,H1,I1,r,q⟩=>⟨I1.kIn,?_⟩) he hpl
 exact zzn F hr hb hd hx I1 r q
theorem zdr {pl:Sem Bool} (he:PE X o ta) (c:Cls X.K C) (hm:Meth X.K C m f) (F:FnOk X.prog X.w X.K X.mg X.base CX k f fd ps sp) (hr:Room k X.A) (hb:Binds X.K fd ps ds) (hd:Vals dvs ds) (hx:zcc CX X E) (ha:PA X (e :: es) t)
  (hst:starEach (e :: es) X.env=(false,eval e X.env) :: starEach es X.env:=by rfl) (hpl:(backTo pos (starEach es X.env)).any (·.1)=false:=by rfl)
  (ht:eval (.Call (.Attribute o m apos) (e :: es) [] pos) X.env=(do
   let ov <- eval o X.env
   standAt apos.atName
   let (f,first) <- holding [ov] (getMethod ov m pl)
   callWith pos f first (backTo pos (starEach (e :: es) X.env)) (backToKw pos (keywordEach [] X.env))):=by rfl) :
  PE X (.Call (.Attribute o m apos) (e :: es) [] pos) (zsp C m sp dvs E ta t):=by
 intro pins s Y H Q I h
 refine PySem.W.methodCall_KW (pl:=pl) (thn (he pins s Y H _ I h) λ u s1 ⟨x,H1,I1,rx,a,dx,fs,ex,ea,l,q⟩=>?_) ht
 subst ex
 obtain rfl:u=uR a:=rx
 refine zj7 I1 ea c hm l ?_
 refine PySem.W.callWith_K (first:=[.ref a]) (h₀:=X.base) I.ok.mod.kin hm.kp (thn (ha pos pins s1 Y H1 _ I1 q) λ us s2 ⟨vs,H2,I2,r,q2⟩=>⟨I2.kIn,?_⟩) hst hpl
 exact zzn (us:=.ref a :: us) (vs:=.ref a :: vs) F hr hb hd hx I2 (.cons rfl r) q2
theorem zjn {pl:Sem Bool} (he:PE X o ta) (c:Cls X.K C) (hm:Meth X.K C m f) (F:FnOk X.prog X.w X.K X.mg X.base CX k f fd ps sp) (hr:Room k X.A) (hb:Binds X.K fd ps ds) (hd:Vals dvs ds) (hx:zcc CX X E)
  (ht:eval (.Call (.Attribute o m apos) [] [] pos) X.env=(do
   let ov <- eval o X.env
   standAt apos.atName
   let (f,first) <- holding [ov] (getMethod ov m pl)
   callWith pos f first (backTo pos (starEach [] X.env)) (backToKw pos (keywordEach [] X.env))):=by rfl) :
  PE X (.Call (.Attribute o m apos) [] [] pos) (zsp C m sp dvs E ta tNil):=by
 intro pins s Y H Q I h
 refine PySem.W.methodCall_KW (pl:=pl) (thn (he pins s Y H _ I h) λ u s1 ⟨x,H1,I1,rx,a,dx,fs,ex,ea,l,q⟩=>?_) ht
 subst ex
 obtain rfl:u=uR a:=rx
 refine zj7 I1 ea c hm l ?_
 exact PySem.W.callWith_K0 (first:=[.ref a]) I1.kIn hm.kp (zzn (us:=[.ref a]) (vs:=[.ref a]) F hr hb hd hx I1 (.cons rfl .nil) q)
structure Mk (K:Fg) (C f:Addr):Prop where
 makes:PySem.W.makesIn K C=true
 init:PySem.W.findIn K (.ref C) "__init__"=some (some (.ref f))
 fn:PySem.W.isFn K (.ref f)=true
 kp:PySem.W.keepIn K (.ref C)=true
theorem zzm {pins:List (Addr×Obj)} {Y:St} {H:Hp} {s:Shared} {Q:VK} {us:List Value} {vs:List V} (M:Mk X.K C f) (F:FnOk X.prog X.w X.K X.mg X.base CX k f fd ps sp) (hr:Room (k+1) X.A) (hb:Binds X.K fd ps ds) (hd:Vals dvs ds)
  (hx:zcc CX X E) (I:Inv X pins Y H s) (r:Vals vs us)
  (h:∀ x dx,H x=none->H dx=none->dx≠x->sp (.ref x :: (vs++dvs)) (upd (upd H dx (.own x)) x (.ins C dx [])) (λ v H2=>v=.non/\Q (.ref x) H2) E) :
  wpAny (model X.prog X.w) X.A (call (.ref C) us) (EP X pins Y Q) X.xe s:=by
 have hq:=h (s.heap.objs.size+1) s.heap.objs.size (I.hok.fresh (xG _)) (I.hok.fresh (uF _)) (uY (xF _))
 have I2:=Inv.made (C:=C) I
 have r2:Vals (V.ref (s.heap.objs.size+1) :: (vs++dvs)) (uR (s.heap.objs.size+1) :: (us++ds)):=.cons rfl (r.append hd)
 have hl:(uR (s.heap.objs.size+1) :: us++ds).length=ps.length:=by
  have e:=r2.length
  rw [F.len _ _ _ _ hq] at e
  exact e.symm
 refine wpAny_call (zln (f:=f) I.kIn M.makes M.init (beq_iff_eq.mp M.fn) (codeAny_mono (F.run _ X.stack _ _ ⟨uR (s.heap.objs.size+1) :: us,[]⟩ (uR (s.heap.objs.size+1) :: (us++ds)) _ _ E (hr.make C us [])
  (I2.env0.make C us []) (hb _ (uR (s.heap.objs.size+1) :: us) I2.kIn hl) r2 hq) λ r s' hq'=>?_))
 cases r with
|error e=>exact hx pins Y _ _ e s' I2 hq'
|ok fl =>
  cases fl with
 |ret u =>
   obtain ⟨v,H',I3,rv,ev,q3⟩:=I2.after hq'
   subst ev
   exact ⟨rv,⟨V.ref (s.heap.objs.size+1),H',I3,rfl,q3⟩⟩
 |next=>exact False.elim hq'
 |brk=>exact False.elim hq'
 |cont=>exact False.elim hq'
theorem zou (M:Mk X.K C f) (F:FnOk X.prog X.w X.K X.mg X.base CX k f fd ps sp) (hr:Room (k+1) X.A) (hg:Gl X x) (hm:X.mg x=some (.ref C)) (hb:Binds X.K fd ps ds) (hd:Vals dvs ds) (hx:zcc CX X E)
  (ha:PA X (e :: es) t) (hdb:(x == ("__debug__":Str))=false:=by decide) (he:starEach (e :: es) X.env=(false,eval e X.env) :: starEach es X.env:=by rfl) (hpl:(backTo pos (starEach es X.env)).any (·.1)=false:=by rfl) :
  PE X (.Call (.Name x p) (e :: es) [] pos) (zb21 C sp dvs E t):=by
 intro pins s Y H Q I h
 refine wpAny_Call_Name_kw (ztf I hg hm ?_ hdb)
 refine PySem.W.callWith_K (h₀:=X.base) I.ok.mod.kin M.kp (thn (ha pos pins s Y H _ I h) λ us s1 ⟨vs,H1,I1,r,q⟩=>⟨I1.kIn,?_⟩) he hpl
 exact zzm M F hr hb hd hx I1 r q
end
def PK (X:Cx) (kws:List Keyword) (t:TA):Prop :=
 ∀ (pos:Pos) (pins:List (Addr×Obj)) (s:Shared) (Y:St) (H:Hp) (Q:List V->Hp->Prop),Inv X pins Y H s->t Y H Q->wpAny (model X.prog X.w) X.A (evalAll ((backToKw pos (keywordEach kws X.env)).map (·.2))) (AP X pins Y Q) X.xe s
section
variable {X:Cx} {CX:CXT} {k:Nat} {f C:Addr} {fd:FuncData} {ps ks:List Str} {sp:Sp} {E:XK} {x m:Str} {p pos apos kpos:Pos} {e o:Expr} {es:List Expr} {kws:List Keyword} {te ta:TE} {t tk:TA} {nm:Option Str}
theorem zm01:PK X [] tNil:=λ _ _ _ _ H Q I h=>wpAny_evalAll_nil ⟨[],H,I,.nil,h⟩
theorem zpt (ha:PE X e te) (hr:PK X kws t):PK X (⟨nm,e,kpos⟩ :: kws) (zu7 te t):=by
 intro pos pins s Y H Q I h
 show wpAny _ _ (evalAll ((do let v <- eval e X.env;standAt pos;pure v) :: (backToKw pos (keywordEach kws X.env)).map (·.2))) _ _ s
 refine wpAny_evalAll_cons (wpAny_bind (thn (ha pins s Y H _ I h) λ u s1 ⟨x,H1,I1,r1,q1⟩=>wpAny_bind (wpAny_standAt (wpAny_pure ?_))))
 exact thn (hr pos pins s1 Y H1 _ I1 q1) λ us s2 ⟨xs,H2,I2,r2,q2⟩=>⟨x :: xs,H2,I2,.cons r1 r2,q2⟩
variable {g:List Value->List Value->List Value} {gV:List V->List V->List V}
end
structure FnScope (N P:List Str) (sc:Scope):Prop where
 kind:sc.kind=.function
 co:sc.isCoroutine=false
 gen:sc.isGenerator=false
 nd:N.Nodup
 pre:N.take P.length=P
 par:∀ x∈P,sc.names.lookup x=some .local \/ sc.names.lookup x=some .cell
 nofree:∀ y∈sc.names,y.2≠.free
theorem zie {kindOf:Str->Option NameKind} {x:Str}:∀ {binds:List (Str×Value)} {m:Str->Option Value},(∀ v,(x,v) ∉ binds)->bindL kindOf binds m x=m x
|[],_,_=>rfl
|(n,v) :: r,m,h=>by
  unfold bindL
  rw [zie λ w hw=>h w (vB _ hw)]
  split
  ·have:x≠n:=by rintro rfl;exact h v vK
   simp [this]
  ·rfl
theorem zde {kindOf:Str->Option NameKind} {x:Str}:∀ {binds:List (Str×Value)} {m:Str->Option Value},(∀ v,(x,v) ∉ binds)->bindC kindOf binds m x=m x
|[],_,_=>rfl
|(n,v) :: r,m,h=>by
  unfold bindC
  rw [zde λ w hw=>h w (vB _ hw)]
  split
  ·rfl
  ·have:x≠n:=by rintro rfl;exact h v vK
   simp [this]
theorem zgd {kindOf:Str->Option NameKind} {x:Str} {v:Value}:∀ {P:List Str} {vs:List Value} {i:Nat} {m:Str->Option Value},P.Nodup->P[i]?=some x->vs[i]?=some v->kindOf x=some .local ->
  bindL kindOf (P.zip vs) m x=some v
|[],_,_,_,_,h,_,_=>by simp at h
|_ :: _,[],_,_,_,_,h,_=>by simp at h
|p :: P,w :: vs,0,m,nd,h1,h2,hk=>by
  simp at h1 h2;subst h1;subst h2
  show bindL kindOf ((p,w) :: P.zip vs) m p=_
  unfold bindL
  rw [zie λ v hv=>(uU.mp nd).1 (xW hv).1,if_pos hk]
  simp
|p :: P,w :: vs,i+1,m,nd,h1,h2,hk=>by
  show bindL kindOf ((p,w) :: P.zip vs) m x=_
  unfold bindL
  exact zgd (i:=i) (uU.mp nd).2 (by simpa using h1) (by simpa using h2) hk
theorem ztd {kindOf:Str->Option NameKind} {x:Str} {v:Value}:∀ {P:List Str} {vs:List Value} {i:Nat} {m:Str->Option Value},P.Nodup->P[i]?=some x->vs[i]?=some v->kindOf x≠some .local ->
  bindC kindOf (P.zip vs) m x=some v
|[],_,_,_,_,h,_,_=>by simp at h
|_ :: _,[],_,_,_,_,h,_=>by simp at h
|p :: P,w :: vs,0,m,nd,h1,h2,hk=>by
  simp at h1 h2;subst h1;subst h2
  show bindC kindOf ((p,w) :: P.zip vs) m p=_
  unfold bindC
  rw [zde λ v hv=>(uU.mp nd).1 (xW hv).1,if_neg hk]
  simp
|p :: P,w :: vs,i+1,m,nd,h1,h2,hk=>by
  show bindC kindOf ((p,w) :: P.zip vs) m x=_
  unfold bindC
  exact ztd (i:=i) (uU.mp nd).2 (by simpa using h1) (by simpa using h2) hk
def start (N:List Str) (vs:List V):St:=vs.map some++uP (N.length - vs.length) none
def cxOf (CX:CXT) (P:Program) (w:World) (K:Fg) (mg:Str->Option Value) (base:Heap) (N:List Str) (qual:Str) (scope:Scope) (f:Addr) (cd:Value) (A:Around) (outer:List Env) (s:Shared) (H:Hp) (E:XK):Cx where
 prog:=P
 w:=w
 K:=K
 mg:=mg
 base:=base
 A:=A.deeper (envOfC qual scope s.heap.objs.size f cd)
 N:=N
 s₀:=s
 H₀:=H
 env:=envOfC qual scope s.heap.objs.size f cd
 outer:=outer
 stack:=envOfC qual scope s.heap.objs.size f cd :: outer
 ex:=[]
 calm:=true
 fn:=λ _=>true
 pn:=[]
 xe:=λ e s'=>wpAny (model P w) (A.deeper (envOfC qual scope s.heap.objs.size f cd)) (leaving (envOfC qual scope s.heap.objs.size f cd) e) (λ _ s''=>CX outer H s E e s'') (λ e' s''=>CX outer H s E e' s'') s'
theorem zvg {sc:Scope} {n:Nat} {x:Str} (h:sc.names.lookup x=some .cell):∃ c,(cellsFrom n sc.names []).lookup x=some c:=by
 have q:=PySem.W.cellsFrom_some sc.names n [] (.inl h)
 exact v7.mp q
theorem zok {CX:CXT} {P:Program} {w:World} {K:Fg} {mg:Str->Option Value} {base:Heap} {N ps:List Str} {qual:Str} {scope:Scope} {f:Addr} {cd:Value} {A:Around} {outer:List Env} {s s1:Shared} {H:Hp} {E:XK} {us:List Value} {vs:List V}
  (S:FnScope N ps scope) (hd:A.handled=none) (e0:Env0 P w K mg base A outer s H) (hl:vs.length=ps.length) (r:Vals vs us)
  (x:InCallC s s.heap.objs.size (bindL (envOfC qual scope s.heap.objs.size f cd).kindOf (ps.zip us) λ _=>none) (cellsFrom (s.heap.objs.size+1) scope.names []) (bindC (envOfC qual scope s.heap.objs.size f cd).kindOf (ps.zip us) λ _=>none) s1) :
  Inv (cxOf CX P w K mg base N qual scope f cd A outer s H E) [] (start N vs) H s1:=by
 have hpl:ps.length<=N.length:=by have:=congrArg u8 S.pre;rw [vS] at this;lia
 obtain ⟨h1,tk,rfl,hk⟩:=x.done
 have noA:∀ b:Addr,b ∉ (cxOf CX P w K mg base N qual scope f cd A outer s H E).ex:=λ b z=>absurd (show b∈([]:List Addr) from z) (by simp)
 refine ⟨⟨e0.mod,S.kind,rfl,rfl,uF _,λ y z c h1 h2=>?_,λ y hy=>?_,λ y c _ h=>?_,λ _=>hd,Around.frames_deeper e0.frames,.inr ⟨rfl,rfl⟩,λ b z=>absurd z (noA b),e0.bs,e0.bsz,λ b _ _=>noA b,λ b z=>absurd z (noA b),e0.funs,e0.frf⟩,
  rfl,e0.bare,Un.kept hk,⟨_,x.toInCall.ns,λ i y v h1 h2 h3=>?_⟩,λ y c h=>⟨_,x.cell y c h⟩,e0.hok.fresh (uF _),λ y c h=>?_,λ p hp=>absurd (show p∈([]:List (Addr×Obj)) from hp) (by simp),e0.hok.kept hk,?_⟩
 ·exact name_of_addr x.apart (PySem.mem_of_lookup h1) (PySem.mem_of_lookup h2)
 ·have hy:scope.names.lookup y=some .cell \/ scope.names.lookup y=some .free:=hy
  rcases hy with hy|hy
  ·exact zvg hy
  ·exact absurd rfl (S.nofree _ (PySem.mem_of_lookup hy))
 ·exact xE (x.above y c (PySem.mem_of_lookup h))
 ·have hi:i < vs.length:=by
   unfold start at h2
   by_cases hi:i < vs.length
   ·exact hi
   ·rw [u9 (by simpa using hi)] at h2
    rw [vT] at h2
    split at h2 <;> cases h2
  have ha:vs[i]?=some v:=by
   unfold start at h2
   rw [u5 (by simpa using hi),uI] at h2
   cases e:vs[i]? with
  |none=>rw [e] at h2;cases h2
  |some a=>rw [e] at h2;cases h2;rfl
  obtain ⟨u,hu,rv⟩:=r.get ha
  have hp:ps[i]?=some y:=by
   rw [<- S.pre,zF (by lia)];exact h1
  have ndP:ps.Nodup:=by rw [<- S.pre];exact S.nd.sublist (List.take_sublist _ _)
  refine ⟨u,rv,?_⟩
  rcases S.par y (vI hp) with k|k
  ·exact .inl ⟨k,zgd ndP hp hu k⟩
  ·obtain ⟨c,e⟩:=zvg (n:=s.heap.objs.size+1) k
   refine .inr ⟨.inl k,c,e,?_⟩
   have q:=x.cell y c e
   rw [ztd ndP hp hu (by show scope.names.lookup y≠_;rw [k];decide)] at q
   exact q
 ·exact e0.hok.fresh (xE (x.above y c (PySem.mem_of_lookup h)))
 ·unfold start
  show _=N.length
  rw [vA,uA,wP]
  lia
theorem zz31 {CX:CXT} {P:Program} {w:World} {K:Fg} {mg:Str->Option Value} {base:Heap} {k:Nat} {f:Addr} {name qual:Str} {params:Arguments} {body:List Stmt} {scope:Scope} {dV kV doc pm cdv ct oc:Value} {an od:Option Addr}
  {osl:Array (Option Value)} {N ps:List Str} {sp:Sp} (lk:K.lookup f=some ⟨oc,od,.func (PySem.W.fnOf name qual params body scope dV kV doc pm an cdv ct),osl⟩) (hcd:PySem.W.codeIn K cdv qual=true) (S:FnScope N ps scope)
  (len:∀ vs H Q E,sp vs H Q E->vs.length=ps.length)
  (hbody:∀ (A:Around) (outer:List Env) (s:Shared) (H:Hp) (vs:List V) (Q:VK) (E:XK),Room k (A.deeper (envOfC qual scope s.heap.objs.size f cdv))->sp vs H Q E ->
   ∃ t,PSs (cxOf CX P w K mg base N qual scope f cdv A outer s H E) body t/\t { nx:=λ _ H'=>Q .non H',rt:=Q } (start N vs) H) :
  FnOk P w K mg base CX (k+1) f (PySem.W.fnOf name qual params body scope dV kV doc pm an cdv ct) ps sp:=by
 refine ⟨len,λ A outer s H args us vs Q E hr e0 hb r hsp=>?_⟩
 have hl:=len _ _ _ _ hsp
 have KX:K.In s.heap:=e0.mod.kin.keeps λ b o e=>(e0.bs b o e).1
 have lim:s.heap.NoLimit:=e0.mod.nolimit.keeps λ b o e=>(e0.bs b o e).1
 have hkind:∀ y∈ps.zip us,scope.names.lookup y.1=some .local \/ (scope.names.lookup y.1=some .cell/\((cellsFrom (s.heap.objs.size+1) scope.names []).lookup y.1).isSome=true):=λ ⟨n,v⟩ hy=>by
  rcases S.par n (xW hy).1 with q|q
  ·exact .inl q
  ·exact .inr ⟨q,PySem.W.cellsFrom_some _ _ _ (.inl q)⟩
 refine codeAny_call_function hr.depth (KX _ _ lk) rfl S.co S.gen rfl (PySem.W.codeRec_of KX hcd) (hb _ _ _ _ ?_)
 refine wpAny_newFunctionEnv_cells S.kind hkind λ env he s1 x=>?_
 subst he
 refine ⟨lim.keeps x.toInCall.keep,codeAny_func ?_⟩
 obtain ⟨t,ht,hq⟩:=hbody A outer s H vs Q E (hr.deeper _) hsp
 have I:Inv (cxOf CX P w K mg base N qual scope f cdv A outer s H E) [] (start N vs) H s1:=zok S hr.hd e0 hl r x
 refine wpAny_mono (ht [] s1 (start N vs) H _ I hq) (λ fl s' hs=>?_) λ e s' hs=>hs
 have fin:∀ {Y':St} {H':Hp} {v:V} {u:Value},Inv (cxOf CX P w K mg base N qual scope f cdv A outer s H E) [] Y' H' s'->RelV v u->Q v H'->CE outer P w H s Q u s' :=
  λ {Y' H' v u} J rv q=>⟨v,H',J.os,J.bare,J.base,J.hok,rv,q⟩
 cases fl with
|ret u =>
  obtain ⟨v,Y',H',J,rv,q⟩:=hs
  exact fin J rv q
|next =>
  obtain ⟨Y',H',J,q⟩:=hs
  exact fin (v:=V.non) (u:=v8) J rfl q
|brk =>
  obtain ⟨_,_,_,q⟩:=hs
  exact False.elim q
|cont =>
  obtain ⟨_,_,_,q⟩:=hs
  exact False.elim q
section
variable {X:Cx} {x:Str} {p pos:Pos} {e:Expr} {es:List Expr} {t:TA} {id T:String} {r:List V->Hp->VK->Prop}
def tCB (r:List V->Hp->VK->Prop) (t:TA):TE:=λ Y H Q=>t Y H λ vs H1=>r vs H1 Q
theorem zz0 (hc:CallR X (.builtin id) r) (hg:Gl X x) (hm:X.mg x=none) (hv:bootBuiltins x=some (.builtin id)) (ha:PA X (e :: es) t) (hn:x ≠ "__name__":=by decide) (hdb:(x == ("__debug__":Str))=false:=by decide)
  (he:starEach (e :: es) X.env=(false,eval e X.env) :: starEach es X.env:=by rfl) (hpl:(backTo pos (starEach es X.env)).any (·.1)=false:=by rfl):PE X (.Call (.Name x p) (e :: es) [] pos) (tCB r t):=by
 intro pins s Y H Q I h
 refine wpAny_Call_Name_kw (zg9 I hg hm hv ?_ hn hdb)
 exact PyProof.Rows.callWith_builtin1 (thn (ha pos pins s Y H _ I h) λ us s1 ⟨vs,H1,I1,r1,q1⟩=>hc pins s1 Y H1 vs us Q I1 r1 q1) he hpl
theorem zl2 (hc:CallR X (.type T) r) (hg:Gl X x) (hm:X.mg x=none) (hv:bootBuiltins x=some (.type T)) (ha:PA X (e :: es) t) (hn:x ≠ "__name__":=by decide) (hdb:(x == ("__debug__":Str))=false:=by decide)
  (he:starEach (e :: es) X.env=(false,eval e X.env) :: starEach es X.env:=by rfl) (hpl:(backTo pos (starEach es X.env)).any (·.1)=false:=by rfl):PE X (.Call (.Name x p) (e :: es) [] pos) (tCB r t):=by
 intro pins s Y H Q I h
 refine wpAny_Call_Name_kw (zg9 I hg hm hv ?_ hn hdb)
 exact PyProof.Rows.callWith_type1 (thn (ha pos pins s Y H _ I h) λ us s1 ⟨vs,H1,I1,r1,q1⟩=>hc pins s1 Y H1 vs us Q I1 r1 q1) he hpl
end
end _2
namespace HT
open PySem PyProof.Rows
section
open PySem.SeqAt
open PySem.AutoSeq1 (wpAny_loadPart')
open PySem.MeetsSeq PySem.MeetsSeq2 PySem.MeetsSeq3
end
section
variable {prog:Program} {w:World} {A:Around} {E:Value->Shared->Prop} {s:Shared}
theorem cat_tup {t b:Addr} {vs ws:List Value} {Q:Value->Shared->Prop} (ht:IsTup s.heap t vs.toArray) (hb:IsTup s.heap b ws.toArray) (hv:vs≠[])
  (h1:ws=[]->Q (.ref t) s) (h2:ws≠[]->Q (.ref s.heap.objs.size) { s with heap:=s.heap.push { cls:=.type "tuple",data:=.seq (vs++ws).toArray } })
  (hsz:vs.length+ws.length<=sizeLine):wpAny (model prog w) A (binaryOp .Add (.ref t) (.ref b)) Q E s:=by
 obtain ⟨⟨cls,dd,data,sl⟩,ho,hc,n,hd⟩:=id ht
 obtain ⟨⟨cls2,dd2,data2,sl2⟩,ho2,hc2,n2,hd2⟩:=id hb
 simp only at hc hd hc2 hd2
 subst hc hd hc2 hd2
 have e:vs.toArray++ws.toArray=(vs++ws).toArray:=by simp
 by_cases hw:ws=[]
 ·exact concat_meets ⟨_,ho,rfl⟩ ⟨_,ho2,rfl⟩ noFill_tuple_add seq_tuple_add PySem.F.slot_tuple_add PySem.F.entry_tuple_add (PySem.F.args_tuple_add_2 _ _)
   (tuple_addW1 t b vs.toArray ws.toArray n n2 dd dd2 sl sl2 (by simpa using hv) (by simp [hw])) ⟨ho,ho2,h1 hw⟩
 ·refine concat_meets ⟨_,ho,rfl⟩ ⟨_,ho2,rfl⟩ noFill_tuple_add seq_tuple_add PySem.F.slot_tuple_add PySem.F.entry_tuple_add (PySem.F.args_tuple_add_2 _ _)
   (tuple_addW2 t b vs.toArray ws.toArray n n2 dd dd2 sl sl2 (by simpa using hv) (by simpa using hw) (by rw [uS,uS];exact hsz)) ⟨ho,ho2,?_⟩
  rw [e]
  exact h2 hw
def sIx (n d:Nat):Option Int->Nat
|none=>d
|some v=>if v < 0 then (v+(n:Int)).toNat else min v.toNat n
theorem sIx_nat (n d k:Nat):sIx n d (some (k:Int))=min k n:=by
 show (if (k:Int) < 0 then ((k:Int)+(n:Int)).toNat else min (k:Int).toNat n)=min k n
 rw [if_neg (by lia),u4]
theorem zf11 (n d:Nat) (hd:d<=n) (o:Option Int):sIx n d o<=n:=by
 cases o with
|none=>exact hd
|some v =>
  show (if v < 0 then (v+(n:Int)).toNat else min v.toNat n)<=n
  by_cases hv:v < 0
  ·rw [if_pos hv];lia
  ·rw [if_neg hv];exact Nat.min_le_right _ _
theorem zdl (v:Int) (n d:Nat):(if v < 0 then max (v+(n:Int)) 0 else min v (n:Int))=((sIx n d (some v):Nat):Int):=by
 show (if v < 0 then max (v+(n:Int)) 0 else min v (n:Int))=(((if v < 0 then (v+(n:Int)).toNat else min v.toNat n):Nat):Int)
 by_cases hv:v < 0
 ·simp only [if_pos hv];lia
 ·simp only [if_neg hv];lia
theorem zhh (lo hi:Option Int) (n:Nat):Builtin.Slice.sliceAdjust lo hi 1 (n:Int)=(((sIx n 0 lo:Nat):Int),((sIx n n hi:Nat):Int)):=by
 have h1:¬ ((1:Int) < 0):=by lia
 unfold Builtin.Slice.sliceAdjust
 simp only [h1,if_false]
 refine Prod.ext ?_ ?_
 ·cases lo with
 |none=>rfl
 |some v=>exact zdl v n 0
 ·cases hi with
 |none=>rfl
 |some v=>exact zdl v n n
theorem zyg (i j:Nat):Builtin.Slice.slicePlaces (i:Int) (j:Int) 1=j - i:=by
 unfold Builtin.Slice.slicePlaces
 have h1:(1:Int) > 0:=by lia
 simp only [h1,if_true,Int.ediv_one]
 split <;> lia
theorem zwb {v:Value} {o:Option Int} {Q:Option Int->Shared->Prop} (p:IsPart v o) (h:Q o s):wpAny (model prog w) A (Builtin.Slice.slicePartIndex v) Q E s:=by
 cases p with
|none=>exact slicePart_none h
|int i t=>exact slicePart_int h
theorem zv6 {sl:Addr} {vl vu:Value} {lo hi:Option Int} {n:Nat} {Q:Int×Int×Nat->Shared->Prop} (hs:s.heap.IsSliceOf sl vl vu .none) (pl:IsPart vl lo) (pu:IsPart vu hi)
  (h:Q (((sIx n 0 lo:Nat):Int),1,sIx n n hi - sIx n 0 lo) s):wpAny (model prog w) A (Builtin.Slice.sliceApplied (.ref sl) (pure (n:Int))) Q E s:=by
 obtain ⟨os,hos,hcs,hds⟩:=id hs
 unfold Builtin.Slice.sliceApplied Builtin.Slice.sliceFields
 refine wpAny_bind (wpAny_bind (wpAny_field hos hds (x:=vl) rfl (wpAny_bind (wpAny_field hos hds (x:=vu) rfl (wpAny_bind (wpAny_field hos hds (x:=.none) rfl (wpAny_pure ?_)))))))
 refine wpAny_bind (slicePart_none ?_)
 show wpAny _ _ (if ((1:Int) == 0)=true then _ else _) _ _ s
 rw [if_neg (by decide)]
 refine wpAny_bind (zwb pl (wpAny_bind (zwb pu (wpAny_bind (wpAny_pure ?_)))))
 show wpAny _ _ (match Builtin.Slice.sliceAdjust lo hi 1 (n:Int) with|(lo,hi)=>pure (lo,(1:Int),Builtin.Slice.slicePlaces lo hi 1)) _ _ s
 rw [zhh lo hi n]
 show wpAny _ _ (pure (((sIx n 0 lo:Nat):Int),(1:Int),Builtin.Slice.slicePlaces ((sIx n 0 lo:Nat):Int) ((sIx n n hi:Nat):Int) 1)) _ _ s
 rw [zyg]
 exact wpAny_pure h
theorem zsm (xs:Array Value) (i k:Nat):((uL k).filterMap λ (m:Nat)=>xs[((i:Int)+(m:Int) * 1).toNat]?).toArray=((xs.toList.drop i).take k).toArray:=by
 have e:(λ (m:Nat)=>xs[((i:Int)+(m:Int) * 1).toNat]?)=λ m=>xs[i+m]?:=by
  funext m
  have:((i:Int)+(m:Int) * 1).toNat=i+m:=by lia
  rw [this]
 rw [e]
 have:=pick_run xs i k
 rw [yL] at this
 have e2:((λ x=>xs[x]?) ∘ λ x=>i+x)=λ m=>xs[i+m]?:=rfl
 rw [e2] at this
 rw [this]
theorem getItem_tuple_cut {t sl:Addr} {items:Array Value} {vl vu:Value} {lo hi:Option Int} {Q:Value->Shared->Prop} (ht:IsTup s.heap t items) (hs:s.heap.IsSliceOf sl vl vu .none) (pl:IsPart vl lo) (pu:IsPart vu hi)
  (hw:¬ (sIx items.size 0 lo=0/\sIx items.size items.size hi=items.size))
  (h:Q (.ref s.heap.objs.size) { s with heap:=s.heap.push { cls:=.type "tuple",data:=.seq ((items.toList.drop (sIx items.size 0 lo)).take (sIx items.size items.size hi - sIx items.size 0 lo)).toArray } })
  (hsz:items.size<=sizeLine):wpAny (model prog w) A (getItem (.ref t) (.ref sl)) Q E s:=by
 have htake:sizeOk (.seq ((items.toList.drop (sIx items.size 0 lo)).take (sIx items.size items.size hi - sIx items.size 0 lo)).toArray):=by
  show ((items.toList.drop (sIx items.size 0 lo)).take (sIx items.size items.size hi - sIx items.size 0 lo)).toArray.size<=sizeLine
  rw [uS,vS,List.length_drop,vX]
  lia
 have hj:sIx items.size items.size hi<=items.size:=zf11 _ _ (uF _) hi
 obtain ⟨os,hos,hcs,hds⟩:=id hs
 have hTs:s.TypeIs (.ref sl) "slice":=⟨os,hos,hcs⟩
 unfold getItem
 try with_reducible refine wpAny_holding ?_
 first|refine wpAny_bind (wpAny_pure ?_)|skip
 refine wpAny_bind (wpAny_sequenceKey ht.typeIs (by decide) ?_)
 refine wpAny_bind (wpAny_callSpecial?_slot (name:=uD "__getitem__") ht.typeIs PyProof.Rows.slot_tuple_getitem
  (wpAny_call_entry PyProof.Rows.slot_tuple_getitem ht.typeIs entry_tuple_getitem ?_ (args_tuple_getitem _ _)))
 show wpAny _ _ (Builtin.Tuple.tupleItemsOf (.ref t) >>= _) _ _ s
 refine wpAny_bind (tupleItemsOf_ ht ?_)
 refine wpAny_bind (wpAny_typeOf hTs ?_)
 rw [if_pos (by decide)]
 refine wpAny_bind (zv6 hs pl pu ?_)
 have hno:¬ ((((sIx items.size 0 lo:Nat):Int) == 0 && (1:Int) == 1 && (sIx items.size items.size hi - sIx items.size 0 lo) == items.size)=true):=by
  intro q
  rw [wY,wY] at q
  have q1:((sIx items.size 0 lo:Nat):Int)=0:=eq_of_beq q.1.1
  have q2:sIx items.size items.size hi - sIx items.size 0 lo=items.size:=eq_of_beq q.2
  exact hw ⟨by lia,by lia⟩
 show wpAny _ _ (if (((sIx items.size 0 lo:Nat):Int) == 0 && (1:Int) == 1 && (sIx items.size items.size hi - sIx items.size 0 lo) == items.size)=true then _ else _) _ _ s
 rw [if_neg hno,zsm]
 first
 |exact wpAny_bind (m:=Builtin.Tuple.tupleExact _) (wpAny_newObj_type (wpAny_pure ⟨_,rfl,wpAny_pure h⟩) htake)
 |exact wpAny_bind (m:=Builtin.Tuple.tupleExact _) (wpAny_newObj_type (wpAny_bind (wpAny_pure (wpAny_pure ⟨_,rfl,wpAny_pure h⟩))) htake)
 |exact wpAny_bind (wpAny_bind (m:=Builtin.Tuple.tupleExact _) (wpAny_newObj_type (wpAny_pure (wpAny_pure ⟨_,rfl,wpAny_pure h⟩)) htake))
 |exact wpAny_bind (wpAny_bind (m:=Builtin.Tuple.tupleExact _) (wpAny_newObj_type (wpAny_pure ⟨_,rfl,wpAny_pure h⟩) htake))
end
end HT
namespace _2
open PySem PySem.Spec PyProof.Rows
abbrev TO:=St->Hp->(Option Int->Hp->Prop)->Prop
def PO (X:Cx) (e:Option Expr) (t:TO):Prop :=
 ∀ (pins:List (Addr×Obj)) (s:Shared) (Y:St) (H:Hp) (Q:Option Int->Hp->Prop),Inv X pins Y H s->t Y H Q ->
  wpAny (model X.prog X.w) X.A (evalPart e X.env) (λ u s'=>∃ o H',Inv X pins Y H' s'/\IsPart u o/\Q o H') X.xe s
def zol:TO:=λ _ H Q=>Q none H
def zp71 (t:TE):TO:=λ Y H Q=>t Y H λ x H1=>∃ i,x=.int i/\Q (some i) H1
theorem zp6 {ns:List Int}:∀ {us:List Value},Vals (ns.map V.int) us->IntsAre us ns:=by
 induction ns with
|nil=>intro us r;rw [wZ] at r;cases r;exact .nil
|cons n ns ih =>
  intro us r
  rw [uK] at r
  cases r with
 |cons r1 r2 =>
   obtain ⟨t,e⟩:=r1
   subst e
   exact .cons n t (ih r2)
section
variable {X:Cx} {e:Expr} {te:TE} {lo hi:Option Expr} {tl th:TO} {pos p2:Pos}
theorem ztr:PO X none zol:=by
 intro pins s Y H Q I h
 rw [evalPart_none]
 exact wpAny_pure ⟨none,H,I,.none,h⟩
theorem zdw (h:PE X e te):PO X (some e) (zp71 te):=by
 intro pins s Y H Q I hw
 rw [evalPart_some]
 refine thn (h pins s Y H _ I hw) λ u s1 ⟨x,H1,I1,r1,q1⟩=>?_
 obtain ⟨i,rfl,q⟩:=q1
 obtain ⟨t,rfl⟩:=r1
 exact ⟨some i,H1,I1,.int i t,q⟩
def SlR (X:Cx) (r:V->Option Int->Option Int->Hp->VK->Prop):Prop :=
 ∀ (pins:List (Addr×Obj)) (s:Shared) (Y:St) (H:Hp) (x:V) (v vl vu:Value) (lo hi:Option Int) (sl:Addr) (Q:VK),Inv X pins Y H s->RelV x v->s.heap.IsSliceOf sl vl vu .none->IsPart vl lo->IsPart vu hi->r x lo hi H Q ->
  ∃ T id,typeLookup (.type T) "__getitem__"=pure (some (.builtin id))/\s.TypeIs v T/\wpAny (model X.prog X.w) X.A (getItem v (.ref sl)) (EP X pins Y Q) X.xe s
theorem SlR.or {r r':V->Option Int->Option Int->Hp->VK->Prop} (h:SlR X r) (h':SlR X r'):SlR X (λ x lo hi H Q=>r x lo hi H Q \/ r' x lo hi H Q):=by
 intro pins s Y H x v vl vu lo hi sl Q I rx hs pl pu q
 rcases q with q|q
 ·exact h pins s Y H x v vl vu lo hi sl Q I rx hs pl pu q
 ·exact h' pins s Y H x v vl vu lo hi sl Q I rx hs pl pu q
def tSl (r:V->Option Int->Option Int->Hp->VK->Prop) (te:TE) (tl th:TO):TE:=λ Y H Q=>te Y H λ x H1=>tl Y H1 λ l H2=>th Y H2 λ u H3=>r x l u H3 Q
theorem zgp {r:V->Option Int->Option Int->Hp->VK->Prop} (hr:SlR X r) (he:PE X e te) (hl:PO X lo tl) (hu:PO X hi th):PE X (.Subscript e (.Slice lo hi none p2) pos) (tSl r te tl th):=by
 intro pins s Y H Q I h
 refine Subscript_ (thn (he pins s Y H _ I h) λ v s1 ⟨x,H1,I1,r1,q1⟩=>?_)
 refine wpAny_Slice (thn (hl pins s1 Y H1 _ I1 q1) λ vl s2 ⟨l,H2,I2,pl,q2⟩=>thn (hu pins s2 Y H2 _ I2 q2) λ vu s3 ⟨u,H3,I3,pu,q3⟩=>?_)
 rw [evalPart_none]
 refine wpAny_pure ?_
 have I4:Inv X pins Y H3 { s3 with heap:=s3.heap.push { cls:=.type "slice",data:=.fields #[vl,vu,.none] } }:=I3.kept (t':=s3.toks) λ b ob q=>uH _ q
 obtain ⟨T,id,hT,ht,hg⟩:=hr pins { s3 with heap:=s3.heap.push { cls:=.type "slice",data:=.fields #[vl,vu,.none] } } Y H3 x v vl vu l u s3.heap.objs.size Q I4 r1 (Heap.IsSliceOf.new ..) pl pu q3
 show wpAny (model X.prog X.w) X.A (subscriptTail e (.Slice lo hi none p2) v (.ref s3.heap.objs.size)) (EP X pins Y Q) X.xe { s3 with heap:=s3.heap.push { cls:=.type "slice",data:=.fields #[vl,vu,.none] } }
 exact tail_any (ops:=[.ref s3.heap.objs.size,v]) ht hT hg (by with_unfolding_all rfl)
def cutV (xs:List V) (lo hi:Option Int):List V:=(xs.drop (HT.sIx xs.length 0 lo)).take (HT.sIx xs.length xs.length hi - HT.sIx xs.length 0 lo)
theorem zz8 (xs:List V) (lo hi:Option Int):(cutV xs lo hi).length<=xs.length:=by
 unfold cutV
 rw [vS,List.length_drop]
 lia
def rSlT (K:Fg):V->Option Int->Option Int->Hp->VK->Prop:=λ x lo hi H Q=>∃ a xs,x=.ref a/\SqT K H a xs /\
 ¬ (HT.sIx xs.length 0 lo=0/\HT.sIx xs.length xs.length hi=xs.length)/\∀ p,H p=none->Q (.ref p) (upd H p (.tup (cutV xs lo hi)))
theorem zly:SlR X (rSlT X.K):=by
 intro pins s Y H x v vl vu lo hi sl Q I rx hs pl pu h
 obtain ⟨a,xs,rfl,hx,hw,q⟩:=h
 cases rx
 obtain ⟨its,r,ht,hz⟩:=I.tuple hx
 have hlen:its.toArray.size=xs.length:=by rw [uS];exact r.length.symm
 refine ⟨"tuple",_,PyProof.Rows.slot_tuple_getitem.lookup,ht.typeIs,?_⟩
 refine HT.getItem_tuple_cut ht hs pl pu (by rw [hlen];exact hw) ?_ (by rw [hlen];exact hz)
 rw [hlen]
 refine ⟨.ref s.heap.objs.size,_,I.laid (t':=s.toks) (o:=.tup (cutV xs lo hi)) (λ b ob q=>uH _ q) (uF _) ?_,rfl,q _ (I.hok.fresh (uF _))⟩
 exact ⟨vJ (zz8 xs lo hi) hz,_,(r.drop (HT.sIx xs.length 0 lo)).take (HT.sIx xs.length xs.length hi - HT.sIx xs.length 0 lo),IsTup.new _ _⟩
def ze51 (K:Fg):R2:=λ x y H Q=>∃ a b xs ys,x=.ref a/\y=.ref b/\SqT K H a xs/\SqT K H b ys/\xs≠[]/\xs.length+ys.length<=sizeLine /\
 (ys=[]->Q (.ref a) H)/\(ys≠[]->∀ p,H p=none->Q (.ref p) (upd H p (.tup (xs++ys))))
theorem Vals.nil_iff {xs:List V} {us:List Value} (r:Vals xs us):us=[] ↔ xs=[]:=by
 cases r with
|nil=>simp
|cons _ _=>simp
theorem zft:OpR X (binaryOp .Add) (ze51 X.K):=by
 intro pins s Y H x y v u Q I rx ry h
 obtain ⟨a,b,xs,ys,rfl,rfl,ha,hb,hx,hz,q1,q2⟩:=h
 cases rx
 cases ry
 obtain ⟨its,r1,p1,_⟩:=I.tuple ha
 obtain ⟨its2,r2,p2,_⟩:=I.tuple hb
 refine HT.cat_tup p1 p2 (λ z=>hx (r1.nil_iff.mp z)) (λ z=>⟨.ref a,H,I,rfl,q1 (r2.nil_iff.mp z)⟩) (λ z=>?_) (by rw [<- r1.length,<- r2.length];exact hz)
 refine ⟨.ref s.heap.objs.size,_,I.laid (t':=s.toks) (o:=.tup (xs++ys)) (λ b ob q=>uH _ q) (uF _) ?_,rfl,q2 (λ w=>z (r2.nil_iff.mpr w)) _ (I.hok.fresh (uF _))⟩
 exact ⟨by rw [vA];exact hz,_,r1.append r2,IsTup.new _ _⟩
end
def ixN (n:Nat) (i:Int):Option Nat:=if 0<=i then (if i < n then some i.toNat else none) else if -(n:Int)<=i then some (i+n).toNat else none
def atI {α:Type} (xs:List α) (i:Int):Option α:=(ixN xs.length i).bind λ j=>xs[j]?
theorem zql {n:Nat} {i:Int} {j:Nat} (h:ixN n i=some j):seqIndex? i n=some j/\j < n/\-(n:Int)<=i/\i < n:=by
 unfold ixN at h
 by_cases h0:0<=i
 ·rw [if_pos h0] at h
  by_cases h1:i < n
  ·rw [if_pos h1] at h
   have e:i.toNat=j:=u7.inj h
   exact ⟨by rw [seqIndex_of h0 h1,e],by lia,by lia,h1⟩
  ·rw [if_neg h1] at h;cases h
 ·rw [if_neg h0] at h
  by_cases h1:-(n:Int)<=i
  ·rw [if_pos h1] at h
   have e:(i+n).toNat=j:=u7.inj h
   exact ⟨by rw [seqIndex_neg (by lia) h1,e],by lia,h1,by lia⟩
  ·rw [if_neg h1] at h;cases h
theorem zwh {α:Type} {xs:List α} {i:Int} {v:α} (h:atI xs i=some v):∃ j,seqIndex? i xs.length=some j/\xs[j]?=some v/\j < xs.length/\-(xs.length:Int)<=i/\i < xs.length:=by
 unfold atI at h
 cases e:ixN xs.length i with
|none=>rw [e] at h;cases h
|some j =>
  rw [e] at h
  obtain ⟨h1,h2,h3,h4⟩:=zql e
  exact ⟨j,h1,h,h2,h3,h4⟩
theorem zv8 {α:Type} {xs:List α} {j:Nat} {v:α} (h:xs[j]?=some v):atI xs (j:Int)=some v:=by
 have hj:j < xs.length:=(uZ.mp h).1
 have e:ixN xs.length (j:Int)=some j:=by
  unfold ixN
  rw [if_pos (by lia),if_pos (by lia)];simp
 unfold atI;rw [e];exact h
def zrl (b:Expr):Prop:=∀ o i,subscripted b false o i=operate [o,i] (getItem o i)
def IxR (X:Cx) (r:R2):Prop :=
 ∀ (value slice:Expr) (pins:List (Addr×Obj)) (s:Shared) (Y:St) (H:Hp) (x y:V) (v u:Value) (Q:VK),Inv X pins Y H s->RelV x v->RelV y u->r x y H Q ->
  subscripted slice false v u=operate [v,u] (getItem v u)->wpAny (model X.prog X.w) X.A (subscriptTail value slice v u) (EP X pins Y Q) X.xe s
def MtR (X:Cx) (id:String) (r:V->List V->Hp->VK->Prop):Prop :=
 ∀ (pins:List (Addr×Obj)) (s:Shared) (Y:St) (H:Hp) (x:V) (xs:List V) (v:Value) (us:List Value) (Q:VK),Inv X pins Y H s->RelV x v->Vals xs us->r x xs H Q ->
  wpAny (model X.prog X.w) X.A (call (.builtin id) (v :: us)) (EP X pins Y Q) X.xe s
section
variable {X:Cx} {a b:Expr} {ta tb:TE} {pos:Pos}
theorem IxR.or {r r':R2} (h:IxR X r) (h':IxR X r'):IxR X (λ x y H Q=>r x y H Q \/ r' x y H Q):=by
 intro value slice pins s Y H x y v u Q I rx ry q hs
 rcases q with q|q
 ·exact h value slice pins s Y H x y v u Q I rx ry q hs
 ·exact h' value slice pins s Y H x y v u Q I rx ry q hs
theorem zk71 {r:R2} (hr:IxR X r) (ha:PE X a ta) (hb:PE X b tb) (hs:zrl b):PE X (.Subscript a b pos) (tOp r ta tb):=by
 intro pins s Y H Q I h
 exact Subscript_ (binT ha hb I h λ v u s2 x y H2 I2 rx ry q=>hr a b pins s2 Y H2 x y v u Q I2 rx ry q (hs _ _))
def rIxL (K:Fg):R2:=λ x y H Q=>∃ p xs i v,x=.ref p/\y=.int i/\SqL K H p xs/\atI xs i=some v/\Q v H
def rIxT (K:Fg):R2:=λ x y H Q=>∃ p xs i v,x=.ref p/\y=.int i/\SqT K H p xs/\atI xs i=some v/\Q v H
def rIxS:R2:=λ x y H Q=>∃ z i c,x=.str z/\y=.int i/\z.length<=sizeLine/\atI z.cps.toList i=some c/\Q (.str ⟨#[c]⟩) H
theorem zyt:IxR X (rIxL X.K):=by
 intro value slice pins s Y H x y v u Q I rx ry h hs
 obtain ⟨p,xs,i,z,rfl,rfl,hq,he,q⟩:=h
 cases rx
 obtain ⟨t,rfl⟩:=ry
 obtain ⟨its,r,pl,hz⟩:=I.list hq
 obtain ⟨j,h1,h2,h3,h4,h5⟩:=zwh he
 obtain ⟨w,ew,rw'⟩:=r.get h2
 have hl:=r.length
 have hn:=zvc
 have fin:EP X pins Y Q w s:=⟨z,H,I,rw',q⟩
 by_cases h0:0<=i
 ·have hj:i.toNat=j:=by
   rw [seqIndex_of h0 h5] at h1
   exact u7.inj h1
  exact item_listR pl.isList h0 (by lia) (by rw [hj];simpa using ew) fin hs
 ·have hj:(i+(its.toArray.size:Int)).toNat=j:=by
   rw [seqIndex_neg (by lia) h4] at h1
   rw [uS,<- hl]
   exact u7.inj h1
  exact subscriptTail_builtinR (x:=w) pl.isList.typeIs slot_list_getitem.lookup
   (wpAny_getItem_list_neg (Q:=λ r s'=>r=w/\EP X pins Y Q r s') pl.isList (by lia) (by rw [uS] <;> lia) (by lia) (by rw [hj];simpa using ew) ⟨rfl,fin⟩) hs
theorem zj11:IxR X (rIxT X.K):=by
 intro value slice pins s Y H x y v u Q I rx ry h hs
 obtain ⟨p,xs,i,z,rfl,rfl,hq,he,q⟩:=h
 cases rx
 obtain ⟨t,rfl⟩:=ry
 obtain ⟨its,r,pl,hz⟩:=I.tuple hq
 obtain ⟨j,h1,h2,h3,h4,h5⟩:=zwh he
 obtain ⟨w,ew,rw'⟩:=r.get h2
 have hl:=r.length
 have hn:=zvc
 have fin:EP X pins Y Q w s:=⟨z,H,I,rw',q⟩
 exact subscriptTail_builtinR (x:=w) pl.typeIs slot_tuple_getitem.lookup
  (getItem_tuple (j:=j) (Q:=λ r s'=>r=w/\EP X pins Y Q r s') pl (by lia) (by lia) (by rw [uS,<- hl];exact h1) (by simpa using ew) ⟨rfl,fin⟩) hs
theorem zrx:IxR X rIxS:=by
 intro value slice pins s Y H x y v u Q I rx ry h hs
 obtain ⟨z,i,c,rfl,rfl,hz,he,q⟩:=h
 obtain ⟨t,rfl⟩:=rx
 obtain ⟨t',rfl⟩:=ry
 obtain ⟨j,h1,h2,h3,h4,h5⟩:=zwh he
 have hl:z.cps.toList.length=z.length:=by simp [Str.length]
 rw [hl] at h1 h4 h5
 have hn:=zvc
 exact tail_any (typeIs_str s z t) slot_str_getitem.lookup (getItem_str (c:=c) (by
  have e1:decide (i < -(2 ^ 63:Int))=false:=decide_eq_false (by lia)
  have e2:decide (i ≥ 2 ^ 63)=false:=decide_eq_false (by lia)
  rw [e1,e2,Bool.or_false]) (by rw [h1];simpa using h2) ⟨.str ⟨#[c]⟩,H,I.tok _,⟨_,rfl⟩,q⟩) hs
def rIx (K:Fg):R2:=λ x y H Q=>rIxL K x y H Q \/ rIxT K x y H Q \/ rIxS x y H Q
theorem zb01:IxR X (rIx X.K):=zyt.or (zj11.or zrx)
theorem ztg (its:List Value) (n j:Nat) (u:Value):Obj.mapSeq (·.setIfInBounds j u) { cls:=.type "list",data:=.seq its.toArray n }={ cls:=.type "list",data:=.seq (its.set j u).toArray n }:=by
 simp [Obj.mapSeq]
theorem Inv.lst {pins:List (Addr×Obj)} {Y:St} {H:Hp} {s:Shared} {p:Addr} {xs:List V} (I:Inv X pins Y H s) (h:H p=some (.lst xs)) :
  ∃ (its:List Value) (n:Nat),Vals xs its/\s.heap.get? p=some { cls:=.type "list",data:=.seq its.toArray n }/\xs.length<=sizeLine:=by
 obtain ⟨z,its,n,r,e⟩:=I.hok p _ h
 exact ⟨its,n,r,e,z⟩
theorem Inv.lstUpd {pins:List (Addr×Obj)} {Y:St} {H:Hp} {s:Shared} {p:Addr} {xs ys:List V} {its its':List Value} {n n':Nat} {f:Obj->Obj} (I:Inv X pins Y H s) (h:H p=some (.lst xs))
  (ho:s.heap.get? p=some { cls:=.type "list",data:=.seq its.toArray n }) (hf:f { cls:=.type "list",data:=.seq its.toArray n }={ cls:=.type "list",data:=.seq its'.toArray n' }) (r:Vals ys its') (hz:ys.length<=sizeLine) (t:Nat) :
  Inv X pins Y (upd H p (.lst ys)) { s with heap:=s.heap.update p f,toks:=t }:=by
 have e:(s.heap.update p f).get? p=some { cls:=.type "list",data:=.seq its'.toArray n' }:=by
  rw [xH f ho (by rw [hf] <;> rfl),hf]
 refine I.write (x:=p) (e:=p) (by rw [h];trivial) (.inl rfl) (λ b u hb q=>(wQ _ _ (Ne.symm hb)).trans q) ⟨_,e⟩ ?_
 exact ⟨hz,its',n',r,e⟩
def ze31:V->V->V->Hp->(Hp->Prop)->Prop:=λ o i v H Q=>∃ p xs k j,o=.ref p/\i=.int k/\H p=some (.lst xs)/\ixN xs.length k=some j/\Q (upd H p (.lst (xs.set j v)))
theorem zsn:PSet X ze31:=by
 intro pins s Y H o i v ov iv u Q I ro ri rv h
 obtain ⟨p,xs,k,j,rfl,rfl,hp,hj,q⟩:=h
 cases ro
 obtain ⟨t,rfl⟩:=ri
 obtain ⟨its,n,r,ho,hz⟩:=I.lst hp
 obtain ⟨h1,h2,h3,h4⟩:=zql hj
 have hl:=r.length
 have hn:=zvc
 have I':Inv X pins Y (upd H p (.lst (xs.set j v))) { s with heap:=s.heap.update p (Obj.mapSeq (·.setIfInBounds j u)) } :=
  I.lstUpd hp ho (ztg its n j u) (r.set rv j) (by rw [uW];exact hz) s.toks
 by_cases h0:0<=k
 ·have hk:k.toNat=j:=by
   rw [seqIndex_of h0 h4] at h1
   exact u7.inj h1
  exact PySem.W.ki_setAt ho h0 (by lia) (by rw [uS,<- hl];exact h4) (by rw [hk];exact ⟨_,I',q⟩)
 ·have hk:(k+(its.toArray.size:Int)).toNat=j:=by
   rw [seqIndex_neg (by lia) h3] at h1
   rw [uS,<- hl]
   exact u7.inj h1
  exact PySem.W.ki_setBack ho (by lia) (by rw [uS,<- hl];exact h3) (by lia) (by rw [hk];exact ⟨_,I',q⟩)
theorem zuc (lo hi:Option Int) (n:Nat):(sliceBounds lo hi none n).1=((HT.sIx n 0 lo:Nat):Int)/\(sliceBounds lo hi none n).2.1=((HT.sIx n n hi:Nat):Int)/\(sliceBounds lo hi none n).2.2=1:=by
 refine ⟨?_,?_,rfl⟩
 ·cases lo with
 |none=>simp [sliceBounds,HT.sIx]
 |some i =>
   simp only [sliceBounds,HT.sIx,Option.getD_none,show (1:Int) > 0 by decide,if_true]
   by_cases h:i < 0
   ·simp only [h,if_true] <;> lia
   ·simp only [h,if_false] <;> lia
 ·cases hi with
 |none=>simp [sliceBounds,HT.sIx]
 |some i =>
   simp only [sliceBounds,HT.sIx,Option.getD_none,show (1:Int) > 0 by decide,if_true]
   by_cases h:i < 0
   ·simp only [h,if_true] <;> lia
   ·simp only [h,if_false] <;> lia
theorem zua (its:List Value) (lo hi:Option Int):slicePick its.toArray lo hi none=((its.drop (HT.sIx its.length 0 lo)).take (HT.sIx its.length its.length hi - HT.sIx its.length 0 lo)).toArray:=by
 obtain ⟨h1,h2,h3⟩:=zuc lo hi its.toArray.size
 unfold slicePick
 rw [h1,h2,h3]
 simp only [sliceRange_one,pick_run,uS] <;> rfl
def rSlL (K:Fg):V->Option Int->Option Int->Hp->VK->Prop:=λ x lo hi H Q=>∃ a xs,x=.ref a/\SqL K H a xs/\∀ p,H p=none->Q (.ref p) (upd H p (.lst (cutV xs lo hi)))
theorem zss:SlR X (rSlL X.K):=by
 intro pins s Y H x v vl vu lo hi sl Q I rx hs pl pu h
 obtain ⟨a,xs,rfl,hx,q⟩:=h
 cases rx
 obtain ⟨its,r,ht,hz⟩:=I.list hx
 have hlen:=r.length
 refine ⟨"list",_,slot_list_getitem.lookup,ht.isList.typeIs,?_⟩
 refine wpAny_getItem_list_slice ht.isList hs pl pu .none (by simp) ?_ (by rw [uS] <;> lia)
 rw [zua,<- hlen]
 refine ⟨.ref s.heap.objs.size,_,I.laid (t':=s.toks) (o:=.lst (cutV xs lo hi)) (λ b ob q=>uH _ q) (uF _) ?_,rfl,q _ (I.hok.fresh (uF _))⟩
 exact ⟨vJ (zz8 xs lo hi) hz,_,0,(r.drop (HT.sIx xs.length 0 lo)).take (HT.sIx xs.length xs.length hi - HT.sIx xs.length 0 lo),uT _ rfl⟩
def zvl:V->Bool
|.non=>true
|.bl _=>true
|.int _=>true
|.str _=>true
|_=>false
def eqV:V->V->Bool
|.non,.non=>true
|.bl a,.bl b=>a == b
|.bl a,.int b=>(if a then 1 else 0) == b
|.int a,.bl b=>a == (if b then 1 else 0)
|.int a,.int b=>a == b
|.str a,.str b=>a == b
|_,_=>false
theorem zdz {A:Around} {s:Shared} {y x:V} {u v:Value} (ry:RelV y u) (rx:RelV x v) (fy:zvl y=true) (fx:zvl x=true):SeqAt.EqAt A s u v (eqV y x):=by
 cases y with
|non =>
  cases ry
  cases x with
 |non=>cases rx;exact SeqAt.EqAt.same _
 |bl b=>cases rx;exact SeqAt.EqAt.none_bool b
 |int b=>obtain ⟨t,rfl⟩:=rx;exact SeqAt.EqAt.none_int b t
 |str b=>obtain ⟨t,rfl⟩:=rx;exact SeqAt.EqAt.none_str b t
 |_=>exact absurd (show false=true from fx) uV
|bl a =>
  cases ry
  cases x with
 |non=>cases rx;exact SeqAt.EqAt.bool_none a
 |bl b=>cases rx;exact SeqAt.EqAt.bool_bool a b
 |int b=>obtain ⟨t,rfl⟩:=rx;exact SeqAt.EqAt.bool_int a b t
 |str b=>obtain ⟨t,rfl⟩:=rx;exact SeqAt.EqAt.bool_str a b t
 |_=>exact absurd (show false=true from fx) uV
|int a =>
  obtain ⟨t',rfl⟩:=ry
  cases x with
 |non=>cases rx;exact SeqAt.EqAt.int_none a t'
 |bl b=>cases rx;exact SeqAt.EqAt.int_bool a t' b
 |int b=>obtain ⟨t,rfl⟩:=rx;exact SeqAt.EqAt.int_int a t' b t
 |str b=>obtain ⟨t,rfl⟩:=rx;exact SeqAt.EqAt.int_str a t' b t
 |_=>exact absurd (show false=true from fx) uV
|str a =>
  obtain ⟨t',rfl⟩:=ry
  cases x with
 |non=>cases rx;exact SeqAt.EqAt.str_none a t'
 |bl b=>cases rx;exact SeqAt.EqAt.str_bool a t' b
 |int b=>obtain ⟨t,rfl⟩:=rx;exact SeqAt.EqAt.str_int a t' b t
 |str b=>obtain ⟨t,rfl⟩:=rx;exact SeqAt.EqAt.str_str a t' b t
 |_=>exact absurd (show false=true from fx) uV
|_=>exact absurd (show false=true from fy) uV
def eqU (x:V) (u:Value):Bool:=match u with
|.none=>eqV .non x
|.bool b=>eqV (.bl b) x
|.int i _=>eqV (.int i) x
|.str z _=>eqV (.str z) x
|_=>false
theorem zku {x y:V} {u:Value} (r:RelV y u) (f:zvl y=true):eqU x u=eqV y x:=by
 cases y with
|non=>cases r;rfl
|bl b=>cases r;rfl
|int i=>obtain ⟨t,rfl⟩:=r;rfl
|str z=>obtain ⟨t,rfl⟩:=r;rfl
|_=>exact absurd (show false=true from f) uV
theorem zwa {x:V}:∀ {xs:List V} {us:List Value},Vals xs us->xs.all zvl=true->us.any (eqU x)=xs.any λ y=>eqV y x
|_,_,.nil,_=>rfl
|y :: xs,u :: us,.cons r t,f=>by
  rw [yM,wY] at f
  rw [wK,wK,zku r f.1,zwa t f.2]
theorem zn6 {A:Around} {s:Shared} {x:V} {v:Value} (rx:RelV x v) (fx:zvl x=true):∀ {xs:List V} {us:List Value},Vals xs us->xs.all zvl=true->∀ u∈us,SeqAt.EqAt A s u v (eqU x u)
|_,_,.nil,_=>λ u hu=>by cases hu
|y :: xs,u :: us,.cons r t,f=>λ u' hu=>by
  rw [yM,wY] at f
  rcases uE.mp hu with rfl|hu
  ·rw [zku r f.1];exact zdz r rx f.1 fx
  ·exact zn6 rx fx t f.2 u' hu
def inV (x:V) (xs:List V):Bool:=xs.any λ y=>eqV y x
def rIn (K:Fg) (neg:Bool):R2:=λ x y H Q=>∃ p xs,y=.ref p/\(SqL K H p xs \/ SqT K H p xs)/\zvl x=true/\xs.all zvl=true/\Q (.bl (if neg then !inV x xs else inV x xs)) H
theorem zli:OpR X (compareOp .In) (rIn X.K false):=by
 intro pins s Y H x y v u Q I rx ry h
 obtain ⟨p,xs,rfl,hq,fx,fs,q⟩:=h
 cases ry
 rcases hq with hq|hq
 ·obtain ⟨its,r,pl,hz⟩:=I.list hq
  refine SeqAt.in_listAt (eqU x) pl.isList (λ w hw=>zn6 rx fx r fs w (by simpa using hw)) ⟨.bl _,H,I,rfl,?_⟩
  rw [show its.toArray.any (eqU x)=its.any (eqU x) by simp,zwa r fs]
  exact q
 ·obtain ⟨its,r,pl,hz⟩:=I.tuple hq
  refine SeqAt.in_tupleAt (eqU x) pl (λ w hw=>zn6 rx fx r fs w (by simpa using hw)) ⟨.bl _,H,I,rfl,?_⟩
  rw [show its.toArray.any (eqU x)=its.any (eqU x) by simp,zwa r fs]
  exact q
theorem ztc:OpR X (compareOp .NotIn) (rIn X.K true):=by
 intro pins s Y H x y v u Q I rx ry h
 obtain ⟨p,xs,rfl,hq,fx,fs,q⟩:=h
 cases ry
 rcases hq with hq|hq
 ·obtain ⟨its,r,pl,hz⟩:=I.list hq
  refine SeqAt.notIn_listAt (eqU x) pl.isList (λ w hw=>zn6 rx fx r fs w (by simpa using hw)) ⟨.bl _,H,I,rfl,?_⟩
  rw [show its.toArray.any (eqU x)=its.any (eqU x) by simp,zwa r fs]
  exact q
 ·obtain ⟨its,r,pl,hz⟩:=I.tuple hq
  refine SeqAt.notIn_tupleAt (eqU x) pl (λ w hw=>zn6 rx fx r fs w (by simpa using hw)) ⟨.bl _,H,I,rfl,?_⟩
  rw [show its.toArray.any (eqU x)=its.any (eqU x) by simp,zwa r fs]
  exact q
theorem zad:OpR X (compareOp .NotIn) (λ x y H Q=>∃ i j,x=.str i/\y=.str j/\Q (.bl (!(!(Builtin.Str.occurrences j i 0 j.length 1).isEmpty))) H):=by
 intro pins s Y H x y v u Q I rx ry h
 obtain ⟨i,j,rfl,rfl,q⟩:=h
 obtain ⟨t,rfl⟩:=rx
 obtain ⟨t',rfl⟩:=ry
 exact notIn_str ⟨.bl _,H,I,rfl,q⟩
theorem CallR.or {f:Value} {r r':List V->Hp->VK->Prop} (h:CallR X f r) (h':CallR X f r'):CallR X f (λ xs H Q=>r xs H Q \/ r' xs H Q):=by
 intro pins s Y H xs us Q I rs q
 rcases q with q|q
 ·exact h pins s Y H xs us Q I rs q
 ·exact h' pins s Y H xs us Q I rs q
theorem zyb:CallR X (.type "list") (λ xs H Q=>∃ p ys,xs=[.ref p]/\(SqL X.K H p ys \/ SqT X.K H p ys)/\∀ l,H l=none->Q (.ref l) (upd H l (.lst ys))):=by
 intro pins s Y H xs us Q I r h
 obtain ⟨p,ys,rfl,hq,q⟩:=h
 obtain ⟨u,rfl,rx⟩:=zoe r
 cases rx
 have fin:∀ (its:List Value),Vals ys its->ys.length<=sizeLine->∀ (h':Heap) (c':Nat),(∀ b o',s.heap.get? b=some o'->h'.get? b=some o') ->
   h'.get? s.heap.objs.size=some { cls:=.type "list",dict:=none,data:=.seq its.toArray c',slots:=#[] }->EP X pins Y Q (.ref s.heap.objs.size) { s with heap:=h' }:=λ its r' hz h' c' kp e =>
  ⟨.ref s.heap.objs.size,_,I.laid (t':=s.toks) kp (uF _) (show ObjOk X.prog X.w _ h' _ (.lst ys) from ⟨hz,its,c',r',e⟩),rfl,q _ (I.hok.fresh (uF _))⟩
 rcases hq with hq|hq
 ·obtain ⟨its,r',pl,hz⟩:=I.list hq
  have hlen:=r'.length
  obtain ⟨o,ho,hc,n,hd⟩:=pl.isList
  exact call_list_seq p (.inl rfl) ho hc hd (λ h' c' kp e=>fin its r' hz h' c' kp e) (by simp only [uS] <;> lia)
 ·obtain ⟨its,r',pl,hz⟩:=I.tuple hq
  have hlen:=r'.length
  obtain ⟨o,ho,hc,n,hd⟩:=pl
  exact call_list_seq p (.inr rfl) ho hc hd (λ h' c' kp e=>fin its r' hz h' c' kp e) (by simp only [uS] <;> lia)
def tyV (K:Fg) (T:String) (x:V) (H:Hp):Prop:=match x with
|.str _=>T = "str"
|.int _=>T = "int"
|.ref p=>(T = "list"/\∃ xs,SqL K H p xs) \/ (T = "tuple"/\∃ o,K.lookup p=some o/\o.cls=.type "tuple"/\o.dict=none) \/
   (T = "dict"/\((∃ kvs,H p=some (.dK kvs)) \/ ∃ kvs,H p=some (.dT kvs))) \/ (T = "set"/\∃ S n,H p=some (.set S n))
|_=>False
theorem ztq {pins:List (Addr×Obj)} {Y:St} {H:Hp} {s:Shared} {T:String} {x:V} {v:Value} (I:Inv X pins Y H s) (r:RelV x v) (ty:tyV X.K T x H) :
  s.TypeIs v T/\∀ a,v=.ref a->∃ ob,s.heap.get? a=some ob/\ob.dict=none:=by
 cases x with
|str z =>
  obtain ⟨t,rfl⟩:=r
  cases (show T = "str" from ty)
  exact ⟨typeIs_str s z t,λ _ e=>nomatch e⟩
|int i =>
  obtain ⟨t,rfl⟩:=r
  cases (show T = "int" from ty)
  exact ⟨typeIs_int s i t,λ _ e=>nomatch e⟩
|ref p =>
  cases r
  rcases ty with ⟨rfl,xs,hq⟩|⟨rfl,o,hk,hc,hd⟩|⟨rfl,hk⟩|⟨rfl,S,n,hk⟩
  ·obtain ⟨its,_,pl,_⟩:=I.list hq
   refine ⟨pl.isList.typeIs,λ a e=>?_⟩
   cases e
   obtain ⟨o,n,e,c,hd,_⟩:=pl
   exact ⟨o,e,hd⟩
  ·refine ⟨⟨o,I.kIn p o hk,hc⟩,λ a e=>?_⟩
   cases e
   exact ⟨o,I.kIn _ o hk,hd⟩
  ·have z:∃ o,s.heap.get? p=some o/\o.ExactDict:=by
    rcases hk with ⟨kvs,hk⟩|⟨kvs,hk⟩
    ·obtain ⟨_,_,_,_,o,_,_,e,ex,_⟩:=I.hok p _ hk
     exact ⟨o,e,ex⟩
    ·obtain ⟨_,_,_,_,o,_,_,e,ex,_⟩:=I.hok p _ hk
     exact ⟨o,e,ex⟩
   obtain ⟨o,e,ex⟩:=z
   refine ⟨⟨o,e,ex.1⟩,λ a e2=>?_⟩
   cases e2
   exact ⟨o,e,ex.2.1⟩
  ·obtain ⟨o,_,_,_,e,ex,_⟩:=I.hok p _ hk
   refine ⟨⟨o,e,ex.1⟩,λ a e2=>?_⟩
   cases e2
   exact ⟨o,e,ex.2.1⟩
|_=>exact False.elim ty
def tBM0 (K:Fg) (T:String) (r:V->List V->Hp->VK->Prop) (to:TE):TE:=λ Y H Q=>to Y H λ x H1=>tyV K T x H1/\r x [] H1 Q
def tBM (K:Fg) (T:String) (r:V->List V->Hp->VK->Prop) (to:TE) (t:TA):TE:=λ Y H Q=>to Y H λ x H1=>tyV K T x H1/\t Y H1 λ xs H2=>r x xs H2 Q
variable {o e:Expr} {es:List Expr} {to:TE} {t:TA} {name:Str} {apos cpos:Pos} {T id:String} {r:V->List V->Hp->VK->Prop}
theorem zxz (pa:PlainAttrs T) (slot:Slot T name id) (hty:typeOf (.builtin id)=pure (.type "method_descriptor")) (hm:MtR X id r) (ho:PE X o to)
  (hbase:attributeBase o name X.env (eval o X.env)=eval o X.env:=by rfl) (hline:(apos.endLine == cpos.line)=true:=by rfl):PE X (.Call (.Attribute o name apos) [] [] cpos) (tBM0 X.K T r to):=by
 intro pins s Y H Q I h
 refine wpAny_Call_method0_late hbase hline (thn (ho pins s Y H _ I h) λ v s1 ⟨x,H1,I1,r1,ty,q1⟩=>?_)
 obtain ⟨h1,h2⟩:=ztq I1 r1 ty
 exact ⟨T,id,pa,slot,hty,h1,h2,Calls.callWith_builtin rfl (PySem.evalArgs_none (hm pins s1 Y H1 x [] v [] Q I1 r1 .nil q1))⟩
theorem zf71 (pa:PlainAttrs T) (slot:Slot T name id) (hty:typeOf (.builtin id)=pure (.type "method_descriptor")) (hm:MtR X id r) (ho:PE X o to) (ha:PA X (e :: es) t)
  (hbase:attributeBase o name X.env (eval o X.env)=eval o X.env:=by rfl)
  (hfew:((backTo cpos (starEach (e :: es) X.env)).all (λ x=>!x.1) && (backToKw cpos (keywordEach [] X.env)).all (λ x=>x.1.isSome)
   && decide ((e :: es).length+([]:List Keyword).length+(if ([]:List Keyword).isEmpty then 0 else 1) < 30))=true:=by rfl)
  (hline:(apos.endLine == cpos.line)=true:=by rfl) (hs:starEach (e :: es) X.env=(false,eval e X.env) :: starEach es X.env:=by rfl) (hplain:(backTo cpos (starEach es X.env)).any (·.1)=false:=by rfl) :
  PE X (.Call (.Attribute o name apos) (e :: es) [] cpos) (tBM X.K T r to t):=by
 intro pins s Y H Q I h
 refine wpAny_Call_method_late hbase hfew hline rfl (thn (ho pins s Y H _ I h) λ v s1 ⟨x,H1,I1,r1,ty,q1⟩=>?_)
 obtain ⟨h1,h2⟩:=ztq I1 r1 ty
 refine ⟨T,id,pa,slot,hty,h1,h2,?_⟩
 have hA:=ha cpos pins s1 Y H1 _ I1 q1
 rw [hs] at hA ⊢
 refine Calls.callWith_builtin (by show (false || (backTo cpos (starEach es X.env)).any (·.1))=false;rw [hplain] <;> rfl) (Calls.evalArgs_plain ?_)
 exact thn hA λ us s2 ⟨vs,H2,I2,r2,q2⟩=>hm pins s2 Y H2 x vs v us Q I2 r1 r2 q2
end
def MtM (X:Cx) (id:String) (r:V->List V->Hp->VK->Prop):Prop :=
 ∀ (pins:List (Addr×Obj)) (s:Shared) (Y:St) (H:Hp) (x:V) (xs:List V) (v:Value) (us:List Value) (Q:VK),Inv X pins Y H s->RelV x v->Vals xs us->r x xs H Q ->
  wpAny (model X.prog X.w) X.A (call (.builtin id) (v :: us)) (EP X pins Y Q) X.xe s
theorem Vals.one:∀ {x:V} {us:List Value},Vals [x] us->∃ u,us=[u]/\RelV x u
|_,_,.cons r .nil=>⟨_,rfl,r⟩
theorem Vals.two:∀ {x y:V} {us:List Value},Vals [x,y] us->∃ u v,us=[u,v]/\RelV x u/\RelV y v
|_,_,_,.cons r (.cons q .nil)=>⟨_,_,rfl,r,q⟩
theorem Vals.zero:∀ {us:List Value},Vals [] us->us=[]
|_,.nil=>rfl
theorem Vals.dropLast {xs:List V} {us:List Value} (h:Vals xs us):Vals xs.dropLast us.dropLast:=by
 induction h with
|nil=>exact .nil
|cons r t ih =>
  cases t with
 |nil=>exact .nil
 |cons q t'=>exact .cons r ih
theorem Vals.rep {xs:List V} {us:List Value} (h:Vals xs us):∀ k:Nat,Vals (uP k xs).flatten (uP k us).flatten
|0=>.nil
|k+1=>by
  rw [wR,wR,w8,w8]
  exact Vals.append h (Vals.rep h k)
theorem zih {α:Type} (l:List α):l.eraseIdx (l.length - 1)=l.dropLast:=by
 induction l with
|nil=>rfl
|cons a r ih =>
  cases r with
 |nil=>rfl
 |cons b r =>
   have e:(a :: b :: r).length - 1=((b :: r).length - 1)+1:=by
    have h1:(a :: b :: r).length=r.length+2:=rfl
    have h2:(b :: r).length=r.length+1:=rfl
    lia
   rw [e,List.eraseIdx_cons_succ,ih]
   all_goals rfl
theorem zge (its:List Value):∀ (k:Nat) (acc:List Value),
  List.foldl (λ x1 x2=>x1++x2) acc.toArray (uP k its.toArray)=(acc++(uP k its).flatten).toArray
|0,acc=>by simp
|k+1,acc=>by
  have e:acc.toArray++its.toArray=(acc++its).toArray:=by simp
  have e2:(acc++its)++(uP k its).flatten=acc++(uP (k+1) its).flatten:=by
   rw [wR,w8,wG]
  rw [<- e2,<- zge its k (acc++its),<- e,wR,List.foldl_cons]
section
variable {X:Cx} {pins:List (Addr×Obj)} {Y:St} {H:Hp} {s:Shared} {l b:Addr} {xs ys zs:List V}
theorem Inv.lset {its its':List Value} {n:Nat} {f:Array Value->Array Value} {t':Nat} (I:Inv X pins Y H s) (hH:H l=some (.lst xs))
  (e:s.heap.get? l=some { cls:=.type "list",data:=.seq its.toArray n }) (hf:f its.toArray=its'.toArray) (hv:Vals ys its') (hz:ys.length<=sizeLine) :
  Inv X pins Y (upd H l (.lst ys)) { s with heap:=s.heap.update l (Obj.mapSeq f),toks:=t' }:=by
 have q:=PySem.IsL.update e f
 rw [hf] at q
 refine I.write (x:=l) (e:=l) (by rw [hH];exact trivial) (.inl rfl) (λ b' u hb hu=>(wQ s.heap (Obj.mapSeq f) (Ne.symm hb)).trans hu) ⟨_,q⟩ ?_
 exact ⟨hz,its',_,hv,q⟩
theorem Inv.lnew {its:List Value} {t':Nat} (I:Inv X pins Y H s) (hv:Vals ys its) (hz:ys.length<=sizeLine) :
  Inv X pins Y (upd H s.heap.objs.size (.lst ys)) { s with heap:=s.heap.push { cls:=.type "list",data:=.seq its.toArray },toks:=t' } :=
 I.laid (λ _ _ q=>uH _ q) (uF _) ⟨hz,its,0,hv,uT _ rfl⟩
theorem Inv.fresh (I:Inv X pins Y H s):H s.heap.objs.size=none:=I.hok.fresh (uF _)
theorem Inv.lstM (I:Inv X pins Y H s) (hH:H l=some (.lst xs)):xs.length<=sizeLine/\∃ (its:List Value) (n:Nat),Vals xs its/\xs.length=its.length/\s.heap.get? l=some { cls:=.type "list",data:=.seq its.toArray n }:=by
 obtain ⟨z,its,n,r,e⟩:=I.hok l _ hH
 exact ⟨z,its,n,r,r.length,e⟩
theorem zjc {n:Nat} (h:n<=sizeLine):Builtin.List.listTooLong n=false:=by
 unfold Builtin.List.listTooLong
 exact decide_eq_false (by lia)
end
section
variable {X:Cx}
def zlf:V->List V->Hp->VK->Prop:=λ x vs H Q=>∃ l xs y,x=.ref l/\vs=[y]/\H l=some (.lst xs)/\xs.length < sizeLine/\Q .non (upd H l (.lst (xs++[y])))
theorem zh1:MtM X "list.append" zlf:=by
 intro pins s Y H x vs v us Q I rx rv h
 obtain ⟨l,xs,y,rfl,rfl,hH,hz,q⟩:=h
 cases rx
 obtain ⟨u,rfl,ru⟩:=rv.one
 obtain ⟨z,its,n,r,hl,e⟩:=I.lstM hH
 refine call_meets F.slot_list_append ⟨_,e,rfl⟩ F.entry_list_append (F.args_list_append_2 _ _) (PySem.list_append l its.toArray n u (by rw [uS];lia)) ⟨e,?_⟩
 refine ⟨.non,_,I.lset (its':=its++[u]) hH e (by simp) (r.append (.cons ru .nil)) ?_,rfl,q⟩
 rw [vA,xI]
 lia
def zms:V->List V->Hp->VK->Prop:=λ x vs H Q=>∃ l b xs zs,x=.ref l/\vs=[.ref b]/\H l=some (.lst xs)/\H b=some (.lst zs)/\xs.length+zs.length<=sizeLine/\Q .non (upd H l (.lst (xs++zs)))
theorem zpw:MtM X "list.extend" zms:=by
 intro pins s Y H x vs v us Q I rx rv h
 obtain ⟨l,b,xs,zs,rfl,rfl,hH,hB,hz,q⟩:=h
 cases rx
 obtain ⟨u,rfl,ru⟩:=rv.one
 cases ru
 obtain ⟨z,its,n,r,hl,e⟩:=I.lstM hH
 obtain ⟨z2,its2,n2,r2,hl2,e2⟩:=I.lstM hB
 have hsz:its.toArray.size+its2.toArray.size<=sizeLine:=by rw [uS,uS];lia
 have hlong:¬ (!its.toArray.isEmpty && Builtin.List.listTooLong (its.toArray.size+its2.toArray.size))=true:=by
  rw [zjc hsz,Bool.and_false]
  exact uV
 refine call_meets F.slot_list_extend ⟨_,e,rfl⟩ F.entry_list_extend (F.args_list_extend_2 _ _)
  (AutoSeq1.list_extend_list_list_0 l its.toArray n b its2.toArray n2 hlong (by rw [uS];lia) (by lia)) ⟨e,e2,?_⟩
 refine ⟨.non,_,I.lset (its':=its++its2) hH e (by simp) (r.append r2) ?_,rfl,q⟩
 rw [vA]
 lia
def rPop:V->List V->Hp->VK->Prop:=λ x vs H Q=>∃ l xs y,x=.ref l/\vs=[]/\H l=some (.lst xs)/\xs[xs.length - 1]?=some y/\Q y (upd H l (.lst xs.dropLast))
theorem zeo:MtM X "list.pop" rPop:=by
 intro pins s Y H x vs v us Q I rx rv h
 obtain ⟨l,xs,y,rfl,rfl,hH,hy,q⟩:=h
 cases rx
 have hus:=rv.zero
 subst hus
 obtain ⟨z,its,n,r,hl,e⟩:=I.lstM hH
 obtain ⟨u,hu,ru⟩:=r.get hy
 have hy':its.toArray[its.toArray.size - 1]?=some u:=by
  show its.toArray[its.length - 1]?=some u
  rw [<- xX,<- hl]
  exact hu
 refine call_meets F.slot_list_pop ⟨_,e,rfl⟩ F.entry_list_pop (F.args_list_pop_1 _) (MeetsSeq.list_pop_last l its.toArray n u hy' (by rw [uS];lia)) ⟨e,?_⟩
 refine ⟨y,_,I.lset (its':=its.dropLast) hH e ?_ r.dropLast ?_,ru,q⟩
 ·show its.toArray.eraseIdxIfInBounds (its.toArray.size - 1)=its.dropLast.toArray
  rw [uS,List.eraseIdxIfInBounds_toArray,zih]
 ·rw [List.length_dropLast]
  lia
def rCat:R2:=λ x y H Q=>∃ l b xs zs,x=.ref l/\y=.ref b/\H l=some (.lst xs)/\H b=some (.lst zs)/\xs.length+zs.length<=sizeLine/\∀ p,H p=none->Q (.ref p) (upd H p (.lst (xs++zs)))
theorem zj01:OpR X (binaryOp .Add) rCat:=by
 intro pins s Y H x y v u Q I rx ry h
 obtain ⟨l,b,xs,zs,rfl,rfl,hH,hB,hz,q⟩:=h
 cases rx
 cases ry
 obtain ⟨z,its,n,r,hl,e⟩:=I.lstM hH
 obtain ⟨z2,its2,n2,r2,hl2,e2⟩:=I.lstM hB
 refine PySem.P.add_list e e2 ?_ (by rw [uS,uS];lia)
 have ea:its.toArray++its2.toArray=(its++its2).toArray:=by simp
 rw [ea]
 exact ⟨.ref _,_,I.lnew (t':=s.toks) (r.append r2) (by rw [vA];lia),rfl,q _ I.fresh⟩
def rRep:R2:=λ x y H Q=>∃ l k xs,x=.ref l/\y=.int k/\H l=some (.lst xs)/\-(2 ^ 63)<=k/\k < 2 ^ 63/\xs.length * k.toNat<=sizeLine /\
 ∀ p,H p=none->Q (.ref p) (upd H p (.lst (uP k.toNat xs).flatten))
theorem zxv {α:Type} (xs:List α) (k:Nat):(uP k xs).flatten.length=k * xs.length:=by
 induction k with
|zero=>simp
|succ k ih=>rw [wR,w8,vA,ih,Nat.succ_mul,Nat.add_comm]
theorem zcs:OpR X (binaryOp .Mult) rRep:=by
 intro pins s Y H x y v u Q I rx ry h
 obtain ⟨l,k,xs,rfl,rfl,hH,h1,h2,hz,q⟩:=h
 cases rx
 obtain ⟨t,rfl⟩:=ry
 obtain ⟨z,its,n,r,hl,e⟩:=I.lstM hH
 have hlen:its.toArray.size * k.toNat<=sizeLine:=by rw [uS,<- hl];exact hz
 have hcap:¬ its.toArray.size * k.toNat > (2 ^ 63 - 1) / 8:=by
  have:(sizeLine:Nat)<=(2 ^ 63 - 1) / 8:=by decide
  lia
 have hfit:¬ (!Builtin.List.listFitsIndex k)=true:=by
  rw [fitsIndex_both h1 h2]
  exact uV
 have hlong:¬ Builtin.List.listTooLong (its.toArray.size * k.toNat)=true:=by
  rw [zjc hlen]
  exact uV
 have hnew:List.foldl (λ x1 x2=>x1++x2) #[] (uP (if its.toArray.isEmpty=true then 0 else k.toNat) its.toArray)=(uP k.toNat its).flatten.toArray:=by
  have f0:∀ m:Nat,List.foldl (λ x1 x2=>x1++x2) #[] (uP m its.toArray)=(uP m its).flatten.toArray:=λ m=>by
   have:=zge its m []
   rw [List.nil_append] at this
   exact this
  rw [f0]
  cases its with
 |nil=>simp
 |cons a r'=>rw [if_neg (by simp)]
 refine wpAny_binaryOp_repeat_ref (T := "list") (U := "int") (by decide) ⟨_,e,rfl⟩ (λ s'=>typeIs_int s' k t) noFill_list_mul F.fills_int_mul F.slot_int_rmul repeat_list F.slot_int_index.lookup
  (call_meets F.slot_int_rmul (typeIs_int s k t) F.entry_int_rmul (F.args_int_rmul_2 _ _) (int___rmul___int_list k t l its.toArray n)
   ⟨e,rfl,⟨_,e,rfl⟩,call_meets F.slot_list_mul ⟨_,e,rfl⟩ F.entry_list_mul (F.args_list_mul_2 _ _) (AutoListH.list___mul___list_int_3 l its.toArray n k t hfit hcap hlong) ⟨e,?_⟩⟩)
 rw [hnew]
 exact ⟨.ref _,_,I.lnew (t':=s.toks) (r.rep k.toNat) (by rw [zxv,Nat.mul_comm];exact hz),rfl,q _ I.fresh⟩
end
section
variable {prog:Program} {w:World} {A:Around} {E:Value->Shared->Prop} {s:Shared}
end
section
variable {X:Cx}
end
end _2
namespace Att
open PySem PySem.W PySem.Calls PyProof.Rows
theorem zt7 {P:Params} {h:Heap}:∀ (ns:List Int) (vs:List Value),WellAll P h vs (ns.map WData.int)->IntsAre vs ns:=by
 intro ns
 induction ns with
|nil =>
  intro vs w
  rw [wZ] at w
  cases w
  exact .nil
|cons n ns ih =>
  intro vs w
  rw [uK] at w
  cases w with
 |cons a b =>
   cases a
   exact .cons _ _ (ih _ b)
theorem zni {l:OpenLaw} {n:Nat} (hn:l.most=some n) {P:Params} {h:Heap} {args:List WData} {vals:List Value}
  (hpre:l.row.toRowW.claim.pre args=true) (hwl:WellAll P h vals args) :
  ∃ a vs ns,vals=[uR a]/\args=[WData.list (ns.map WData.int)]/\h.get? a=some { cls:=.type "list",data:=.seq vs.toArray }/\IntsAre vs ns/\ns.length<=n:=by
 have hsh:WShape.hasAll [] args [.list .int]=true:=(pre_splitW hpre).1
 have hc:l.pre.holds [] { args:=args }=true:=(pre_splitW hpre).2
 obtain ⟨d,r,rfl,h1,h2⟩:=hasAllW_cons hsh
 obtain rfl:=hasAllW_nil h2
 obtain ⟨xs,rfl,h3⟩:=hasW_list h1
 obtain ⟨ns,rfl⟩:=items_int h3
 have hlen:ns.length<=n:=by
  unfold OpenLaw.pre at hc
  have h4:(WTm.not (.lt (.lit (.int (n:Int))) (.len (.arg 0)))).holds [] { args:=[.list (ns.map .int)] }=true:=by
   have h4:=(holds_andW hc).1
   rw [hn] at h4
   exact h4
  have h5:=condW_of h4 (w_not (w_lt w_lit (w_len_list (w_arg rfl))))
  rw [uA] at h5
  refine Nat.le_of_not_lt λ q=>?_
  have q':(n:Int) < ((ns.length:Nat):Int):=by lia
  first
  |(rw [decide_eq_true q'] at h5;exact absurd h5 (by decide))
  |(simp at h5;lia)
 cases hwl with
|cons w1 w2 =>
  cases w2
  cases w1 with
 |list ho hall=>exact ⟨_,_,ns,rfl,rfl,ho,zt7 ns _ hall,hlen⟩
theorem zki (l:OpenLaw) (args:List WData):l.row.toRowW.claim.post args (.bool true) args=true :=
 postW_of (r:=l.row.toRowW) (X:=(true == true))
  (show WShape.has [] (.bool true) .bool=true by first|rfl|decide|simp [WShape.has,WShape.arms,WShape.armsAll])
  (show (WTm.eq .res (.lit (.bool true))).value [] { args:=args,res:=some (.bool true),after:=args }=some (.bool (true == true)) from w_eq_bool (w_res rfl) w_lit) rfl
theorem attach_call {l:OpenLaw} {n:Nat} {q:Program} {loose:List Str} {XP:(Str->Option Value)->Heap->Prop} {YP:World->Heap->Prop} {d:DefRec}
  (hn:l.most=some n) (hdf:d.params.defaults=[])
  (call:∀ (w:World) (s₀ s₁:Shared) (mg mb:Str->Option Value) (fa:Addr) (o:Obj) (pm cd doc:Value) (a:Addr) (vs:List Value) (ns:List Int),
   Ground q loose [] XP w s₀ mg mb s₁.heap->YP w s₁.heap ->
   s₁.heap.get? fa=some o->o.data=.func (docDef d.name d.params d.body d.scope pm cd doc)->s₁.heap.CodeRec cd d.name->mg d.name=some (.ref fa) ->
   s₁.heap.get? a=some { cls:=.type "list",data:=.seq vs.toArray }->IntsAre vs ns->ns.length<=n->s₁.gens=#[] ->
   codeAny (model l.prog w) callerA (.call (.ref fa) ⟨[.ref a],[]⟩) (λ r s'=>r=.ok (.ret (.bool true))/\OldK s₁.heap s'.heap/\s'.os=s₁.os/\AllBare s'.gens) s₁) :
  WalkO q loose XP YP l.row.toRowW d [] (λ f vs=>PySem.call f vs):=by
 intro w s₀ s₁ mg mb G Yv fa o pm cd doc dV kV ho hd hcd hD hmg hg args vals as hpre hlay hrd hwl hlo
 obtain rfl:dV=.none:=Dflts.none hD hdf
 obtain rfl:kV=.none:=Dflts.noKw hD
 obtain ⟨a,vs,ns,rfl,rfl,hobj,hints,hlen⟩:=zni hn hpre hwl
 refine enter_call (codeAny_mono (call w s₀ s₁ mg mb fa o pm cd doc a vs ns G Yv ho (fd_plain hd) hcd hmg hobj hints hlen hg) λ r s' hq=>?_)
 obtain ⟨rfl,h2,h3,h4⟩:=hq
 exact ⟨.inl ⟨.bool true,.bool true,[],rfl,λ _=>rfl,.bool true,zki l _,λ _=>⟨List.Pairwise.nil,λ _ hm=>(nomatch hm)⟩⟩,h2,h3,h4⟩
section
variable {prog:Program} {w:World} {A:Around} {E:Value->Shared->Prop} {s:Shared} {K:Frag}
end
end Att
namespace _2
open PySem PySem.Spec PyProof.Rows
theorem zj6:∀ {vs:List Value} {ns:List Int},IntsAre vs ns->Vals (ns.map V.int) vs
|_,_,.nil=>.nil
|_,_,.cons n t h=>.cons ⟨t,rfl⟩ (zj6 h)
def Only (H:Hp):Prop:=∀ b,H b=none \/ ∃ o xs,H b=some (.frz o (.lst xs))
theorem zio {P:Program} {w:World} {K:Fg} {mg mb:Str->Option Value} {CX:CXT} {k:Nat} {fa a:Addr} {fd:FuncData} {x:Str} {sp:Sp} {s₁:Shared} {vs:List Value} {ns:List Int}
  (KX:K.In s₁.heap) (hns:s₁.heap.Ns mainGlobals mg) (hb:s₁.heap.Ns builtinsNs mb) (hbb:∀ x:Str,x ≠ "__name__"->mb x=bootBuiltins x) (hlim:s₁.heap.NoLimit) (hg:s₁.gens=#[])
  (ha:s₁.heap.get? a=some { cls:=.type "list",data:=.seq vs.toArray }) (hi:IntsAre vs ns) (hl:ns.length<=sizeLine) (hr:Room k callerA)
  (F:∀ base:Heap,K.In base->base.Ns mainGlobals mg->FnOk P w K mg base CX k fa fd [x] sp) (hbind:∀ (s:Shared) (u:Value),BindsTo s fd ⟨[u],[]⟩ [(x,u)])
  (hsp:∀ H:Hp,Only H->SqL K H a (ns.map V.int)->sp [.ref a] H (λ v _=>v=.bl true) λ _ _ _=>False)
  (hCX:∀ H e s',CX [] H s₁ (λ _ _ _=>False) e s'->False) :
  codeAny (model P w) callerA (.call (.ref fa) ⟨[.ref a],[]⟩) (λ r s'=>r=.ok (.ret (.bool true))/\OldK s₁.heap s'.heap/\s'.os=s₁.os/\AllBare s'.gens) s₁:=by
 have rv:=zj6 hi
 have lenV:=hi.length
 -- from an abstract heap in which nothing but the script may be tracked
 have core:∀ H:Hp,Only H->SqL K H a (ns.map V.int)->HOk P w H s₁.heap->(∀ b,H b≠none->b=a)->(H a≠none->K.lookup a=none) ->
   codeAny (model P w) callerA (.call (.ref fa) ⟨[.ref a],[]⟩) (λ r s'=>r=.ok (.ret (.bool true))/\OldK s₁.heap s'.heap/\s'.os=s₁.os/\AllBare s'.gens) s₁:=by
  intro H hO hS hok hA hK
  have base_of:∀ {b:Addr} {o:Obj},s₁.heap.get? b=some o->H b=none->(hidT s₁.heap H).get? b=some o:=λ e n=>zvn e n
  have noA:∀ {b:Addr} {o:Obj} {es:Array DictEntry} {ep:Nat},s₁.heap.get? b=some o->o.data=.dict es ep->H b=none:=λ {b o es ep} e d=>by
   cases q:H b with
  |none=>rfl
  |some u =>
    have e':b=a:=hA b (by rw [q];simp)
    subst e'
    rw [ha] at e;cases e
    have d':Data.seq vs.toArray _=Data.dict es ep:=d
    cases d'
  have nsK:∀ {b:Addr} {m:Str->Option Value},s₁.heap.Ns b m->(hidT s₁.heap H).Ns b m:=λ {b m} ⟨o,es,ep,e,d,r⟩=>⟨o,es,ep,base_of e (noA e d),d,r⟩
  have hKb:K.In (hidT s₁.heap H):=λ b o e=>base_of (KX b o e) (by
   cases q:H b with
  |none=>rfl
  |some u =>
    have e':b=a:=hA b (by rw [q];simp)
    subst e'
    rw [hK (by rw [q];simp)] at e;cases e)
  have hM:Mod K mg (hidT s₁.heap H):=⟨hKb,nsK hns,⟨mb,nsK hb,hbb⟩,let ⟨mc,h1,h2⟩:=hlim;⟨mc,nsK h1,h2⟩⟩
  have e0:Env0 P w K mg (hidT s₁.heap H) callerA [] s₁ H:=⟨rfl,hM,λ b o e=>zjt e,yK (zyj _ _),trivial,λ b hb=>absurd (show b∈([]:List Addr) from hb) (by simp),hok,.of_eq hg⟩
  refine codeAny_mono ((F _ hKb (nsK hns)).run callerA [] s₁ H ⟨[.ref a],[]⟩ [.ref a] [.ref a] _ _ hr e0 (hbind s₁ (.ref a)) (.cons rfl .nil) (hsp H hO hS)) λ r s' h=>?_
  cases r with
 |error e=>exact (hCX H e s' h).elim
 |ok fl =>
   cases fl with
  |next=>exact False.elim h
  |brk=>exact False.elim h
  |cont=>exact False.elim h
  |ret u =>
    obtain ⟨v,H',os,bare,un,hok',r',q⟩:=h
    have q':v=.bl true:=q
    subst q'
    obtain rfl:u=xS true:=r'
    refine ⟨rfl,OldK.of_keep λ b o e=>?_,os,bare⟩
    cases q:H b with
   |none=>exact un.keep b o e q (by intro z;exact absurd (show b∈([]:List Addr) from z) (by simp)) (by simp)
   |some u =>
     rcases hO b with z|⟨ob,xs,z⟩
     ·rw [q] at z;cases z
     ·have z2:=un.frzs b ob _ z
      obtain ⟨e1,_⟩:=hok b _ z
      obtain ⟨e2,_⟩:=hok' b _ z2
      rw [e] at e1;cases e1
      exact e2
 cases hk:K.lookup a with
|some o =>
  -- the script is one of the module's own objects
  have e:=KX a o hk
  rw [ha] at e
  cases e
  refine core (λ _=>none) (λ _=>.inl rfl) (.inr ⟨_,vs.toArray,_,hk,rfl,rfl,rfl,by rw [uS,lenV];exact hl,by simpa using rv⟩) (λ b u z=>by have z':(none:Option HO)=some u:=z;cases z') (λ b z=>absurd rfl z) λ z=>absurd rfl z
|none =>
  refine core (λ b=>if b=a then some (.frz { cls:=.type "list",data:=.seq vs.toArray } (.lst (ns.map V.int))) else none) (λ b=>?_) (.inl (.inr ⟨{ cls:=.type "list",data:=.seq vs.toArray },if_pos rfl⟩)) (λ b u z=>?_) (λ b z=>?_) λ _=>hk
  ·by_cases hb:b=a
   ·exact .inr ⟨_,_,if_pos hb⟩
   ·exact .inl (if_neg hb)
  ·by_cases hb:b=a
   ·have z':=(if_pos hb).symm.trans z
    cases z'
    subst hb
    exact ⟨ha,by rw [uA];exact hl,vs,_,rv,ha⟩
   ·have z':=(if_neg hb).symm.trans z
    cases z'
  ·by_cases hb:b=a
   ·exact hb
   ·exact absurd (if_neg hb) z
theorem walk_of {l:PySem.W.OpenLaw} {n k:Nat} {q:Program} {loose:List Str} {XP:(Str->Option Value)->Heap->Prop} {YP:World->Heap->Prop} {d:DefRec} {K:Params->Fg} {CX:World->CXT} {sp:World->Sp} {x:Str}
  (hn:l.most=some n) (hn2:n<=sizeLine) (hdf:d.params.defaults=[]) (hr:Room k callerA)
  (hY:∀ (w:World) (h:Heap),YP w h->(K w.params).In h)
  (F:∀ (w:World) (mg:Str->Option Value) (fa:Addr) (h:Heap),(K w.params).In h->h.Ns mainGlobals mg->mg d.name=some (.ref fa) ->
   ∃ fd:FuncData,(∀ (s:Shared) (u:Value),BindsTo s fd ⟨[u],[]⟩ [(x,u)]) /\
    ∀ base:Heap,(K w.params).In base->base.Ns mainGlobals mg->FnOk l.prog w (K w.params) mg base (CX w) k fa fd [x] (sp w))
  (hsp:∀ (w:World) (H:Hp) (a:Addr) (ns:List Int),ns.length<=n->Only H->SqL (K w.params) H a (ns.map V.int)->sp w [.ref a] H (λ v _=>v=.bl true) λ _ _ _=>False)
  (hCX:∀ (w:World) (H:Hp) (s:Shared) (e:Value) (s':Shared),CX w [] H s (λ _ _ _=>False) e s'->False) :
  PySem.W.WalkO q loose XP YP l.row.toRowW d [] (λ f vs=>PySem.call f vs):=by
 refine Att.attach_call hn hdf λ w s₀ s₁ mg mb fa o pm cd doc a vs ns G Yv ho hd hcd hmg hobj hints hlen hg=>?_
 have KX:=hY w _ Yv
 obtain ⟨fd,hb,hF⟩:=F w mg fa _ KX G.T.g hmg
 exact zio KX G.T.g G.T.b G.T.builtins G.T.nolimit hg hobj hints (vJ hlen hn2) hr hF hb (λ H hO hS=>hsp w H a ns hlen hO hS) λ H e s'=>hCX w H s₁ e s'
def zx5 (s:Stmt) (j:Nat):Stmt:=match s with
|.ClassDef _ _ _ body _ _ _ _ _ _ _=>body.getD j (.Pass ⟨0,0,0,0⟩)
|_=>.Pass ⟨0,0,0,0⟩
def zg4 (s:Stmt):Arguments:=match s with
|.FunctionDef _ a _ _ _ _ _ _ _ _=>a
|_=>{ posonlyargs:=[],args:=[],vararg:=none,kwonlyargs:=[],kw_defaults:=[],kwarg:=none,defaults:=[] }
def zw1 (s:Stmt):List Stmt:=match s with
|.FunctionDef _ _ b _ _ _ _ _ _ _=>b
|_=>[]
def zf0 (s:Stmt):Scope:=match s with
|.FunctionDef _ _ _ _ _ _ sc _ _ _=>sc
|_=>{ kind:=.function,names:=[],isGenerator:=false,isCoroutine:=false }
abbrev CX0:CXT:=λ _ _ _ _ _ _=>False
abbrev E0:XK:=λ _ _ _=>False
theorem zfx {X:Cx}:zcc CX0 X E0:=λ _ _ _ _ _ _ _ h=>h.elim
structure Fun (K:Fg) (x qual:Str) (st:Stmt) (f:Addr) (fd:FuncData):Prop where
 ex:∃ (oc:Value) (od:Option Addr) (kV doc pm:Value) (an:Option Addr) (cdv ct:Value) (osl:Array (Option Value)),
  fd=PySem.W.fnOf x qual (zg4 st) (zw1 st) (zf0 st) .none kV doc pm an cdv ct/\K.lookup f=some ⟨oc,od,.func fd,osl⟩/\PySem.W.codeIn K cdv qual=true
 kp:PySem.W.keepIn K (.ref f)=true
section
variable {P:Program} {w:World} {K:Fg} {mg:Str->Option Value} {base:Heap}
theorem Fun.ok {x qual:Str} {st:Stmt} {f:Addr} {fd:FuncData} {N ps:List Str} {k:Nat} {sp:Sp} (F:Fun K x qual st f fd) (S:FnScope N ps (zf0 st)) (len:∀ vs H Q E,sp vs H Q E->vs.length=ps.length)
  (hbody:∀ (cdv:Value) (A:Around) (outer:List Env) (s:Shared) (H:Hp) (vs:List V) (Q:VK) (E:XK),Room k (A.deeper (envOfC qual (zf0 st) s.heap.objs.size f cdv))->sp vs H Q E ->
   ∃ t,PSs (cxOf CX0 P w K mg base N qual (zf0 st) f cdv A outer s H E).nox (zw1 st) t/\t { nx:=λ _ H'=>Q .non H',rt:=Q } (start N vs) H):FnOk P w K mg base CX0 (k+1) f fd ps sp:=by
 obtain ⟨oc,od,kV,doc,pm,an,cdv,ct,osl,rfl,lk,hcd⟩:=F.ex
 refine zz31 lk hcd S len λ A outer s H vs Q E hr hsp=>?_
 obtain ⟨t,h,q⟩:=hbody cdv A outer s H vs Q E hr hsp
 exact ⟨t,h.nox,q⟩
theorem Fun.binds {x qual:Str} {st:Stmt} {f:Addr} {fd:FuncData} {ps:List Str} (F:Fun K x qual st f fd)
  (h:∀ (kV doc pm:Value) (an:Option Addr) (cdv ct:Value) (us:List Value),us.length=ps.length->bindArgs (PySem.W.fnOf x qual (zg4 st) (zw1 st) (zf0 st) .none kV doc pm an cdv ct) ⟨us,[]⟩=pure (ps.zip us)):Binds K fd ps []:=by
 obtain ⟨oc,od,kV,doc,pm,an,cdv,ct,osl,rfl,lk,hcd⟩:=F.ex
 exact .all (h kV doc pm an cdv ct)
theorem zkt {x qual:Str} {st:Stmt} {f:Addr} {oc:Value} {od an:Option Addr} {osl:Array (Option Value)} {kV doc pm cdv ct:Value} (l:K.lookup f=some ⟨oc,od,.func (PySem.W.fnOf x qual (zg4 st) (zw1 st) (zf0 st) .none kV doc pm an cdv ct),osl⟩)
  (c:PySem.W.codeIn K cdv qual=true) (k:PySem.W.keepIn K (.ref f)=true):Fun K x qual st f (PySem.W.fnOf x qual (zg4 st) (zw1 st) (zf0 st) .none kV doc pm an cdv ct):=⟨⟨oc,od,kV,doc,pm,an,cdv,ct,osl,rfl,l,c⟩,k⟩
end
section
variable {X:Cx}
theorem pv (i:Nat) {x:Str} {pos:Pos} (hN:X.N[i]?=some x:=by rfl) (hv:Vis X.env.scope x:=by first|exact Or.inl rfl|exact Or.inr (Or.inl rfl)|exact Or.inr (Or.inr rfl)) (hd:(x == ("__debug__":Str))=false:=by decide)
  (hcd:(x == ("__classdict__":Str))=false:=by decide):PE X (.Name x pos) (tVar i):=zp11 hN hv hd hcd
end
def Same (H H':Hp):Prop:=∀ b o,H b=some o->H' b=some o
theorem Same.refl (H:Hp):Same H H:=λ _ _ h=>h
theorem Same.trans {H H1 H2:Hp} (a:Same H H1) (b:Same H1 H2):Same H H2:=λ c o h=>b c o (a c o h)
theorem Same.seq {K:Fg} {H H':Hp} {a:Addr} {xs:List V} (e:Same H H') (h:SqL K H a xs):SqL K H' a xs:=by
 rcases h with (h|⟨o,h⟩)|h
 ·exact .inl (.inl (e _ _ h))
 ·exact .inl (.inr ⟨o,e _ _ h⟩)
 ·exact .inr h
end _2
namespace _3
open PySem PySem.Spec PyProof.Rows _2
abbrev St:=_2.St
def zc3 (env:Env):List (Str×NameKind)->List (Str×Addr)->List (Str×Addr)
|[],cs=>cs
|(n,k) :: r,cs=>zc3 env r (if k == .free then (match env.cells.lookup n with|some c=>(n,c) :: cs|none=>cs) else cs)
theorem zo7 {env:Env}:∀ (names:List (Str×NameKind)) (cs:List (Str×Addr)),(∀ y∈names,y.2=.free->∃ c,env.cells.lookup y.1=some c) ->
  (forIn names cs (λ (x:Str×NameKind) (r:List (Str×Addr))=>(match x with|(name,kind)=>if kind == .free then do let c <- cellOf env name;pure (ForInStep.yield ((name,c) :: r)) else pure (ForInStep.yield r):Sem (ForInStep (List (Str×Addr))))):Sem (List (Str×Addr)))=pure (zc3 env names cs)
|[],cs,_=>rfl
|(n,k) :: r,cs,h=>by
  rw [xJ]
  by_cases hk:k=.free
  ·subst hk
   obtain ⟨c,hc⟩:=h (n,.free) vK rfl
   have hc':env.cells.lookup n=some c:=hc
   have e1:cellOf env n=pure c:=by unfold cellOf;rw [hc']
   simp only [beq_self_eq_true,if_true,e1]
   have:=zo7 r ((n,c) :: cs) λ y hy=>h y (vB _ hy)
   unfold zc3
   simp only [beq_self_eq_true,if_true,hc']
   exact this
  ·have hb:(k == NameKind.free)=false:=by simpa using hk
   simp only [hb,wL,if_false]
   have:=zo7 r cs λ y hy=>h y (vB _ hy)
   unfold zc3
   simp only [hb,wL,if_false]
   exact this
theorem zqa {env:Env} {scope:Scope} (h:∀ y∈scope.names,y.2=.free->∃ c,env.cells.lookup y.1=some c):closureFor scope env=pure (zc3 env scope.names []):=by
 unfold closureFor
 show (forIn scope.names [] _ >>= λ cs=>pure cs)=_
 rw [zo7 scope.names [] h]
 rfl
theorem zja {env:Env} {x:Str} {c:Addr}:∀ (names:List (Str×NameKind)) (cs:List (Str×Addr)),(∀ x c,cs.lookup x=some c->env.cells.lookup x=some c)->(zc3 env names cs).lookup x=some c->env.cells.lookup x=some c
|[],cs,h,e=>h x c e
|(n,k) :: r,cs,h,e=>by
  unfold zc3 at e
  refine zja r _ (λ y d q=>?_) e
  split at q
  ·split at q
   ·rename_i c' hc'
    rw [u3] at q
    split at q
    ·rename_i hy
     cases q
     rw [beq_iff_eq.mp hy];exact hc'
    ·exact h y d q
   ·exact h y d q
  ·exact h y d q
theorem zm8 {env:Env} {x:Str}:∀ (names:List (Str×NameKind)) (cs:List (Str×Addr)),(∃ c,cs.lookup x=some c)->∃ c,(zc3 env names cs).lookup x=some c
|[],cs,h=>h
|(n,k) :: r,cs,⟨c,h⟩=>by
  unfold zc3
  refine zm8 r _ ?_
  split
  ·split
   ·rename_i c' hc'
    rw [u3]
    split
    ·exact ⟨_,rfl⟩
    ·exact ⟨c,h⟩
   ·exact ⟨c,h⟩
  ·exact ⟨c,h⟩
theorem ze7 {env:Env} {x:Str}:∀ (names:List (Str×NameKind)) (cs:List (Str×Addr)),(x,NameKind.free)∈names->(∃ c,env.cells.lookup x=some c)->∃ c,(zc3 env names cs).lookup x=some c
|[],cs,h,_=>nomatch h
|(n,k) :: r,cs,h,⟨c,hc⟩=>by
  rcases uE.mp h with e|h
  ·cases e
   unfold zc3
   simp only [beq_self_eq_true,if_true,hc]
   exact zm8 r _ ⟨c,by simp [u3]⟩
  ·unfold zc3
   exact ze7 r _ h ⟨c,hc⟩
theorem zx8 {env:Env} {x:Str} {c:Addr}:∀ (names:List (Str×NameKind)) (cs:List (Str×Addr)),(zc3 env names cs).lookup x=some c->(x,NameKind.free)∈names \/ cs.lookup x=some c
|[],cs,e=>.inr e
|(n,k) :: r,cs,e=>by
  unfold zc3 at e
  rcases zx8 r _ e with q|q
  ·exact .inl (vB _ q)
  ·split at q
   ·rename_i hk
    split at q
    ·rw [u3] at q
     split at q
     ·rename_i hy
      rw [beq_iff_eq.mp hy,<- beq_iff_eq.mp hk];exact .inl vK
     ·exact .inr q
    ·exact .inr q
   ·exact .inr q
theorem ztv {x:Str} {c:Addr}:∀ (names:List (Str×NameKind)) (n:Nat) (acc:List (Str×Addr)),(cellsFrom n names acc).lookup x=some c->acc.lookup x=some c \/ ((x,NameKind.cell)∈names/\n<=c)
|[],_,_,e=>.inl e
|(y,k) :: r,n,acc,e=>by
  unfold cellsFrom at e
  split at e
  ·rename_i hk
   rcases ztv r (n+1) _ e with q|q
   ·rw [u3] at q
    split at q
    ·rename_i hy
     cases q
     rw [beq_iff_eq.mp hy,<- beq_iff_eq.mp hk]
     exact .inr ⟨vK,uF _⟩
    ·exact .inl q
   ·exact .inr ⟨vB _ q.1,xK q.2⟩
  ·rcases ztv r n _ e with q|q
   ·exact .inl q
   ·exact .inr ⟨vB _ q.1,q.2⟩
theorem zro {x:Str}:∀ (names:List (Str×NameKind)) (n:Nat) (acc:List (Str×Addr)),(x,NameKind.cell) ∉ names->(cellsFrom n names acc).lookup x=acc.lookup x
|[],_,_,_=>rfl
|(y,k) :: r,n,acc,h=>by
  unfold cellsFrom
  split
  ·rename_i hk
   rw [zro r _ _ λ z=>h (vB _ z),u3]
   have:(x == y)=false:=by
    refine beq_eq_false_iff_ne.mpr λ e=>h ?_
    rw [e,<- beq_iff_eq.mp hk];exact vK
   rw [this]
  ·exact zro r _ _ λ z=>h (vB _ z)
theorem zom:∀ (names:List (Str×NameKind)) (n:Nat) (acc:List (Str×Addr)),(∀ x c,acc.lookup x=some c->c < n)->(∀ x y c,acc.lookup x=some c->acc.lookup y=some c->x=y) ->
  ∀ x y c,(cellsFrom n names acc).lookup x=some c->(cellsFrom n names acc).lookup y=some c->x=y
|[],_,_,_,h=>h
|(z,k) :: r,n,acc,hb,h=>by
  unfold cellsFrom
  split
  ·refine zom r (n+1) _ (λ x c e=>?_) λ x y c e1 e2=>?_
   ·rw [u3] at e
    split at e
    ·cases e;exact xF _
    ·exact w9 (hb x c e)
   ·rw [u3] at e1 e2
    by_cases a:(x == z)=true <;> by_cases b:(y == z)=true
    ·rw [beq_iff_eq.mp a,beq_iff_eq.mp b]
    ·rw [a] at e1;rw [yN] at b;rw [b] at e2
     cases e1;exact absurd (hb _ _ e2) (vM _)
    ·rw [b] at e2;rw [yN] at a;rw [a] at e1
     cases e2;exact absurd (hb _ _ e1) (vM _)
    ·rw [yN] at a b;rw [a] at e1;rw [b] at e2
     exact h x y c e1 e2
  ·exact zom r n acc hb h
theorem zuh:∀ (names:List (Str×NameKind)) (h:Heap) (acc:List (Str×Addr)),(∀ x c,acc.lookup x=some c->∃ v,h.IsCell c v) ->
  ∀ x c,(cellsFrom h.objs.size names acc).lookup x=some c->∃ v,(pushCells h names).IsCell c v
|[],_,_,p=>p
|(y,k) :: r,h,acc,p=>by
  unfold cellsFrom pushCells
  split
  ·have q:=zuh r (h.push { cls:=.type "cell",data:=.cell none }) ((y,h.objs.size) :: acc) (by
    intro x c e
    rw [u3] at e
    split at e
    ·cases e;exact ⟨none,_,uT _ rfl,rfl⟩
    ·obtain ⟨v,z⟩:=p x c e
     exact ⟨v,z.keeps λ b o e=>uH _ e⟩)
   rwa [vD] at q
  ·exact zuh r h acc p
theorem zsc {x:Str} {k k':NameKind}:∀ {names:List (Str×NameKind)},(names.map (·.1)).Nodup->(x,k)∈names->(x,k')∈names->k=k'
|(y,j) :: r,h,a,b=>by
  obtain ⟨h1,h2⟩:=uU.mp h
  rcases uE.mp a with e|a' <;> rcases uE.mp b with e'|b'
  ·cases e;cases e';rfl
  ·cases e;exact (h1 (uM.mpr ⟨_,b',rfl⟩)).elim
  ·cases e';exact (h1 (uM.mpr ⟨_,a',rfl⟩)).elim
  ·exact zsc h2 a' b'
theorem zgb {M:Model} {A:Around} {E:Value->Shared->Prop} {s:Shared} {scope:Scope} {globals:Addr} {cl:List (Str×Addr)} {qual:Str} {env:Env} {Q:Env->Shared->Prop}
  (h:Q { scope,locals:=s.heap.objs.size,globals,cells:=cellsFrom (s.heap.objs.size+1) scope.names cl,qual,func:=none,code:=env.code,frame:=env.frame,builtins:=env.builtins } { s with heap:=pushCells (s.heap.push { cls:=.type "dict",data:=.dict #[] }) scope.names }) :
  wpAny M A (newFunctionEnv scope globals cl [] qual none .none (some env)) Q E s:=by
 simp only [newFunctionEnv,zG,if_true]
 refine wpAny_bind (wpAny_alloc ?_)
 refine wpAny_bind (wpAny_layCells _ (λ name kind cells=>by cases hkc:kind == NameKind.cell <;> simp [hkc]) _ _ _ _ ?_)
 rw [show ({ s with heap:=s.heap.push { cls:=.type "dict",data:=.dict #[] } }:Shared).heap.objs.size=s.heap.objs.size+1 from vD ..]
 rw [xL]
 exact wpAny_bind (wpAny_pure (wpAny_pure h))
section
variable {prog:Program} {w:World} {A:Around} {R:Result->Shared->Prop} {s:Shared}
theorem zfc {elt target iter:Expr} {ifs:List Expr} {scope:Scope} {pos:Pos} {it acc:Value} {env:Env} (I:Nat->Shared->Prop)
  (turn:∀ n s,I n s->wpAny (model prog w) A (pyNext it) (λ r s₁=>match r with
  |none=>R (.ok .next) s₁
  |some v=>wpAny (model prog w) A (letOwnedTupleGo target it v) (λ _ s₁'=>wpAny (model prog w) A (assign target env v) (λ _ s₂ =>
     wpAny (model prog w) A (forIn ifs true λ c r=>if r=true then do let ok <- isTrue c env (eval c env);pure (ForInStep.yield ok) else pure (ForInStep.yield r)) (λ ok s₃ =>
      if ok=true then wpAny (model prog w) A (eval elt env) (λ x s₄ =>
       wpAny (model prog w) A (call (.builtin "list.append") [acc,x]) (λ _ s₅=>∃ m,m < n/\I m s₅) (notedBy (model prog w) A env λ e s'=>R (.error e) s') s₄) (notedBy (model prog w) A env λ e s'=>R (.error e) s') s₃
      else ∃ m,m < n/\I m s₃) (notedBy (model prog w) A env λ e s'=>R (.error e) s') s₂) (notedBy (model prog w) A env λ e s'=>R (.error e) s') s₁') (notedBy (model prog w) A env λ e s'=>R (.error e) s') s₁) (notedBy (model prog w) A env λ e s'=>R (.error e) s') s)
  (n:Nat) (h:I n s) :
  codeAny (model prog w) A (.compLoop (.ListComp elt [⟨target,iter,ifs,0⟩] scope pos) 0 it acc env) R s:=by
 refine codeAny_loop rfl I (λ n s hI=>?_) n h
 show wpAny _ A ((compTurn (.ListComp elt [⟨target,iter,ifs,0⟩] scope pos) 0 it acc env).onRaise (λ x=>do noteFrame x env;theTreesLotGoes x)) _ _ s
 refine wpAny_noted ?_
 rw [compTurn_list]
 refine wpAny_bind (wpAny_standAt (wpAny_bind (wpAny_mono (turn n s hI) (λ r s₁ h₁=>?_) λ _ _ h'=>h')))
 cases r with
|none=>exact wpAny_pure h₁
|some v =>
  refine wpAny_bind (wpAny_mono h₁ (λ _ s₁' h₁'=>?_) λ _ _ h'=>h')
  refine wpAny_bind (wpAny_mono h₁' (λ _ s₂ h₂=>wpAny_bind (wpAny_mono h₂ (λ ok s₃ h₃=>?_) λ _ _ h'=>h')) λ _ _ h'=>h')
  cases ok with
 |false=>exact wpAny_pure ⟨rfl,h₃⟩
 |true =>
   exact wpAny_bind (wpAny_bind (wpAny_mono h₃ (λ x s₄ h₄=>wpAny_bind (wpAny_mono h₄ (λ _ s₅ h₅=>wpAny_pure (wpAny_pure ⟨rfl,h₅⟩)) λ _ _ h'=>h')) λ _ _ h'=>h'))
end
abbrev zkj (X:Cx) (scope:Scope) (C:Addr):List (Str×Addr):=cellsFrom (C+1) scope.names (zc3 X.env scope.names [])
def zu3 (X:Cx) (scope:Scope) (N:List Str) (s₀:Shared) (H₀:Hp) (C:Addr) (fp:List Addr):Cx where
 prog:=X.prog
 w:=X.w
 K:=X.K
 mg:=X.mg
 base:=X.base
 A:=X.A
 N:=N
 s₀:=s₀
 H₀:=H₀
 env:=compEnvC scope (zkj X scope C) C X.env
 outer:=X.stack
 stack:=X.stack
 ex:=fp
 fn:=λ x=>decide (scope.names.lookup x=some .cell)
 calm:=X.calm
 pn:=[]
 xe:=λ _ _=>False
def zka (N:List Str) (own:List Str) (ix:List Nat):List Str:=own++ix.map λ i=>N.getD i ""
def compY (n:Nat) (ix:List Nat) (Y:St):St:=uP n none++ix.map λ i=>Y.getD i none
structure CompSc (sc:Scope) (N own:List Str) (ix:List Nat) (scope:Scope):Prop where
 kind:scope.kind=.function
 cell:(scope.names.map (·.1)).Nodup
 names:∀ y∈scope.names,y.2=.local->scope.names.lookup y.1=some .local
 free:∀ y∈scope.names,y.2=.free->sc.names.lookup y.1=some .cell \/ sc.names.lookup y.1=some .free
 caps:∀ i∈ix,i < N.length/\scope.names.lookup (N.getD i "")≠some .local/\scope.names.lookup (N.getD i "")≠some .cell
theorem zx6 {env : Env} {x : Str} : ∀ (names : List (Str × NameKind)),
    ((names.map fun (n, k) => if (k == NameKind.free && env.scope.kind == .function && env.kindOf n == some .cell) then (n, NameKind.cell) else (n, k)).lookup x = some .cell ∨
     (names.map fun (n, k) => if (k == NameKind.free && env.scope.kind == .function && env.kindOf n == some .cell) then (n, NameKind.cell) else (n, k)).lookup x = some .free) → names.lookup x = some .free ∨ names.lookup x = some .cell
  | [], h => by rcases h with h | h <;> cases h
  | (n, k) :: r, h => by
    have ih := zx6 (env := env) (x := x) r
    rw [uK] at h
    by_cases hx : (x == n) = true
    · rw [u3, hx]
      dsimp only at h ⊢
      by_cases hcc : (k == NameKind.free && env.scope.kind == .function && env.kindOf n == some .cell) = true
      · have : k = .free := by
          have := (zH.mp (zH.mp hcc).1).1
          exact beq_iff_eq.mp this
        rw [this]; exact .inl rfl
      · rw [if_neg hcc, u3, hx] at h
        exact h.symm
    · have hx' : (x == n) = false := by simpa using hx
      rw [u3, hx']
      refine ih ?_
      by_cases hcc : (k == NameKind.free && env.scope.kind == .function && env.kindOf n == some .cell) = true
      · simp only [hcc, if_true] at h
        rw [u3, hx'] at h
        exact h
      · simp only [hcc, wL, if_false] at h
        rw [u3, hx'] at h
        exact h
section
variable {X:Cx} {pins:List (Addr×Obj)} {Y:St} {H H':Hp} {s:Shared}
theorem zqm {scope:Scope} {own:List Str} {ix:List Nat} {fp:List Addr} {h₁:Heap} {m:Str->Option Value} {t':Nat} (I:Inv X pins Y H s) (S:CompSc X.env.scope X.N own ix scope)
  (hns:h₁.Ns s.heap.objs.size m) (kc:∀ x c,(zkj X scope s.heap.objs.size).lookup x=some c->∃ v,h₁.IsCell c v) (k:∀ b o,s.heap.get? b=some o->h₁.get? b=some o) (hf:∀ b∈fp,FpOk X pins H b) (hfo:∀ b∈fp,b < s.heap.objs.size) :
  Inv (zu3 X scope (zka X.N own ix) s H s.heap.objs.size fp) [] (compY own.length ix Y) H { s with heap:=h₁,toks:=t' }:=by
 have hcl:∀ x c,(zc3 X.env scope.names []).lookup x=some c->X.env.cells.lookup x=some c:=λ x c e=>zja scope.names [] (λ _ _ q=>by cases q) e
 have hcl2:∀ x c,(zkj X scope s.heap.objs.size).lookup x=some c->X.env.cells.lookup x=some c \/ s.heap.objs.size+1<=c:=λ x c e=>(ztv _ _ _ e).imp (hcl x c) And.right
 have hfree:∀ x,((relabel scope X.env).names.lookup x=some .cell \/ (relabel scope X.env).names.lookup x=some .free)->scope.names.lookup x=some .free \/ scope.names.lookup x=some .cell:=λ x hx=>zx6 scope.names hx
 have hX:∀ x,scope.names.lookup x=some .free->X.env.kindOf x=some .cell \/ X.env.kindOf x=some .free:=λ x hx=>S.free (x,.free) (PySem.mem_of_lookup hx) rfl
 refine ⟨⟨I.ok.mod,S.kind,I.ok.glob,I.ok.blt,uF _,zom _ _ _ (λ x c e=>?_) (λ x y c e1 e2=>I.ok.inj x y c (hcl x c e1) (hcl y c e2)),λ x hx=>?_,λ x c z e=>?_,I.ok.hd,I.ok.frames,.inl rfl,λ b hb=>?_,I.bs,vJ I.ok.bsz I.sz,λ b o e hb=>?_,λ b hb hs=>?_,I.stack,I.stkFree⟩,
  rfl,I.bare,Un.kept k,⟨m,hns,λ i x v e1 e2 e3=>?_⟩,kc,I.hok.fresh (uF _),λ x c e=>(hcl2 x c e).elim (I.freeC x c) (λ z=>I.hok.fresh (xK z)),λ p hp=>absurd (show p∈([]:List (Addr×Obj)) from hp) (by simp),I.hok.kept k,?_⟩
 ·obtain ⟨v,z⟩:=I.cell x c (hcl x c e)
  exact w9 z.lt
 ·refine v7.mp (PySem.W.cellsFrom_some _ _ _ ?_)
  rcases hfree x hx with hx1|hx1
  ·exact .inr (v7.mpr (ze7 scope.names [] (PySem.mem_of_lookup hx1) (I.ok.has x (hX x hx1))))
  ·exact .inl hx1
 ·rcases ztv _ _ _ e with q|q
  ·rcases zx8 _ _ q with q|q
   ·have:=zsc S.cell (PySem.mem_of_lookup (of_decide_eq_true z)) q
    cases this
   ·cases q
  ·exact xK q.2
 ·exact ⟨uY (hfo b hb),λ x c e=>(hcl2 x c e).elim ((hf b hb).2.2.2.2.1 x c) λ z e2=>absurd (vE (hfo b hb) (xK (e2 ▸ z))) (vM _)⟩
 ·rcases (hf b hb).2.2.2.1 with z|z
  ·exact I.ok.noex b o e z
  ·exact absurd (vE (uN e) (vJ I.ok.bsz z)) (vM _)
 ·rcases uE.mp (I.stkSub b hs) with z|z
  ·exact (hf b hb).2.1 z
  ·exact (hf b hb).2.2.1 z
 ·-- a captured name
  have e2':(uP own.length (none:Option V)++ix.map λ i=>Y.getD i none)[i]?=some (some v):=e2
  have e1':(own++ix.map λ i=>X.N.getD i "")[i]?=some x:=e1
  by_cases hi:i < own.length
  ·rw [u5 (by simpa using hi),vT] at e2'
   split at e2' <;> cases e2'
  ·have hi':own.length<=i:=Nat.le_of_not_lt hi
   rw [u9 (by simpa using hi'),wP,uI] at e2'
   rw [u9 hi',uI] at e1'
   cases hq:ix[i - own.length]? with
  |none=>rw [hq] at e2';cases e2'
  |some q =>
    rw [hq] at e1' e2'
    have ex:X.N.getD q ""=x:=u7.inj e1'
    have ev:Y.getD q none=some v:=u7.inj e2'
    obtain ⟨hql,hnl⟩:=S.caps q (vI hq)
    rw [ex] at hnl
    have hnc:=hnl.2
    replace hnl:=hnl.1
    have e3':(relabel scope X.env).names.lookup x=some .local \/ (relabel scope X.env).names.lookup x=some .cell \/ (relabel scope X.env).names.lookup x=some .free:=e3
    have hcf:(relabel scope X.env).names.lookup x=some .cell \/ (relabel scope X.env).names.lookup x=some .free:=by
     rcases e3' with z|z
     ·exfalso
      cases hs:scope.names.lookup x with
     |none =>
       have:∀ (names:List (Str×NameKind)),names.lookup x=none->(names.map λ (n,k)=>if (k == NameKind.free && X.env.scope.kind == .function && X.env.kindOf n == some .cell) then (n,NameKind.cell) else (n,k)).lookup x=none:=by
        intro names
        induction names with
       |nil=>intro _;rfl
       |cons y r ih =>
         obtain ⟨n,kk⟩:=y
         intro hh
         rw [u3] at hh
         by_cases hxn:(x == n)=true
         ·rw [hxn] at hh;cases hh
         ·have hx':(x == n)=false:=by simpa using hxn
          rw [hx'] at hh
          rw [uK]
          by_cases hcc:(kk == NameKind.free && X.env.scope.kind == .function && X.env.kindOf n == some .cell)=true
          ·simp only [hcc,if_true];rw [u3,hx'];exact ih hh
          ·simp only [hcc,wL,if_false];rw [u3,hx'];exact ih hh
       have q0:=this scope.names hs
       have z':(scope.names.map λ (n,k)=>if (k == NameKind.free && X.env.scope.kind == .function && X.env.kindOf n == some .cell) then (n,NameKind.cell) else (n,k)).lookup x=some .local:=z
       rw [q0] at z';cases z'
     |some kk =>
       have:∀ (names:List (Str×NameKind)),names.lookup x=some kk->(names.map λ (n,k)=>if (k == NameKind.free && X.env.scope.kind == .function && X.env.kindOf n == some .cell) then (n,NameKind.cell) else (n,k)).lookup x=some .local->kk=.local:=by
        intro names
        induction names with
       |nil=>intro h;cases h
       |cons y r ih =>
         obtain ⟨n,k2⟩:=y
         intro hh hz
         rw [u3] at hh
         rw [uK] at hz
         by_cases hxn:(x == n)=true
         ·rw [hxn] at hh
          have hk2:k2=kk:=u7.inj hh
          by_cases hcc:(k2 == NameKind.free && X.env.scope.kind == .function && X.env.kindOf n == some .cell)=true
          ·simp only [hcc,if_true] at hz;rw [u3,hxn] at hz;cases hz
          ·simp only [hcc,wL,if_false] at hz;rw [u3,hxn] at hz
           rw [<- hk2];exact u7.inj hz
         ·have hx':(x == n)=false:=by simpa using hxn
          rw [hx'] at hh
          by_cases hcc:(k2 == NameKind.free && X.env.scope.kind == .function && X.env.kindOf n == some .cell)=true
          ·simp only [hcc,if_true] at hz;rw [u3,hx'] at hz;exact ih hh hz
          ·simp only [hcc,wL,if_false] at hz;rw [u3,hx'] at hz;exact ih hh hz
       have:=this scope.names hs z
       rw [this] at hs
       exact hnl hs
     ·exact z
    have hfr:=(hfree x hcf).resolve_right hnc
    have hkX:=hX x hfr
    obtain ⟨mX,hnX,hlX⟩:=I.loc
    have eN:X.N[q]?=some x:=by
     rw [<- ex,uQ]
     rw [uB hql];rfl
    have eY:Y[q]?=some (some v):=by
     rw [uQ] at ev
     cases hs:Y[q]? with
    |none=>rw [hs] at ev;cases ev
    |some o=>rw [hs] at ev;exact congrArg some ev
    obtain ⟨u,r,l⟩:=hlX q x v eN eY (.inr hkX)
    refine ⟨u,r,.inr ⟨hcf,?_⟩⟩
    rcases l with ⟨hk,_⟩|⟨_,c,ec,hcell⟩
    ·exfalso
     rcases hkX with z|z
     ·rw [hk] at z;cases z
     ·rw [hk] at z;cases z
    ·obtain ⟨c',ec'⟩:=ze7 scope.names [] (PySem.mem_of_lookup hfr) ⟨c,ec⟩
     have:=hcl x c' ec'
     rw [ec] at this
     cases this
     exact ⟨c,(zro _ _ _ λ z=>by cases zsc S.cell z (PySem.mem_of_lookup hfr)).trans ec',hcell.keeps k⟩
 ·show (compY own.length ix Y).length=(zka X.N own ix).length
  unfold compY zka
  simp
theorem zth {scope:Scope} {N:List Str} {pins':List (Addr×Obj)} {Y':St} {fp:List Addr} {s':Shared} {h'':Heap} (I:Inv X pins Y H s) (hf:∀ b∈fp,FpOk X pins H b)
  (I':Inv (zu3 X scope N s H s.heap.objs.size fp) pins' Y' H' s') (sb:Heap.SameBut s.heap.objs.size s'.heap h''):Inv X pins Y H' { s' with heap:=h'' }:=by
 have ext:∀ b o,b≠s.heap.objs.size->s'.heap.get? b=some o->h''.get? b=some o:=λ b o nb e=>by rw [sb.2 b nb];exact e
 have old:∀ b o,s.heap.get? b=some o->b≠s.heap.objs.size:=λ b o e=>uY (uN e)
 have u:=I'.base
 refine I.call' (ch:=fp) I'.os ⟨λ b o e n hb hx=>ext b o (old b o e) (u.keep b o e n hb hx),λ b o e n hb hx=>?_,u.free,λ b o e hx=>?_,u.tups,u.frzs,u.tbls⟩ (λ b ob e=>?_) I'.bare λ b hb=>⟨(hf b hb).2.2.2.1,(hf b hb).2.1,(hf b hb).2.2.2.2.1,(hf b hb).2.2.2.2.2⟩
 ·obtain ⟨sl,q⟩:=u.slot b o e n hb hx
  exact ⟨sl,ext b _ (old b o e) q⟩
 ·obtain ⟨o',q⟩:=u.there b o e hx
  exact ⟨o',ext b _ (old b o e) q⟩
 ·have nC:∀ c v,H' c=some v->c≠s.heap.objs.size:=λ c v q z=>by
   have:=I'.free
   rw [z] at q
   have z2:H' s.heap.objs.size=none:=this
   rw [z2] at q;cases q
  refine (I'.hok b ob e).stay (λ c v hc q=>ext c v ?_ q) (λ _ q=>q) λ _ _ q=>q
  rcases hc with z|z
  ·rw [z];exact nC b ob e
  ·exact nC c _ z
end
def zs41 (n:Nat) (ix:List Nat) (g:TG) (tt:TT) (te:TE) (Y:St) (J:It) (H1:Hp) (Q:VK):Prop:=∀ D,H1 D=none->∃ W:Nat->Nat->List V->St->Hp->Prop,(∃ m,W 0 m [] (compY n ix Y) (upd H1 D (.lst []))) /\
 ∀ i m acc Y' H',W i m acc Y' H'->(J.stop i H'/\Q (.ref D) H') \/ (J.go i H'/\∃ N:List V->St->Hp->Prop,(∀ acc' Y2 H2,N acc' Y2 H2->∃ m',m' < m/\W (i+1) m' acc' Y2 H2) /\
  ∀ x H2,J.yld i H' x H2->g x Y' H2 λ Y2 H3=>tt Y2 H3 λ b H4=>if b=true then te Y2 H4 λ y H5=>H5 D=some (.lst acc)/\acc.length < sizeLine/\N (acc++[y]) Y2 (upd H5 D (.lst (acc++[y]))) else N acc Y2 H4)
def zrw (wi:TI) (n:Nat) (ix:List Nat) (g:TG) (tt:TT) (te:TE):TE:=λ Y H Q=>wi Y H λ J H1=>zs41 n ix g tt te Y J H1 Q
def zh01:TT:=λ _ H Q=>Q true H
def PIf (X:Cx) (ifs:List Expr) (t:TT):Prop :=
 ∀ (pins:List (Addr×Obj)) (s:Shared) (Y:St) (H:Hp) (Q:Bool->Hp->Prop),Inv X pins Y H s->t Y H Q ->
  wpAny (model X.prog X.w) X.A (forIn ifs true λ c r=>if r=true then do let ok <- isTrue c X.env (eval c X.env);pure (ForInStep.yield ok) else pure (ForInStep.yield r)) (TP X pins Y Q) X.xe s
theorem zg3 {X:Cx}:PIf X [] zh01:=λ pins s Y H Q I h=>wpAny_tests_nil ⟨H,I,h⟩
theorem zrd {X:Cx} {c:Expr} {t:TT} (h:PT X c t):PIf X [c] t:=λ pins s Y H Q I q=>wpAny_tests_one (h pins s Y H Q I q)
section
variable {X:Cx} {tg iter elt:Expr} {ifs:List Expr} {scope:Scope} {pos:Pos} {own:List Str} {ix:List Nat} {wi:TI} {g:TG} {tt:TT} {te:TE} {sc:Scope} {N:List Str}
theorem zqb {pins:List (Addr×Obj)} {Y:St} {s2:Shared} {itv:Value} {Q:VK} {RR:Value->Addr->Result->Shared->Prop} {E:Value->Shared->Prop} (hc:X.calm=true) (S:CompSc X.env.scope X.N own ix scope)
  (hb:∀ s₀ H₀ C fp,PG (zu3 X scope (zka X.N own ix) s₀ H₀ C fp) tg g/\PIf (zu3 X scope (zka X.N own ix) s₀ H₀ C fp) ifs tt/\PE (zu3 X scope (zka X.N own ix) s₀ H₀ C fp) elt te)
  (h2:PIE X pins Y tg (λ J H1=>zs41 own.length ix g tt te Y J H1 Q) itv s2)
  (hR:∀ (D C:Addr) (m:Str->Option Value) (s':Shared) (H':Hp),s'.heap.Ns C m->C≠X.env.locals->(∀ x c,X.env.cells.lookup x=some c->c≠C)->H' C=none->(X.s₀.heap.objs.size<=C)->(∀ p∈X.pn++pins,p.1≠C) ->
   (∀ h'',Heap.SameBut C s'.heap h''->Inv X pins Y H' { s' with heap:=h'' })->Q (.ref D) H'->RR (.ref D) C (.ok .next) s') :
  wpAny (model X.prog X.w) X.A (newList []) (λ acc s₃=>wpAny (model X.prog X.w) X.A (newFunctionEnv scope X.env.globals (zc3 X.env scope.names []) [] X.env.qual none .none (some X.env)) (λ cenv s₄ =>
   codeAny (model X.prog X.w) X.A (.compStart (.ListComp elt [⟨tg,iter,ifs,0⟩] scope pos) 0 itv acc { cenv with scope:=relabel scope X.env }) (RR acc cenv.locals) s₄) E s₃) E s2:=by
 obtain ⟨it,fp,tn,J,H1,e,I2,T,st2,f2,h⟩:=h2
 subst e
 have hD:H1 s2.heap.objs.size=none:=I2.hok.fresh (uF _)
 obtain ⟨W,⟨m0,w0⟩,turn⟩:=h _ hD
 have hlt:∀ b∈fp,b < s2.heap.objs.size:=λ b hbf=>by obtain ⟨o,e,_⟩:=T.obj 0 _ st2 b hbf;exact uN e
 refine wpAny_newObj_type ?_
 -- the new list is tracked
 have I3:Inv X pins Y (upd H1 s2.heap.objs.size (.lst [])) { s2 with heap:=s2.heap.push { cls:=.type "list",dict:=none,data:=.seq ([]:List Value).toArray } }:=I2.lnew (ys:=[]) (its:=[]) .nil (vZ _)
 generalize hs3:({ s2 with heap:=s2.heap.push { cls:=.type "list",dict:=none,data:=.seq ([]:List Value).toArray } }:Shared)=s3 at I3 ⊢
 have hsz:s3.heap.objs.size=s2.heap.objs.size+1:=by rw [<- hs3];exact vD ..
 have k3:∀ b o,s2.heap.get? b=some o->s3.heap.get? b=some o:=λ b o e=>by rw [<- hs3];exact uH _ e
 have neD:∀ b∈fp,b≠s2.heap.objs.size:=λ b hbf=>uY (hlt b hbf)
 have f3:∀ b∈fp,FpOk X pins (upd H1 s2.heap.objs.size (.lst [])) b:=λ b hbf=>⟨by rw [zm0 (neD b hbf)];exact (f2 b hbf).1,(f2 b hbf).2⟩
 have hlt3:∀ b∈fp,b < s3.heap.objs.size:=λ b hbf=>by rw [hsz];exact w9 (hlt b hbf)
 refine zgb ?_
 have hns₁:=(Heap.Ns.new s3.heap (.type "dict")).keeps (pushCells_keeps scope.names _)
 have k4:∀ b o,s3.heap.get? b=some o->(pushCells (s3.heap.push { cls:=.type "dict",data:=.dict #[] }) scope.names).get? b=some o:=λ b o e=>pushCells_keeps _ _ b o (uH _ e)
 have hcl:∀ x c,(zc3 X.env scope.names []).lookup x=some c->X.env.cells.lookup x=some c:=λ x c e=>zja scope.names [] (λ _ _ q=>by cases q) e
 have kc:=zuh scope.names (s3.heap.push { cls:=.type "dict",data:=.dict #[] }) (zc3 X.env scope.names []) (λ x c e=>by
  obtain ⟨v,z⟩:=I3.cell x c (hcl x c e)
  exact ⟨v,z.keeps λ b o e=>uH _ e⟩)
 rw [vD] at kc
 generalize pushCells (s3.heap.push { cls:=.type "dict",data:=.dict #[] }) scope.names=h₁ at hns₁ k4 kc ⊢
 have I4:=zqm (t':=s3.toks) I3 S hns₁ kc k4 f3 hlt3
 obtain ⟨hG,hT,hE⟩:=hb s3 (upd H1 s2.heap.objs.size (.lst [])) s3.heap.objs.size fp
 have fp':∀ {H':Hp},(∀ b∈fp,H' b=none)->∀ b∈fp,FpOk (zu3 X scope (zka X.N own ix) s3 (upd H1 s2.heap.objs.size (.lst [])) s3.heap.objs.size fp) [] H' b:=λ {H'} hn b hbf=>by
  refine ⟨hn b hbf,uY (hlt3 b hbf),?_,.inl hbf,λ x c e=>(ztv _ _ _ e).elim (λ q=>(f2 b hbf).2.2.2.2.1 x c (hcl x c q)) (λ q e2=>absurd (vE (hlt3 b hbf) (xK (e2 ▸ q.2))) (vM _)),λ p hp=>absurd (show p∈([]:List (Addr×Obj)) from hp) (by simp)⟩
  intro z
  rcases uE.mp (I3.stkSub b z) with z|z
  ·exact (f2 b hbf).2.1 z
  ·exact (f2 b hbf).2.2.1 z
 have st4:tn 0 h₁:=T.keep _ _ _ st2 λ b _ o e=>k4 b o (k3 b o e)
 have cne:∀ x c,X.env.cells.lookup x=some c->c≠s3.heap.objs.size:=λ x c e z=>by
  obtain ⟨v,q⟩:=I3.cell x c e
  exact absurd q.lt (by rw [z];exact vM _)
 have loop:codeAny (model X.prog X.w) X.A (.compLoop (.ListComp elt [⟨tg,iter,ifs,0⟩] scope pos) 0 (.ref it) (.ref s2.heap.objs.size) (compEnvC scope (zkj X scope s3.heap.objs.size) s3.heap.objs.size X.env)) (RR (.ref s2.heap.objs.size) s3.heap.objs.size) { s3 with heap:=h₁ }:=by
  refine zfc (λ n s'=>∃ i acc Y' H',Inv (zu3 X scope (zka X.N own ix) s3 (upd H1 s2.heap.objs.size (.lst [])) s3.heap.objs.size fp) [] Y' H' s'/\tn i s'.heap/\(∀ b∈fp,H' b=none)/\W i n acc Y' H') ?_ m0 ⟨0,[],_,_,I4,st4,λ b hbf=>(f3 b hbf).1,w0⟩
  rintro n s5 ⟨i,acc,Y5,H5,I5,st5,fr5,w5⟩
  rcases turn i n acc Y5 H5 w5 with ⟨stop,qn⟩|⟨go,NN,hN,step⟩
  ·refine thn (T.done (zu3 X scope (zka X.N own ix) s3 (upd H1 s2.heap.objs.size (.lst [])) s3.heap.objs.size fp) rfl rfl rfl hc i [] s5 Y5 H5 _ I5 (fp' fr5) st5 stop) λ r s6 ⟨hr,I6⟩=>?_
   subst hr
   obtain ⟨m6,hn6,_⟩:=I6.loc
   exact hR _ _ m6 s6 H5 hn6 (xU I3.lt) cne I6.free (I3.sz) (λ p hp z=>absurd (uN (I3.pin p hp).1) (by rw [z];exact vM _)) (λ h'' sb=>zth I3 f3 I6 sb) qn
  ·refine thn (T.item (zu3 X scope (zka X.N own ix) s3 (upd H1 s2.heap.objs.size (.lst [])) s3.heap.objs.size fp) rfl rfl rfl hc i [] s5 Y5 H5 _ I5 (fp' fr5) st5 go) λ r s6 ⟨u,hr,h6⟩=>?_
   subst hr
   refine thn h6 λ _ s7 ⟨x,H7,I7,r7,y7,st7,fr7⟩=>?_
   have I7':=I7.pinned (fp' fr7) (T.obj _ _ st7)
   have noE:∀ {α:Type} {t:Sem α} {Q1:α->Shared->Prop} {E1:Value->Shared->Prop} {sx:Shared},wpAny (model X.prog X.w) X.A t Q1 (λ _ _=>False) sx->wpAny (model X.prog X.w) X.A t Q1 E1 sx:=λ q=>wpAny_noRaise q
   refine noE (thn (hG _ s7 Y5 H7 x u _ I7' r7 (step x H7 y7)) λ _ s8 ⟨Y8,H8,I8,q8⟩=>?_)
   refine noE (thn (hT _ s8 Y8 H8 _ I8 q8) λ b s9 ⟨H9,I9,q9⟩=>?_)
   have again:∀ {Yz:St} {Hz:Hp} {sz:Shared} {accz:List V},Inv (zu3 X scope (zka X.N own ix) s3 (upd H1 s2.heap.objs.size (.lst [])) s3.heap.objs.size fp) ([]++zbg fp s7.heap) Yz Hz sz->NN accz Yz Hz->∃ m,m < n/\∃ i acc Y' H',Inv (zu3 X scope (zka X.N own ix) s3 (upd H1 s2.heap.objs.size (.lst [])) s3.heap.objs.size fp) [] Y' H' sz/\tn i sz.heap/\(∀ b∈fp,H' b=none)/\W i m acc Y' H':=λ {Yz Hz sz accz} Iz nz=>by
    obtain ⟨m',hm,wz⟩:=hN accz Yz Hz nz
    refine ⟨m',hm,i+1,accz,Yz,Hz,Iz.unpinned,T.keep _ _ _ st7 λ b hbf o e=>(Iz.pin (b,o) (vY _ (vY _ (zx4 hbf e)))).1,λ b hbf=>?_,wz⟩
    obtain ⟨o,e,d⟩:=T.obj _ _ st7 b hbf
    exact (Iz.pin (b,o) (vY _ (vY _ (zx4 hbf e)))).2.1
   cases b with
  |false =>
    have q9':NN acc Y8 H9:=by simpa using q9
    simp only [wL,if_false]
    exact again I9 q9'
  |true =>
    have q9':te Y8 H9 λ y H5=>H5 s2.heap.objs.size=some (.lst acc)/\acc.length < sizeLine/\NN (acc++[y]) Y8 (upd H5 s2.heap.objs.size (.lst (acc++[y]))):=by simpa using q9
    simp only [if_true]
    refine noE (thn (hE _ s9 Y8 H9 _ I9 q9') λ y s10 ⟨yv,H10,I10,r10,hl,hz,q10⟩=>?_)
    refine noE (thn (zh1 _ s10 Y8 H10 (.ref s2.heap.objs.size) [yv] (.ref s2.heap.objs.size) [y] (λ _ H'=>NN (acc++[yv]) Y8 H') I10 rfl (.cons r10 .nil) ⟨_,acc,yv,rfl,rfl,hl,hz,q10⟩) λ _ s11 ⟨_,H11,I11,_,q11⟩=>?_)
    exact again I11 q11
 exact codeAny_compStart_list loop (T.self X.A 0 _ _ _ st4 loop)
theorem zi4 (hc:X.calm=true) (hsc:X.env.scope=sc) (hN:X.N=N) (S:CompSc sc N own ix scope) (hi:PI X tg iter wi)
  (hb:∀ s₀ H₀ C fp,PG (zu3 X scope (zka N own ix) s₀ H₀ C fp) tg g/\PIf (zu3 X scope (zka N own ix) s₀ H₀ C fp) ifs tt/\PE (zu3 X scope (zka N own ix) s₀ H₀ C fp) elt te)
  (hs:∀ x,foldedSetIterable iter X.env x=pure x:=by intro _;rfl):PE X (.ListComp elt [⟨tg,iter,ifs,0⟩] scope pos) (zrw wi own.length ix g tt te):=by
 subst hsc hN
 intro pins s Y H Q I h
 rw [eval_ListComp]
 refine wpAny_comprehension_free (use:=none) (g:=⟨tg,iter,ifs,0⟩) (gs:=[]) rfl hs (zqa λ y hy hf=>I.ok.has y.1 (S.free y hy hf)) S.kind S.names ?_
 show wpAny _ _ (eval iter X.env) _ _ _
 refine thn (hi pins s Y H _ I h) λ v s1 h1=>thn h1 λ itv s2 h2=>?_
 refine zqb (Q:=Q) (RR:=λ acc C=>compPost (model X.prog X.w) X.A X.xe none (EP X pins Y Q) acc C) hc S hb h2 ?_
 intro D C m s' H' hns _ _ _ _ _ hI q
 exact ⟨m,hns,λ h'' sb=>⟨.ref D,H',hI h'' sb,rfl,q⟩⟩
theorem zs2 {i:Nat} {x:Str} {pos' pos2:Pos} (hc:X.calm=true) (hsc:X.env.scope=sc) (hN:X.N=N) (S:CompSc sc N own ix scope) (hnd:X.N.Nodup) (hxi:X.N[i]?=some x) (hx:X.env.scope.names.lookup x=some .local) (hi:PI X tg iter wi)
  (hb:∀ s₀ H₀ C fp,PG (zu3 X scope (zka N own ix) s₀ H₀ C fp) tg g/\PIf (zu3 X scope (zka N own ix) s₀ H₀ C fp) ifs tt/\PE (zu3 X scope (zka N own ix) s₀ H₀ C fp) elt te)
  (hsw:swapsWith (.ListComp elt [⟨tg,iter,ifs,0⟩] scope pos) (some (.Name x pos')) pos2.line X.env=pure true:=by rfl)
  (hs:∀ x,foldedSetIterable iter X.env x=pure x:=by intro _;rfl):PS X (.Assign [.Name x pos'] (.ListComp elt [⟨tg,iter,ifs,0⟩] scope pos) pos2) (tAsg (zrw wi own.length ix g tt te) (zuj i)):=by
 subst hsc hN
 intro pins s Y H D I h
 rw [exec_Assign_Name_used _ _ _ _ hsw]
 refine wpAny_bind (wpAny_standAt (wpAny_bind ?_))
 show wpAny _ X.A (do let _ <- comprehension (.ListComp elt [⟨tg,iter,ifs,0⟩] scope pos) scope X.env _ (newList []) false (eval iter X.env) (some (assign (.Name x pos') X.env))) _ _ s
 refine wpAny_bind (wpAny_mono (wpAny_comprehension_free (use:=some (assign (.Name x pos') X.env)) (g:=⟨tg,iter,ifs,0⟩) (gs:=[]) (Q:=λ _ s'=>SP X pins D .next s') rfl hs (zqa λ y hy hf=>I.ok.has y.1 (S.free y hy hf)) S.kind S.names
  (thn (hi pins s Y H _ I h) λ v s1 h1=>thn h1 λ itv s2 h2=>?_)) (λ _ s' hq=>wpAny_pure (wpAny_pure hq)) λ _ _ e=>e)
 refine zqb (Q:=λ v H1=>zuj i v Y H1 D.nx) (RR:=λ acc C=>compPost (model X.prog X.w) X.A X.xe (some (assign (.Name x pos') X.env)) (λ _ s'=>SP X pins D .next s') acc C) hc S hb h2 ?_
 intro L C m s' H' hns nL nC hC hC0 hCp hI q
 show wpAny _ _ (assign (.Name x pos') X.env (.ref L)) _ _ s'
 have I':Inv X pins Y H' s':=hI s'.heap ⟨rfl,λ _ _=>rfl⟩
 refine wpAny_assign_Name (zae I' hnd hxi (.inl hx) (v:=.ref L) rfl (λ s2 I2 hch=>?_) (.inr hx))
 obtain ⟨a,sba,ha⟩:=hch
 have naC:C≠a:=by
  rcases ha with z|z
  ·rw [z];exact nL
  ·exact λ e=>nC x a z e.symm
 refine ⟨m,hns.sameBut sba naC,λ h'' sb=>?_⟩
 refine ⟨_,H',I2.turned (t':=s2.toks) (it:=C) (λ b o nb e=>?_) hC nL (.inr hC0) nC hCp,q⟩
 rw [sb.2 b nb];exact e
end
def zq21 (K:Fg):R2:=λ x y H Q=>rI0 (λ i j=>.int (i+j)) x y H Q \/ (∃ i j,x=.str i/\y=.str j/\i.length+j.length<=sizeLine/\Q (.str (i++j)) H) \/ rCat x y H Q \/ ze51 K x y H Q
def ze41:R2:=λ x y H Q=>rI CMul (λ i j=>.int (i * j)) x y H Q \/ rRep x y H Q
def rSlU (K:Fg):V->Option Int->Option Int->Hp->VK->Prop:=λ x lo hi H Q=>rSlL K x lo hi H Q \/ rSlT K x lo hi H Q
def zg51 (K:Fg) (x:V) (H:Hp) (R:It->Hp->Prop):Prop:=(∃ a,x=.ref a/\(∃ xs,SqL K H a xs)/\R (Itl K a) H) \/ (∃ a,x=.ref a/\(∃ xs,SqT K H a xs)/\R (Itt K a) H)
def rLen (K:Fg):List V->Hp->VK->Prop:=λ xs H Q=>∃ x n,xs=[x]/\LenV K x H n/\Q (.int (n:Nat)) H
def za61 (xs:List V) (H:Hp) (Q:VK):Prop:=xs.length<=sizeLine/\∀ p,H p=none->Q (.ref p) (upd H p (.tup xs))
def zh71 (xs:List V) (H:Hp) (Q:VK):Prop:=xs.length<=sizeLine/\∀ p,H p=none->Q (.ref p) (upd H p (.lst xs))
def zl31 (t:TA):TE:=λ Y H Q=>t Y H λ xs H1=>za61 xs H1 Q
def zcy (t:TA):TE:=λ Y H Q=>t Y H λ xs H1=>zh71 xs H1 Q
def zn61 (x:V) (H:Hp) (Q:Option Int->Hp->Prop):Prop:=∃ i,x=.int i/\Q (some i) H
def zas (t:TE):TO:=λ Y H Q=>t Y H λ x H1=>zn61 x H1 Q
def kFld (K:Fg) (f:Str) (x:V) (H:Hp) (Q:VK):Prop:=∃ a C dx fs v,x=.ref a/\H a=some (.ins C dx fs)/\Cls K C/\NoAttr K C f/\fs.lookup f=some v/\Q v H
def zl41 (K:Fg) (ta:TE) (f:Str):TE:=λ Y H Q=>ta Y H λ x H1=>kFld K f x H1 Q
def kBl (x:V) (H:Hp) (Q:Bool->Hp->Prop):Prop:=∃ k,x=.bl k/\Q k H
def zyv (t:TE):TT:=λ Y H Q=>t Y H λ x H'=>kBl x H' Q
def kTru (K:Fg) (x:V) (H:Hp) (Q:Bool->Hp->Prop):Prop:=∃ k,TruV K x H k/\Q k H
def zg01 (K:Fg) (t:TE):TT:=λ Y H Q=>t Y H λ x H'=>kTru K x H' Q
section
variable {X:Cx} {tg:Expr}
theorem zwr {K:Fg} (h:X.K=K):OpR X (binaryOp .Add) (zq21 K):=h ▸ zwx.or (zdg.or (zj01.or zft))
theorem zvs:OpR X (binaryOp .Mult) ze41:=zi11.or zcs
theorem ix_U {K:Fg} (h:X.K=K):IxR X (rIx K):=h ▸ zb01
theorem sl_U {K:Fg} (h:X.K=K):SlR X (rSlU K):=h ▸ zss.or zly
theorem zy1 {K:Fg} (h:X.K=K):CallR X (.builtin "len") (rLen K):=h ▸ zmm
theorem zd5 {es:List Expr} {t:TA} {x1} {pos:Pos} (h:PA X es t):PE X (.Tuple es x1 pos) (zl31 t):=zpz h
theorem zn1 {es:List Expr} {t:TA} {pos:Pos} (h:PA X es t):PE X (.List es pos) (zcy t):=zqz h
theorem zk9 {e:Expr} {te:TE} (h:PE X e te):PO X (some e) (zas te):=zdw h
theorem zu1 {K:Fg} (h:X.K=K) {e:Expr} {f:Str} {pos:Pos} {ta:TE} (he:PE X e ta) (hb:attributeBase e f X.env (eval e X.env)=eval e X.env):PE X (.Attribute e f pos) (zl41 K ta f):=h ▸ zkx he hb
theorem zy0 {a b:Expr} {ta tb:TE} {pos:Pos} {op:CmpOp} {r:R2} (ho:OpR X (compareOp op) r) (ha:PE X a ta) (hb:PE X b tb) (hm:behindInMarks op b=false):PT X (.Compare a [op] [b] pos) (zyv (tOp r ta tb)):=zqt ho ha hb hm
theorem zq3 {K:Fg} (h:X.K=K) {a:Expr} {ta:TE} (ha:PE X a ta) (he:∀ whole,isTrue a X.env whole=(do let v <- whole;standAt a.pos;holding [v] (truthy v))):PT X a (zg01 K ta):=h ▸ zcn ha he
def clsV:V->Option Value
|.ty n=>some (.type n)
|.ref a=>some (.ref a)
|_=>none
theorem zmf {cV:V} {c v:Value} (h:clsV cV=some c) (r:RelV cV v):v=c:=by
 cases cV with
|ty n=>cases h;exact r
|ref a=>cases h;exact r
|_=>cases h
def rIsI (K:Fg):List V->Hp->VK->Prop:=λ xs H Q=>∃ x cV c t b,xs=[x,cV]/\clsV cV=some c/\TyOf K H x t/\PySem.W.kitOne K t c=some b/\Q (.bl b) H
theorem zgf {K:Fg} (h:X.K=K):CallR X (.builtin "isinstance") (rIsI K):=by
 subst h
 intro pins s Y H xs us Q I r h
 obtain ⟨x,cV,c,t,b,rfl,rc,ty,e,q⟩:=h
 obtain ⟨u,v,rfl,ru,rv⟩:=r.two
 obtain rfl:=zmf rc rv
 exact zsk I ru ty e λ tk=>⟨.bl b,H,I.tok tk,rfl,q⟩
end
def Def (P:Program) (w:World) (K:Fg) (mg:Str->Option Value) (base:Heap) (x:Str) (k:Nat) (ps:List Str) (sp:Sp):Prop :=
 ∃ f fd,FnOk P w K mg base CX0 k f fd ps sp/\Binds K fd ps []/\PySem.W.keepIn K (.ref f)=true/\mg x=some (.ref f)
def zax (P:Program) (w:World) (K:Fg) (mg:Str->Option Value) (base:Heap) (x:Str) (C:Addr) (k:Nat) (ps:List Str) (sp:Sp):Prop :=
 ∃ f fd,Mk K C f/\FnOk P w K mg base CX0 k f fd ps sp/\Binds K fd ps []/\mg x=some (.ref C)
def zcb (P:Program) (w:World) (K:Fg) (mg:Str->Option Value) (base:Heap) (C:Addr) (m:Str) (k:Nat) (ps:List Str) (sp:Sp):Prop :=
 ∃ f fd,Cls K C/\Meth K C m f/\FnOk P w K mg base CX0 k f fd ps sp/\Binds K fd ps []
section
variable {X:Cx} {k:Nat} {C:Addr} {ps:List Str} {sp:Sp} {x m:Str} {p pos apos:Pos} {e o:Expr} {es:List Expr} {ta:TE} {t:TA}
theorem zt0 (d:Def X.prog X.w X.K X.mg X.base x k ps sp) (hr:Room k X.A) (hg:Gl X x) (ha:PA X (e :: es) t) (hdb:(x == ("__debug__":Str))=false:=by decide)
  (he:starEach (e :: es) X.env=(false,eval e X.env) :: starEach es X.env:=by rfl) (hpl:(backTo pos (starEach es X.env)).any (·.1)=false:=by rfl):PE X (.Call (.Name x p) (e :: es) [] pos) (zpq sp [] E0 t):=by
 obtain ⟨f,fd,F,b,kp,m⟩:=d
 exact zys F hr hg m kp b .nil zfx ha hdb he hpl
theorem zdp (d:zax X.prog X.w X.K X.mg X.base x C k ps sp) (hr:Room (k+1) X.A) (hg:Gl X x) (ha:PA X (e :: es) t) (hdb:(x == ("__debug__":Str))=false:=by decide)
  (he:starEach (e :: es) X.env=(false,eval e X.env) :: starEach es X.env:=by rfl) (hpl:(backTo pos (starEach es X.env)).any (·.1)=false:=by rfl):PE X (.Call (.Name x p) (e :: es) [] pos) (zb21 C sp [] E0 t):=by
 obtain ⟨f,fd,M,F,b,m⟩:=d
 exact zou M F hr hg m b .nil zfx ha hdb he hpl
theorem zr3 {pl:Sem Bool} (d:zcb X.prog X.w X.K X.mg X.base C m k ps sp) (hr:Room k X.A) (he:PE X o ta) (ha:PA X (e :: es) t)
  (hst:starEach (e :: es) X.env=(false,eval e X.env) :: starEach es X.env:=by rfl) (hpl:(backTo pos (starEach es X.env)).any (·.1)=false:=by rfl)
  (ht:eval (.Call (.Attribute o m apos) (e :: es) [] pos) X.env=(do
   let ov <- eval o X.env
   standAt apos.atName
   let (f,first) <- holding [ov] (getMethod ov m pl)
   callWith pos f first (backTo pos (starEach (e :: es) X.env)) (backToKw pos (keywordEach [] X.env))):=by rfl) :
  PE X (.Call (.Attribute o m apos) (e :: es) [] pos) (zsp C m sp [] E0 ta t):=by
 obtain ⟨f,fd,c,M,F,b⟩:=d
 exact zdr he c M F hr b .nil zfx ha hst hpl ht
end
theorem zd3 {H:Hp} {p:Addr} (h:H p=none) (o:HO):Same H (upd H p o):=λ b u q=>by rw [zm0 (zt2 q h)];exact q
theorem zxb {K:Fg} {H H':Hp} {a:Addr} {xs:List V} (e:Same H H') (h:SqT K H a xs):SqT K H' a xs:=by
 rcases h with (h|⟨o,h⟩)|h
 ·exact .inl (.inl (e _ _ h))
 ·exact .inl (.inr ⟨o,e _ _ h⟩)
 ·exact .inr h
section
variable {K:Fg} {Y:St} {H:Hp} {Q:VK} {D:Ends} {a b p:Addr} {i j k:Int} {x y v:V} {xs ys:List V} {ta tb te:TE} {t u:TS} {tA:TA} {tt tt':TT} {A B:Prop}
theorem zv51 (h:SqT K H a xs) (e:atI xs i=some v) (q:Q v H):rIx K (.ref a) (.int i) H Q:=.inr (.inl ⟨a,xs,i,v,rfl,rfl,h,e,q⟩)
end
theorem zs9:bootBuiltins "len"=some (.builtin "len"):=by decide +kernel
theorem zns:bootBuiltins "max"=some (.builtin "max"):=by decide +kernel
theorem zes:bootBuiltins "min"=some (.builtin "min"):=by decide +kernel
theorem zm2:bootBuiltins "isinstance"=some (.builtin "isinstance"):=by decide +kernel
theorem zs01:bootBuiltins "int"=some (.type "int"):=by decide +kernel
theorem znr:bootBuiltins "bool"=some (.type "bool"):=by decide +kernel
theorem zw5:bootBuiltins "list"=some (.type "list"):=by decide +kernel
theorem zen:bootBuiltins "tuple"=some (.type "tuple"):=by decide +kernel
structure Md (K:Fg) (mg:Str->Option Value):Prop where
 ex:∃ h:Heap,K.In h/\h.Ns mainGlobals mg
theorem Md.got {K:Fg} {mg:Str->Option Value} (M:Md K mg) {x:Str} {v:Value} (e:PySem.W.nsIn K mainGlobals x=some (some v)):mg x=some v:=let ⟨_,X,G⟩:=M.ex;PySem.W.mg_of X G e
theorem Md.not {K:Fg} {mg:Str->Option Value} (M:Md K mg) {x:Str} (e:PySem.W.nsIn K mainGlobals x=some none):mg x=none:=let ⟨_,X,G⟩:=M.ex;PySem.W.mg_none_of X G e
structure TopDef (K:Fg) (x:Str) (st:Stmt):Prop where
 ex:∃ f fd,PySem.W.nsIn K mainGlobals x=some (some (.ref f))/\Fun K x x st f fd
theorem zij {K:Fg} {x:Str} {st:Stmt} {f:Addr} {oc:Value} {od an:Option Addr} {osl:Array (Option Value)} {kV doc pm cdv ct:Value} (a:PySem.W.nsIn K mainGlobals x=some (some (.ref f)))
  (l:K.lookup f=some ⟨oc,od,.func (PySem.W.fnOf x x (zg4 st) (zw1 st) (zf0 st) .none kV doc pm an cdv ct),osl⟩) (c:PySem.W.codeIn K cdv x=true) (k:PySem.W.keepIn K (.ref f)=true):TopDef K x st:=⟨⟨_,_,a,zkt l c k⟩⟩
structure TopMeth (K:Fg) (C:Addr) (m qual:Str) (st:Stmt):Prop where
 ex:∃ f fd,PySem.W.findIn K (.ref C) m=some (some (.ref f))/\PySem.W.isFn K (.ref f)=true/\Fun K m qual st f fd
theorem zrf {K:Fg} {C:Addr} {x qual:Str} {st:Stmt} {f:Addr} {oc:Value} {od an:Option Addr} {osl:Array (Option Value)} {kV doc pm cdv ct:Value} (a:PySem.W.findIn K (.ref C) x=some (some (.ref f))) (i:PySem.W.isFn K (.ref f)=true)
  (l:K.lookup f=some ⟨oc,od,.func (PySem.W.fnOf x qual (zg4 st) (zw1 st) (zf0 st) .none kV doc pm an cdv ct),osl⟩) (c:PySem.W.codeIn K cdv qual=true) (k:PySem.W.keepIn K (.ref f)=true):TopMeth K C x qual st:=⟨⟨_,_,a,i,zkt l c k⟩⟩
structure TopCls (K:Fg) (x:Str) (C:Addr):Prop where
 at_:PySem.W.nsIn K mainGlobals x=some (some (.ref C))
 cls:Cls K C
 mkk:PySem.W.makesIn K C=true
 kp:PySem.W.keepIn K (.ref C)=true
theorem zsi {K:Fg} {x:Str} {C:Addr} (a:PySem.W.nsIn K mainGlobals x=some (some (.ref C))) (pg:PySem.W.plainGet K C Str.empty=true) (hd:PySem.W.hasDictIn K C=true) (po:PySem.W.plainOver K C=true)
  (sa:PySem.W.findIn K (.ref C) "__setattr__"=some (some (.builtin "object.__setattr__"))) (mk:PySem.W.makesIn K C=true) (kc:PySem.W.keepIn K (.ref C)=true):TopCls K x C:=⟨a,⟨pg,hd,po,sa⟩,mk,kc⟩
section
variable {P:Program} {w:World} {K:Fg} {mg:Str->Option Value} {base:Heap}
abbrev zk7 (x qual:Str) (st:Stmt) (ps:List Str):Prop :=
 ∀ (kV doc pm:Value) (an:Option Addr) (cdv ct:Value) (us:List Value),us.length=ps.length->bindArgs (PySem.W.fnOf x qual (zg4 st) (zw1 st) (zf0 st) .none kV doc pm an cdv ct) ⟨us,[]⟩=pure (ps.zip us)
abbrev zu4 (P:Program) (w:World) (K:Fg) (mg:Str->Option Value) (base:Heap) (qual:Str) (st:Stmt) (N:List Str) (k:Nat) (sp:Sp):Prop :=
 ∀ (f:Addr) (cdv:Value) (A:Around) (outer:List Env) (s:Shared) (H:Hp) (vs:List V) (Q:VK) (E:XK),Room k (A.deeper (envOfC qual (zf0 st) s.heap.objs.size f cdv))->sp vs H Q E ->
   ∃ t,PSs (cxOf CX0 P w K mg base N qual (zf0 st) f cdv A outer s H E).nox (zw1 st) t/\t { nx:=λ _ H'=>Q .non H',rt:=Q } (start N vs) H
theorem zc5 {x:Str} {st:Stmt} {N ps:List Str} {k:Nat} {sp:Sp} (M:Md K mg) (T:TopDef K x st) (S:FnScope N ps (zf0 st)) (hb:zk7 x x st ps) (len:∀ vs H Q E,sp vs H Q E->vs.length=ps.length)
  (body:zu4 P w K mg base x st N k sp):Def P w K mg base x (k+1) ps sp:=by
 obtain ⟨f,fd,a,F⟩:=T.ex
 exact ⟨f,fd,F.ok S len (λ cdv A outer s H vs Q E hr h=>body f cdv A outer s H vs Q E hr h),F.binds hb,F.kp,M.got a⟩
theorem zm7 {C:Addr} {m qual:Str} {st:Stmt} {N ps:List Str} {k:Nat} {sp:Sp} (c:Cls K C) (T:TopMeth K C m qual st) (S:FnScope N ps (zf0 st)) (hb:zk7 m qual st ps) (len:∀ vs H Q E,sp vs H Q E->vs.length=ps.length)
  (body:zu4 P w K mg base qual st N k sp):zcb P w K mg base C m (k+1) ps sp:=by
 obtain ⟨f,fd,a,i,F⟩:=T.ex
 exact ⟨f,fd,c,⟨a,i,F.kp⟩,F.ok S len (λ cdv A outer s H vs Q E hr h=>body f cdv A outer s H vs Q E hr h),F.binds hb⟩
theorem zzr {x qual:Str} {C:Addr} {st:Stmt} {N ps:List Str} {k:Nat} {sp:Sp} (M:Md K mg) (c:TopCls K x C) (T:TopMeth K C "__init__" qual st) (S:FnScope N ps (zf0 st)) (hb:zk7 "__init__" qual st ps)
  (len:∀ vs H Q E,sp vs H Q E->vs.length=ps.length) (body:zu4 P w K mg base qual st N k sp):zax P w K mg base x C (k+1) ps sp:=by
 obtain ⟨f,fd,a,i,F⟩:=T.ex
 exact ⟨f,fd,⟨c.mkk,a,i,c.kp⟩,F.ok S len (λ cdv A outer s H vs Q E hr h=>body f cdv A outer s H vs Q E hr h),F.binds hb,M.got c.at_⟩
theorem zb11 {st:Stmt} {N:List Str} {k:Nat} {sp:Sp} {fa:Addr} (M:Md K mg) (T:TopDef K "law" st) (hfa:mg "law"=some (.ref fa)) (S:FnScope N ["script"] (zf0 st)) (hb:zk7 "law" "law" st ["script"]) (len:∀ vs H Q E,sp vs H Q E->vs.length=1)
  (body:∀ base:Heap,K.In base->base.Ns mainGlobals mg->zu4 P w K mg base "law" st N k sp) :
  ∃ fd:FuncData,(∀ (s:Shared) (v:Value),BindsTo s fd ⟨[v],[]⟩ [("script",v)])/\∀ base:Heap,K.In base->base.Ns mainGlobals mg->FnOk P w K mg base CX0 (k+1) fa fd ["script"] sp:=by
 obtain ⟨f,fd,a,F⟩:=T.ex
 have e:=hfa.symm.trans (M.got a)
 cases e
 obtain ⟨oc,od,kV,doc,pm,an,cdv,ct,osl,e1,lk,hcd⟩:=id F.ex
 refine ⟨fd,λ s v=>.of_eq ?_,λ base kb nb=>F.ok S len λ cdv A outer s H vs Q E hr h=>body base kb nb fa cdv A outer s H vs Q E hr h⟩
 rw [e1]
 exact hb kV doc pm an cdv ct [v] rfl
end
section
variable {K:Fg} {a D:Addr} {xs:List V} {Q:VK} {Y:St} {H:Hp} {n:Nat} {ix:List Nat} {g:TG} {tt:TT} {te:TE}
end
def zzu:PyData->Bool
|.int _=>true
|.str _=>true
|_=>false
mutual
inductive Is (K:Fg) (H:Hp):V->PyData->Prop
|non:Is K H .non .none
|bl (b:Bool):Is K H (.bl b) (.bool b)
|int (i:Int):Is K H (.int i) (.int i)
|str (x:Str):Is K H (.str x) (.str x)
|lst {a:Addr} {xs:List V} {ds:List PyData}:SqL K H a xs->IsAll K H xs ds->Is K H (.ref a) (.list ds)
|tup {a:Addr} {xs:List V} {ds:List PyData}:H a=some (.tup xs)->IsAll K H xs ds->Is K H (.ref a) (.tuple ds)
|tuc {a:Addr} {xs:List V} {ds:List PyData}:SqT K H a xs->IsAll K H xs ds->ds.all zzu=false->Is K H (.ref a) (.tuple ds)
inductive IsAll (K:Fg) (H:Hp):List V->List PyData->Prop
|nil:IsAll K H [] []
|cons {x:V} {d:PyData} {xs:List V} {ds:List PyData}:Is K H x d->IsAll K H xs ds->IsAll K H (x :: xs) (d :: ds)
end
mutual
theorem Is.mono {K:Fg} {H H':Hp} (s:Same H H'):∀ {v:V} {d:PyData},Is K H v d->Is K H' v d
|_,_,.non=>.non
|_,_,.bl b=>.bl b
|_,_,.int i=>.int i
|_,_,.str x=>.str x
|_,_,.lst h r=>.lst (s.seq h) (IsAll.mono s r)
|_,_,.tup h r=>.tup (s _ _ h) (IsAll.mono s r)
|_,_,.tuc h r n=>.tuc (zxb s h) (IsAll.mono s r) n
theorem IsAll.mono {K:Fg} {H H':Hp} (s:Same H H'):∀ {v:List V} {d:List PyData},IsAll K H v d->IsAll K H' v d
|_,_,.nil=>.nil
|_,_,.cons h r=>.cons (Is.mono s h) (IsAll.mono s r)
end
section
variable {X:Cx} {pins:List (Addr×Obj)} {Y:St} {H:Hp} {s:Shared}
mutual
theorem zq7 (I:Inv X pins Y H s):∀ {v:V} {d:PyData} {u:Value},Is X.K H v d->RelV v u->∃ as,Reads s.heap u d as
|_,_,_,.non,r=>by cases r;exact ⟨_,.none⟩
|_,_,_,.bl b,r=>by cases r;exact ⟨_,.bool b⟩
|_,_,_,.int i,r=>by obtain ⟨t,rfl⟩:=r;exact ⟨_,.int i t⟩
|_,_,_,.str x,r=>by obtain ⟨t,rfl⟩:=r;exact ⟨_,.str x t⟩
|_,_,_,.lst h q,r=>by
  cases r
  obtain ⟨its,rv,p,_⟩:=I.list h
  obtain ⟨as,z⟩:=zy3 I q rv
  obtain ⟨o,ho,hc,n,hd⟩:=p.isList
  exact ⟨_,.list ho hc hd (by simpa using z)⟩
|_,_,_,.tup h q,r=>by
  cases r
  obtain ⟨its,rv,p,_⟩:=I.tuple (SqT.of h)
  obtain ⟨as,z⟩:=zy3 I q rv
  obtain ⟨o,ho,hc,n,hd⟩:=(show s.heap.IsTuple _ its.toArray from p)
  exact ⟨_,.tuple ho hc hd (by simpa using z)⟩
|_,_,_,.tuc h q _,r=>by
  cases r
  obtain ⟨its,rv,p,_⟩:=I.tuple h
  obtain ⟨as,z⟩:=zy3 I q rv
  obtain ⟨o,ho,hc,n,hd⟩:=(show s.heap.IsTuple _ its.toArray from p)
  exact ⟨_,.tuple ho hc hd (by simpa using z)⟩
theorem zy3 (I:Inv X pins Y H s):∀ {v:List V} {d:List PyData} {u:List Value},IsAll X.K H v d->Vals v u->∃ as,ReadsAll s.heap u d as
|_,_,_,.nil,r=>by cases r;exact ⟨_,.nil⟩
|_,_,_,.cons h q,r=>by
  cases r with
 |cons r1 r2 =>
   obtain ⟨as,z⟩:=zq7 I h r1
   obtain ⟨bs,y⟩:=zy3 I q r2
   exact ⟨_,.cons z y⟩
end
end
def rEqU (K:Fg):R2:=λ x y H Q=>rEq x y H Q \/ (∃ d e,Is K H x d/\Is K H y e/\SeqAt.shaped d=true/\SeqAt.shaped e=true/\Q (.bl (PyData.eqv d e)) H)
def rNeU (K:Fg):R2:=λ x y H Q=>rNe x y H Q \/ (∃ d e,Is K H x d/\Is K H y e/\SeqAt.shaped d=true/\SeqAt.shaped e=true/\Q (.bl (!PyData.eqv d e)) H)
section
variable {X:Cx}
theorem zfv {K:Fg} (h:X.K=K) (hu:X.A.units+64 < cLine):OpR X (compareOp .Eq) (rEqU K):=by
 subst h
 refine zw61.or ?_
 intro pins s Y H x y v u Q I rx ry q
 obtain ⟨d,e,hd,he,sd,se,q⟩:=q
 obtain ⟨as,r1⟩:=zq7 I hd rx
 obtain ⟨bs,r2⟩:=zq7 I he ry
 exact eq_dataH r1 r2 sd se hu ⟨.bl _,H,I,rfl,q⟩
theorem zpi {K:Fg} (h:X.K=K) (hu:X.A.units+64 < cLine):OpR X (compareOp .NotEq) (rNeU K):=by
 subst h
 refine zm61.or ?_
 intro pins s Y H x y v u Q I rx ry q
 obtain ⟨d,e,hd,he,sd,se,q⟩:=q
 obtain ⟨as,r1⟩:=zq7 I hd rx
 obtain ⟨bs,r2⟩:=zq7 I he ry
 exact ne_dataH r1 r2 sd se hu ⟨.bl _,H,I,rfl,q⟩
structure MkO (K:Fg) (C:Addr):Prop where
 makes:PySem.W.makesIn K C=true
 init:PySem.W.findIn K (.ref C) "__init__"=some (some (.builtin "object.__init__"))
 kp:PySem.W.keepIn K (.ref C)=true
end
section
variable {K:Fg} {Y:St} {H:Hp} {Q:VK} {x y:V} {ta:TE} {tA:TA}
end
end _3
namespace _3
open PySem PySem.Builtin PySem.Builtin.Str PySem.StrLaws
end _3
namespace _3
open PySem PySem.Spec PyProof.Rows _2
section
variable {X:Cx}
def Its (z:Str):It:=⟨λ i _=>i < z.cps.size,λ i H x H'=>H'=H/\∃ c,z.cps[i]?=some c/\x=.str ⟨#[c]⟩,λ i _=>z.cps.size<=i⟩
theorem zko {P:Program} {w:World} {K:Fg} {tg:Expr} (z:Str) (t:Tok) (it:Addr):Turn P w K tg (Its z) [it] it (λ i h=>h.IsStrIter it "str_ascii_iterator" z t i) where
 mem:=by simp
 obj:=λ i h st b hb=>by
  have e:b=it:=by simpa using hb
  subst e
  obtain ⟨o,e,c,d⟩:=st
  exact ⟨o,e,λ v z=>by rw [d] at z;cases z⟩
 keep:=λ i h h' st k=>by
  obtain ⟨o,e,c,d⟩:=st
  exact ⟨o,k it (by simp) o e,c,d⟩
 item:=by
  intro X hP hw hK hc i pins s Y H E I hf st hg
  subst hP hw hK
  have hg':i < z.cps.size:=hg
  obtain ⟨f0,f1,f2,f3,f4,f5⟩:=hf it (by simp)
  have hx:z.cps[i]?=some z.cps[i]:=by simp [hg']
  refine wpAny_pyNext_ascii_item st hx λ h' st' sb=>?_
  have I1:Inv X pins Y H { s with heap:=h',toks:=s.toks+1 }:=I.turned (t':=s.toks+1) (λ b o hb e=>(sb.2 b hb).trans e) f0 f1 f3 f4 f5
  obtain ⟨o,e,c,d⟩:=id st'
  exact ⟨_,rfl,zjv (s:={ s with heap:=h',toks:=s.toks+1 }) e c d (by decide) ⟨.str ⟨#[z.cps[i]]⟩,H,I1,⟨_,rfl⟩,⟨rfl,_,hx,rfl⟩,st',λ b hb=>(hf b hb).1⟩⟩
 done:=by
  intro X hP hw hK hc i pins s Y H E I hf st hg
  subst hP hw hK
  have hg':z.cps.size<=i:=hg
  obtain ⟨f0,f1,f2,f3,f4,f5⟩:=hf it (by simp)
  have hx:z.cps[i]?=none:=by simp [hg']
  exact wpAny_pyNext_ascii_end (I.ok.hd hc) st hx λ h' eb=>⟨rfl,I.turned (t':=s.toks) (λ b o hb e=>eb b o hb e) f0 f1 f3 f4 f5⟩
 self:=λ A i s Q E st h=>wpAny_pyIter_striter_ascii st h
def rInU (K:Fg):R2:=λ x y H Q=>rIn K false x y H Q \/ ∃ c z,x=.str ⟨#[c]⟩/\y=.str z/\Q (.bl (decide (c∈z.cps.toList))) H
def zul (K:Fg):R2:=λ x y H Q=>rIn K true x y H Q \/ ∃ c z,x=.str ⟨#[c]⟩/\y=.str z/\Q (.bl (!decide (c∈z.cps.toList))) H
theorem zs11 {K:Fg} (hK:X.K=K):OpR X (compareOp .In) (rInU K):=by
 subst hK
 refine zli.or ?_
 intro pins s Y H x y v u Q I rx ry h
 obtain ⟨c,z,rfl,rfl,q⟩:=h
 exact zoi pins s Y H _ _ v u Q I rx ry ⟨_,_,rfl,rfl,by rw [StrLaws.found_one];exact q⟩
theorem zii {K:Fg} (hK:X.K=K):OpR X (compareOp .NotIn) (zul K):=by
 subst hK
 refine ztc.or ?_
 intro pins s Y H x y v u Q I rx ry h
 obtain ⟨c,z,rfl,rfl,q⟩:=h
 exact zad pins s Y H _ _ v u Q I rx ry ⟨_,_,rfl,rfl,by rw [StrLaws.found_one];exact q⟩
end
abbrev vbm:List Value:=[.type "ValueError",.type "Exception",.type "BaseException",.type "object"]
structure XCls (K:Fg) (x:Str) (C:Addr):Prop where
 at_:PySem.W.nsIn K mainGlobals x=some (some (.ref C))
 ok:PySem.W.excIn K C vbm "ValueError.__new__"=true
section
variable {P:Program} {w:World} {K:Fg} {mg:Str->Option Value} {base:Heap} {N:List Str} {qual:Str} {scope:Scope} {f:Addr} {cd:Value} {A:Around} {outer:List Env} {s:Shared} {H:Hp} {E:XK}
end
structure Come (X:Cx) (H:Hp) (s:Shared) (ea C:Addr) (B:Heap) (a0:Value) (H':Hp) (s':Shared):Prop where
 os:s'.os=s.os
 bare:AllBare s'.gens
 un:Un (frs X.stack) [] H H' s.heap s'.heap
 hok:HOk X.prog X.w H' s'.heap
 b1:∀ b o u,s'.heap.get? b=some o->H' b=some u->B.get? b=some o
 b2:∀ b o,s.heap.get? b=some o->H b=none->b ∉ frs X.stack->B.get? b=some o
 b3:∀ b o,s.heap.get? b=some o->b ∉ frs X.stack->∃ o',B.get? b=some o'
section
variable {X:Cx} {pins:List (Addr×Obj)} {Y:St} {H H':Hp} {s s':Shared} {ea C:Addr} {B:Heap} {a0:Value}
def zy21 (X:Cx) (ea:Addr):Cx:={ X with A:=X.A.mark (some (.ref ea)),calm:=false,xe:=λ _ _=>False }
end
inductive Hands (X:Cx):List ExceptHandler->List (Value×TS)->Prop
|nil:Hands X [] []
|cons {x:Str} {np pos:Pos} {b₀:Stmt} {suite:List Stmt} {c:Value} {t:TS} {hs:List ExceptHandler} {l:List (Value×TS)}:Gl X x->(X.mg x=some c \/ (X.mg x=none/\bootBuiltins x=some c/\x ≠ "__name__"))->(x == ("__debug__":Str))=false->(∀ ea,PSs (zy21 X ea) (b₀ :: suite) t)->Hands X hs l ->
   Hands X (.ExceptHandler (some (.Name x np)) none (b₀ :: suite) pos :: hs) ((c,t) :: l)
section
variable {X:Cx} {pins:List (Addr×Obj)} {Y:St} {H H':Hp} {s s':Shared} {ea C:Addr} {B:Heap} {a0:Value}
end
section
variable {X:Cx} {pins:List (Addr×Obj)} {Y:St} {H:Hp} {s:Shared}
end
section
variable {X:Cx} {k:Nat} {f C:Addr} {fd:FuncData} {ps:List Str} {sp:Sp} {x m:Str} {p pos apos:Pos} {e o:Expr} {es:List Expr} {ta:TE} {t:TA} {EY:St->XK}
end
section
variable {P:Program} {w:World} {K:Fg} {mg:Str->Option Value} {base:Heap}
end
section
variable {X:Cx}
def repS (x:Str) (n:Nat):Str:=⟨(uP n x.cps).foldl (·++·) #[]⟩
theorem zrn (c:List (Array Nat)):∀ a:Array Nat,c.foldl (·++·) a=a++(c.map yJ).flatten.toArray:=by
 induction c with
|nil=>intro a;simp
|cons y r ih=>intro a;rw [List.foldl_cons,ih,yG];congr 1;apply Array.toList_inj.mp;simp
theorem zvm (x:Str) (n:Nat):(repS x n).cps.toList=(uP n x.cps.toList).flatten:=by
 unfold repS
 rw [zrn]
 simp
def zr41:R2:=λ x y H Q=>∃ z n,x=.str z/\y=.int n/\0<=n/\z.length * n.toNat<=sizeLine/\n<=sizeLine/\Q (.str (repS z n.toNat)) H
theorem zgu:OpR X (binaryOp .Mult) zr41:=by
 intro pins s Y H x y v u Q I rx ry h
 obtain ⟨z,n,rfl,rfl,h1,h2,h3,q⟩:=h
 obtain ⟨t,rfl⟩:=rx
 obtain ⟨t',rfl⟩:=ry
 have hl:sizeLine=16777216:=sizeLine_eq
 have hz:z.length=z.cps.size:=rfl
 by_cases n0:n=0
 ·subst n0
  refine P.mul_str (by rw [decide_eq_false (by lia),decide_eq_false (by lia)];rfl) (λ a b hc=>?_) (λ a b=>?_) ?_
  ·exact absurd a (by decide)
  ·exact decide_eq_false (by simp)
  ·rw [if_pos (by decide)]
   exact ⟨by decide,.str (repS z 0),H,I.tok _,⟨_,rfl⟩,q⟩
 have h1:0 < n:=by lia
 refine P.mul_str (by rw [decide_eq_false (by lia),decide_eq_false (by lia)];rfl) (λ _ _ hc=>?_) (λ _ _=>?_) ?_
 ·have h4:(2 ^ 63 - 1:Int) / n ≥ z.length:=by
   refine (zI h1).mpr ?_
   have h5:((z.length * n.toNat:Nat):Int)=(z.length:Int) * n:=by rw [Int.natCast_mul,Int.toNat_of_nonneg (by lia)]
   have h6:((z.length * n.toNat:Nat):Int)<=(sizeLine:Nat):=by exact_mod_cast h2
   lia
  lia
 ·exact decide_eq_false (by lia)
 ·rw [if_neg (by lia)]
  by_cases hc:(n == 1 || z.length == 0)=true
  ·rw [if_pos hc]
   refine ⟨.str (repS z n.toNat),H,I,⟨t,?_⟩,q⟩
   have:repS z n.toNat=z:=by
    have e:(repS z n.toNat).cps.toList=z.cps.toList:=by
     rw [zvm]
     rcases (Bool.or_eq_true _ _).mp hc with hc|hc
     ·have:n=1:=by simpa using hc
      subst this;simp
     ·have:z.cps.toList=[]:=by
       have:z.cps.size=0:=by simpa [hz] using hc
       simpa using this
      rw [this];simp
    cases z with|mk c =>
     show repS ⟨c⟩ n.toNat=⟨c⟩
     have e2:(repS ⟨c⟩ n.toNat).cps=c:=Array.toList_inj.mp e
     cases hq:repS ⟨c⟩ n.toNat with|mk d=>rw [hq] at e2;cases e2;rfl
   rw [this]
  ·rw [if_neg hc]
   exact ⟨fits_reps (decide_eq_false (by lia)),.str (repS z n.toNat),H,I.tok _,⟨_,rfl⟩,q⟩
end
section
variable {X:Cx}
def rSlS:V->Option Int->Option Int->Hp->VK->Prop:=λ x lo hi H Q=>∃ z,x=.str z/\z.length<=sizeLine/\Q (.str (Txt.slice z lo hi)) H
theorem ziv:SlR X rSlS:=by
 intro pins s Y H x v vl vu lo hi sl Q I rx hs pl pu h
 obtain ⟨z,rfl,hz,q⟩:=h
 obtain ⟨t,rfl⟩:=rx
 obtain ⟨o,ho,hc,hd⟩:=hs
 have go:∀ (l u:Option (Int×Tok)),partValue l=vl->partValue u=vu->l.map (·.1)=lo->u.map (·.1)=hi->wpAny (model X.prog X.w) X.A (getItem (.str z t) (.ref sl)) (EP X pins Y Q) X.xe s:=λ l u e1 e2 e3 e4=>by
  subst e3 e4
  refine wpAny_getItem_str_slice (l:=l) (u:=u) (st:=none) ⟨o,ho,hc,by rw [e1,e2];exact hd⟩ rfl (post_val_or_str ⟨vJ (Txt.slice_le z _ _) hz,λ t' k=>?_⟩)
  exact ⟨.str (Txt.slice z (l.map (·.1)) (u.map (·.1))),H,I.tok _,⟨_,rfl⟩,q⟩
 refine ⟨"str",_,F.slot_str_getitem.lookup,typeIs_str _ _ _,?_⟩
 cases pl with
|none=>cases pu with
 |none=>exact go none none rfl rfl rfl rfl
 |int j u=>exact go none (some (j,u)) rfl rfl rfl rfl
|int i t=>cases pu with
 |none=>exact go (some (i,t)) none rfl rfl rfl rfl
 |int j u=>exact go (some (i,t)) (some (j,u)) rfl rfl rfl rfl
end
section
variable {prog:Program} {w:World} {A:Around} {E:Value->Shared->Prop} {s:Shared}
theorem zh6 {it t:Addr} {i:Nat} {items} {x:Value} {Q:Value->Shared->Prop} (hit:s.heap.IsTupleIter it t i)
  (ht:s.heap.IsTuple t items) (hx:items[i]?=some x) (hQ:∀ h',h'.IsTupleIter it t (i+1)->Heap.SameBut it s.heap h'->Q x { s with heap:=h' }) :
  wpAny (model prog w) A (Builtin.SmallTypes.nextOf (.ref it)) Q E s:=by
 obtain ⟨o,ho,hc,hd⟩:=id hit
 obtain ⟨ol,hol,_,nl,hdl⟩:=ht
 unfold Builtin.SmallTypes.nextOf
 refine wpAny_bind (wpAny_callSpecial?_slot (name:=uD "__next__") hit.typeIs F.slot_tuple_iterator_next
  (wpAny_call_entry F.slot_tuple_iterator_next hit.typeIs F.entry_tuple_iterator_next ?_ (F.args_tuple_iterator_next_1 _)))
 show wpAny _ _ (field (.ref it) 0 >>= _) _ _ s
 refine wpAny_bind (wpAny_field ho hd (x:=.ref t) rfl ?_)
 show wpAny _ _ (if (uR t == v8)=true then _ else _) _ _ s
 rw [if_neg (show ¬ ((uR t == v8)=true) from uV)]
 show wpAny _ _ (field (.ref it) 1 >>= _) _ _ s
 refine wpAny_bind (wpAny_field ho hd (x:=.int i 0) rfl ?_)
 show wpAny _ _ (seqItems? (.ref t) >>= _) _ _ s
 refine wpAny_bind (wpAny_seqItems hol hdl ?_)
 simp only [u4,hx]
 refine wpAny_bind (wpAny_setField ho hd (by simp) (wpAny_pure ⟨x,rfl,wpAny_pure (hQ _ ?_ (Heap.SameBut.update ..))⟩))
 exact ⟨_,xH _ ho (Obj.isFreed_of_fields (Obj.data_mapFields hd _)),(Obj.cls_mapFields ..).trans hc,by
  rw [Obj.data_mapFields hd];simp [rawInt]⟩
theorem zl6 {it t:Addr} {i:Nat} {items} {Q:Value->Shared->Prop} (hh:A.handled=none)
  (hit:s.heap.IsTupleIter it t i) (ht:s.heap.IsTuple t items) (hx:items[i]?=none)
  (hE:∀ h' e,Heap.ExtBut it s.heap h'->(∃ o,h'.get? e=some o/\o.cls=.type "StopIteration")->E (.ref e) { s with heap:=h' }) :
  wpAny (model prog w) A (Builtin.SmallTypes.nextOf (.ref it)) Q E s:=by
 obtain ⟨o,ho,hc,hd⟩:=id hit
 obtain ⟨ol,hol,_,nl,hdl⟩:=ht
 unfold Builtin.SmallTypes.nextOf
 refine wpAny_bind (wpAny_callSpecial?_slot (name:=uD "__next__") hit.typeIs F.slot_tuple_iterator_next
  (wpAny_call_entry F.slot_tuple_iterator_next hit.typeIs F.entry_tuple_iterator_next ?_ (F.args_tuple_iterator_next_1 _)))
 show wpAny _ _ (field (.ref it) 0 >>= _) _ _ s
 refine wpAny_bind (wpAny_field ho hd (x:=.ref t) rfl ?_)
 show wpAny _ _ (if (uR t == v8)=true then _ else _) _ _ s
 rw [if_neg (show ¬ ((uR t == v8)=true) from uV)]
 show wpAny _ _ (field (.ref it) 1 >>= _) _ _ s
 refine wpAny_bind (wpAny_field ho hd (x:=.int i 0) rfl ?_)
 show wpAny _ _ (seqItems? (.ref t) >>= _) _ _ s
 refine wpAny_bind (wpAny_seqItems hol hdl ?_)
 simp only [u4,hx]
 refine wpAny_bind (wpAny_rule (wpAny_bind (wpAny_setField ho hd (by simp) ?_)))
 show wpAny _ _ (newExc (.type "StopIteration") [] >>= _) _ _ _
 refine wpAny_bind ?_
 simp only [newExc,newTuple]
 refine wpAny_bind (wpAny_newObj_type ?_ (by size_fits))
 refine wpAny_bind (m:=firstArgMember _ _) (wpAny_of_eq (a:=v8) (by first|rfl|(simp only [firstArgMember];rfl)) ?_)
 refine wpAny_newObj_type ?_ (by size_fits)
 simp only [raiseNew]
 refine wpAny_bind (wpAny_handled ?_)
 first|rw [show A.in1.handled=none from hh]|rw [hh]
 refine wpAny_bind (wpAny_pure (wpAny_throw ?_))
 exact hE _ _ (((Heap.SameBut.update ..).extBut.push _).push _) ⟨_,uT _ rfl,rfl⟩
end
structure Nx (P:Program) (w:World) (K:Fg) (J:It) (it:Addr) (st:Nat->Heap->Prop):Prop where
 obj:∀ i h,st i h->∃ o,h.get? it=some o/\∀ v,o.data≠.cell v
 keep:∀ i h h',st i h->(∀ o,h.get? it=some o->h'.get? it=some o)->st i h'
 item:∀ (X:Cx),X.prog=P->X.w=w->X.K=K->∀ (A:Around) (i:Nat) (pins:List (Addr×Obj)) (s:Shared) (Y:St) (H:Hp) (Q:Value->Shared->Prop) (E:Value->Shared->Prop),Inv X pins Y H s->st i s.heap->J.go i H ->
  (∀ u x h' tk,RelV x u->J.yld i H x H->st (i+1) h'->Heap.SameBut it s.heap h'->Q u { s with heap:=h',toks:=tk })->wpAny (model P w) A (Builtin.SmallTypes.nextOf (.ref it)) Q E s
 done:∀ (X:Cx),X.prog=P->X.w=w->X.K=K->∀ (A:Around) (i:Nat) (pins:List (Addr×Obj)) (s:Shared) (Y:St) (H:Hp) (Q:Value->Shared->Prop) (E:Value->Shared->Prop),A.handled=none->Inv X pins Y H s->st i s.heap->J.stop i H ->
  (∀ h' e,Heap.ExtBut it s.heap h'->(∃ o,h'.get? e=some o/\o.cls=.type "StopIteration")->E (.ref e) { s with heap:=h' })->wpAny (model P w) A (Builtin.SmallTypes.nextOf (.ref it)) Q E s
theorem zaw {P:Program} {w:World} {K:Fg} (a it:Addr):Nx P w K (Itl K a) it (λ i h=>h.IsListIter it a i) where
 obj:=λ i h st=>by
  obtain ⟨o,e,c,d⟩:=st
  exact ⟨o,e,λ v z=>by rw [d] at z;cases z⟩
 keep:=λ i h h' st k=>st.at k
 item:=by
  intro X hP hw hK A i pins s Y H Q E I st hg hQ
  subst hP hw hK
  obtain ⟨xs,x,hq,hx⟩:=hg
  obtain ⟨its,rv,p,hz⟩:=I.list hq
  obtain ⟨u,hu,ru⟩:=rv.get hx
  exact wpAny_nextOf_list_item st p.isList (x:=u) (by simpa using hu) λ h' st' sb=>hQ u x h' s.toks ru ⟨rfl,λ ys hy=>by rw [I.list_inj hy hq];exact hx⟩ st' sb
 done:=by
  intro X hP hw hK A i pins s Y H Q E hh I st hg hE
  subst hP hw hK
  obtain ⟨xs,hq,hx⟩:=hg
  obtain ⟨its,rv,p,hz⟩:=I.list hq
  have hl:=rv.length
  exact wpAny_nextOf_list_end hh st p.isList (by simp;lia) hE
theorem zty {P:Program} {w:World} {K:Fg} (a it:Addr):Nx P w K (Itt K a) it (λ i h=>h.IsTupleIter it a i) where
 obj:=λ i h st=>by
  obtain ⟨o,e,c,d⟩:=st
  exact ⟨o,e,λ v z=>by rw [d] at z;cases z⟩
 keep:=λ i h h' st k=>st.at k
 item:=by
  intro X hP hw hK A i pins s Y H Q E I st hg hQ
  subst hP hw hK
  obtain ⟨xs,x,hq,hx⟩:=hg
  obtain ⟨its,rv,p,hz⟩:=I.tuple hq
  obtain ⟨u,hu,ru⟩:=rv.get hx
  exact zh6 st (show s.heap.IsTuple a its.toArray from p) (x:=u) (by simpa using hu) λ h' st' sb=>hQ u x h' s.toks ru ⟨rfl,λ ys hy=>by rw [I.tuple_inj hy hq];exact hx⟩ st' sb
 done:=by
  intro X hP hw hK A i pins s Y H Q E hh I st hg hE
  subst hP hw hK
  obtain ⟨xs,hq,hx⟩:=hg
  obtain ⟨its,rv,p,hz⟩:=I.tuple hq
  have hl:=rv.length
  exact zl6 hh st (show s.heap.IsTuple a its.toArray from p) (by simp;lia) hE
theorem zw0 {X:Cx} {pins:List (Addr×Obj)} {Y:St} {H:Hp} {s:Shared} {b:Addr} {h':Heap} {tk:Nat} (I:Inv X pins Y H s) (f:FpOk X pins H b) (k:Heap.SameBut b s.heap h'):Inv X pins Y H { s with heap:=h',toks:=tk } :=
 let ⟨f0,f1,_,f3,f4,f5⟩:=f
 I.turned (λ c o hc e=>(k.2 c hc).trans e) f0 f1 f3 f4 f5
theorem zve {X:Cx} {pins:List (Addr×Obj)} {Y:St} {H:Hp} {s:Shared} {b:Addr} {h':Heap} {tk:Nat} (I:Inv X pins Y H s) (f:FpOk X pins H b) (k:Heap.ExtBut b s.heap h'):Inv X pins Y H { s with heap:=h',toks:=tk } :=
 let ⟨f0,f1,_,f3,f4,f5⟩:=f
 I.turned (λ c o hc e=>k c o hc e) f0 f1 f3 f4 f5
structure ZAp (z TI TO i1 i2:Addr):Prop where
 TIz:TI≠z
 TOz:TO≠z
 i1z:i1≠z
 i2z:i2≠z
 TITO:TI≠TO
 TIi1:TI≠i1
 TIi2:TI≠i2
 TOi1:TO≠i1
 TOi2:TO≠i2
 i12:i1≠i2
structure ZSt (z TI TO i1 i2:Addr) (f0:Value) (st1 st2:Nat->Heap->Prop) (i:Nat) (h:Heap):Prop where
 z:IsZip h z TI TO f0
 TI:IsPair h TI (.ref i1) (.ref i2)
 TO:∃ a b,IsPair h TO a b
 s1:st1 i h
 s2:st2 i h
section
variable {X:Cx} {pins:List (Addr×Obj)} {Y:St} {H:Hp} {s:Shared} {J1 J2:It} {z TI TO i1 i2:Addr} {st1 st2:Nat->Heap->Prop} {i:Nat}
theorem zfp {A:Around} {E:Value->Shared->Prop} {Q:Value->Shared->Prop} (N1:Nx X.prog X.w X.K J1 i1 st1) (N2:Nx X.prog X.w X.K J2 i2 st2) (D:ZAp z TI TO i1 i2) (I:Inv X pins Y H s)
  (fz:FpOk X pins H z) (fTO:FpOk X pins H TO) (f1:FpOk X pins H i1) (f2:FpOk X pins H i2) (S:ZSt z TI TO i1 i2 .none st1 st2 i s.heap) (g1:J1.go i H) (g2:J2.go i H)
  (hQ:∀ p x1 x2 s',H p=none->p≠z->p≠TI->p≠TO->p≠i1->p≠i2->J1.yld i H x1 H->J2.yld i H x2 H->Inv X pins Y (upd H p (.tup [x1,x2])) s'->ZSt z TI TO i1 i2 (rawInt p) st1 st2 (i+1) s'.heap->Q (.ref p) s') :
  wpAny (model X.prog X.w) A (Builtin.«zip.__next__» ⟨[.ref z],[]⟩) (λ fin s'=>∃ v,fin=.done (.ret v)/\Q v s') E s:=by
 obtain ⟨hz,hTI,⟨a,b,hTO⟩,h1,h2⟩:=S
 show wpAny _ _ (field (.ref z) 2 >>= _) _ _ _
 refine wpAny_bind (wpAny_field hz rfl (x:=.bool false) rfl ?_)
 show wpAny _ _ (field (.ref z) 3 >>= _) _ _ _
 refine wpAny_bind (wpAny_field hz rfl (x:=.ref TI) rfl ?_)
 refine wpAny_bind (wpAny_seqItems hTI rfl ?_)
 show wpAny _ _ (Builtin.SmallTypes.ownedTupleIsFree (.ref z) >>= _) _ _ _
 refine wpAny_bind ?_
 unfold Builtin.SmallTypes.ownedTupleIsFree
 refine wpAny_bind (wpAny_field hz rfl (x:=.none) rfl (wpAny_pure ?_))
 simp only [if_true]
 refine wpAny_bind (wpAny_rule ?_)
 refine wpAny_bind (wpAny_field hz rfl (x:=.ref TO) rfl ?_)
 refine wpAny_bind (wpAny_setField_rec hz (by simp) λ h₁ hz₁ hs₁=>?_)
 replace hz₁:IsZip h₁ z TI TO .ellipsis:=hz₁
 have I1:Inv X pins Y H { s with heap:=h₁ }:=zw0 (tk:=s.toks) I fz hs₁
 refine wpAny_bind ?_
 simp only [xY,xZ,xJ,xL]
 refine wpAny_bind (wpAny_bind (wpAny_onRaise ?_))
 show wpAny _ _ (Builtin.SmallTypes.nextOf (.ref i1) >>= _) _ _ _
 have a1:st1 i h₁:=N1.keep _ _ _ h1 λ o e=>hs₁.extBut _ _ D.i1z e
 refine wpAny_bind (N1.item X rfl rfl rfl _ i pins _ Y H _ _ I1 a1 g1 λ x x1 h₂ tk₂ r1 y1 b1 hs₂=>wpAny_pure ?_)
 replace hs₂:Heap.SameBut i1 h₁ h₂:=hs₂
 have I2:Inv X pins Y H { s with heap:=h₂,toks:=tk₂ }:=zw0 (s:={ s with heap:=h₁ }) (tk:=tk₂) I1 f1 hs₂
 have hTO₂:IsPair h₂ TO a b:=hs₂.extBut _ _ D.TOi1 (hs₁.extBut _ _ D.TOz hTO)
 refine wpAny_bind (wpAny_seqItems hTO₂ rfl ?_)
 refine wpAny_bind (wpAny_updateSeq_pair (s:={ s with heap:=h₂,toks:=tk₂ }) hTO₂ λ h₃ hTO₃ hs₃=>?_)
 replace hTO₃:IsPair h₃ TO x b:=hTO₃
 replace hs₃:Heap.SameBut TO h₂ h₃:=hs₃
 have I3:Inv X pins Y H { s with heap:=h₃,toks:=tk₂ }:=zw0 (s:={ s with heap:=h₂,toks:=tk₂ }) (tk:=tk₂) I2 fTO hs₃
 refine wpAny_bind (wpAny_letGo (wpAny_pure ?_))
 refine wpAny_bind (wpAny_bind (wpAny_onRaise ?_))
 show wpAny _ _ (Builtin.SmallTypes.nextOf (.ref i2) >>= _) _ _ _
 have a2:st2 i h₃:=N2.keep _ _ _ h2 λ o e=>hs₃.extBut _ _ D.TOi2.symm (hs₂.extBut _ _ D.i12.symm (hs₁.extBut _ _ D.i2z e))
 refine wpAny_bind (N2.item X rfl rfl rfl _ i pins _ Y H _ _ I3 a2 g2 λ y x2 h₄ tk₄ r2 y2 b2 hs₄=>wpAny_pure ?_)
 replace hs₄:Heap.SameBut i2 h₃ h₄:=hs₄
 have I4:Inv X pins Y H { s with heap:=h₄,toks:=tk₄ }:=zw0 (s:={ s with heap:=h₃,toks:=tk₂ }) (tk:=tk₄) I3 f2 hs₄
 have hTO₄:IsPair h₄ TO x b:=hs₄.extBut _ _ D.TOi2 hTO₃
 refine wpAny_bind (wpAny_seqItems hTO₄ rfl ?_)
 refine wpAny_bind (wpAny_updateSeq_pair (s:={ s with heap:=h₄,toks:=tk₄ }) hTO₄ λ h₅ hTO₅ hs₅=>?_)
 replace hTO₅:IsPair h₅ TO x y:=hTO₅
 replace hs₅:Heap.SameBut TO h₄ h₅:=hs₅
 have I5:Inv X pins Y H { s with heap:=h₅,toks:=tk₄ }:=zw0 (s:={ s with heap:=h₄,toks:=tk₄ }) (tk:=tk₄) I4 fTO hs₅
 refine wpAny_bind (wpAny_letGo (wpAny_pure (wpAny_pure ?_)))
 refine wpAny_bind (wpAny_seqItems hTO₅ rfl ?_)
 refine wpAny_bind (wpAny_newTuple ?_)
 have hz₅:IsZip h₅ z TI TO .ellipsis:=hs₅.extBut _ _ D.TOz.symm (hs₄.extBut _ _ D.i2z.symm (hs₃.extBut _ _ D.TOz.symm (hs₂.extBut _ _ D.i1z.symm hz₁)))
 have hTI₅:IsPair h₅ TI (.ref i1) (.ref i2):=hs₅.extBut _ _ D.TITO (hs₄.extBut _ _ D.TIi2 (hs₃.extBut _ _ D.TITO (hs₂.extBut _ _ D.TIi1 (hs₁.extBut _ _ D.TIz hTI))))
 have c1:st1 (i+1) h₅:=N1.keep _ _ _ b1 λ o e=>hs₅.extBut _ _ D.TOi1.symm (hs₄.extBut _ _ D.i12 (hs₃.extBut _ _ D.TOi1.symm e))
 have c2:st2 (i+1) h₅:=N2.keep _ _ _ b2 λ o e=>hs₅.extBut _ _ D.TOi2.symm e
 have hp:H h₅.objs.size=none:=I5.hok.fresh (uF _)
 have I6:Inv X pins Y (upd H h₅.objs.size (.tup [x1,x2])) { s with heap:=h₅.push { cls:=.type "tuple",data:=.seq #[x,y] },toks:=tk₄ }:=by
  refine I5.laid (t':=tk₄) (o:=.tup [x1,x2]) (λ b ob q=>uH _ q) (uF _) ?_
  exact ⟨by show 2<=sizeLine;rw [sizeLine_eq];decide,[x,y],.cons r1 (.cons r2 .nil),_,uT _ rfl,rfl,0,rfl⟩
 have lt:∀ {c:Addr} {o:Obj},h₅.get? c=some o->h₅.objs.size≠c:=λ e=>xU (uN e)
 obtain ⟨o1,e1,_⟩:=N1.obj _ _ c1
 obtain ⟨o2,e2,_⟩:=N2.obj _ _ c2
 have fz':FpOk X pins (upd H h₅.objs.size (.tup [x1,x2])) z:=⟨by rw [zm0 (lt hz₅).symm];exact fz.1,fz.2⟩
 show wpAny _ _ (Builtin.SmallTypes.ownedTupleHandOut (.ref z) (.ref h₅.objs.size) >>= _) _ _ _
 refine wpAny_bind ?_
 unfold Builtin.SmallTypes.ownedTupleHandOut
 have hz₆:IsZip (h₅.push { cls:=.type "tuple",data:=.seq #[x,y] }) z TI TO .ellipsis:=uH _ hz₅
 refine wpAny_bind (wpAny_setField_rec hz₆ (by simp) λ h₇ hz₇ hs₇=>?_)
 replace hz₇:IsZip h₇ z TI TO (rawInt h₅.objs.size):=hz₇
 have I7:Inv X pins Y (upd H h₅.objs.size (.tup [x1,x2])) { s with heap:=h₇,toks:=tk₄ }:=zw0 (s:={ s with heap:=h₅.push { cls:=.type "tuple",data:=.seq #[x,y] },toks:=tk₄ }) (tk:=tk₄) I6 fz' hs₇
 refine wpAny_setField_rec hz₇ (by simp) λ h₈ hz₈ hs₈=>?_
 replace hz₈:IsZip h₈ z TI TO (rawInt h₅.objs.size):=hz₈
 have I8:Inv X pins Y (upd H h₅.objs.size (.tup [x1,x2])) { s with heap:=h₈,toks:=tk₄ }:=zw0 (s:={ s with heap:=h₇,toks:=tk₄ }) (tk:=tk₄) I7 fz' hs₈
 have up:∀ c o,c≠z->h₅.get? c=some o->h₈.get? c=some o:=λ c o c1 e=>hs₈.extBut _ _ c1 (hs₇.extBut _ _ c1 (uH _ e))
 refine wpAny_pure ⟨_,rfl,?_⟩
 exact hQ h₅.objs.size x1 x2 _ hp (lt hz₅) (lt hTI₅) (lt hTO₅) (lt e1) (lt e2) y1 y2 I8 ⟨hz₈,up _ _ D.TIz hTI₅,⟨_,_,up _ _ D.TOz hTO₅⟩,N1.keep _ _ _ c1 λ o e=>up _ o D.i1z e,N2.keep _ _ _ c2 λ o e=>up _ o D.i2z e⟩
theorem zlt {A:Around} {E:Value->Shared->Prop} {Q:Fin->Shared->Prop} (hh:A.handled=none) (N1:Nx X.prog X.w X.K J1 i1 st1) (N2:Nx X.prog X.w X.K J2 i2 st2) (D:ZAp z TI TO i1 i2) (I:Inv X pins Y H s)
  (fz:FpOk X pins H z) (fTO:FpOk X pins H TO) (f1:FpOk X pins H i1) (f2:FpOk X pins H i2) (S:ZSt z TI TO i1 i2 .none st1 st2 i s.heap) (g:J1.stop i H \/ (J1.go i H/\J2.stop i H))
  (hE:∀ h' e tk,Inv X pins Y H { s with heap:=h',toks:=tk }->(∃ o,h'.get? e=some o/\o.cls=.type "StopIteration")->E (.ref e) { s with heap:=h',toks:=tk }) :
  wpAny (model X.prog X.w) A (Builtin.«zip.__next__» ⟨[.ref z],[]⟩) Q E s:=by
 obtain ⟨hz,hTI,⟨a,b,hTO⟩,h1,h2⟩:=S
 show wpAny _ _ (field (.ref z) 2 >>= _) _ _ _
 refine wpAny_bind (wpAny_field hz rfl (x:=.bool false) rfl ?_)
 show wpAny _ _ (field (.ref z) 3 >>= _) _ _ _
 refine wpAny_bind (wpAny_field hz rfl (x:=.ref TI) rfl ?_)
 refine wpAny_bind (wpAny_seqItems hTI rfl ?_)
 show wpAny _ _ (Builtin.SmallTypes.ownedTupleIsFree (.ref z) >>= _) _ _ _
 refine wpAny_bind ?_
 unfold Builtin.SmallTypes.ownedTupleIsFree
 refine wpAny_bind (wpAny_field hz rfl (x:=.none) rfl (wpAny_pure ?_))
 simp only [if_true]
 refine wpAny_bind (wpAny_rule ?_)
 refine wpAny_bind (wpAny_field hz rfl (x:=.ref TO) rfl ?_)
 refine wpAny_bind (wpAny_setField_rec hz (by simp) λ h₁ hz₁ hs₁=>?_)
 replace hz₁:IsZip h₁ z TI TO .ellipsis:=hz₁
 have I1:Inv X pins Y H { s with heap:=h₁ }:=zw0 (tk:=s.toks) I fz hs₁
 refine wpAny_bind ?_
 simp only [xY,xZ,xJ,xL]
 refine wpAny_bind (wpAny_bind (wpAny_onRaise ?_))
 show wpAny _ _ (Builtin.SmallTypes.nextOf (.ref i1) >>= _) _ _ _
 have a1:st1 i h₁:=N1.keep _ _ _ h1 λ o e=>hs₁.extBut _ _ D.i1z e
 rcases g with g|⟨g1,g2⟩
 ·refine wpAny_bind (N1.done X rfl rfl rfl _ i pins _ Y H _ _ hh I1 a1 g λ h₂ e hs₂ he=>?_)
  replace hs₂:Heap.ExtBut i1 h₁ h₂:=hs₂
  have I2:Inv X pins Y H { s with heap:=h₂ }:=zve (s:={ s with heap:=h₁ }) (tk:=s.toks) I1 f1 hs₂
  obtain ⟨oe,hoe,hce⟩:=he
  have hz₂:IsZip h₂ z TI TO .ellipsis:=hs₂ _ _ D.i1z.symm hz₁
  have hez:e≠z:=λ x=>by subst x;rw [hz₂] at hoe;cases hoe;simp at hce
  exact wpAny_setField_rec hz₂ (by simp) λ h₃ _ hs₃=>hE h₃ e s.toks (zw0 (s:={ s with heap:=h₂ }) (tk:=s.toks) I2 fz hs₃) ⟨oe,hs₃.extBut _ _ hez hoe,hce⟩
 ·refine wpAny_bind (N1.item X rfl rfl rfl _ i pins _ Y H _ _ I1 a1 g1 λ x x1 h₂ tk₂ r1 y1 b1 hs₂=>wpAny_pure ?_)
  replace hs₂:Heap.SameBut i1 h₁ h₂:=hs₂
  have I2:Inv X pins Y H { s with heap:=h₂,toks:=tk₂ }:=zw0 (s:={ s with heap:=h₁ }) (tk:=tk₂) I1 f1 hs₂
  have hTO₂:IsPair h₂ TO a b:=hs₂.extBut _ _ D.TOi1 (hs₁.extBut _ _ D.TOz hTO)
  refine wpAny_bind (wpAny_seqItems hTO₂ rfl ?_)
  refine wpAny_bind (wpAny_updateSeq_pair (s:={ s with heap:=h₂,toks:=tk₂ }) hTO₂ λ h₃ hTO₃ hs₃=>?_)
  replace hs₃:Heap.SameBut TO h₂ h₃:=hs₃
  have I3:Inv X pins Y H { s with heap:=h₃,toks:=tk₂ }:=zw0 (s:={ s with heap:=h₂,toks:=tk₂ }) (tk:=tk₂) I2 fTO hs₃
  refine wpAny_bind (wpAny_letGo (wpAny_pure ?_))
  refine wpAny_bind (wpAny_bind (wpAny_onRaise ?_))
  show wpAny _ _ (Builtin.SmallTypes.nextOf (.ref i2) >>= _) _ _ _
  have a2:st2 i h₃:=N2.keep _ _ _ h2 λ o e=>hs₃.extBut _ _ D.TOi2.symm (hs₂.extBut _ _ D.i12.symm (hs₁.extBut _ _ D.i2z e))
  refine wpAny_bind (N2.done X rfl rfl rfl _ i pins _ Y H _ _ hh I3 a2 g2 λ h₄ e hs₄ he=>?_)
  replace hs₄:Heap.ExtBut i2 h₃ h₄:=hs₄
  have I4:Inv X pins Y H { s with heap:=h₄,toks:=tk₂ }:=zve (s:={ s with heap:=h₃,toks:=tk₂ }) (tk:=tk₂) I3 f2 hs₄
  obtain ⟨oe,hoe,hce⟩:=he
  have hz₄:IsZip h₄ z TI TO .ellipsis:=hs₄ _ _ D.i2z.symm (hs₃.extBut _ _ D.TOz.symm (hs₂.extBut _ _ D.i1z.symm hz₁))
  have hez:e≠z:=λ x=>by subst x;rw [hz₄] at hoe;cases hoe;simp at hce
  exact wpAny_setField_rec hz₄ (by simp) λ h₅ _ hs₅=>hE h₅ e tk₂ (zw0 (s:={ s with heap:=h₄,toks:=tk₂ }) (tk:=tk₂) I4 fz hs₅) ⟨oe,hs₅.extBut _ _ hez hoe,hce⟩
end
def Itz (J1 J2:It):It:=⟨λ i H=>J1.go i H/\J2.go i H,λ i H x H'=>∃ x1 x2 p,J1.yld i H x1 H/\J2.yld i H x2 H/\H p=none/\x=.ref p/\H'=upd H p (.tup [x1,x2]),λ i H=>J1.stop i H \/ (J1.go i H/\J2.stop i H)⟩
theorem znn {P:Program} {w:World} {K:Fg} {elts:List Expr} {c:_} {pos:Pos} {J1 J2:It} {z TI TO i1 i2:Addr} {st1 st2:Nat->Heap->Prop} (N1:Nx P w K J1 i1 st1) (N2:Nx P w K J2 i2 st2) (D:ZAp z TI TO i1 i2) :
  Turn P w K (.Tuple elts c pos) (Itz J1 J2) [z,TI,TO,i1,i2] z (ZSt z TI TO i1 i2 .none st1 st2) where
 mem:=by simp
 obj:=λ i h S b hb=>by
  obtain ⟨hz,hTI,⟨a,b',hTO⟩,h1,h2⟩:=S
  simp at hb
  rcases hb with rfl|rfl|rfl|rfl|rfl
  ·exact ⟨_,hz,λ v q=>by cases q⟩
  ·exact ⟨_,hTI,λ v q=>by cases q⟩
  ·exact ⟨_,hTO,λ v q=>by cases q⟩
  ·exact N1.obj _ _ h1
  ·exact N2.obj _ _ h2
 keep:=λ i h h' S k=>by
  obtain ⟨hz,hTI,⟨a,b',hTO⟩,h1,h2⟩:=S
  exact ⟨k _ (by simp) _ hz,k _ (by simp) _ hTI,⟨a,b',k _ (by simp) _ hTO⟩,N1.keep _ _ _ h1 λ o e=>k _ (by simp) _ e,N2.keep _ _ _ h2 λ o e=>k _ (by simp) _ e⟩
 item:=by
  intro X hP hw hK hc i pins s Y H E I hf S hg
  subst hP hw hK
  have hT:s.TypeIs (.ref z) "zip":=⟨_,S.z,rfl⟩
  unfold pyNext
  refine wpAny_bind (wpAny_attempt (wpAny_callSpecial?_slot (name:=uD "__next__") hT F.slot_zip_next
   (wpAny_call_entry F.slot_zip_next hT F.entry_zip_next
    (zfp N1 N2 D I (hf _ (by simp)) (hf _ (by simp)) (hf _ (by simp)) (hf _ (by simp)) S hg.1 hg.2 λ p x1 x2 s' hp n1 n2 n3 n4 n5 y1 y2 I' S'=>wpAny_pure ?_) (F.args_zip_next_1 _))))
  refine ⟨.ref p,rfl,wpAny_letOwnedTupleGo_zip S'.z λ h' hz' hs'=>?_⟩
  have nn:∀ b∈[z,TI,TO,i1,i2],b≠p:=λ b hb=>by
   simp at hb
   rcases hb with rfl|rfl|rfl|rfl|rfl
   ·exact n1.symm
   ·exact n2.symm
   ·exact n3.symm
   ·exact n4.symm
   ·exact n5.symm
  have fz:FpOk X pins (upd H p (.tup [x1,x2])) z:=⟨by rw [zm0 n1.symm];exact (hf z (by simp)).1,(hf z (by simp)).2⟩
  obtain ⟨_,hTI,⟨a,b',hTO⟩,h1,h2⟩:=S'
  refine ⟨.ref p,_,zw0 (tk:=s'.toks) I' fz hs',rfl,⟨x1,x2,p,y1,y2,hp,rfl,rfl⟩,⟨hz',hs'.extBut _ _ D.TIz hTI,⟨a,b',hs'.extBut _ _ D.TOz hTO⟩,N1.keep _ _ _ h1 λ o e=>hs'.extBut _ _ D.i1z e,N2.keep _ _ _ h2 λ o e=>hs'.extBut _ _ D.i2z e⟩,λ b hb=>?_⟩
  rw [zm0 (nn b hb)]
  exact (hf b hb).1
 done:=by
  intro X hP hw hK hc i pins s Y H E I hf S hg
  subst hP hw hK
  have hT:s.TypeIs (.ref z) "zip":=⟨_,S.z,rfl⟩
  unfold pyNext
  refine wpAny_bind (wpAny_attempt (wpAny_callSpecial?_slot (name:=uD "__next__") hT F.slot_zip_next
   (wpAny_call_entry F.slot_zip_next hT F.entry_zip_next (zlt (I.ok.hd hc) N1 N2 D I (hf _ (by simp)) (hf _ (by simp)) (hf _ (by simp)) (hf _ (by simp)) S hg λ h' e tk I' he=>?_) (F.args_zip_next_1 _))))
  obtain ⟨o,ho,hc⟩:=he
  refine wpAny_bind (wpAny_isInstance (T := "StopIteration") (b:=true) ⟨o,ho,hc⟩ isSubtype_stop ?_)
  exact wpAny_pure ⟨rfl,I'⟩
 self:=λ _ _ _ _ _ S h=>wpAny_pyIter_zip S.z h
def zch (h:Heap) (v:Value) (ob:Obj):Prop:=∀ (prog:Program) (w:World) (A:Around) (s:Shared) (Q E:Value->Shared->Prop),(∀ c o,h.get? c=some o->s.heap.get? c=some o)->Q (.ref s.heap.objs.size) { s with heap:=s.heap.push ob }->wpAny (model prog w) A (pyIter v) Q E s
def zipO (h:Heap) (o1 o2:Obj):Heap:=((((h.push o1).push o2).push { cls:=.type "tuple",data:=.seq #[.ref h.objs.size,.ref (h.push o1).objs.size] }).push { cls:=.type "tuple",data:=.seq #[.none,.none] }).push
 { cls:=.type "zip",data:=.fields #[.none,.bool false,.bool false,.ref ((h.push o1).push o2).objs.size,.ref (((h.push o1).push o2).push { cls:=.type "tuple",data:=.seq #[.ref h.objs.size,.ref (h.push o1).objs.size] }).objs.size] }
theorem zhk (v1 v2:Value) (o1 o2:Obj) :
  Meets (Builtin.«zip.__new__» ⟨[.type "zip",v1,v2],[]⟩) (λ _ R s=>zch s.heap v1 o1/\zch s.heap v2 o2 /\
   R (.ok (.ret (.ref ((((s.heap.push o1).push o2).push { cls:=.type "tuple",data:=.seq #[.ref s.heap.objs.size,.ref (s.heap.push o1).objs.size] }).push { cls:=.type "tuple",data:=.seq #[.none,.none] }).objs.size))) { s with heap:=zipO s.heap o1 o2 }) :=
 .of_wp λ prog w A R s h=>by
  obtain ⟨hp,g,d,tk,os⟩:=s;obtain ⟨q1,q2,h⟩:=h
  have hsub:=sub_zip
  have p1:∀ {A:Around} {Q E:Value->Shared->Prop},Q (.ref hp.objs.size) ⟨hp.push o1,g,d,tk,os⟩->wpAny (model prog w) A (pyIter v1) Q E ⟨hp,g,d,tk,os⟩:=λ {A Q E} z=>q1 prog w A ⟨hp,g,d,tk,os⟩ Q E (λ _ _ e=>e) z
  have p2:∀ {A:Around} {Q E:Value->Shared->Prop},Q (.ref (hp.push o1).objs.size) ⟨(hp.push o1).push o2,g,d,tk,os⟩->wpAny (model prog w) A (pyIter v2) Q E ⟨hp.push o1,g,d,tk,os⟩:=λ {A Q E} z=>q2 prog w A ⟨hp.push o1,g,d,tk,os⟩ Q E (λ _ _ e=>uH _ e) z
  wp_walk using p1,p2
  exact ⟨_,rfl,h⟩
theorem zwn {prog:Program} {w:World} {A:Around} {E:Value->Shared->Prop} {s:Shared} {v1 v2:Value} {o1 o2:Obj} {Q:Value->Shared->Prop} (h1:zch s.heap v1 o1) (h2:zch s.heap v2 o2)
  (h:∀ h',IsZip h' (s.heap.objs.size+4) (s.heap.objs.size+2) (s.heap.objs.size+3) .none->IsPair h' (s.heap.objs.size+2) (.ref s.heap.objs.size) (.ref (s.heap.objs.size+1)) ->
   IsPair h' (s.heap.objs.size+3) .none .none->h'.get? s.heap.objs.size=some o1->h'.get? (s.heap.objs.size+1)=some o2->(∀ c o,s.heap.get? c=some o->h'.get? c=some o)->Q (.ref (s.heap.objs.size+4)) { s with heap:=h' })
  (f1:o1.isFreed=false) (f2:o2.isFreed=false):wpAny (model prog w) A (call (.type "zip") [v1,v2]) Q E s:=by
 refine callType_new F.called_zip (by decide) (F.typeCall_zip_2 _ _) (F.newCall_zip_2 _ _) (λ obj=>F.args_object_init_3 obj _ _) F.entry_zip_new (zhk v1 v2 o1 o2) ⟨h1,h2,?_⟩
 have z1:(s.heap.push o1).objs.size=s.heap.objs.size+1:=vD ..
 have z2:((s.heap.push o1).push o2).objs.size=s.heap.objs.size+2:=by rw [vD,z1]
 have z3:(((s.heap.push o1).push o2).push { cls:=.type "tuple",data:=.seq #[.ref s.heap.objs.size,.ref (s.heap.push o1).objs.size] }).objs.size=s.heap.objs.size+3:=by rw [vD,z2]
 have z4:((((s.heap.push o1).push o2).push { cls:=.type "tuple",data:=.seq #[.ref s.heap.objs.size,.ref (s.heap.push o1).objs.size] }).push { cls:=.type "tuple",data:=.seq #[.none,.none] }).objs.size=s.heap.objs.size+4:=by rw [vD,z3]
 have g5:(zipO s.heap o1 o2).get? ((((s.heap.push o1).push o2).push { cls:=.type "tuple",data:=.seq #[.ref s.heap.objs.size,.ref (s.heap.push o1).objs.size] }).push { cls:=.type "tuple",data:=.seq #[.none,.none] }).objs.size=some _:=uT _ rfl
 have g4:(zipO s.heap o1 o2).get? (((s.heap.push o1).push o2).push { cls:=.type "tuple",data:=.seq #[.ref s.heap.objs.size,.ref (s.heap.push o1).objs.size] }).objs.size=some _:=uH _ (uT _ rfl)
 have g3:(zipO s.heap o1 o2).get? ((s.heap.push o1).push o2).objs.size=some _:=uH _ (uH _ (uT _ rfl))
 have g2:(zipO s.heap o1 o2).get? (s.heap.push o1).objs.size=some o2:=uH _ (uH _ (uH _ (uT _ f2)))
 have g1:(zipO s.heap o1 o2).get? s.heap.objs.size=some o1:=uH _ (uH _ (uH _ (uH _ (uT _ f1))))
 show _/\_
 rw [z2,z3,z4] at g5
 rw [z1,z2] at g3
 rw [z3] at g4
 rw [z1] at g2
 rw [z4]
 exact ⟨⟨_,g5,rfl⟩,h _ g5 g3 g4 g1 g2 λ c o x=>uH _ (uH _ (uH _ (uH _ (uH _ x))))⟩
def kSrc (K:Fg) (x:V) (H:Hp) (R:It->Prop):Prop:=(∃ a,x=.ref a/\(∃ xs,SqL K H a xs)/\R (Itl K a)) \/ (∃ a,x=.ref a/\(∃ xs,SqT K H a xs)/\R (Itt K a))
theorem zl7 {X:Cx} {pins:List (Addr×Obj)} {Y:St} {H:Hp} {s:Shared} {x:V} {v:Value} {R:It->Prop} (I:Inv X pins Y H s) (r:RelV x v) (h:kSrc X.K x H R) :
  ∃ (J:It) (ob:Obj) (st:Addr->Nat->Heap->Prop),R J/\zch s.heap v ob/\ob.isFreed=false/\(∀ it,Nx X.prog X.w X.K J it (st it))/\∀ it h,h.get? it=some ob->st it 0 h:=by
 rcases h with ⟨a,rfl,⟨xs,hq⟩,hR⟩|⟨a,rfl,⟨xs,hq⟩,hR⟩
 ·cases r
  obtain ⟨its,rv,p,hz⟩:=I.list hq
  refine ⟨_,{ cls:=.type "list_iterator",data:=.fields #[.ref a,.int 0 0] },λ it i h=>h.IsListIter it a i,hR,λ prog w A s1 Q E k q=>?_,rfl,λ it=>zaw a it,λ it h e=>⟨_,e,rfl,rfl⟩⟩
  exact wpAny_pyIter_list (p.isList.at λ o e=>k a o e) q
 ·cases r
  obtain ⟨its,rv,p,hz⟩:=I.tuple hq
  refine ⟨_,{ cls:=.type "tuple_iterator",data:=.fields #[.ref a,.int 0 0] },λ it i h=>h.IsTupleIter it a i,hR,λ prog w A s1 Q E k q=>?_,rfl,λ it=>zty a it,λ it h e=>⟨_,e,rfl,rfl⟩⟩
  obtain ⟨o,e,t⟩:=p
  exact wpAny_pyIter_tuple (show s1.heap.IsTuple a its.toArray from ⟨o,k a o e,t⟩) q
theorem zap (n:Nat):ZAp (n+4) (n+2) (n+3) n (n+1):=by
 constructor <;> (refine λ (h:(_:Nat)=_)=>?_;lia)
theorem five (n:Nat) (b:Nat) (h:b=n+4 \/ b=n+2 \/ b=n+3 \/ b=n \/ b=n+1):n<=b:=by lia
theorem zut:bootBuiltins "zip"=some (.type "zip"):=by decide +kernel
section
variable {X:Cx} {elts:List Expr}
def zl51 (K:Fg) (vs:List V) (H:Hp) (R:It->Hp->Prop):Prop:=∃ x1 x2,vs=[x1,x2]/\kSrc K x1 H λ J1=>kSrc K x2 H λ J2=>R (Itz J1 J2) H
def iZip (K:Fg) (ta:TA):TI:=λ Y H R=>ta Y H λ vs H1=>zl51 K vs H1 R
theorem zoj {K:Fg} (hK:X.K=K) {c:_} {tpos:Pos} {a b:Expr} {ta:TA} {p pos:Pos} (hg:Gl X "zip") (hm:X.mg "zip"=none) (ha:PA X [a,b] ta) (hs:starEach [a,b] X.env=[(false,eval a X.env),(false,eval b X.env)]:=by rfl) (hs2:starEach [b] X.env=[(false,eval b X.env)]:=by rfl) :
  PI X (.Tuple elts c tpos) (.Call (.Name "zip" p) [a,b] [] pos) (iZip K ta):=by
 subst hK
 intro pins s Y H R I h
 refine Call_ (zg9 I hg hm zut (PyProof.Rows.callWith_type1 (thn (ha pos pins s Y H _ I h) λ us s1 ⟨vs,H1,I1,r1,q1⟩=>?_) (by rw [hs,hs2]) (by rw [hs2];rfl)))
 obtain ⟨x1,x2,e,q1⟩:=q1
 subst e
 obtain ⟨u1,u2,rfl,r1,r2⟩:=zt21 r1
 obtain ⟨J1,o1,st1,q2,op1,fr1,n1,z1⟩:=zl7 I1 r1 q1
 obtain ⟨J2,o2,st2,q,op2,fr2,n2,z2⟩:=zl7 I1 r2 q2
 refine zwn op1 op2 (λ h' hz hTI hTO g1 g2 kk=>wpAny_pyIter_zip hz ?_) fr1 fr2
 have I2:Inv X pins Y H1 { s1 with heap:=h' }:=I1.kept (t':=s1.toks) kk
 refine ⟨s1.heap.objs.size+4,[s1.heap.objs.size+4,s1.heap.objs.size+2,s1.heap.objs.size+3,s1.heap.objs.size,s1.heap.objs.size+1],_,_,H1,rfl,I2,
  znn (n1 s1.heap.objs.size) (n2 (s1.heap.objs.size+1)) (zap _),⟨hz,hTI,⟨_,_,hTO⟩,z1 _ _ g1,z2 _ _ g2⟩,λ b hb=>?_,q⟩
 have hb':s1.heap.objs.size<=b:=by
  simp at hb
  exact five _ _ hb
 exact I1.fpOk hb' (I1.hok.fresh hb')
end
def entM (w:World) (e:Str×Tok×Value):DictEntry:=⟨PyData.keyHash w.params e.1,.str e.1 e.2.1,e.2.2⟩
structure KD (w:World) (K:Fg) (d:Addr) (kvs:List (Str×V)):Prop where
 ne:(d == sysModules)=false
 ex:∃ (l:List (Str×Tok×Value)) (n:Nat),K.lookup d=some { cls:=.type "dict",data:=.dict (l.map (entM w)).toArray n }/\Paired (λ (p:Str×V) (q:Str×Tok×Value)=>p.1=q.1/\RelV p.2 q.2.2) kvs l
theorem zds {w:World} {k:Str}:∀ {kvs:List (Str×V)} {l:List (Str×Tok×Value)},Paired (λ (p:Str×V) (q:Str×Tok×Value)=>p.1=q.1/\RelV p.2 q.2.2) kvs l ->
  RelO (kvs.lookup k) (((l.map (entM w)).find? λ e=>wC k e.key).map (·.val))
|_,_,.nil=>trivial
|_,_,.cons (a:=p) (b:=q) h r=>by
  obtain ⟨x,v⟩:=p
  obtain ⟨y,t,u⟩:=q
  obtain ⟨e,rv⟩:=h
  cases e
  have ih:=zds (w:=w) (k:=k) r
  show RelO (vR k ((x,v) :: _)) (((entM w (x,t,u) :: _).find? λ e=>wC k e.key).map (·.val))
  rw [u3,wH]
  by_cases hk:k=x
  ·subst hk
   have h1:(k == k)=true:=beq_self_eq_true k
   have h2:wC k (entM w (k,t,u)).key=true:=by simp [entM,wC]
   rw [h1,h2]
   exact rv
  ·have h1:(k == x)=false:=beq_eq_false_iff_ne.mpr hk
   have h2:wC k (entM w (x,t,u)).key=false:=by
    show (x == k)=false
    exact beq_eq_false_iff_ne.mpr λ e=>hk e.symm
   rw [h1,h2]
   exact ih
section
variable {X:Cx} {pins:List (Addr×Obj)} {Y:St} {H:Hp} {s:Shared} {d:Addr} {kvs:List (Str×V)}
theorem KD.map (D:KD X.w X.K d kvs) (I:Inv X pins Y H s):∃ f:Str->Option Value,s.heap.MapOf (PySem.strKind X.prog X.w) d f/\∀ k,RelO (kvs.lookup k) (f k):=by
 obtain ⟨l,n,e,r⟩:=D.ex
 refine ⟨λ k=>((l.map (entM X.w)).find? λ e=>wC k e.key).map (·.val),⟨_,(l.map (entM X.w)).toArray,n,I.kIn d _ e,⟨rfl,rfl,rfl⟩,rfl,λ e he=>?_,λ k=>?_⟩,λ k=>zds r⟩
 ·obtain ⟨q,_,rfl⟩:=uM.mp (by simpa using he:e∈l.map (entM X.w))
  exact ⟨q.1,by simp [entM,PySem.strKind,wC],rfl⟩
 ·show findBy (PySem.strKind X.prog X.w).is _ k=_
  unfold findBy
  rw [List.find?_toArray]
  rfl
def rInM (w:World) (K:Fg):R2:=λ x y H Q=>∃ d kvs z,x=.str z/\y=.ref d/\KD w K d kvs/\Q (.bl (kvs.lookup z).isSome) H
def zil (w:World) (K:Fg):R2:=λ x y H Q=>∃ d kvs z,x=.str z/\y=.ref d/\KD w K d kvs/\Q (.bl (!(kvs.lookup z).isSome)) H
def rIxM (w:World) (K:Fg):R2:=λ x y H Q=>∃ d kvs z v,x=.ref d/\y=.str z/\KD w K d kvs/\kvs.lookup z=some v/\Q v H
theorem zw8 {a:Option V} {b:Option Value} (r:RelO a b):b.isSome=a.isSome:=by
 cases a <;> cases b <;> first|rfl|exact False.elim r
theorem zi01 {w:World} {K:Fg} (hw:X.w=w) (hK:X.K=K):OpR X (compareOp .In) (rInM w K):=by
 subst hw hK
 intro pins s Y H x y v u Q I rx ry h
 obtain ⟨d,kvs,z,rfl,rfl,D,q⟩:=h
 obtain ⟨t,rfl⟩:=rx
 cases ry
 obtain ⟨f,m,r⟩:=D.map I
 refine wpAny_in_of (k:=z) (PySem.strKind_is X.prog X.w z t) D.ne m ?_
 rw [zw8 (r z)]
 exact ⟨.bl _,H,I.tok _,rfl,q⟩
theorem znj {w:World} {K:Fg} (hw:X.w=w) (hK:X.K=K):OpR X (compareOp .NotIn) (zil w K):=by
 subst hw hK
 intro pins s Y H x y v u Q I rx ry h
 obtain ⟨d,kvs,z,rfl,rfl,D,q⟩:=h
 obtain ⟨t,rfl⟩:=rx
 cases ry
 obtain ⟨f,m,r⟩:=D.map I
 refine wpAny_notIn_of (k:=z) (PySem.strKind_is X.prog X.w z t) D.ne m ?_
 rw [zw8 (r z)]
 exact ⟨.bl _,H,I.tok _,rfl,q⟩
theorem ix_M {w:World} {K:Fg} (hw:X.w=w) (hK:X.K=K):IxR X (rIxM w K):=by
 subst hw hK
 intro value slice pins s Y H x y v u Q I rx ry h hs
 obtain ⟨d,kvs,z,r0,rfl,rfl,D,e,q⟩:=h
 cases rx
 obtain ⟨t,rfl⟩:=ry
 obtain ⟨f,m,r⟩:=D.map I
 have rz:=r z
 rw [e] at rz
 obtain ⟨u,eu,ru⟩:=rz.some_of
 exact tail_any m.typeIs PySem.F.slot_dict_getitem.lookup (wpAny_getItem_of (k:=z) (PySem.strKind_is X.prog X.w z t) m eu ⟨r0,H,I.tok _,ru,q⟩) hs
end
def Walks (J:It) (H:Hp) (n:Nat) (Yv:Nat->V->Hp->Prop):Prop:=∀ H',Same H H'->(∀ i,i < n->J.go i H')/\J.stop n H'/\∀ i x H2,i < n->J.yld i H' x H2->Same H' H2/\Yv i x H2
section
variable {K:Fg} {H:Hp} {a:Addr} {xs:List V}
theorem Walks.mono {J:It} {n:Nat} {Yv:Nat->V->Hp->Prop} {H':Hp} (w:Walks J H n Yv) (s:Same H H'):Walks J H' n Yv:=λ H2 s2=>w H2 (s.trans s2)
def SameX (D:Addr) (H H':Hp):Prop:=∀ b o,b≠D->H b=some o->H' b=some o
variable {Q:VK} {Y caps:St} {n:Nat} {ix:List Nat} {g:TG} {te:TE} {m:Nat} {J:It} {Yv:Nat->V->Hp->Prop}
end
def zr31:R2:=λ x y H Q=>ze41 x y H Q \/ zr41 x y H Q
def rInW (w:World) (K:Fg):R2:=λ x y H Q=>rInU K x y H Q \/ rInM w K x y H Q
def zal (w:World) (K:Fg):R2:=λ x y H Q=>zul K x y H Q \/ zil w K x y H Q
def rIxW (w:World) (K:Fg):R2:=λ x y H Q=>rIx K x y H Q \/ rIxM w K x y H Q
def rSlW (K:Fg):V->Option Int->Option Int->Hp->VK->Prop:=λ x lo hi H Q=>rSlU K x lo hi H Q \/ rSlS x lo hi H Q
def zy01 (K:Fg) (x:V) (H:Hp) (R:It->Hp->Prop):Prop:=zg51 K x H R \/ ∃ z:Str,x=.str z/\z.cps.all (· < 128)=true/\R (Its z) H
def iW (K:Fg) (tl:TE):TI:=λ Y H R=>tl Y H λ x H1=>zy01 K x H1 R
section
variable {X:Cx} {w:World} {K:Fg} {tg:Expr}
theorem zpv:OpR X (binaryOp .Mult) zr31:=zvs.or zgu
theorem zw01 (hw:X.w=w) (hK:X.K=K):OpR X (compareOp .In) (rInW w K):=(zs11 hK).or (zi01 hw hK)
theorem zhj (hw:X.w=w) (hK:X.K=K):OpR X (compareOp .NotIn) (zal w K):=(zii hK).or (znj hw hK)
theorem ix_W (hw:X.w=w) (hK:X.K=K):IxR X (rIxW w K):=(ix_U hK).or (ix_M hw hK)
theorem sl_W (hK:X.K=K):SlR X (rSlW K):=(sl_U hK).or ziv
theorem pi_W (h:X.K=K) {l:Expr} {tl:TE} (hl:PE X l tl):PI X tg l (iW K tl):=by
 subst h
 intro pins s Y H R I h
 refine thn (hl pins s Y H _ I h) λ v s1 ⟨x,H1,I1,r1,q1⟩=>?_
 rcases q1 with (⟨a,e,⟨xs,hq⟩,q⟩|⟨a,e,⟨xs,hq⟩,q⟩)|⟨z,rfl,ha,q⟩
 ·subst e
  cases r1
  obtain ⟨its,rv,p,hz⟩:=I1.list hq
  refine wpAny_pyIter_list p.isList ?_
  refine ⟨s1.heap.objs.size,[s1.heap.objs.size],_,_,H1,rfl,I1.kept (t':=s1.toks) λ b o e=>uH _ e,zmi a _,⟨_,uT _ rfl,rfl,rfl⟩,λ b hb=>?_,q⟩
  have e:b=s1.heap.objs.size:=by simpa using hb
  subst e
  exact I1.fpOk (uF _) (I1.hok.fresh (uF _))
 ·subst e
  cases r1
  obtain ⟨its,rv,p,hz⟩:=I1.tuple hq
  refine wpAny_pyIter_tuple (show s1.heap.IsTuple a its.toArray from p) ?_
  refine ⟨s1.heap.objs.size,[s1.heap.objs.size],_,_,H1,rfl,I1.kept (t':=s1.toks) λ b o e=>uH _ e,zjg a _,⟨_,uT _ rfl,rfl,rfl⟩,λ b hb=>?_,q⟩
  have e:b=s1.heap.objs.size:=by simpa using hb
  subst e
  exact I1.fpOk (uF _) (I1.hok.fresh (uF _))
 ·obtain ⟨t,rfl⟩:=r1
  refine wpAny_pyIter_ascii ha ?_
  refine ⟨s1.heap.objs.size,[s1.heap.objs.size],_,_,H1,rfl,I1.kept (t':=s1.toks) λ b o e=>uH _ e,zko z t _,⟨_,uT _ rfl,rfl,rfl⟩,λ b hb=>?_,q⟩
  have e:b=s1.heap.objs.size:=by simpa using hb
  subst e
  exact I1.fpOk (uF _) (I1.hok.fresh (uF _))
def zc41 (K:Fg):List V->Hp->VK->Prop:=λ xs H Q=>∃ p ys,xs=[.ref p]/\(SqL K H p ys \/ SqT K H p ys)/\∀ l,H l=none->Q (.ref l) (upd H l (.lst ys))
theorem zv2 (h:X.K=K):CallR X (.type "list") (zc41 K):=h ▸ zyb
end
section
variable {K:Fg} {w:World} {H:Hp} {Q:VK} {a b:Addr} {xs ys:List V} {i:Int} {v:V} {z:Str} {kvs:List (Str×V)} {d:Addr}
theorem ze61 (h:SqT K H a xs) (e:atI xs i=some v) (q:Q v H):rIxW w K (.ref a) (.int i) H Q:=.inl (zv51 h e q)
end
section
variable {K:Fg} {w:World} {H:Hp} {Q:VK} {a:Addr} {xs:List V} {i:Int} {v:V} {z:Str} {Y:St} {r r':R2} {ta tb tc:TE} {tA:TA} {D:Ends}
end
theorem sIx_nat {n d a:Nat} (h:a<=n):HT.sIx n d (some (a:Int))=a:=by
 unfold HT.sIx
 simp
 rw [if_neg (by lia)]
 lia
section
variable {K:Fg} {H:Hp} {a:Addr} {xs:List V} {Y:St} {ta:TA} {Q:VK}
end
theorem zd2 {X:Cx} {pos:Pos} {K:Fg} {n:Nat} (hK:X.K=K) {es:List Expr} {k:Nat} {t:TGs} (hc:X.calm=true) (h:PGs X es t)
  (hn:(assignEach es X.env).length=n:=by rfl) (hst:(assignEach es X.env).findIdx? (·.1)=none:=by rfl):PG X (.Tuple es k pos) (gTup K n t):=by
 subst hK
 exact zz11 hc h hn hst
def kBM (K:Fg) (T:String) (r:V->List V->Hp->VK->Prop) (t:TA) (Y:St) (x:V) (H:Hp) (Q:VK):Prop:=tyV K T x H/\t Y H λ xs H2=>r x xs H2 Q
def tBMU (K:Fg) (T:String) (r:V->List V->Hp->VK->Prop) (to:TE) (t:TA):TE:=λ Y H Q=>to Y H λ x H1=>kBM K T r t Y x H1 Q
theorem zt3 {X:Cx} {K:Fg} (hK:X.K=K) {o e:Expr} {es:List Expr} {to:TE} {t:TA} {name:Str} {apos cpos:Pos} {T id:String} {r:V->List V->Hp->VK->Prop} (pa:PlainAttrs T) (slot:Slot T name id) (hty:typeOf (.builtin id)=pure (.type "method_descriptor")) (hm:MtR X id r) (ho:PE X o to) (ha:PA X (e :: es) t)
  (hbase:attributeBase o name X.env (eval o X.env)=eval o X.env:=by rfl)
  (hfew:((backTo cpos (starEach (e :: es) X.env)).all (λ x=>!x.1) && (backToKw cpos (keywordEach [] X.env)).all (λ x=>x.1.isSome)
   && decide ((e :: es).length+([]:List Keyword).length+(if ([]:List Keyword).isEmpty then 0 else 1) < 30))=true:=by rfl)
  (hline:(apos.endLine == cpos.line)=true:=by rfl) (hs:starEach (e :: es) X.env=(false,eval e X.env) :: starEach es X.env:=by rfl) (hplain:(backTo cpos (starEach es X.env)).any (·.1)=false:=by rfl) :
  PE X (.Call (.Attribute o name apos) (e :: es) [] cpos) (tBMU K T r to t):=by
 subst hK
 exact zf71 pa slot hty hm ho ha hbase hfew hline hs hplain
section
variable {K:Fg} {T:String} {r:V->List V->Hp->VK->Prop} {to:TE} {t:TA} {Y:St} {H:Hp} {Q:VK} {a:Addr} {xs:List V} {z:Str}
end
section
variable {t:TJ} {te:TE} {Y:_2.St} {H:Hp} {acc y z:Str} {i:Int}
end
def zix (_ j:Int):Prop:=0 < j/\j < 2 ^ 200
theorem zcp {j:Int} (h0:0 < j) (h1:j < 2 ^ 200):j.natAbs.log2 < 9000:=by
 have h:j.natAbs.log2 < 200:=(yO (by lia)).mpr (by lia)
 lia
theorem zr4 {X:Cx}:OpR X (binaryOp .FloorDiv) (rI zix λ i j=>.int (i / j)):=opI λ i j _ _ _ _ _ hc q=>by
 have h1:(0:Int) < j:=hc.1
 exact floordiv_int (by lia) (by rw [zE i (by lia)];exact q) (.inl (PyProof.noPylong_of_log2 (zcp hc.1 hc.2)))
def zbh {α:Type} (xs:List α) (lo hi st:Option Int):List α:=(sliceRange (sliceBounds lo hi st xs.length).1 (sliceBounds lo hi st xs.length).2.1 (sliceBounds lo hi st xs.length).2.2).filterMap (xs[·]?)
theorem zc9 {xs:List V} {vs:List Value} (h:Vals xs vs):∀ js:List Nat,Vals (js.filterMap (xs[·]?)) (js.filterMap (vs[·]?))
|[]=>.nil
|j :: js=>by
  have ih:=zc9 h js
  cases hn:xs[j]? with
 |some n =>
   obtain ⟨u,hu,r⟩:=h.get hn
   simp only [v9,hn,hu]
   exact .cons r ih
 |none =>
   have hv:=h.none_of hn
   simp only [v9,hn,hv]
   exact ih
theorem zxi {xs:List V} {vs:List Value} (h:Vals xs vs) (lo hi st:Option Int):Vals (zbh xs lo hi st) (slicePick vs.toArray lo hi st).toList:=by
 have e:(slicePick vs.toArray lo hi st).toList=(sliceRange (sliceBounds lo hi st xs.length).1 (sliceBounds lo hi st xs.length).2.1 (sliceBounds lo hi st xs.length).2.2).filterMap (vs[·]?):=by
  simp [slicePick,h.length]
 rw [e]
 exact zc9 h _
def rSl3 (K:Fg):V->Option Int->Option Int->Option Int->Hp->VK->Prop:=λ x lo hi st H Q=>∃ a xs,x=.ref a/\SqL K H a xs/\st≠some 0/\∀ p,H p=none->Q (.ref p) (upd H p (.lst (zbh xs lo hi st)))
def tSl3 (K:Fg) (te:TE) (tl th tk:TO):TE:=λ Y H Q=>te Y H λ x H1=>tl Y H1 λ l H2=>th Y H2 λ u H3=>tk Y H3 λ st H4=>rSl3 K x l u st H4 Q
theorem zri {X:Cx} {K:Fg} (hK:X.K=K) {e:Expr} {te:TE} {lo hi:Option Expr} {st:Expr} {tl th tk:TO} {pos p2:Pos} (he:PE X e te) (hl:PO X lo tl) (hu:PO X hi th) (hs:PO X (some st) tk):PE X (.Subscript e (.Slice lo hi (some st) p2) pos) (tSl3 K te tl th tk):=by
 subst hK
 intro pins s Y H Q I h
 refine Subscript_ (thn (he pins s Y H _ I h) λ v s1 ⟨x,H1,I1,r1,q1⟩=>?_)
 refine wpAny_Slice (thn (hl pins s1 Y H1 _ I1 q1) λ vl s2 ⟨l,H2,I2,pl,q2⟩=>thn (hu pins s2 Y H2 _ I2 q2) λ vu s3 ⟨u,H3,I3,pu,q3⟩=>thn (hs pins s3 Y H3 _ I3 q3) λ vk s4 ⟨k,H4,I4,pk,q4⟩=>?_)
 obtain ⟨a,xs,rfl,hx,h0,q⟩:=q4
 cases r1
 have I5:Inv X pins Y H4 { s4 with heap:=s4.heap.push { cls:=.type "slice",data:=.fields #[vl,vu,vk] } }:=I4.kept (t':=s4.toks) λ b ob q=>uH _ q
 obtain ⟨its,r,ht,hz⟩:=I5.list hx
 have hlen:=r.length
 refine tail_any (T := "list") (ops:=[.ref a,.ref s4.heap.objs.size]) ht.isList.typeIs slot_list_getitem.lookup (wpAny_getItem_list_slice ht.isList (Heap.IsSliceOf.new ..) pl pu pk h0 ?_ (by rw [uS] <;> lia)) (by with_unfolding_all rfl)
 have rv:=zxi r l u k
 refine ⟨.ref _,_,I5.laid (t':=s4.toks) (o:=.lst (zbh xs l u k)) (λ b ob q=>uH _ q) (uF _) ?_,rfl,q _ (I5.hok.fresh (uF _))⟩
 refine ⟨?_,_,0,rv,?_⟩
 ·have:=slicePick_size_le its.toArray l u k
  have e:=rv.length
  simp only [vX,uS] at this e
  lia
 ·rw [Array.toArray_toList]
  exact uT _ rfl
section
variable {K:Fg} {H:Hp} {Q:VK} {a:Addr} {xs:List V} {i j:Int} {Y:St}
end
theorem zfk:bootBuiltins "sorted"=some (.builtin "sorted"):=by decide +kernel
section
variable {K:Fg} {H H':Hp} {D a:Addr} {xs:List V}
theorem SameX.trans {H1 H2 H3:Hp} (s:SameX D H1 H2) (s':SameX D H2 H3):SameX D H1 H3:=λ b o hb e=>s' b o hb (s b o hb e)
theorem IsAll.length:∀ {xs:List V} {ds:List PyData},IsAll K H xs ds->xs.length=ds.length
|_,_,.nil=>rfl
|_,_,.cons _ r=>by simp [IsAll.length r]
end
def Fit (n:Nat) (d:PyData):Prop:=d.canLay0=true/\d.depth<=n
theorem Fit.int {n:Nat} (i:Int):Fit n (.int i):=⟨rfl,vZ _⟩
theorem Fit.mono {n m:Nat} {d:PyData} (h:Fit n d) (hm:n<=m):Fit m d:=⟨h.1,vJ h.2 hm⟩
def zsw (K:Fg):Sp:=λ vs H Q _=>∃ (a:Addr) (ns:List Int),vs=[.ref a]/\SqL K H a (ns.map V.int)/\ns.length<=63/\∀ H',Q (.bl true) H'
theorem law_walk {k:Nat} {l:PySem.W.OpenLaw} {q:Program} {loose:List Str} {XP:(Str->Option Value)->Heap->Prop} {YP:World->Heap->Prop} {d:DefRec} {K:Params->Fg} (hk:Room k callerA) (hn:l.most=some 63) (hdf:d.params.defaults=[])
  (hY:∀ (w:World) (h:Heap),YP w h->(K w.params).In h)
  (F:∀ (w:World) (mg:Str->Option Value) (fa:Addr) (h:Heap),(K w.params).In h->h.Ns mainGlobals mg->mg d.name=some (.ref fa) ->
   ∃ fd:FuncData,(∀ (s:Shared) (u:Value),BindsTo s fd ⟨[u],[]⟩ [("script",u)])/\∀ base:Heap,(K w.params).In base->base.Ns mainGlobals mg->FnOk l.prog w (K w.params) mg base CX0 k fa fd ["script"] (zsw (K w.params))) :
  PySem.W.WalkO q loose XP YP l.row.toRowW d [] (λ f vs=>PySem.call f vs) :=
 _2.walk_of (n:=63) (k:=k) (x := "script") (CX:=λ _=>CX0) (sp:=λ w=>zsw (K w.params)) hn (by decide) hdf hk hY F (λ _ _ a ns hl _ hS=>⟨a,ns,rfl,hS,hl,λ _=>rfl⟩) λ _ _ _ _ _ z=>z
section
variable {K:Fg} {H:Hp} {Q:VK} {Y:St} {i j:Int}
end
end _3
namespace _2
open PySem PySem.Spec PyProof.Rows
section
variable {κ:Type} [DecidableEq κ]
def valV (kvs:List (κ×V)) (k:κ):Option V:=(kvs.find? λ kv=>decide (kv.1=k)).map (·.2)
def putK (kvs:List (κ×V)) (k:κ) (v:V):List (κ×V) :=
 if (kvs.any λ kv=>decide (kv.1=k))=true then kvs.map (λ kv=>if kv.1=k then (kv.1,v) else kv) else kvs++[(k,v)]
def zbi (kvs:List (κ×V)) (k:κ):List (κ×V):=kvs.filter λ kv=>decide (kv.1≠k)
theorem zw9 {p:κ×V} {r:List (κ×V)} {k:κ} (e:p.1=k):valV (p :: r) k=some p.2:=by simp [valV,wH,e]
theorem zbc {p:κ×V} {r:List (κ×V)} {k:κ} (e:¬ p.1=k):valV (p :: r) k=valV r k:=by simp [valV,wH,e]
theorem zbd (k:κ):∀ kvs:List (κ×V),(kvs.any λ kv=>decide (kv.1=k))=(valV kvs k).isSome
|[]=>rfl
|p :: r=>by
  rw [wK]
  by_cases e:p.1=k
  ·simp only [zw9 e,decide_eq_true e,Bool.true_or,zG]
  ·rw [zbc e,decide_eq_false e,Bool.false_or];exact zbd k r
theorem zz3 (kvs:List (κ×V)) (k:κ) (v:V):(putK kvs k v).length<=kvs.length+1:=by
 unfold putK
 split
 ·rw [uA];lia
 ·rw [vA,vP,xM];lia
theorem zlp {kvs:List (κ×V)} {k:κ} (v:V) (h:valV kvs k=none):putK kvs k v=kvs++[(k,v)]:=by
 unfold putK
 rw [zbd,h]
 exact if_neg (by decide)
theorem RelO.isSome_eq {o:Option V} {u:Option Value} (r:RelO o u):o.isSome=u.isSome:=by
 cases o with
|none=>cases u with
 |none=>rfl
 |some _=>exact (show False from r).elim
|some _=>cases u with
 |none=>exact (show False from r).elim
 |some _=>rfl
theorem RelO.getD {o:Option V} {u:Option Value} {d:V} {d':Value} (r:RelO o u) (rd:RelV d d'):RelV (o.getD d) (u.getD d'):=by
 cases o with
|none=>cases u with
 |none=>exact rd
 |some _=>exact (show False from r).elim
|some _=>cases u with
 |none=>exact (show False from r).elim
 |some _=>exact r
theorem KV.val {kvs:List (κ×V)} {vs:List (κ×Value)} (r:KV kvs vs) (k:κ):RelO (valV kvs k) (valueAt vs k):=by
 unfold KV at r
 induction r with
|nil=>exact True.intro
|@cons p q ps qs h t ih =>
  obtain ⟨h1,h2⟩:=h
  by_cases e:p.1=k
  ·have e':q.1=k:=h1.symm.trans e
   have b:valueAt (q :: qs) k=some q.2:=by simp [valueAt,wH,e']
   rw [zw9 e,b];exact h2
  ·have e':¬ q.1=k:=λ z=>e (h1.trans z)
   have b:valueAt (q :: qs) k=valueAt qs k:=by simp [valueAt,wH,e']
   rw [zbc e,b];exact ih
theorem KV.any {kvs:List (κ×V)} {vs:List (κ×Value)} (r:KV kvs vs) (k:κ):(kvs.any λ kv=>decide (kv.1=k))=vs.any λ kv=>decide (kv.1=k):=by
 unfold KV at r
 induction r with
|nil=>rfl
|cons h t ih=>rw [wK,wK,ih,h.1]
theorem KV.repl {kvs:List (κ×V)} {vs:List (κ×Value)} (r:KV kvs vs) (k:κ) {y:V} {u:Value} (ry:RelV y u) :
  KV (kvs.map λ kv=>if kv.1=k then (kv.1,y) else kv) (vs.map λ kv=>if kv.1=k then (kv.1,u) else kv):=by
 unfold KV at r ⊢
 induction r with
|nil=>exact .nil
|@cons p q ps qs h t ih =>
  rw [uK,uK]
  refine .cons ?_ ih
  obtain ⟨h1,h2⟩:=h
  by_cases e:p.1=k
  ·rw [if_pos e,if_pos (h1.symm.trans e)];exact ⟨h1,ry⟩
  ·rw [if_neg e,if_neg (λ z=>e (h1.trans z))];exact ⟨h1,h2⟩
theorem KV.put {kvs:List (κ×V)} {vs:List (κ×Value)} (r:KV kvs vs) (k:κ) {y:V} {u:Value} (ry:RelV y u):KV (putK kvs k y) (stored vs k u):=by
 unfold putK stored
 rw [r.any k]
 by_cases e:(vs.any λ kv=>decide (kv.1=k))=true
 ·rw [if_pos e,if_pos e];exact r.repl k ry
 ·rw [if_neg e,if_neg e];exact Paired.snoc r ⟨rfl,ry⟩
theorem KV.drop {kvs:List (κ×V)} {vs:List (κ×Value)} (r:KV kvs vs) (k:κ):KV (zbi kvs k) (without vs k):=by
 unfold KV at r ⊢
 unfold zbi without
 induction r with
|nil=>exact .nil
|@cons p q ps qs h t ih =>
  obtain ⟨h1,h2⟩:=h
  rw [List.filter_cons,List.filter_cons]
  by_cases e:p.1=k
  ·have a:¬ decide (p.1≠k)=true:=by simp [e]
   have b:¬ decide (q.1≠k)=true:=by simp [h1.symm.trans e]
   rw [if_neg a,if_neg b];exact ih
  ·have e':¬ q.1=k:=λ z=>e (h1.trans z)
   have a:decide (p.1≠k)=true:=by simp [e]
   have b:decide (q.1≠k)=true:=by simp [e']
   rw [if_pos a,if_pos b];exact .cons ⟨h1,h2⟩ ih
theorem KV.length {kvs:List (κ×V)} {vs:List (κ×Value)} (r:KV kvs vs):kvs.length=vs.length:=Paired.length r
theorem znh (kvs:List (κ×V)) (k:κ):(zbi kvs k).length<=kvs.length:=zJ _ _
end
theorem zdi {P:Program} {w:World} {k:Key} {u:Value} (r:RelV (kV k) u):(zu0 P w).is k u=true:=by
 cases k with
|inl i=>obtain ⟨t,e⟩:=(show ∃ t,u=wW i t from r);subst e;exact zre P w i t
|inr x=>obtain ⟨t,e⟩:=(show ∃ t,u=wX x t from r);subst e;exact zaf P w x t
theorem zed {P:Program} {w:World}:∀ {ks:List Key} {us:List Value},Vals (ks.map kV) us->ItemsAre (zu0 P w) ks us
|[],_,r=>by rw [wZ] at r;cases r;exact .nil
|k :: ks,_,r=>by
  rw [uK] at r
  cases r with
 |cons h t=>exact .cons (zdi h) (zed t)
abbrev KT (H:Hp):List (List Key×V)->List (List Key×Addr×Value)->Prop:=Paired λ p q=>p.1=q.1/\H q.2.1=some (.tup (p.1.map kV))/\RelV p.2 q.2.2
theorem KT.val {H:Hp} {kvs:List (List Key×V)} {xs:List (List Key×Addr×Value)} (r:KT H kvs xs) (k:List Key):RelO (valV kvs k) ((atKey xs k).map (·.2)):=by
 induction r with
|nil=>exact True.intro
|@cons p q ps qs h t ih =>
  obtain ⟨h1,_,h2⟩:=h
  by_cases e:p.1=k
  ·have e':q.1=k:=h1.symm.trans e
   have b:atKey (q :: qs) k=some q.2:=by simp [atKey,wH,e']
   rw [zw9 e,b];exact h2
  ·have e':¬ q.1=k:=λ z=>e (h1.trans z)
   have b:atKey (q :: qs) k=atKey qs k:=by simp [atKey,wH,e']
   rw [zbc e,b];exact ih
theorem KT.repl {H:Hp} {kvs:List (List Key×V)} {xs:List (List Key×Addr×Value)} (r:KT H kvs xs) (k:List Key) {y:V} {u:Value} (ry:RelV y u) :
  KT H (kvs.map λ kv=>if kv.1=k then (kv.1,y) else kv) (xs.map (putAt k u)):=by
 induction r with
|nil=>exact .nil
|@cons p q ps qs h t ih =>
  rw [uK,uK]
  refine .cons ?_ ih
  obtain ⟨h1,h2,h3⟩:=h
  unfold putAt
  by_cases e:p.1=k
  ·rw [if_pos e,if_pos (h1.symm.trans e)];exact ⟨h1,h2,ry⟩
  ·rw [if_neg e,if_neg (λ z=>e (h1.trans z))];exact ⟨h1,h2,h3⟩
theorem KT.put {H:Hp} {kvs:List (List Key×V)} {xs:List (List Key×Addr×Value)} (r:KT H kvs xs) (k:List Key) {b:Addr} {y:V} {u:Value} (hb:H b=some (.tup (k.map kV))) (ry:RelV y u) :
  KT H (putK kvs k y) (storedH xs k b u):=by
 have e:(kvs.any λ kv=>decide (kv.1=k))=(atKey xs k).isSome:=by
  rw [zbd,(r.val k).isSome_eq,xN]
 unfold putK storedH
 rw [e]
 by_cases q:(atKey xs k).isSome=true
 ·rw [if_pos q,if_pos q];exact r.repl k ry
 ·rw [if_neg q,if_neg q];exact Paired.snoc r ⟨rfl,hb,ry⟩
theorem KT.keeps {H H':Hp} {kvs:List (List Key×V)} {xs:List (List Key×Addr×Value)} (r:KT H kvs xs) (ht:∀ b ys,H b=some (.tup ys)->H' b=some (.tup ys)):KT H' kvs xs :=
 Paired.mapP r λ _ _ z=>⟨z.1,ht _ _ z.2.1,z.2.2⟩
section
variable {P:Program} {w:World} {H:Hp} {h:Heap} {a:Addr}
theorem zy31 {u:HO} (ok:HOk P w H h) (e:Rd H a u):ObjOk P w H h a u:=e.ok ok
theorem zzp {kvs:List (Key×V)} (ok:HOk P w H h) (e:Rd H a (.dK kvs)):kvs.length<=sizeLine/\(a == sysModules)=false/\∃ vs,KV kvs vs/\h.DictOf (zu0 P w) a vs :=
 show ObjOk P w H h a (.dK kvs) from zy31 ok e
theorem zdo {kvs:List (Key×V)} (ok:HOk P w H h) (e:H a=some (.dK kvs)):kvs.length<=sizeLine/\(a == sysModules)=false/\∃ vs,KV kvs vs/\h.DictOf (zu0 P w) a vs:=zzp ok (.inl e)
theorem zke {ks:List Key} (ok:HOk P w H h) (e:H a=some (.tup (ks.map kV))):(tupleKind (zu0 P w)).is h ks a:=by
 obtain ⟨_,its,r,o,h1,h2,n,h3⟩:=(show ObjOk P w H h a (.tup (ks.map kV)) from ok a _ e)
 exact ⟨o,its.toArray,n,h1,h2,h3,by simpa using zed r⟩
theorem zaq {kvs:List (List Key×V)} (ok:HOk P w H h) (e:Rd H a (.dT kvs)):kvs.length<=sizeLine/\(a == sysModules)=false /\
  ∃ xs,KT H kvs xs/\h.DictOfH (tupleKind (zu0 P w)) a xs:=by
 obtain ⟨z,y,xs,r,o,es,ep,h1,h2,h3,h4,h5⟩:=(show ObjOk P w H h a (.dT kvs) from zy31 ok e)
 refine ⟨z,y,xs,r,o,es,ep,h1,h2,h3,h4,λ x hx=>?_,h5⟩
 have all:∀ {l:List (List Key×V)} {m:List (List Key×Addr×Value)},KT H l m->∀ x∈m,(tupleKind (zu0 P w)).is h x.1 x.2.1:=by
  intro l m q
  induction q with
 |nil=>intro x hx;exact nomatch hx
 |@cons p q ps qs hq t ih =>
   intro x hx
   rcases uE.mp hx with e|hx
   ·subst e
    exact zke ok (by rw [<- hq.1];exact hq.2.1)
   ·exact ih x hx
 exact all r x hx
theorem zb71 {kvs:List (List Key×V)} (ok:HOk P w H h) (e:H a=some (.dT kvs)):kvs.length<=sizeLine/\(a == sysModules)=false /\
  ∃ xs,KT H kvs xs/\h.DictOfH (tupleKind (zu0 P w)) a xs:=zaq ok (.inl e)
end
def DGet (H:Hp) (a:Addr) (y:V) (r:Option V):Prop :=
 (∃ kvs k,Rd H a (.dK kvs)/\y=kV k/\r=valV kvs k) \/ ∃ kvs k b,Rd H a (.dT kvs)/\y=.ref b/\H b=some (.tup (k.map kV))/\r=valV kvs k
def DPut (H:Hp) (a:Addr) (y v:V) (H':Hp):Prop :=
 (∃ kvs k,H a=some (.dK kvs)/\y=kV k/\kvs.length < sizeLine/\H'=upd H a (.dK (putK kvs k v))) \/
 ∃ kvs k b,H a=some (.dT kvs)/\y=.ref b/\H b=some (.tup (k.map kV))/\kvs.length < sizeLine/\H'=upd H a (.dT (putK kvs k v))
theorem DGet.k {H:Hp} {a:Addr} {kvs:List (Key×V)} {k:Key} (e:H a=some (.dK kvs)):DGet H a (kV k) (valV kvs k):=.inl ⟨kvs,k,.inl e,rfl,rfl⟩
theorem DGet.t {H:Hp} {a b:Addr} {kvs:List (List Key×V)} {k:List Key} (e:H a=some (.dT kvs)) (eb:H b=some (.tup (k.map kV))):DGet H a (.ref b) (valV kvs k):=.inr ⟨kvs,k,b,.inl e,rfl,eb,rfl⟩
theorem DPut.k {H:Hp} {a:Addr} {kvs:List (Key×V)} {k:Key} {v:V} (e:H a=some (.dK kvs)) (hl:kvs.length < sizeLine):DPut H a (kV k) v (upd H a (.dK (putK kvs k v))):=.inl ⟨kvs,k,e,rfl,hl,rfl⟩
theorem DPut.t {H:Hp} {a b:Addr} {kvs:List (List Key×V)} {k:List Key} {v:V} (e:H a=some (.dT kvs)) (eb:H b=some (.tup (k.map kV))) (hl:kvs.length < sizeLine) :
  DPut H a (.ref b) v (upd H a (.dT (putK kvs k v))):=.inr ⟨kvs,k,b,e,rfl,eb,hl,rfl⟩
section
variable {X:Cx} {pins:List (Addr×Obj)} {Y:St} {H:Hp} {s:Shared} {a:Addr} {y v:V} {u r:Value} {o:Option V} {A:Around} {E:Value->Shared->Prop}
theorem Inv.big (I:Inv X pins Y H s):sysModules < s.heap.objs.size:=by
 have h:mainGlobals < s.heap.objs.size:=(I.mod.glob.keeps I.bk).lt
 exact Nat.lt_trans (by decide) h
theorem zid {Q:Value->Shared->Prop} (hu:A.units+1 < cLine) (I:Inv X pins Y H s) (g:DGet H a y (some v)) (ry:RelV y u) (h:∀ w' s',Inv X pins Y H s'->RelV v w'->Q w' s') :
  wpAny (model X.prog X.w) A (getItem (.ref a) u) Q E s:=by
 rcases g with ⟨kvs,k,e,ey,l⟩|⟨kvs,k,b,e,ey,eb,l⟩
 ·subst ey
  obtain ⟨z,hd,vs,rel,dd⟩:=zzp I.hok e
  obtain ⟨w',hw,rw'⟩:=RelO.some_of (v:=v) (o:=valueAt vs k) (by rw [l];exact rel.val k)
  exact wpAny_getItem_of (zdi ry) dd.mapOf hw (h w' _ (I.tok _) rw')
 ·subst ey
  cases (show u=uR b from ry)
  obtain ⟨z,hd,xs,rel,dd⟩:=zaq I.hok e
  obtain ⟨w',hw,rw'⟩:=RelO.some_of (v:=v) (o:=(atKey xs k).map (·.2)) (by rw [l];exact rel.val k)
  obtain ⟨p,hp,hp2⟩:=u6.mp hw
  refine wpAny_getItem_heap (tupleKind_room_in1 hu) (zke I.hok eb) dd hp ?_
  rw [hp2]
  exact h w' _ (I.tok _) rw'
theorem d_in {Q:Value->Shared->Prop} (hu:A.units+1 < cLine) (I:Inv X pins Y H s) (g:DGet H a y o) (ry:RelV y u) (h:∀ s',Inv X pins Y H s'->Q (.bool o.isSome) s') :
  wpAny (model X.prog X.w) A (compareOp .In u (.ref a)) Q E s:=by
 rcases g with ⟨kvs,k,e,ey,l⟩|⟨kvs,k,b,e,ey,eb,l⟩
 ·subst ey
  obtain ⟨z,hd,vs,rel,dd⟩:=zzp I.hok e
  refine wpAny_in_of (zdi ry) hd dd.mapOf ?_
  rw [<- (rel.val k).isSome_eq,<- l]
  exact h _ (I.tok _)
 ·subst ey
  cases (show u=uR b from ry)
  obtain ⟨z,hd,xs,rel,dd⟩:=zaq I.hok e
  refine wpAny_in_heap (tupleKind_room_in1 hu) (zke I.hok eb) hd dd ?_
  have q:=(rel.val k).isSome_eq
  rw [xN] at q
  rw [<- q,<- l]
  exact h _ (I.tok _)
theorem zqr {Q:Value->Shared->Prop} (hu:A.units+1 < cLine) (I:Inv X pins Y H s) (g:DGet H a y o) (ry:RelV y u) (h:∀ s',Inv X pins Y H s'->Q (.bool (!o.isSome)) s') :
  wpAny (model X.prog X.w) A (compareOp .NotIn u (.ref a)) Q E s:=by
 rcases g with ⟨kvs,k,e,ey,l⟩|⟨kvs,k,b,e,ey,eb,l⟩
 ·subst ey
  obtain ⟨z,hd,vs,rel,dd⟩:=zzp I.hok e
  refine wpAny_notIn_of (zdi ry) hd dd.mapOf ?_
  rw [<- (rel.val k).isSome_eq,<- l]
  exact h _ (I.tok _)
 ·subst ey
  cases (show u=uR b from ry)
  obtain ⟨z,hd,xs,rel,dd⟩:=zaq I.hok e
  refine wpAny_notIn_heap (tupleKind_room_in1 hu) (zke I.hok eb) hd dd ?_
  have q:=(rel.val k).isSome_eq
  rw [xN] at q
  rw [<- q,<- l]
  exact h _ (I.tok _)
theorem zu8 {h':Heap} {t':Nat} {ob:HO} (I:Inv X pins Y H s) (mu:Mut (H a)) (hs:Heap.SameBut a s.heap h') (he:∃ q,h'.get? a=some q) (new:ObjOk X.prog X.w (upd H a ob) h' a ob) :
  Inv X pins Y (upd H a ob) { s with heap:=h',toks:=t' } :=
 I.write (x:=a) (e:=a) mu (.inl rfl) (λ b q hb z=>(hs.2 b hb).trans z) he new
theorem zxg {P:Program} {w:World} {H':Hp} {h':Heap} {kvs:List (Key×V)} {vs:List (Key×Value)} (z:kvs.length<=sizeLine) (hd:(a == sysModules)=false) (rel:KV kvs vs) (dd:h'.DictOf (zu0 P w) a vs) :
  ObjOk P w H' h' a (.dK kvs):=⟨z,hd,vs,rel,dd⟩
theorem zzj {H':Hp} {Q:Unit->Shared->Prop} (hu:A.units+1 < cLine) (I:Inv X pins Y H s) (g:DPut H a y v H') (ry:RelV y u) (rv:RelV v r) (h:∀ s',Inv X pins Y H' s'->Q () s') :
  wpAny (model X.prog X.w) A (setItem (.ref a) u r) Q E s:=by
 rcases g with ⟨kvs,k,e,ey,l,eH⟩|⟨kvs,k,b,e,ey,eb,l,eH⟩
 ·subst ey eH
  obtain ⟨z,hd,vs,rel,dd⟩:=zdo I.hok e
  have hz:vs.length<=sizeLine:=by rw [<- rel.length];exact z
  have hl:(putK kvs k v).length<=sizeLine:=by have:=zz3 kvs k v;lia
  refine wpAny_setItem_pairs (hsz:=hz) (zdi ry) dd λ h' dd' hs=>h _ ?_
  have he:∃ q,h'.get? a=some q:=let ⟨q,_,_,hq,_⟩:=dd';⟨q,hq⟩
  exact zu8 I (by rw [e];exact True.intro) hs he (zxg hl hd (rel.put k rv) dd')
 ·subst ey eH
  cases (show u=uR b from ry)
  obtain ⟨z,hd,xs,rel,dd⟩:=zb71 I.hok e
  have hz:xs.length<=sizeLine:=by rw [<- Paired.length rel];exact z
  have hl:(putK kvs k v).length<=sizeLine:=by have:=zz3 kvs k v;lia
  refine wpAny_setItem_heap (hsz:=hz) (tupleKind_room_in1 hu) (zke I.hok eb) dd λ h' dd' hs=>h _ ?_
  obtain ⟨q,es,ep,hq,h2,h3,h4,_,h5⟩:=dd'
  refine zu8 I (by rw [e];exact True.intro) hs ⟨q,hq⟩ ⟨hl,hd,_,(rel.put k eb rv).keeps λ c ys ec=>?_,q,es,ep,hq,h2,h3,h4,h5⟩
  rw [zm0 (zi71 ec e (λ z=>nomatch z))]
  exact ec
end
section
variable {X:Cx} {pins:List (Addr×Obj)} {Y:St} {H:Hp} {s:Shared} {a:Addr} {kvs:List (Key×V)} {k:Key} {u:Value} {A:Around} {E:Value->Shared->Prop}
theorem zww {Q:Unit->Shared->Prop} (I:Inv X pins Y H s) (e:H a=some (.dK kvs)) (ry:RelV (kV k) u) (l:(valV kvs k).isSome=true) (h:∀ s',Inv X pins Y (upd H a (.dK (zbi kvs k))) s'->Q () s') :
  wpAny (model X.prog X.w) A (delItem (.ref a) u) Q E s:=by
 obtain ⟨z,hd,vs,rel,dd⟩:=zdo I.hok e
 refine wpAny_delItem_slot dd.typeIs (by decide) PySem.F.slot_dict_delitem
  (call_meetsIn PySem.F.slot_dict_delitem dd.typeIs PySem.F.entry_dict_delitem (PySem.F.args_dict_delitem_2 _ _) (meets_dict_delitem_pairs (zu0 X.prog X.w) a (zdi ry)) ⟨vs,dd,by rw [<- rel.length];exact z,by rw [<- (rel.val k).isSome_eq];exact l,λ h' dd' hs=>h _ ?_⟩)
 have he:∃ q,h'.get? a=some q:=let ⟨q,_,_,hq,_⟩:=dd';⟨q,hq⟩
 exact zu8 I (by rw [e];exact True.intro) hs he (zxg (vJ (znh kvs k) z) hd (rel.drop k) dd')
theorem zk61 {v:V} {more:List Value} {Q:Value->Shared->Prop} (I:Inv X pins Y H s) (e:H a=some (.dK kvs)) (ry:RelV (kV k) u) (l:valV kvs k=some v) (hm:more=[] \/ ∃ x,more=[x])
  (h:∀ w' s',Inv X pins Y (upd H a (.dK (zbi kvs k))) s'->RelV v w'->Q w' s'):wpAny (model X.prog X.w) A (call (.builtin "dict.pop") (.ref a :: u :: more)) Q E s:=by
 obtain ⟨z,hd,vs,rel,dd⟩:=zdo I.hok e
 obtain ⟨w',hw,rw'⟩:=RelO.some_of (v:=v) (o:=valueAt vs k) (by rw [<- l];exact rel.val k)
 have hp:(keyPart u).isSome=true:=by
  cases k with
 |inl i=>obtain ⟨t,q⟩:=(show ∃ t,u=wW i t from ry);subst q;rfl
 |inr x=>obtain ⟨t,q⟩:=(show ∃ t,u=wX x t from ry);subst q;rfl
 have ha:argsOk "dict.pop" ⟨.ref a :: u :: more,[]⟩:=by
  rcases hm with q|⟨x,q⟩
  ·subst q;exact PySem.F.args_dict_pop_2 _ _
  ·subst q;exact PySem.F.args_dict_pop_3 _ _ _
 refine call_meetsIn PySem.F.slot_dict_pop dd.typeIs PySem.F.entry_dict_pop ha (meets_dict_pop_there (zu0 X.prog X.w) a (zdi ry) more hm hp)
  ⟨vs,w',dd,by rw [<- rel.length];exact z,hw,λ h' dd' hs=>h w' _ ?_ rw'⟩
 have he:∃ q,h'.get? a=some q:=let ⟨q,_,_,hq,_⟩:=dd';⟨q,hq⟩
 exact zu8 I (by rw [e];exact True.intro) hs he (zxg (vJ (znh kvs k) z) hd (rel.drop k) dd')
end
theorem zwe {X:Cx} {pins:List (Addr×Obj)} {Y:St} {H:Hp} {s:Shared} {a:Addr} {y:V} {o:Option V} (I:Inv X pins Y H s) (g:DGet H a y o):s.TypeIs (.ref a) "dict":=by
 rcases g with ⟨kvs,k,e,_,_⟩|⟨kvs,k,b,e,_,_,_⟩
 ·obtain ⟨_,_,vs,_,dd⟩:=zzp I.hok e
  exact dd.typeIs
 ·obtain ⟨_,_,xs,_,dd⟩:=zaq I.hok e
  exact dd.typeIs
section
variable {X:Cx} {o i e value:Expr} {pos pos' tpos:Pos} {td ty tv:TE}
end
theorem zcg {P:Program} {w:World} {H:Hp} (h:Heap) (hb:sysModules < h.objs.size):ObjOk P w H (h.push { cls:=.type "dict",data:=.dict #[] }) h.objs.size (.dK []) :=
 ⟨vZ _,beq_eq_false_iff_ne.mpr (Ne.symm (uY hb)),[],.nil,Heap.DictOf.new h⟩
def zqv:TE:=λ _ H Q=>∀ p,H p=none->Q (.ref p) (upd H p (.dK []))
section
variable {X:Cx} {pos:Pos}
theorem zon:PE X (.Dict [] [] pos) zqv:=λ pins s Y H Q I h =>
 wpAny_Dict_empty ⟨.ref s.heap.objs.size,_,I.laid (a:=s.heap.objs.size) (o:=.dK []) (t':=s.toks) (λ _ _ q=>uH _ q) (uF _) (zcg s.heap I.big),rfl,h _ (I.hok.fresh (uF _))⟩
end
def zwm:List (TE×TE)->St->Hp->(List (V×V)->Hp->Prop)->Prop
|[],_,H,Q=>Q [] H
|(tk,tv) :: r,Y,H,Q=>tk Y H λ x H1=>tv Y H1 λ y H2=>zwm r Y H2 λ ps H3=>Q ((x,y) :: ps) H3
abbrev VV:List (V×V)->List (Value×Value)->Prop:=Paired λ p q=>RelV p.1 q.1/\RelV p.2 q.2
def PPs (X:Cx) (pos:Pos) (keys:List (Option Expr)) (values:List Expr) (trs:List (TE×TE)):Prop :=
 ∀ (pins:List (Addr×Obj)) (s:Shared) (Y:St) (H:Hp) (Q:List (V×V)->Hp->Prop),Inv X pins Y H s->zwm trs Y H Q ->
  wpAny (model X.prog X.w) X.A (evalPairs (pairTrees keys values X.env pos)) (λ vs s'=>∃ ps H',Inv X pins Y H' s'/\VV ps vs/\Q ps H') X.xe s
theorem zim {X:Cx} {pos:Pos}:PPs X pos [] [] []:=λ pins s Y H Q I h=>pairTrees_nil_walk ⟨[],H,I,.nil,h⟩
theorem zqf {X:Cx} {pos:Pos} {k v:Expr} {ks:List (Option Expr)} {vs:List Expr} {tk tv:TE} {trs:List (TE×TE)} (hk:PE X k tk) (hv:PE X v tv) (hr:PPs X pos ks vs trs) :
  PPs X pos (some k :: ks) (v :: vs) ((tk,tv) :: trs):=λ pins s Y H Q I h =>
 pairTrees_cons_walk (thn (hk pins s Y H _ I h) λ u s1 ⟨x,H1,I1,rx,q1⟩=>thn (hv pins s1 Y H1 _ I1 q1) λ w2 s2 ⟨y,H2,I2,ry,q2⟩ =>
  thn (hr pins s2 Y H2 _ I2 q2) λ ws s3 ⟨ps,H3,I3,rel,q3⟩=>⟨(x,y) :: ps,H3,I3,.cons ⟨rx,ry⟩ rel,q3⟩)
def zo9 (kvs more:List (Key×V)):List (Key×V):=more.foldl (λ acc kv=>putK acc kv.1 kv.2) kvs
theorem KV.merge:∀ {more:List (Key×V)} {rs:List (Key×Value)} {kvs:List (Key×V)} {vs:List (Key×Value)},KV more rs->KV kvs vs->KV (zo9 kvs more) (merged vs rs):=by
 intro more rs kvs vs r
 unfold KV at r
 induction r generalizing kvs vs with
|nil=>intro q;exact q
|@cons p q ps qs h t ih =>
  intro r0
  have e:KV (putK kvs p.1 p.2) (stored vs q.1 q.2):=by
   have:=r0.put p.1 h.2
   rw [<- h.1];exact this
  exact ih e
theorem zb6:∀ (more kvs:List (Key×V)),(zo9 kvs more).length<=kvs.length+more.length
|[],kvs=>by show kvs.length<=kvs.length+0;lia
|p :: r,kvs=>by
  have h1:=zb6 r (putK kvs p.1 p.2)
  have h2:=zz3 kvs p.1 p.2
  show (zo9 (putK kvs p.1 p.2) r).length<=_
  rw [vP];lia
theorem zob {P:Program} {w:World}:∀ {kvs:List (Key×V)} {ws:List (Value×Value)},VV (kvs.map λ kv=>(kV kv.1,kv.2)) ws->∃ rs,Carries (zu0 P w) ws rs/\KV kvs rs
|[],_,r=>by rw [wZ] at r;cases r;exact ⟨[],True.intro,.nil⟩
|p :: kvs,_,r=>by
  rw [uK] at r
  cases r with
 |@cons a b as bs h t =>
   obtain ⟨rs,c,q⟩:=zob (P:=P) (w:=w) t
   obtain ⟨b1,b2⟩:=b
   exact ⟨(p.1,b2) :: rs,⟨zdi h.1,rfl,c⟩,.cons ⟨rfl,h.2⟩ q⟩
def zvx (trs:List (TE×TE)):TE:=λ Y H Q=>∀ p,H p=none->zwm trs Y (upd H p (.dK [])) λ ps H2=>H2 p=some (.dK [])/\∃ kvs:List (Key×V),ps=kvs.map (λ kv=>(kV kv.1,kv.2))/\kvs.length<=15/\Q (.ref p) (upd H2 p (.dK (zo9 [] kvs)))
theorem zem {X:Cx} {pos:Pos} {keys:List (Option Expr)} {values:List Expr} {trs:List (TE×TE)} (h:PPs X pos keys values trs) (hall:keys.all (·.isSome)=true) (hl:keys.length=values.length) (h0:keys≠[])
  (h15:keys.length<=15):PE X (.Dict keys values pos) (zvx trs):=by
 intro pins s Y H Q I q
 have hn:=I.hok.fresh (uF s.heap.objs.size)
 have I1:=I.laid (a:=s.heap.objs.size) (o:=.dK []) (h':=s.heap.push { cls:=.type "dict",data:=.dict #[] }) (t':=s.toks) (λ _ _ q=>uH _ q) (uF _) (zcg s.heap I.big)
 refine wpAny_Dict_walk (knd:=zu0 X.prog X.w) hall hl h0 h15 (thn (h pins _ Y _ _ I1 (q _ hn)) λ ws s2 ⟨ps,H2,I2,rel,e,kvs,ep,lk,q2⟩=>?_)
 subst ep
 obtain ⟨rs,c,rk⟩:=zob (P:=X.prog) (w:=X.w) rel
 obtain ⟨z,hd,vs0,r0,dd⟩:=zdo I2.hok e
 cases r0
 refine ⟨rs,c,dd,λ h' dd' hs=>⟨.ref s.heap.objs.size,_,?_,rfl,q2⟩⟩
 have hz:(zo9 [] kvs).length<=sizeLine:=by
  have h1:=zb6 kvs []
  rw [xM] at h1
  rw [sizeLine_eq];lia
 have he:∃ q,h'.get? s.heap.objs.size=some q:=let ⟨q,_,_,hq,_⟩:=dd';⟨q,hq⟩
 exact zu8 I2 (by rw [e];exact True.intro) hs he (zxg hz hd (rk.merge .nil) dd')
structure M1 (X:Cx) (o:Expr) (m:Str) (apos:Pos) (e:Expr) (cpos:Pos):Prop where
 base:attributeBase o m X.env (eval o X.env)=eval o X.env
 few:((backTo cpos (starEach [e] X.env)).all (λ x=>!x.1) && (backToKw cpos (keywordEach [] X.env)).all (λ x=>x.1.isSome)
  && decide (([e]:List Expr).length+([]:List Keyword).length+(if ([]:List Keyword).isEmpty then 0 else 1) < 30))=true
 line:(apos.endLine == cpos.line)=true
 trees:backTo cpos (starEach [e] X.env)=[(false,eval e X.env)]
structure M2 (X:Cx) (o:Expr) (m:Str) (apos:Pos) (e f:Expr) (cpos:Pos):Prop where
 base:attributeBase o m X.env (eval o X.env)=eval o X.env
 few:((backTo cpos (starEach [e,f] X.env)).all (λ x=>!x.1) && (backToKw cpos (keywordEach [] X.env)).all (λ x=>x.1.isSome)
  && decide (([e,f]:List Expr).length+([]:List Keyword).length+(if ([]:List Keyword).isEmpty then 0 else 1) < 30))=true
 line:(apos.endLine == cpos.line)=true
 trees:backTo cpos (starEach [e,f] X.env)=[(false,eval e X.env),(false,eval f X.env)]
section
variable {X:Cx} {pins:List (Addr×Obj)} {Y:St} {H:Hp} {s:Shared} {a:Addr} {y d:V} {u r:Value} {o:Option V} {A:Around} {E:Value->Shared->Prop}
theorem znx {Q:Value->Shared->Prop} (hu:A.units+1 < cLine) (I:Inv X pins Y H s) (g:DGet H a y o) (ry:RelV y u) (rd:RelV d r) (h:∀ w' s',Inv X pins Y H s'->RelV (o.getD d) w'->Q w' s') :
  wpAny (model X.prog X.w) A (call (.builtin "dict.get") [.ref a,u,r]) Q E s:=by
 rcases g with ⟨kvs,k,e,ey,l⟩|⟨kvs,k,b,e,ey,eb,l⟩
 ·subst ey
  obtain ⟨z,hd,vs,rel,dd⟩:=zzp I.hok e
  refine call_meetsIn PySem.F.slot_dict_get dd.typeIs PySem.F.entry_dict_get (PySem.F.args_dict_get_3 _ _ _) (meets_dict_get_default (zu0 X.prog X.w) a (zdi ry) hd r) ⟨_,dd.mapOf,h _ _ (I.tok _) ?_⟩
  rw [l]
  exact (rel.val k).getD rd
 ·subst ey
  cases (show u=uR b from ry)
  obtain ⟨z,hd,xs,rel,dd⟩:=zaq I.hok e
  refine call_meetsIn PySem.F.slot_dict_get dd.typeIs PySem.F.entry_dict_get (PySem.F.args_dict_get_3 _ _ _) (meetsH_dict_get_default (tupleKind (zu0 X.prog X.w)) a b hd r) ⟨tupleKind_room_in1 hu,k,xs,zke I.hok eb,dd,h _ _ (I.tok _) ?_⟩
  rw [l]
  exact (rel.val k).getD rd
end
section
variable {X:Cx} {o e f:Expr} {apos cpos:Pos} {td ty tx:TE}
end
section
variable {X:Cx} {pins:List (Addr×Obj)} {Y:St} {H:Hp} {s:Shared} {a:Addr} {kvs:List (Key×V)} {A:Around} {E:Value->Shared->Prop}
end
section
variable {X:Cx} {pins:List (Addr×Obj)} {Y:St} {H:Hp} {s:Shared} {a:Addr} {y:V} {u:Value} {A:Around} {E:Value->Shared->Prop}
end
end _2
namespace _3
open PySem PySem.Spec PyProof.Rows _2
def rInD:R2:=λ x y H Q=>∃ a o,y=.ref a/\DGet H a x o/\Q (.bl o.isSome) H
def ztl:R2:=λ x y H Q=>∃ a o,y=.ref a/\DGet H a x o/\Q (.bl (!o.isSome)) H
def rIxD:R2:=λ x y H Q=>∃ a v,x=.ref a/\DGet H a y (some v)/\Q v H
def zi41:V->V->V->Hp->(Hp->Prop)->Prop:=λ o i v H Q=>∃ a H',o=.ref a/\DPut H a i v H'/\Q H'
section
variable {X:Cx}
theorem zjz (hu:X.A.units+64 < cLine):OpR X (compareOp .In) rInD:=by
 intro pins s Y H x y v u Q I rx ry h
 obtain ⟨a,o,rfl,g,q⟩:=h
 obtain rfl:u=uR a:=ry
 exact d_in (by lia) I g rx λ s3 I3=>⟨.bl o.isSome,H,I3,rfl,q⟩
theorem zqk (hu:X.A.units+64 < cLine):OpR X (compareOp .NotIn) ztl:=by
 intro pins s Y H x y v u Q I rx ry h
 obtain ⟨a,o,rfl,g,q⟩:=h
 obtain rfl:u=uR a:=ry
 exact zqr (by lia) I g rx λ s3 I3=>⟨.bl (!o.isSome),H,I3,rfl,q⟩
theorem ix_D (hu:X.A.units+64 < cLine):IxR X rIxD:=by
 intro value slice pins s Y H x y v u Q I rx ry h hs
 obtain ⟨a,v',rfl,g,q⟩:=h
 obtain rfl:v=uR a:=rx
 exact tail_any (zwe I g) PySem.F.slot_dict_getitem.lookup (zid (by lia) I g ry λ w' s3 I3 rw'=>⟨v',H,I3,rw',q⟩) hs
theorem zi61 (hu:X.A.units+64 < cLine):PSet X zi41:=by
 intro pins s Y H o i v ov iv u Q I ro ri rv h
 obtain ⟨a,H',rfl,g,q⟩:=h
 obtain rfl:ov=uR a:=ro
 exact zzj (by lia) I g ri rv λ s4 I4=>⟨H',I4,q⟩
theorem zc61 (hu:X.A.units+64 < cLine):PGet X rIxD:=by
 intro pins s Y H o i ov iv Q I ro ri h
 obtain ⟨a,v',rfl,g,q⟩:=h
 obtain rfl:ov=uR a:=ro
 exact zid (by lia) I g ri λ w' s3 I3 rw'=>⟨v',H,I3,rw',q⟩
def zr21 (K:Fg):R2:=λ x y H Q=>∃ a xs j v,x=.ref a/\y=.int j/\0<=j/\SqL K H a xs/\xs[j.toNat]?=some v/\Q v H
theorem zl71 {K:Fg} (hK:X.K=K):PGet X (zr21 K):=by
 subst hK
 intro pins s Y H o i ov iv Q I ro ri h
 obtain ⟨a,xs,j,v,rfl,rfl,h0,hq,he,q⟩:=h
 obtain rfl:ov=uR a:=ro
 obtain ⟨t,rfl⟩:=ri
 obtain ⟨its,r,pl,hz⟩:=I.list hq
 obtain ⟨u,eu,ru⟩:=r.get he
 have hl:=r.length
 have hn:=zvc
 have hj:=(uZ.mp he).1
 refine wpAny_getItem_list pl.isList h0 (by lia) (by simpa using eu) ⟨v,H,I,ru,q⟩
theorem PGet.or {r r':R2} (h:PGet X r) (h':PGet X r'):PGet X (λ x y H Q=>r x y H Q \/ r' x y H Q):=by
 intro pins s Y H o i ov iv Q I ro ri q
 rcases q with q|q
 ·exact h pins s Y H o i ov iv Q I ro ri q
 ·exact h' pins s Y H o i ov iv Q I ro ri q
theorem PSet.or {r r':TSet} (h:PSet X r) (h':PSet X r'):PSet X (λ o i v H Q=>r o i v H Q \/ r' o i v H Q):=by
 intro pins s Y H o i v ov iv u Q I ro ri rv q
 rcases q with q|q
 ·exact h pins s Y H o i v ov iv u Q I ro ri rv q
 ·exact h' pins s Y H o i v ov iv u Q I ro ri rv q
end
def rInV (w:World) (K:Fg):R2:=λ x y H Q=>rInW w K x y H Q \/ rInD x y H Q
def zvk (w:World) (K:Fg):R2:=λ x y H Q=>zal w K x y H Q \/ ztl x y H Q
def rIxV (w:World) (K:Fg):R2:=λ x y H Q=>rIxW w K x y H Q \/ rIxD x y H Q
def zgz (K:Fg):R2:=λ x y H Q=>zr21 K x y H Q \/ rIxD x y H Q
def zdx:V->V->V->Hp->(Hp->Prop)->Prop:=λ o i v H Q=>ze31 o i v H Q \/ zi41 o i v H Q
section
variable {X:Cx} {w:World} {K:Fg}
theorem zdy (hu:X.A.units+64 < cLine) (hw:X.w=w) (hK:X.K=K):OpR X (compareOp .In) (rInV w K):=(zw01 hw hK).or (zjz hu)
theorem zv9 (hu:X.A.units+64 < cLine) (hw:X.w=w) (hK:X.K=K):OpR X (compareOp .NotIn) (zvk w K):=(zhj hw hK).or (zqk hu)
theorem ix_V (hu:X.A.units+64 < cLine) (hw:X.w=w) (hK:X.K=K):IxR X (rIxV w K):=(ix_W hw hK).or (ix_D hu)
theorem zcx (hu:X.A.units+64 < cLine) (hK:X.K=K):PGet X (zgz K):=PGet.or (zl71 hK) (zc61 hu)
theorem zml (hu:X.A.units+64 < cLine):PSet X zdx:=PSet.or zsn (zi61 hu)
end
section
variable {w:World} {K:Fg} {H:Hp} {Q:VK} {a b:Addr} {x y v:V} {o:Option V} {xs:List V} {i:Int} {Y:St} {D:Ends}
end
section
variable {K:Fg} {H:Hp} {Q:VK} {Y caps:St} {n:Nat} {ix:List Nat} {g:TG} {tt:TT} {te:TE} {m:Nat} {J:It} {Yv:Nat->V->Hp->Prop}
end
def kBM0 (K:Fg) (T:String) (r:V->List V->Hp->VK->Prop) (x:V) (H:Hp) (Q:VK):Prop:=tyV K T x H/\r x [] H Q
def zbx (K:Fg) (T:String) (r:V->List V->Hp->VK->Prop) (to:TE):TE:=λ Y H Q=>to Y H λ x H1=>kBM0 K T r x H1 Q
theorem zkb {X:Cx} {K:Fg} (hK:X.K=K) {o:Expr} {to:TE} {name:Str} {apos cpos:Pos} {T id:String} {r:V->List V->Hp->VK->Prop} (pa:PlainAttrs T) (slot:Slot T name id) (hty:typeOf (.builtin id)=pure (.type "method_descriptor")) (hm:MtR X id r) (ho:PE X o to)
  (hbase:attributeBase o name X.env (eval o X.env)=eval o X.env:=by rfl) (hline:(apos.endLine == cpos.line)=true:=by rfl):PE X (.Call (.Attribute o name apos) [] [] cpos) (zbx K T r to):=by
 subst hK
 exact zxz pa slot hty hm ho hbase hline
section
variable {K:Fg} {T:String} {r:V->List V->Hp->VK->Prop} {to:TE} {Y:_2.St} {H:Hp} {Q:VK} {a:Addr} {xs:List V} {w:World} {x y v:V}
end
theorem ztu {X:Cx} {pins:List (Addr×Obj)} {Y:_2.St} {H:Hp} {s:Shared} {h':Heap} {t':Nat} {a c:Addr} (I:_2.Inv X pins Y H s) (k:∀ b o,b≠a->b≠c->s.heap.get? b=some o->h'.get? b=some o)
  (fa:FpOk X pins H a) (fc:FpOk X pins H c):_2.Inv X pins Y H { s with heap:=h',toks:=t' }:=by
 obtain ⟨a0,a1,_,a3,a4,a5⟩:=fa
 obtain ⟨c0,c1,_,c3,c4,c5⟩:=fc
 have na:∀ b u,H b=some u->b≠a:=λ b u e z=>by rw [z,a0] at e;cases e
 have nc:∀ b u,H b=some u->b≠c:=λ b u e z=>by rw [z,c0] at e;cases e
 refine I.step (g':=s.gens) (d':=s.drawn) (ch:=[a,c]) (λ b hb=>?_) (λ b o _ _ hc e _=>k b o (λ z=>hc (by simp [z])) (λ z=>hc (by simp [z])) e) (λ b o _ _ hc e _=>⟨o.slots,k b o (λ z=>hc (by simp [z])) (λ z=>hc (by simp [z])) e⟩) (λ _ _ _ _ n=>n)
  (λ b o hc e=>⟨o,k b o (λ z=>hc (by simp [z])) (λ z=>hc (by simp [z])) e⟩) (λ _ _ e=>e) (λ _ _ _ e=>e) (λ b ps e=>⟨#[],by rw [e];simp⟩) (λ m hm=>?_) (λ b u e=>?_) I.bare
 ·simp at hb
  rcases hb with e|e
  ·subst e;exact ⟨a3,a1,a4,a5⟩
  ·subst e;exact ⟨c3,c1,c4,c5⟩
 ·obtain ⟨o,es,ep,ho,r⟩:=hm
  exact ⟨o,es,ep,k _ o (Ne.symm a1) (Ne.symm c1) ho,r⟩
 ·refine (I.hok b u e).stay (λ d v hc q=>k d v ?_ ?_ q) (λ _ q=>q) λ _ _ q=>q
  ·rcases hc with z|z
   ·rw [z];exact na b u e
   ·exact na d _ z
  ·rcases hc with z|z
   ·rw [z];exact nc b u e
   ·exact nc d _ z
theorem zbv {h:Heap} {ob o:Obj} {b:Addr} (e:(h.push ob).get? b=some o) (n:b≠h.objs.size):h.get? b=some o:=by
 obtain ⟨e1,e2⟩:=zK.mp e
 refine zK.mpr ⟨?_,e2⟩
 cases h
 simpa [Heap.push,Array.getElem?_push,n] using e1
def Ite (K:Fg) (a:Addr):It:=⟨λ i H=>∃ xs x,SqL K H a xs/\xs[i]?=some x,λ i H x H'=>∃ y p,(∀ ys,SqL K H a ys->ys[i]?=some y)/\H p=none/\x=.ref p/\H'=upd H p (.tup [.int (i:Int),y]),λ i H=>∃ xs,SqL K H a xs/\xs.length<=i⟩
theorem zdj {P:Program} {w:World} {K:Fg} {elts:List Expr} {c:_} {pos:Pos} {a e it:Addr} (hne:e≠it) :
  Turn P w K (.Tuple elts c pos) (Ite K a) [e,it] e (λ i h=>(∃ old,IsEnum h e it (i:Int) old)/\h.IsListIter it a i) where
 mem:=by simp
 obj:=λ i h S b hb=>by
  obtain ⟨⟨old,he⟩,hi⟩:=S
  simp at hb
  rcases hb with rfl|rfl
  ·exact ⟨_,he,λ v q=>by cases q⟩
  ·obtain ⟨o,e1,c1,d1⟩:=hi
   exact ⟨o,e1,λ v z=>by rw [d1] at z;cases z⟩
 keep:=λ i h h' S k=>by
  obtain ⟨⟨old,he⟩,hi⟩:=S
  exact ⟨⟨old,k _ (by simp) _ he⟩,hi.at λ o e1=>k it (by simp) o e1⟩
 item:=by
  intro X hP hw hK hc i pins s Y H E I hf S hg
  subst hP hw hK
  obtain ⟨⟨old,he⟩,hi⟩:=S
  obtain ⟨xs,x,hq,hx⟩:=hg
  obtain ⟨its,rv,p,hz⟩:=I.list hq
  obtain ⟨u,hu,ru⟩:=rv.get hx
  refine wpAny_pyNext_enum_item he hi p.isList (x:=u) (by simpa using hu) hne λ h' ho hi' ht hsz hk=>?_
  have eL:e < s.heap.objs.size:=uN he
  have iL:it < s.heap.objs.size:=by obtain ⟨o,e1,_⟩:=hi;exact uN e1
  have hfr:=I.hok.fresh (uF s.heap.objs.size)
  have I1:_2.Inv X pins Y (upd H s.heap.objs.size (.tup [.int (i:Int),x])) { s with heap:=s.heap.push { cls:=.type "tuple",data:=.seq #[.int i s.toks,u] },toks:=s.toks+1 } :=
   I.laid (t':=s.toks+1) (o:=.tup [.int (i:Int),x]) (λ b ob q=>uH _ q) (uF _) ⟨by show 2<=sizeLine;rw [sizeLine_eq];decide,[.int i s.toks,u],.cons ⟨_,rfl⟩ (.cons ru .nil),IsTup.new _ _⟩
  have fe:=hf e (by simp)
  have fi:=hf it (by simp)
  have fe1:FpOk X pins (upd H s.heap.objs.size (.tup [.int (i:Int),x])) e:=⟨by rw [zm0 (uY eL)];exact fe.1,fe.2⟩
  have fi1:FpOk X pins (upd H s.heap.objs.size (.tup [.int (i:Int),x])) it:=⟨by rw [zm0 (uY iL)];exact fi.1,fi.2⟩
  have I2:_2.Inv X pins Y (upd H s.heap.objs.size (.tup [.int (i:Int),x])) { s with heap:=h',toks:=s.toks+1 } :=
   ztu (s:={ s with heap:=s.heap.push { cls:=.type "tuple",data:=.seq #[.int i s.toks,u] },toks:=s.toks+1 }) I1 (λ b o nb1 nb2 q=>by
    by_cases z:b=s.heap.objs.size
    ·subst z
     have q':(s.heap.push { cls:=.type "tuple",data:=.seq #[.int i s.toks,u] }).get? s.heap.objs.size=some o:=q
     rw [uT _ rfl] at q'
     cases q'
     exact ht
    ·exact hk b o nb1 nb2 (zbv q z)) fe1 fi1
  refine ⟨.ref s.heap.objs.size,rfl,wpAny_letOwnedTupleGo_enum ho λ h2 he2 hs2=>?_⟩
  refine ⟨.ref s.heap.objs.size,_,zw0 (tk:=s.toks+1) I2 fe1 hs2,rfl,⟨x,s.heap.objs.size,λ ys hy=>by rw [I.list_inj hy hq];exact hx,hfr,rfl,rfl⟩,⟨⟨u,by simpa using he2⟩,hi'.at λ o e1=>hs2.extBut _ _ (Ne.symm hne) e1⟩,λ b hb=>?_⟩
  simp at hb
  rcases hb with rfl|rfl
  ·exact fe1.1
  ·exact fi1.1
 done:=by
  intro X hP hw hK hc i pins s Y H E I hf S hg
  subst hP hw hK
  obtain ⟨⟨old,he⟩,hi⟩:=S
  obtain ⟨xs,hq,hx⟩:=hg
  obtain ⟨its,rv,p,hz⟩:=I.list hq
  have hl:=rv.length
  exact wpAny_pyNext_enum_end (I.ok.hd hc) he hi p.isList (by simp;lia) λ h' eb=>⟨rfl,zve (tk:=s.toks) I (hf it (by simp)) eb⟩
 self:=λ _ _ _ _ _ S h=>wpAny_pyIter_enum S.1.choose_spec h
theorem zic:bootBuiltins "enumerate"=some (.type "enumerate"):=by decide +kernel
section
variable {X:Cx} {elts:List Expr}
def zu51 (K:Fg) (vs:List V) (H:Hp) (R:It->Hp->Prop):Prop:=∃ a xs,vs=[.ref a]/\SqL K H a xs/\R (Ite K a) H
def zt11 (K:Fg) (ta:TA):TI:=λ Y H R=>ta Y H λ vs H1=>zu51 K vs H1 R
theorem zh7 {K:Fg} (hK:X.K=K) {c:_} {tpos:Pos} {a:Expr} {ta:TA} {p pos:Pos} (hg:Gl X "enumerate") (hm:X.mg "enumerate"=none) (ha:PA X [a] ta) (hs:starEach [a] X.env=[(false,eval a X.env)]:=by rfl) :
  PI X (.Tuple elts c tpos) (.Call (.Name "enumerate" p) [a] [] pos) (zt11 K ta):=by
 subst hK
 intro pins s Y H R I h
 refine Call_ (zg9 I hg hm zic (PyProof.Rows.callWith_type1 (thn (ha pos pins s Y H _ I h) λ us s1 ⟨vs,H1,I1,r1,q1⟩=>?_) (by rw [hs];rfl) (by rfl)))
 obtain ⟨l,xs,e,hq,q⟩:=q1
 subst e
 obtain ⟨u1,rfl,ru⟩:=zoe r1
 obtain rfl:u1=uR l:=ru
 obtain ⟨its,rv,pl,hz⟩:=I1.list hq
 refine call_enumerate_list pl.isList ?_
 intro h' he hi hsz kk
 refine wpAny_pyIter_enum he ?_
 have I2:_2.Inv X pins Y H1 { s1 with heap:=h' }:=I1.kept (t':=s1.toks) kk
 refine ⟨s1.heap.objs.size+1,[s1.heap.objs.size+1,s1.heap.objs.size],_,_,H1,rfl,I2,zdj (Nat.succ_ne_self _),⟨⟨.none,he⟩,hi⟩,λ b hb=>?_,q⟩
 have hb':s1.heap.objs.size<=b:=by
  simp at hb
  rcases hb with z|z
  ·exact z ▸ xG _
  ·exact z ▸ uF _
 exact I1.fpOk hb' (I1.hok.fresh hb')
end
section
variable {K:Fg} {H:Hp} {a:Addr} {xs:List V} {Y:_2.St} {ta:TA}
end
def zrz:R2:=λ x y H Q=>zr31 x y H Q \/ rRep x y H Q
theorem zg5 {X:Cx}:OpR X (binaryOp .Mult) zrz:=zpv.or zcs
def zgo:V->List V->Hp->VK->Prop:=λ x vs H Q=>∃ a k d o,x=.ref a/\vs=[k,d]/\DGet H a k o/\Q (o.getD d) H
theorem zir {X:Cx} (hu:X.A.units+64 < cLine):MtR X "dict.get" zgo:=by
 intro pins s Y H x xs v us Q I rx rv h
 obtain ⟨a,k,d,o,rfl,rfl,g,q⟩:=h
 obtain ⟨u,r,rfl,ru,rr⟩:=zt21 rv
 obtain rfl:v=uR a:=rx
 exact znx (by lia) I g ru rr λ w' s3 I3 rw'=>⟨o.getD d,H,I3,rw',q⟩
section
variable {K:Fg} {r:V->List V->Hp->VK->Prop} {t:TA} {Y:_2.St} {H:Hp} {Q:VK} {a:Addr} {d k:V} {o:Option V}
end
section
variable {X:Cx}
def zk31 (K:Fg):R2:=λ x y H Q=>∃ l b xs zs,x=.ref l/\y=.ref b/\SqL K H l xs/\SqL K H b zs/\xs.length+zs.length<=sizeLine/\∀ p,H p=none->Q (.ref p) (upd H p (.lst (xs++zs)))
theorem zuu {K:Fg} (hK:X.K=K):OpR X (binaryOp .Add) (zk31 K):=by
 subst hK
 intro pins s Y H x y v u Q I rx ry h
 obtain ⟨l,b,xs,zs,rfl,rfl,hH,hB,hz,q⟩:=h
 cases rx
 cases ry
 obtain ⟨its,r,⟨⟨cls,dd,data,sl⟩,n,ho,hc,_,hd⟩,z1⟩:=I.list hH
 obtain ⟨its2,r2,⟨⟨cls2,dd2,data2,sl2⟩,n2,ho2,hc2,_,hd2⟩,z2⟩:=I.list hB
 simp only at hc hd hc2 hd2
 subst hc hd hc2 hd2
 have e1:=r.length
 have e2:=r2.length
 refine concat_meets ⟨_,ho,rfl⟩ ⟨_,ho2,rfl⟩ noFill_list_add seq_list_add PySem.F.slot_list_add PySem.F.entry_list_add (PySem.F.args_list_add_2 _ _) (list_addW l b its.toArray its2.toArray n n2 dd dd2 sl sl2 (by simp;lia)) ⟨ho,ho2,?_⟩
 have ea:its.toArray++its2.toArray=(its++its2).toArray:=by simp
 rw [ea]
 exact ⟨.ref _,_,I.lnew (t':=s.toks) (r.append r2) (by rw [vA];lia),rfl,q _ I.fresh⟩
def zmy (K:Fg):R2:=λ x y H Q=>zq21 K x y H Q \/ zk31 K x y H Q
theorem zq1 {K:Fg} (hK:X.K=K):OpR X (binaryOp .Add) (zmy K):=(zwr hK).or (zuu hK)
def rIsS (K:Fg):List V->Hp->VK->Prop:=λ vs H Q=>∃ a cV c b,vs=[.ref a,cV]/\clsV cV=some c/\(((∃ xs,SqL K H a xs)/\PySem.W.kitOne K (.type "list") c=some b) \/ ((∃ xs,SqT K H a xs)/\PySem.W.kitOne K (.type "tuple") c=some b))/\Q (.bl b) H
theorem zbn {K:Fg} (h:X.K=K):CallR X (.builtin "isinstance") (rIsS K):=by
 subst h
 intro pins s Y H xs us Q I r h
 obtain ⟨a,cV,c,b,rfl,rc,hh,q⟩:=h
 obtain ⟨u,v,rfl,ru,rv⟩:=r.two
 obtain rfl:=zmf rc rv
 cases (show u=uR a from ru)
 rcases hh with ⟨⟨xs,hx⟩,e⟩|⟨⟨xs,hx⟩,e⟩
 ·obtain ⟨its,_,⟨o,n,ho,hc,_,hd⟩,_⟩:=I.list hx
  exact PySem.W.kia_one PySem.W.kitx_list I.kIn ⟨o,ho,hc⟩ e (λ z=>nomatch z) λ tk=>⟨.bl b,H,I.tok tk,rfl,q⟩
 ·obtain ⟨its,_,⟨o,h1,h2,_⟩,_⟩:=I.tuple hx
  exact PySem.W.kia_one PySem.W.kitx_tuple I.kIn ⟨o,h1,h2⟩ e (λ z=>nomatch z) λ tk=>⟨.bl b,H,I.tok tk,rfl,q⟩
def rIsW (K:Fg):List V->Hp->VK->Prop:=λ vs H Q=>rIsI K vs H Q \/ rIsS K vs H Q
theorem zi9 {K:Fg} (h:X.K=K):CallR X (.builtin "isinstance") (rIsW K):=(zgf h).or (zbn h)
theorem zhc (l:Addr) (items:Array Value) (n:Nat) (b:Addr) (items2:Array Value) (n2:Nat) (dd2:Option Addr) (sl2:Array (Option Value)) (hc0:¬(!items.isEmpty && Builtin.List.listTooLong (items.size+items2.size))=true) (hc1:items.size<=sizeLine) (hs2:items.size+items2.size<=sizeLine+1) :
  Meets (Builtin.«list.extend» ⟨[.ref l,.ref b],[]⟩) (λ _ R s=>s.heap.get? l=some { cls:=.type "list",dict:=none,data:=.seq items n,slots:=#[] }/\s.heap.get? b=some { cls:=.type "list",dict:=dd2,data:=.seq items2 n2,slots:=sl2 }/\R (.ok (.ret v8)) { s with heap:=s.heap.update l (Obj.mapSeq λ x=>x++items2),toks:=s.toks }) :=
 .of_wp λ prog w A R s h=>by
  obtain ⟨hp,g,d,tk,os⟩:=s;obtain ⟨hl,hb,h⟩:=h;have f1:=AutoSeq1.idx_int;have f2:=AutoSeq1.sub_tuple_tuple;have f3:=AutoSeq1.sub_list_list;have f4:=AutoSeq1.sub_tuple_list;have f5:=AutoSeq1.sub_list_tuple
  have hz':(items++items2).size<=sizeLine+1:=by rw [Array.size_append];exact hs2
  wp_walk using (wpAny_updateSeq hl rfl (hz:=hc1) (_hz':=hz')),wpAny_loadPart' hl,wpAny_loadPart' hb;exact ⟨_,rfl,h⟩
def zpg (K:Fg):V->List V->Hp->VK->Prop:=λ x vs H Q=>∃ l b xs zs,x=.ref l/\vs=[.ref b]/\H l=some (.lst xs)/\SqL K H b zs/\xs.length+zs.length<=sizeLine/\Q .non (upd H l (.lst (xs++zs)))
theorem zg7 {K:Fg} (hK:X.K=K):MtM X "list.extend" (zpg K):=by
 subst hK
 intro pins s Y H x vs v us Q I rx rv h
 obtain ⟨l,b,xs,zs,rfl,rfl,hH,hB,hz,q⟩:=h
 cases rx
 obtain ⟨u,rfl,ru⟩:=rv.one
 cases ru
 obtain ⟨z,its,n,r,hl,e⟩:=I.lstM hH
 obtain ⟨its2,r2,⟨⟨cls2,dd2,data2,sl2⟩,n2,ho2,hc2,_,hd2⟩,z2⟩:=I.list hB
 simp only at hc2 hd2
 subst hc2 hd2
 have hl2:=r2.length
 have hsz:its.toArray.size+its2.toArray.size<=sizeLine:=by rw [uS,uS];lia
 have hlong:¬ (!its.toArray.isEmpty && Builtin.List.listTooLong (its.toArray.size+its2.toArray.size))=true:=by
  rw [zjc hsz,Bool.and_false]
  exact uV
 refine call_meets F.slot_list_extend ⟨_,e,rfl⟩ F.entry_list_extend (F.args_list_extend_2 _ _)
  (zhc l its.toArray n b its2.toArray n2 dd2 sl2 hlong (by rw [uS];lia) (by lia)) ⟨e,ho2,?_⟩
 refine ⟨.non,_,I.lset (its':=its++its2) hH e (by simp) (r.append r2) ?_,rfl,q⟩
 rw [vA]
 lia
end
theorem IsAll.dlen {K:Fg} {F:Hp}:∀ {xs:List V} {ds:List PyData},IsAll K F xs ds->xs.length=ds.length
|_,_,.nil=>rfl
|_,_,.cons _ r=>congrArg (·+1) (IsAll.dlen r)
theorem IsAll.dget {K:Fg} {F:Hp}:∀ {xs:List V} {ds:List PyData} {i:Nat} {d:PyData},IsAll K F xs ds->ds[i]?=some d->∃ x,xs[i]?=some x/\Is K F x d
|_,_,_,_,.nil,e=>by simp at e
|_,_,0,_,.cons h _,e=>by simp at e;subst e;exact ⟨_,rfl,h⟩
|_,_,i+1,d,.cons _ r,e=>by
  obtain ⟨x,h1,h2⟩:=IsAll.dget (i:=i) (d:=d) r (by simpa using e)
  exact ⟨x,by simpa using h1,h2⟩
theorem IsAll.dapp {K:Fg} {F:Hp}:∀ {xs ys:List V} {ds es:List PyData},IsAll K F xs ds->IsAll K F ys es->IsAll K F (xs++ys) (ds++es)
|_,_,_,_,.nil,s=>s
|_,_,_,_,.cons h r,s=>.cons h (IsAll.dapp r s)
theorem IsAll.dtake {K:Fg} {F:Hp}:∀ (n:Nat) {xs:List V} {ds:List PyData},IsAll K F xs ds->IsAll K F (xs.take n) (ds.take n)
|0,_,_,_=>.nil
|_+1,_,_,.nil=>.nil
|n+1,_,_,.cons h r=>.cons h (IsAll.dtake n r)
theorem IsAll.ddrop {K:Fg} {F:Hp}:∀ (n:Nat) {xs:List V} {ds:List PyData},IsAll K F xs ds->IsAll K F (xs.drop n) (ds.drop n)
|0,_,_,h=>h
|_+1,_,_,.nil=>.nil
|n+1,_,_,.cons _ r=>IsAll.ddrop n r
theorem IsAll.dset {K:Fg} {F:Hp} {x:V} {d:PyData} (hx:Is K F x d):∀ (n:Nat) {xs:List V} {ds:List PyData},IsAll K F xs ds->IsAll K F (xs.set n x) (ds.set n d)
|_,_,_,.nil=>.nil
|0,_,_,.cons _ r=>.cons hx r
|n+1,_,_,.cons h r=>.cons h (IsAll.dset hx n r)
theorem Is.list_inv {K:Fg} {F:Hp} {v:V} {ds:List PyData} (h:Is K F v (.list ds)):∃ a xs,v=.ref a/\SqL K F a xs/\IsAll K F xs ds:=by
 cases h with
|lst h1 h2=>exact ⟨_,_,rfl,h1,h2⟩
theorem Is.tuple_inv {K:Fg} {F:Hp} {v:V} {ds:List PyData} (h:Is K F v (.tuple ds)):∃ a xs,v=.ref a/\SqT K F a xs/\IsAll K F xs ds:=by
 cases h with
|tup h1 h2=>exact ⟨_,_,rfl,SqT.of h1,h2⟩
|tuc h1 h2 _=>exact ⟨_,_,rfl,h1,h2⟩
theorem Is.int_inv {K:Fg} {F:Hp} {v:V} {i:Int} (h:Is K F v (.int i)):v=.int i:=by cases h;rfl
theorem Is.bl_inv {K:Fg} {F:Hp} {v:V} {b:Bool} (h:Is K F v (.bool b)):v=.bl b:=by cases h;rfl
theorem Is.str_inv {K:Fg} {F:Hp} {v:V} {b:Str} (h:Is K F v (.str b)):v=.str b:=by cases h;rfl
theorem Is.non_inv {K:Fg} {F:Hp} {v:V} (h:Is K F v .none):v=.non:=by cases h;rfl
end _3
namespace _4
open PySem PySem.Spec PyProof.Rows _2 _3
abbrev D:=PyData
def HD (x:Option HO):Prop:=x≠none/\∀ ks:List Key,x≠some (.tup (ks.map kV))
theorem HD.mono {H H':Hp} {a:Addr} (h:HD (H a)) (s:Same H H'):HD (H' a):=by
 cases e:H a with
|none=>exact absurd e h.1
|some o=>rw [s a o e,<- e];exact h
theorem HD.of {H:Hp} {a:Addr} {o:HO} (h:H a=some o) (n:∀ ks:List Key,o≠.tup (ks.map kV)):HD (H a):=by
 rw [h];exact ⟨by simp,λ ks z=>n ks (u7.inj z)⟩
theorem zxh {H:Hp} {a:Addr} {o:HO} (h:HD (upd H a o a)):∀ b,(H b≠none->upd H a o b≠none)/\(HD (H b)->HD (upd H a o b)):=λ b=>by
 by_cases z:b=a
 ·rw [z];exact ⟨λ _=>h.1,λ _=>h⟩
 ·rw [zm0 z];exact ⟨id,id⟩
structure Ext (F H F' H':Hp):Prop where
 h:Same H H'
 f:Same F F'
 fh:Same F' H'
 nw:∀ a,HD (H a)->F a=none->F' a=none
theorem Ext.refl {F H:Hp} (s:Same F H):Ext F H F H:=⟨λ _ _ z=>z,λ _ _ z=>z,s,λ _ _ z=>z⟩
theorem Ext.trans {F H F1 H1 F2 H2:Hp} (a:Ext F H F1 H1) (b:Ext F1 H1 F2 H2):Ext F H F2 H2 :=
 ⟨a.h.trans b.h,a.f.trans b.f,b.fh,λ c hc fc=>b.nw c (hc.mono a.h) (a.nw c hc fc)⟩
theorem Ext.nwo {F H F' H':Hp} {a:Addr} {o:HO} (e:Ext F H F' H') (h:H a=some o) (n:∀ ks:List Key,o≠.tup (ks.map kV)) (f:F a=none):F' a=none:=e.nw a (.of h n) f
inductive T where
|fz (d:D)|li (ds:List D)|ls (ts:List T)|ob (C:Addr) (fs:List (Str×T))|dk (kvs:List (Key×D))|dt (kvs:List (List Key×D))|tp (ts:List T)|wh|dd (ts:List (Key×T))
inductive KvIs (K:Fg) (F:Hp) {κ:Type}:List (κ×V)->List (κ×D)->Prop
|nil:KvIs K F [] []
|cons {k:κ} {v:V} {d:D} {r:List (κ×V)} {s:List (κ×D)}:Is K F v d->KvIs K F r s->KvIs K F ((k,v) :: r) ((k,d) :: s)
theorem KvIs.mono {K:Fg} {F F':Hp} {κ:Type} (s:Same F F'):∀ {r:List (κ×V)} {t:List (κ×D)},KvIs K F r t->KvIs K F' r t
|_,_,.nil=>.nil
|_,_,.cons h r=>.cons (h.mono s) (r.mono s)
mutual
inductive Rt (K:Fg) (F H:Hp):V->T->List Addr->Prop
|fz {v:V} {d:D}:Is K F v d->Rt K F H v (.fz d) []
|li {a:Addr} {xs:List V} {ds:List D}:H a=some (.lst xs)->F a=none->IsAll K F xs ds->Rt K F H (.ref a) (.li ds) [a]
|ls {a:Addr} {xs:List V} {ts:List T} {fp:List Addr}:H a=some (.lst xs)->F a=none->RtAll K F H xs ts fp->Rt K F H (.ref a) (.ls ts) (a :: fp)
|ob {a C dx:Addr} {fs:List (Str×V)} {ts:List (Str×T)} {fp:List Addr}:H a=some (.ins C dx fs)->H dx=some (.own a)->F a=none->F dx=none->RtFs K F H fs ts fp->Rt K F H (.ref a) (.ob C ts) (a :: dx :: fp)
|dk {a:Addr} {kvs:List (Key×V)} {ds:List (Key×D)}:H a=some (.dK kvs)->F a=none->KvIs K F kvs ds->Rt K F H (.ref a) (.dk ds) [a]
|dt {a:Addr} {kvs:List (List Key×V)} {ds:List (List Key×D)}:H a=some (.dT kvs)->F a=none->KvIs K F kvs ds->Rt K F H (.ref a) (.dt ds) [a]
|tp {a:Addr} {xs:List V} {ts:List T} {fp:List Addr}:H a=some (.tup xs)->F a=none->(∀ ks:List Key,xs≠ks.map kV)->RtAll K F H xs ts fp->Rt K F H (.ref a) (.tp ts) (a :: fp)
|wh {a:Addr}:Rt K F H (.ref a) .wh []
|dd {a:Addr} {kvs:List (Key×V)} {ts:List (Key×T)} {fp:List Addr}:H a=some (.dK kvs)->F a=none->kvs.map (·.1)=ts.map (·.1)->RtAll K F H (kvs.map (·.2)) (ts.map (·.2)) fp->Rt K F H (.ref a) (.dd ts) (a :: fp)
inductive RtAll (K:Fg) (F H:Hp):List V->List T->List Addr->Prop
|nil:RtAll K F H [] [] []
|cons {x:V} {t:T} {xs:List V} {ts:List T} {fp fq:List Addr}:Rt K F H x t fp->RtAll K F H xs ts fq->RtAll K F H (x :: xs) (t :: ts) (fp++fq)
inductive RtFs (K:Fg) (F H:Hp):List (Str×V)->List (Str×T)->List Addr->Prop
|nil:RtFs K F H [] [] []
|cons {f:Str} {x:V} {t:T} {xs:List (Str×V)} {ts:List (Str×T)} {fp fq:List Addr}:Rt K F H x t fp->RtFs K F H xs ts fq->RtFs K F H ((f,x) :: xs) ((f,t) :: ts) (fp++fq)
end
section
variable {K:Fg} {F H F' H':Hp}
theorem Rt.ind {P : V → T → List Addr → Prop} {Q : List V → List T → List Addr → Prop} {R : List (Str × V) → List (Str × T) → List Addr → Prop}
    (c1 : ∀ {v : V} {d : D}, Is K F v d → P v (.fz d) [])
    (c2 : ∀ {a : Addr} {xs : List V} {ds : List D}, H a = some (.lst xs) → F a = none → IsAll K F xs ds → P (.ref a) (.li ds) [a])
    (c3 : ∀ {a : Addr} {xs : List V} {ts : List T} {fp : List Addr}, H a = some (.lst xs) → F a = none → Q xs ts fp → P (.ref a) (.ls ts) (a :: fp))
    (c4 : ∀ {a C dx : Addr} {fs : List (Str × V)} {ts : List (Str × T)} {fp : List Addr}, H a = some (.ins C dx fs) → H dx = some (.own a) → F a = none → F dx = none → R fs ts fp → P (.ref a) (.ob C ts) (a :: dx :: fp))
    (c5 : ∀ {a : Addr} {kvs : List (Key × V)} {ds : List (Key × D)}, H a = some (.dK kvs) → F a = none → KvIs K F kvs ds → P (.ref a) (.dk ds) [a])
    (c6 : ∀ {a : Addr} {kvs : List (List Key × V)} {ds : List (List Key × D)}, H a = some (.dT kvs) → F a = none → KvIs K F kvs ds → P (.ref a) (.dt ds) [a])
    (ct : ∀ {a : Addr} {xs : List V} {ts : List T} {fp : List Addr}, H a = some (.tup xs) → F a = none → (∀ ks : List Key, xs ≠ ks.map kV) → Q xs ts fp → P (.ref a) (.tp ts) (a :: fp))
    (cw : ∀ {a : Addr}, P (.ref a) .wh [])
    (cd : ∀ {a : Addr} {kvs : List (Key × V)} {ts : List (Key × T)} {fp : List Addr}, H a = some (.dK kvs) → F a = none → kvs.map (·.1) = ts.map (·.1) → Q (kvs.map (·.2)) (ts.map (·.2)) fp → P (.ref a) (.dd ts) (a :: fp))
    (c7 : Q [] [] []) (c8 : ∀ {x : V} {t : T} {xs : List V} {ts : List T} {fp fq : List Addr}, P x t fp → Q xs ts fq → Q (x :: xs) (t :: ts) (fp ++ fq))
    (c9 : R [] [] []) (c0 : ∀ {f : Str} {x : V} {t : T} {xs : List (Str × V)} {ts : List (Str × T)} {fp fq : List Addr}, P x t fp → R xs ts fq → R ((f, x) :: xs) ((f, t) :: ts) (fp ++ fq)) :
    (∀ {v : V} {t : T} {fp : List Addr}, Rt K F H v t fp → P v t fp) ∧ (∀ {v : List V} {t : List T} {fp : List Addr}, RtAll K F H v t fp → Q v t fp) ∧ (∀ {v : List (Str × V)} {t : List (Str × T)} {fp : List Addr}, RtFs K F H v t fp → R v t fp) :=
  ⟨fun h => Rt.rec (motive_1 := fun v t fp _ => P v t fp) (motive_2 := fun v t fp _ => Q v t fp) (motive_3 := fun v t fp _ => R v t fp) c1 c2 (fun a b _ => c3 a b) (fun a b c d _ => c4 a b c d) c5 c6 (fun a b c _ => ct a b c) cw (fun a b c _ => cd a b c) c7 (fun _ _ => c8) c9 (fun _ _ => c0) h,
   fun h => RtAll.rec (motive_1 := fun v t fp _ => P v t fp) (motive_2 := fun v t fp _ => Q v t fp) (motive_3 := fun v t fp _ => R v t fp) c1 c2 (fun a b _ => c3 a b) (fun a b c d _ => c4 a b c d) c5 c6 (fun a b c _ => ct a b c) cw (fun a b c _ => cd a b c) c7 (fun _ _ => c8) c9 (fun _ _ => c0) h,
   fun h => RtFs.rec (motive_1 := fun v t fp _ => P v t fp) (motive_2 := fun v t fp _ => Q v t fp) (motive_3 := fun v t fp _ => R v t fp) c1 c2 (fun a b _ => c3 a b) (fun a b c d _ => c4 a b c d) c5 c6 (fun a b c _ => ct a b c) cw (fun a b c _ => cd a b c) c7 (fun _ _ => c8) c9 (fun _ _ => c0) h⟩
def Keep (F' H H':Hp) (fp:List Addr):Prop:=∀ a∈fp,H' a=H a/\F' a=none
theorem Keep.hd {a:Addr} {fp:List Addr} {o:HO} (k:Keep F' H H' (a :: fp)) (h:H a=some o):H' a=some o:=(k a vK).1.trans h
theorem Keep.no {a:Addr} {fp:List Addr} (k:Keep F' H H' (a :: fp)):F' a=none:=(k a vK).2
theorem Keep.tl {a:Addr} {fp:List Addr} (k:Keep F' H H' (a :: fp)):Keep F' H H' fp:=λ b hb=>k b (vB _ hb)
theorem Keep.l {fp fq:List Addr} (k:Keep F' H H' (fp++fq)):Keep F' H H' fp:=λ b hb=>k b (yI _ hb)
theorem Keep.r {fp fq:List Addr} (k:Keep F' H H' (fp++fq)):Keep F' H H' fq:=λ b hb=>k b (vY _ hb)
theorem zec (s:Same F F'):(∀ {v:V} {t:T} {fp:List Addr},Rt K F H v t fp->Keep F' H H' fp->Rt K F' H' v t fp)/\(∀ {v:List V} {t:List T} {fp:List Addr},RtAll K F H v t fp->Keep F' H H' fp->RtAll K F' H' v t fp)/\(∀ {v:List (Str×V)} {t:List (Str×T)} {fp:List Addr},RtFs K F H v t fp->Keep F' H H' fp->RtFs K F' H' v t fp) :=
 Rt.ind (P:=λ v t fp=>Keep F' H H' fp->Rt K F' H' v t fp) (Q:=λ v t fp=>Keep F' H H' fp->RtAll K F' H' v t fp) (R:=λ v t fp=>Keep F' H H' fp->RtFs K F' H' v t fp)
  (λ h _=>.fz (h.mono s)) (λ h _ i k=>.li (k.hd h) k.no (i.mono s)) (λ h _ i k=>.ls (k.hd h) k.no (i k.tl)) (λ h h2 _ _ i k=>.ob (k.hd h) (k.tl.hd h2) k.no k.tl.no (i k.tl.tl))
  (λ h _ i k=>.dk (k.hd h) k.no (i.mono s)) (λ h _ i k=>.dt (k.hd h) k.no (i.mono s)) (λ h _ nk i k=>.tp (k.hd h) k.no nk (i k.tl)) (λ _=>.wh) (λ h _ e i k=>.dd (k.hd h) k.no e (i k.tl)) (λ _=>.nil) (λ a b k=>.cons (a k.l) (b k.r)) (λ _=>.nil) (λ a b k=>.cons (a k.l) (b k.r))
theorem Rt.frame (s:Same F F') {v:V} {t:T} {fp:List Addr} (h:Rt K F H v t fp) (k:∀ a∈fp,H' a=H a/\F' a=none):Rt K F' H' v t fp:=(zec s).1 h k
theorem RtAll.frame (s:Same F F') {v:List V} {t:List T} {fp:List Addr} (h:RtAll K F H v t fp) (k:∀ a∈fp,H' a=H a/\F' a=none):RtAll K F' H' v t fp:=(zec s).2.1 h k
theorem RtFs.frame (s:Same F F') {v:List (Str×V)} {t:List (Str×T)} {fp:List Addr} (h:RtFs K F H v t fp) (k:∀ a∈fp,H' a=H a/\F' a=none):RtFs K F' H' v t fp:=(zec s).2.2 h k
def Dom (F H:Hp) (fp:List Addr):Prop:=∀ a∈fp,HD (H a)/\F a=none
theorem Dom.nil:Dom F H []:=λ _ h=>nomatch h
theorem Dom.cons {a:Addr} {o:HO} {fp:List Addr} (h:H a=some o) (n:∀ ks:List Key,o≠.tup (ks.map kV)) (f:F a=none) (r:Dom F H fp):Dom F H (a :: fp):=λ b hb=>by
 rcases uE.mp hb with e|e
 ·rw [e];exact ⟨.of h n,f⟩
 ·exact r b e
theorem Dom.app {fp fq:List Addr} (a:Dom F H fp) (b:Dom F H fq):Dom F H (fp++fq):=λ c hc=>(uG.mp hc).elim (a c) (b c)
theorem zva:(∀ {v:V} {t:T} {fp:List Addr},Rt K F H v t fp->Dom F H fp)/\(∀ {v:List V} {t:List T} {fp:List Addr},RtAll K F H v t fp->Dom F H fp)/\(∀ {v:List (Str×V)} {t:List (Str×T)} {fp:List Addr},RtFs K F H v t fp->Dom F H fp) :=
 Rt.ind (P:=λ _ _ fp=>Dom F H fp) (Q:=λ _ _ fp=>Dom F H fp) (R:=λ _ _ fp=>Dom F H fp) (λ _=>.nil) (λ h f _=>.cons h (λ _=>nofun) f .nil) (λ h f r=>.cons h (λ _=>nofun) f r) (λ h h2 f f2 r=>.cons h (λ _=>nofun) f (.cons h2 (λ _=>nofun) f2 r))
  (λ h f _=>.cons h (λ _=>nofun) f .nil) (λ h f _=>.cons h (λ _=>nofun) f .nil) (λ h f n r=>.cons h (λ ks z=>n ks (by cases z;rfl)) f r) .nil (λ h f _ r=>.cons h (λ _=>nofun) f r) .nil .app .nil .app
theorem Rt.dom {v:V} {t:T} {fp:List Addr} (h:Rt K F H v t fp):∀ a∈fp,H a≠none/\F a=none:=λ a ha=>⟨(zva.1 h a ha).1.1,(zva.1 h a ha).2⟩
theorem RtAll.dom {v:List V} {t:List T} {fp:List Addr} (h:RtAll K F H v t fp):∀ a∈fp,H a≠none/\F a=none:=λ a ha=>⟨(zva.2.1 h a ha).1.1,(zva.2.1 h a ha).2⟩
theorem RtFs.dom {v:List (Str×V)} {t:List (Str×T)} {fp:List Addr} (h:RtFs K F H v t fp):∀ a∈fp,H a≠none/\F a=none:=λ a ha=>⟨(zva.2.2 h a ha).1.1,(zva.2.2 h a ha).2⟩
theorem Rt.hdd {v:V} {t:T} {fp:List Addr} (h:Rt K F H v t fp):∀ a∈fp,HD (H a):=λ a ha=>(zva.1 h a ha).1
theorem RtAll.hdd {v:List V} {t:List T} {fp:List Addr} (h:RtAll K F H v t fp):∀ a∈fp,HD (H a):=λ a ha=>(zva.2.1 h a ha).1
end
theorem Rt.ext {K:Fg} {F H F' H':Hp} {v:V} {t:T} {fp:List Addr} (e:Ext F H F' H') (h:Rt K F H v t fp):Rt K F' H' v t fp :=
 h.frame e.f λ a ha=>by
  obtain ⟨h1,h2⟩:=h.dom a ha
  cases q:H a with
 |none=>exact absurd q h1
 |some o=>exact ⟨e.h a o q,e.nw a (h.hdd a ha) h2⟩
inductive Sl where
|un|sh (d:D)|ow (t:T)|bo (t:T)|io (a:Addr) (t:T)
abbrev DSt:=List Sl
abbrev DE:=DSt->(D->Prop)->Prop
abbrev DF:=DSt->(List D->Prop)->Prop
abbrev DT:=DSt->(Bool->Prop)->Prop
def RSl (K:Fg) (F H:Hp) (v:Option V):Sl->Prop
|.un=>True
|.sh d=>∃ x,v=some x/\Is K F x d
|.ow t=>∃ x fp,v=some x/\Rt K F H x t fp/\fp.Nodup
|.bo t=>∃ x fp,v=some x/\Rt K F H x t fp/\fp.Nodup
|.io a t=>∃ fp,v=some (.ref a)/\Rt K F H (.ref a) t fp/\fp.Nodup
theorem RSl.ext {K:Fg} {F H F' H':Hp} {v:Option V} (e:Ext F H F' H'):∀ {s:Sl},RSl K F H v s->RSl K F' H' v s
|.un,_=>trivial
|.sh _,⟨x,a,b⟩=>⟨x,a,b.mono e.f⟩
|.ow _,⟨a,xs,h1,h2,h3⟩=>⟨a,xs,h1,h2.ext e,h3⟩
|.bo _,⟨a,xs,h1,h2,h3⟩=>⟨a,xs,h1,h2.ext e,h3⟩
|.io _ _,⟨xs,h1,h2,h3⟩=>⟨xs,h1,h2.ext e,h3⟩
structure RV (K:Fg) (F H:Hp) (Y:_2.St) (U:DSt):Prop where
 len:Y.length=U.length
 sl:∀ i s,U[i]?=some s->RSl K F H (Y.getD i none) s
theorem RV.ext {K:Fg} {F H F' H':Hp} {Y:_2.St} {U:DSt} (e:Ext F H F' H') (r:RV K F H Y U):RV K F' H' Y U:=⟨r.len,λ i s h=>(r.sl i s h).ext e⟩
def Vw (K:Fg) (F H:Hp) (v:V) (d:D):Prop:=Is K F v d \/ ∃ a xs ds,v=.ref a/\d=.list ds/\H a=some (.lst xs)/\IsAll K F xs ds
theorem Vw.ext {K:Fg} {F H F' H':Hp} {v:V} {d:D} (e:Ext F H F' H') (h:Vw K F H v d):Vw K F' H' v d:=by
 rcases h with h|⟨a,xs,ds,h1,h2,h3,h4⟩
 ·exact .inl (h.mono e.f)
 ·exact .inr ⟨a,xs,ds,h1,h2,e.h _ _ h3,h4.mono e.f⟩
theorem Vw.is {K:Fg} {F H:Hp} {v:V} {d:D} (s:Same F H) (h:Vw K F H v d):Is K H v d:=by
 rcases h with h|⟨a,xs,ds,rfl,rfl,h3,h4⟩
 ·exact h.mono s
 ·exact .lst (SqL.of h3) (h4.mono s)
theorem Vw.list {K:Fg} {F H:Hp} {v:V} {ds:List D} (s:Same F H) (h:Vw K F H v (.list ds)):∃ a xs,v=.ref a/\SqL K H a xs/\IsAll K F xs ds:=by
 rcases h with h|⟨a,xs,ds',rfl,e,h3,h4⟩
 ·cases h with
 |lst h1 h2=>exact ⟨_,_,rfl,s.seq h1,h2⟩
 ·cases e;exact ⟨a,xs,rfl,SqL.of h3,h4⟩
theorem Vw.tuple {K:Fg} {F H:Hp} {v:V} {ds:List D} (s:Same F H) (h:Vw K F H v (.tuple ds)):∃ a xs,v=.ref a/\SqT K H a xs/\SqT K F a xs/\IsAll K F xs ds:=by
 rcases h with h|⟨a,xs,ds',rfl,e,h3,h4⟩
 ·cases h with
 |tup h1 h2=>exact ⟨_,_,rfl,zxb s (SqT.of h1),SqT.of h1,h2⟩
 |tuc h1 h2 _=>exact ⟨_,_,rfl,zxb s h1,h1,h2⟩
 ·cases e
theorem Vw.int {K:Fg} {F H:Hp} {v:V} {i:Int} (h:Vw K F H v (.int i)):v=.int i:=by
 rcases h with h|⟨a,xs,ds',rfl,e,h3,h4⟩
 ·exact h.int_inv
 ·cases e
theorem Vw.str {K:Fg} {F H:Hp} {v:V} {i:Str} (h:Vw K F H v (.str i)):v=.str i:=by
 rcases h with h|⟨a,xs,ds',rfl,e,h3,h4⟩
 ·exact h.str_inv
 ·cases e
theorem Vw.bl {K:Fg} {F H:Hp} {v:V} {i:Bool} (h:Vw K F H v (.bool i)):v=.bl i:=by
 rcases h with h|⟨a,xs,ds',rfl,e,h3,h4⟩
 ·exact h.bl_inv
 ·cases e
section
variable (K:Fg)
def RfE (te:TE) (de:DE):Prop:=∀ {F H:Hp} {Y:_2.St} {U:DSt} {Qd:D->Prop} {Q:VK},Same F H->RV K F H Y U->de U Qd->(∀ d,Qd d->∀ v F' H',Ext F H F' H'->Is K F' v d->Q v H')->te Y H Q
def RfV (te:TE) (de:DE):Prop:=∀ {F H:Hp} {Y:_2.St} {U:DSt} {Qd:D->Prop} {Q:VK},Same F H->RV K F H Y U->de U Qd->(∀ d,Qd d->∀ v F' H',Ext F H F' H'->Vw K F' H' v d->Q v H')->te Y H Q
def RfF (te:TE) (df:DF):Prop:=∀ {F H:Hp} {Y:_2.St} {U:DSt} {Qd:List D->Prop} {Q:VK},Same F H->RV K F H Y U->df U Qd->(∀ ds,Qd ds->∀ a xs F' H',Ext F H F' H'->H a=none->H' a=some (.lst xs)->F' a=none->IsAll K F' xs ds->Q (.ref a) H')->te Y H Q
def RfT (tt:TT) (dt:DT):Prop:=∀ {F H:Hp} {Y:_2.St} {U:DSt} {Qd:Bool->Prop} {Q:Bool->Hp->Prop},Same F H->RV K F H Y U->dt U Qd->(∀ b,Qd b->∀ F' H',Ext F H F' H'->Q b H')->tt Y H Q
def RfA (ta:TA) (da:DF):Prop:=∀ {F H:Hp} {Y:_2.St} {U:DSt} {Qd:List D->Prop} {Q:List V->Hp->Prop},Same F H->RV K F H Y U->da U Qd->(∀ ds,Qd ds->∀ vs F' H',Ext F H F' H'->IsAll K F' vs ds->Q vs H')->ta Y H Q
inductive VwAll (F H:Hp):List V->List D->Prop
|nil:VwAll F H [] []
|cons {v:V} {d:D} {vs:List V} {ds:List D}:Vw K F H v d->VwAll F H vs ds->VwAll F H (v :: vs) (d :: ds)
def RfAV (ta:TA) (da:DF):Prop:=∀ {F H:Hp} {Y:_2.St} {U:DSt} {Qd:List D->Prop} {Q:List V->Hp->Prop},Same F H->RV K F H Y U->da U Qd->(∀ ds,Qd ds->∀ vs F' H',Ext F H F' H'->VwAll K F' H' vs ds->Q vs H')->ta Y H Q
def RfO (to:TO) (dO:DSt->(Option Int->Prop)->Prop):Prop:=∀ {F H:Hp} {Y:_2.St} {U:DSt} {Qd:Option Int->Prop} {Q:Option Int->Hp->Prop},Same F H->RV K F H Y U->dO U Qd->(∀ o,Qd o->∀ F' H',Ext F H F' H'->Q o H')->to Y H Q
end
section
variable {K:Fg} {te ta tb tc:TE} {de da db dc:DE} {tt tu:TT} {dt du:DT} {tA:TA} {dA:DF}
theorem zpf {F H F' H':Hp} {a:Addr} {xs:List V} {ds:List D} (e:Ext F H F' H') (hn:H a=none) (h1:H' a=some (.lst xs)) (h2:F' a=none) (h3:IsAll K F' xs ds) :
  Ext F H (upd F' a (.lst xs)) H'/\Is K (upd F' a (.lst xs)) (.ref a) (.list ds):=by
 have s:Same F' (upd F' a (.lst xs)):=λ b o z=>by
  by_cases hb:b=a
  ·subst hb;rw [h2] at z;cases z
  ·rw [zm0 hb];exact z
 refine ⟨⟨e.h,e.f.trans s,λ b o z=>?_,λ b hb fb=>?_⟩,.lst (SqL.of zi0) (h3.mono s)⟩
 ·by_cases hb:b=a
  ·subst hb;rw [zi0] at z;cases z;exact h1
  ·rw [zm0 hb] at z;exact e.fh b o z
 ·have:b≠a:=λ z=>hb.1 (by rw [z];exact hn)
  rw [zm0 this];exact e.nw b hb fb
theorem zn8 {F H:Hp} {p:Addr} {xs:List V} {ds:List D} (s:Same F H) (hn:H p=none) (h3:IsAll K F xs ds) :
  Ext F H (upd F p (.tup xs)) (upd H p (.tup xs))/\Is K (upd F p (.tup xs)) (.ref p) (.tuple ds):=by
 have fn:F p=none:=by
  cases e:F p with
 |none=>rfl
 |some o=>rw [s p o e] at hn;cases hn
 have sF:Same F (upd F p (.tup xs)):=zd3 fn _
 refine ⟨⟨zd3 hn _,sF,λ b o z=>?_,λ b hb fb=>?_⟩,.tup zi0 (h3.mono sF)⟩
 ·by_cases hb:b=p
  ·subst hb;rw [zi0] at z ⊢;exact z
  ·rw [zm0 hb] at z ⊢;exact s b o z
 ·have:b≠p:=λ z=>hb.1 (by rw [z];exact hn)
  rw [zm0 this];exact fb
theorem zy2 {F H:Hp} {p:Addr} {xs:List V} (s:Same F H) (hn:H p=none):Ext F H F (upd H p (.lst xs))/\F p=none:=by
 have fn:F p=none:=by
  cases e:F p with
 |none=>rfl
 |some o=>rw [s p o e] at hn;cases hn
 refine ⟨⟨zd3 hn _,λ _ _ z=>z,λ b o z=>?_,λ _ _ z=>z⟩,fn⟩
 exact zd3 hn _ b o (s b o z)
theorem RfE.v (h:RfE K te de):RfV K te de:=λ s r d k=>h s r d λ x q v F' H' e i=>k x q v F' H' e (.inl i)
def dF (df:DF):DE:=λ U Q=>df U λ ds=>Q (.list ds)
theorem RfF.e {df:DF} (h:RfF K te df):RfE K te (dF df):=λ s r d k=>h s r d λ ds q a xs F' H' e hn h1 h2 h3=>by
 obtain ⟨e2,i2⟩:=zpf e hn h1 h2 h3
 exact k _ q _ _ _ e2 i2
theorem RfF.v {df:DF} (h:RfF K te df):RfV K te (dF df):=RfE.v (RfF.e h)
def Sl.tree:Sl->Option T
|.ow t=>some t
|.bo t=>some t
|.io _ t=>some t
|.sh d=>some (.fz d)
|.un=>none
def fzT:T->(D->Prop)->Prop
|.fz d,Q=>Q d
|_,_=>False
def vwT:T->(D->Prop)->Prop
|.fz d,Q=>Q d
|.li ds,Q=>Q (.list ds)
|_,_=>False
def dVar (i:Nat):DE:=λ U Q=>∃ s t,U[i]?=some s/\s.tree=some t/\fzT t Q
def zq41 (i:Nat):DE:=λ U Q=>∃ s t,U[i]?=some s/\s.tree=some t/\vwT t Q
theorem ze4 {F H:Hp} {Y:_2.St} {U:DSt} {i:Nat} {x:V} (e:Y.getD i none=some x):Y[i]?=some (some x):=by
 rw [uQ] at e
 cases q:Y[i]? with
|none=>rw [q] at e;cases e
|some v=>rw [q] at e;exact congrArg some e
theorem RSl.rt {F H:Hp} {v:Option V}:∀ {s:Sl} {t:T},RSl K F H v s->s.tree=some t->∃ x fp,v=some x/\Rt K F H x t fp/\fp.Nodup
|.un,_,_,e=>by cases e
|.sh d,_,⟨x,h1,h2⟩,e=>by cases e;exact ⟨x,[],h1,.fz h2,.nil⟩
|.ow _,_,⟨x,fp,h1,h2⟩,e=>by cases e;exact ⟨x,fp,h1,h2⟩
|.bo _,_,⟨x,fp,h1,h2⟩,e=>by cases e;exact ⟨x,fp,h1,h2⟩
|.io a _,_,⟨fp,h1,h2⟩,e=>by cases e;exact ⟨_,fp,h1,h2⟩
theorem zf31 {F H:Hp} {x:V} {t:T} {fp:List Addr} {Q:D->Prop} (h:Rt K F H x t fp) (q:vwT t Q):∃ d,Q d/\Vw K F H x d:=by
 cases h with
|fz i=>exact ⟨_,q,.inl i⟩
|li h1 h2 h3=>exact ⟨_,q,.inr ⟨_,_,_,rfl,rfl,h1,h3⟩⟩
|ls _ _ _=>exact q.elim
|ob _ _ _ _ _=>exact q.elim
|dk _ _ _=>exact q.elim
|dt _ _ _=>exact q.elim
|tp _ _ _ _=>exact q.elim
|wh=>exact q.elim
|dd _ _ _ _=>exact q.elim
theorem zju {F H:Hp} {x:V} {t:T} {fp:List Addr} {Q:D->Prop} (h:Rt K F H x t fp) (q:fzT t Q):∃ d,Q d/\Is K F x d:=by
 cases h with
|fz i=>exact ⟨_,q,i⟩
|li _ _ _=>exact q.elim
|ls _ _ _=>exact q.elim
|ob _ _ _ _ _=>exact q.elim
|dk _ _ _=>exact q.elim
|dt _ _ _=>exact q.elim
|tp _ _ _ _=>exact q.elim
|wh=>exact q.elim
|dd _ _ _ _=>exact q.elim
theorem zg0 (i:Nat):RfE K (tVar i) (dVar i):=by
 intro F H Y U Qd Q s r h k
 obtain ⟨sl,t,q,et,f⟩:=h
 obtain ⟨x,fp,e,hr,_⟩:=(r.sl i _ q).rt et
 obtain ⟨d,qd,hi⟩:=zju hr f
 exact ⟨x,ze4 (F:=F) (H:=H) (U:=U) e,k d qd x F H (Ext.refl s) hi⟩
theorem zb0 (i:Nat):RfV K (tVar i) (zq41 i):=by
 intro F H Y U Qd Q s r h k
 obtain ⟨sl,t,q,et,f⟩:=h
 obtain ⟨x,fp,e,hr,_⟩:=(r.sl i _ q).rt et
 obtain ⟨d,qd,hi⟩:=zf31 hr f
 exact ⟨x,ze4 (F:=F) (H:=H) (U:=U) e,k d qd x F H (Ext.refl s) hi⟩
def dC (d:D):DE:=λ _ Q=>Q d
theorem zp1 {i:Int}:RfE K (tC (.int i)) (dC (.int i)):=λ s r h k=>k _ h _ _ _ (Ext.refl s) (.int i)
theorem zbl {b:Bool}:RfE K (tC (.bl b)) (dC (.bool b)):=λ s r h k=>k _ h _ _ _ (Ext.refl s) (.bl b)
theorem zun:RfE K (tC .non) (dC .none):=λ s r h k=>k _ h _ _ _ (Ext.refl s) .non
def dOp (f:D->D->(D->Prop)->Prop) (da db:DE):DE:=λ U Q=>da U λ x=>db U λ y=>f x y Q
def R2E (K:Fg) (r:R2) (f:D->D->(D->Prop)->Prop):Prop:=∀ {F H:Hp} {x y:V} {d e:D} {Qd:D->Prop} {Q:VK},Same F H->Vw K F H x d->Vw K F H y e->f d e Qd->(∀ z,Qd z->∀ v F' H',Ext F H F' H'->Is K F' v z->Q v H')->r x y H Q
def R2F (K:Fg) (r:R2) (f:D->D->(List D->Prop)->Prop):Prop:=∀ {F H:Hp} {x y:V} {d e:D} {Qd:List D->Prop} {Q:VK},Same F H->Vw K F H x d->Vw K F H y e->f d e Qd->(∀ ds,Qd ds->∀ a xs F' H',Ext F H F' H'->H a=none->H' a=some (.lst xs)->F' a=none->IsAll K F' xs ds->Q (.ref a) H')->r x y H Q
theorem zr0 {r:R2} {f:D->D->(D->Prop)->Prop} (hr:R2E K r f) (ha:RfV K ta da) (hb:RfV K tb db):RfE K (tOp r ta tb) (dOp f da db):=by
 intro F H Y U Qd Q s rv h k
 refine ha s rv h λ x hx v F1 H1 e1 i1=>hb e1.fh (rv.ext e1) hx λ y hy u F2 H2 e2 i2=>?_
 exact hr e2.fh (i1.ext e2) i2 hy λ z hz w F3 H3 e3 i3=>k z hz w F3 H3 ((e1.trans e2).trans e3) i3
end
end _4
namespace _4
open PySem PySem.Spec PyProof.Rows _2 _3
section
variable {K:Fg} {te ta tb tc:TE} {de da db dc:DE} {tt tu:TT} {dt du:DT} {tA:TA} {dA:DF} {w:World}
def fAdd:D->D->(D->Prop)->Prop
|.int i,.int j,Q=>Q (.int (i+j))
|.str a,.str b,Q=>a.length+b.length<=sizeLine/\Q (.str (a++b))
|.list a,.list b,Q=>a.length+b.length<=sizeLine/\Q (.list (a++b))
|.tuple a,.tuple b,Q=>a≠[]/\b≠[]/\a.length+b.length<=sizeLine/\Q (.tuple (a++b))
|_,_,_=>False
def fCat:D->D->(List D->Prop)->Prop
|.list a,.list b,Q=>a.length+b.length<=sizeLine/\Q (a++b)
|_,_,_=>False
theorem zq51:R2F K (zmy K) fCat:=by
 intro F H x y d e Qd Q s hx hy h k
 unfold fCat at h
 split at h
 ·rename_i a b
  obtain ⟨p,xs,rfl,h1,i1⟩:=hx.list s
  obtain ⟨q,ys,rfl,h2,i2⟩:=hy.list s
  have e1:=i1.dlen
  have e2:=i2.dlen
  refine .inr ⟨p,q,xs,ys,rfl,rfl,h1,h2,by lia,λ l hl=>?_⟩
  obtain ⟨ex,fn⟩:=zy2 (xs:=xs++ys) s hl
  exact k _ h.2 l _ F _ ex hl zi0 fn (i1.dapp i2)
 ·exact h.elim
theorem zla:R2E K (zmy K) fAdd:=by
 intro F H x y d e Qd Q s hx hy h k
 unfold fAdd at h
 split at h
 ·cases hx.int;cases hy.int
  exact .inl (.inl ⟨_,_,rfl,rfl,k _ h _ F H (Ext.refl s) (.int _)⟩)
 ·cases hx.str;cases hy.str
  exact .inl (.inr (.inl ⟨_,_,rfl,rfl,h.1,k _ h.2 _ F H (Ext.refl s) (.str _)⟩))
 ·rename_i a b
  refine zq51 (Qd:=λ ds=>Qd (.list ds)) s hx hy h λ ds q l xs F' H' ex hn h1 h2 h3=>?_
  obtain ⟨e2,i2⟩:=zpf ex hn h1 h2 h3
  exact k _ q _ _ _ e2 i2
 ·rename_i a b
  obtain ⟨p,xs,rfl,h1,_,i1⟩:=hx.tuple s
  obtain ⟨q,ys,rfl,h2,_,i2⟩:=hy.tuple s
  have e1:=i1.dlen
  have e2:=i2.dlen
  have n1:xs≠[]:=λ z=>h.1 (zL.mp (by rw [<- e1,z];rfl))
  have n2:ys≠[]:=λ z=>h.2.1 (zL.mp (by rw [<- e2,z];rfl))
  refine .inl (.inr (.inr (.inr ⟨p,q,xs,ys,rfl,rfl,h1,h2,n1,by lia,λ z=>absurd z n2,λ _ l hl=>?_⟩)))
  obtain ⟨ex,ii⟩:=zn8 (K:=K) (ds:=a++b) s hl (i1.dapp i2)
  exact k _ h.2.2.2 _ _ _ ex ii
 ·exact h.elim
def fI (C:Int->Int->Prop) (g:Int->Int->D):D->D->(D->Prop)->Prop
|.int i,.int j,Q=>C i j/\Q (g i j)
|_,_,_=>False
def fI0 (g:Int->Int->D):D->D->(D->Prop)->Prop
|.int i,.int j,Q=>Q (g i j)
|_,_,_=>False
theorem r_I {C:Int->Int->Prop} {g:Int->Int->V} {g':Int->Int->D} (hg:∀ i j (F:Hp),Is K F (g i j) (g' i j)):R2E K (rI C g) (fI C g'):=by
 intro F H x y d e Qd Q s hx hy h k
 unfold fI at h
 split at h
 ·cases hx.int;cases hy.int
  exact ⟨_,_,rfl,rfl,h.1,k _ h.2 _ F H (Ext.refl s) (hg _ _ _)⟩
 ·exact h.elim
theorem r_I0 {g:Int->Int->V} {g':Int->Int->D} (hg:∀ i j (F:Hp),Is K F (g i j) (g' i j)):R2E K (rI0 g) (fI0 g'):=by
 intro F H x y d e Qd Q s hx hy h k
 unfold fI0 at h
 split at h
 ·cases hx.int;cases hy.int
  exact ⟨_,_,rfl,rfl,k _ h _ F H (Ext.refl s) (hg _ _ _)⟩
 ·exact h.elim
abbrev fSub:=fI0 λ i j=>.int (i - j)
abbrev fDiv:=fI zix λ i j=>.int (i / j)
abbrev fMod:=fI (λ _ j=>0 < j) λ i j=>.int (i % j)
abbrev fPow:=fI CPow λ i j=>.int (i ^ j.toNat)
abbrev fLt:=fI0 λ i j=>.bool (decide (i < j))
abbrev fGt:=fI0 λ i j=>.bool (decide (j < i))
theorem zjj:R2E K (rI0 λ i j=>V.int (i - j)) fSub:=r_I0 λ _ _ _=>.int _
theorem zho:R2E K (rI zix λ i j=>V.int (i / j)) fDiv:=r_I λ _ _ _=>.int _
theorem zai:R2E K (rI (λ _ j=>0 < j) λ i j=>V.int (i % j)) fMod:=r_I λ _ _ _=>.int _
theorem zj71:R2E K (rI CPow λ i j=>V.int (i ^ j.toNat)) fPow:=r_I λ _ _ _=>.int _
theorem r_lt:R2E K (rI0 λ i j=>V.bl (decide (i < j))) fLt:=r_I0 λ _ _ _=>.bl _
theorem r_gt:R2E K (rI0 λ i j=>V.bl (decide (j < i))) fGt:=r_I0 λ _ _ _=>.bl _
def fMul:D->D->(D->Prop)->Prop
|.int i,.int j,Q=>CMul i j/\Q (.int (i * j))
|.str z,.int n,Q=>0<=n/\z.length * n.toNat<=sizeLine/\n<=sizeLine/\Q (.str (repS z n.toNat))
|_,_,_=>False
theorem zsq:R2E K zrz fMul:=by
 intro F H x y d e Qd Q s hx hy h k
 unfold fMul at h
 split at h
 ·cases hx.int;cases hy.int
  exact .inl (.inl (.inl ⟨_,_,rfl,rfl,h.1,k _ h.2 _ F H (Ext.refl s) (.int _)⟩))
 ·cases hx.str;cases hy.int
  exact .inl (.inr ⟨_,_,rfl,rfl,h.1,h.2.1,h.2.2.1,k _ h.2.2.2 _ F H (Ext.refl s) (.str _)⟩)
 ·exact h.elim
def fRep:List D->D->(List D->Prop)->Prop
|ds,.int n,Q=>n < 2 ^ 62/\-(2 ^ 62)<=n/\ds.length * n.toNat<=sizeLine/\Q (uP n.toNat ds).flatten
|_,_,_=>False
def dRep (df:DF) (db:DE):DF:=λ U Q=>df U λ ds=>db U λ y=>fRep ds y Q
theorem zdm {F:Hp} {xs:List V} {ds:List D} (h:IsAll K F xs ds):∀ n:Nat,IsAll K F (uP n xs).flatten (uP n ds).flatten
|0=>.nil
|n+1=>by rw [wR,wR,w8,w8];exact h.dapp (zdm h n)
theorem zaj {df:DF} (ha:RfF K ta df) (hb:RfE K tb db):RfF K (tOp zrz ta tb) (dRep df db):=by
 intro F H Y U Qd Q s rv h k
 refine ha s rv h λ ds hx a xs F1 H1 e1 hn h1 h2 h3=>hb e1.fh (rv.ext e1) hx λ y hy u F2 H2 e2 i2=>?_
 unfold fRep at hy
 split at hy
 ·rename_i n
  cases i2.int_inv
  have el:=h3.dlen
  refine .inr ⟨a,n,xs,rfl,rfl,e2.h _ _ h1,by lia,by lia,by rw [el];exact hy.2.2.1,λ p hp=>?_⟩
  obtain ⟨ex,fn⟩:=zy2 (xs:=(uP n.toNat xs).flatten) e2.fh hp
  refine k _ hy.2.2.2 p _ F2 _ ((e1.trans e2).trans ex) ?_ zi0 fn (zdm (h3.mono e2.f) _)
  cases q:H p with
 |none=>rfl
 |some o=>rw [(e1.trans e2).h p o q] at hp;cases hp
 ·exact hy.elim
def fEq:D->D->(D->Prop)->Prop
|.int i,.int j,Q=>Q (.bool (decide (i=j)))
|.str i,.str j,Q=>Q (.bool (decide (i=j)))
|.bool i,.bool j,Q=>Q (.bool (decide (i=j)))
|d,e,Q=>SeqAt.shaped d=true/\SeqAt.shaped e=true/\Q (.bool (PyData.eqv d e))
def fNe:D->D->(D->Prop)->Prop
|.int i,.int j,Q=>Q (.bool (!decide (i=j)))
|.str i,.str j,Q=>Q (.bool (!decide (i=j)))
|.bool i,.bool j,Q=>Q (.bool (!decide (i=j)))
|d,e,Q=>SeqAt.shaped d=true/\SeqAt.shaped e=true/\Q (.bool (!PyData.eqv d e))
theorem zub (i j:Int):decide (V.int i=V.int j)=decide (i=j):=by simp
theorem zhb (i j:Str):decide (V.str i=V.str j)=decide (i=j):=by simp
theorem zph (i j:Bool):decide (V.bl i=V.bl j)=decide (i=j):=by simp
def zfw:D->Bool
|.none=>true
|_=>false
def fIsN:D->D->(D->Prop)->Prop
|d,.none,Q=>Q (.bool (zfw d))
|_,_,_=>False
def zkz:D->D->(D->Prop)->Prop
|d,.none,Q=>Q (.bool (!zfw d))
|_,_,_=>False
theorem zht {F H:Hp} {x:V} {d:D} (s:Same F H) (hx:Vw K F H x d):decide (x=.non)=zfw d:=by
 cases hx.is s <;> simp [zfw]
theorem zzt {F H:Hp} {x:V} (s:Same F H) (hx:Vw K F H x .none):x=.non:=by
 cases hx.is s;rfl
theorem zp51:R2E K (λ x y H Q=>y=V.non/\Q (V.bl (decide (x=V.non))) H) fIsN:=by
 intro F H x y d e Qd Q s hx hy h k
 unfold fIsN at h
 split at h
 ·refine ⟨zzt s hy,k _ h _ F H (Ext.refl s) ?_⟩
  rw [zht s hx];exact .bl _
 ·exact h.elim
theorem zmz:R2E K (λ x y H Q=>y=V.non/\Q (V.bl (!decide (x=V.non))) H) zkz:=by
 intro F H x y d e Qd Q s hx hy h k
 unfold zkz at h
 split at h
 ·refine ⟨zzt s hy,k _ h _ F H (Ext.refl s) ?_⟩
  rw [zht s hx];exact .bl _
 ·exact h.elim
def fIx:D->D->(D->Prop)->Prop
|.list ds,.int i,Q=>∃ d,atI ds i=some d/\Q d
|.tuple ds,.int i,Q=>∃ d,atI ds i=some d/\Q d
|.str z,.int i,Q=>z.length<=sizeLine/\∃ c,atI z.cps.toList i=some c/\Q (.str ⟨#[c]⟩)
|_,_,_=>False
theorem zst {F:Hp} {xs:List V} {ds:List D} {i:Int} {d:D} (h:IsAll K F xs ds) (e:atI ds i=some d):∃ x,atI xs i=some x/\Is K F x d:=by
 unfold atI at e ⊢
 rw [h.dlen]
 cases q:ixN ds.length i with
|none=>rw [q] at e;cases e
|some j =>
  rw [q] at e
  obtain ⟨x,h1,h2⟩:=h.dget (show ds[j]?=some d from e)
  exact ⟨x,h1,h2⟩
theorem r_ix:R2E K (rIxV w K) fIx:=by
 intro F H x y d e Qd Q s hx hy h k
 unfold fIx at h
 split at h
 ·obtain ⟨z,ez,q⟩:=h
  obtain ⟨p,xs,rfl,h1,i1⟩:=hx.list s
  cases hy.int
  obtain ⟨v,ev,iv⟩:=zst i1 ez
  exact .inl (.inl (.inl ⟨p,xs,_,v,rfl,rfl,h1,ev,k _ q _ F H (Ext.refl s) iv⟩))
 ·obtain ⟨z,ez,q⟩:=h
  obtain ⟨p,xs,rfl,h1,_,i1⟩:=hx.tuple s
  cases hy.int
  obtain ⟨v,ev,iv⟩:=zst i1 ez
  exact .inl (.inl (.inr (.inl ⟨p,xs,_,v,rfl,rfl,h1,ev,k _ q _ F H (Ext.refl s) iv⟩)))
 ·obtain ⟨hz,c,ec,q⟩:=h
  cases hx.str;cases hy.int
  exact .inl (.inl (.inr (.inr ⟨_,_,c,rfl,rfl,hz,ec,k _ q _ F H (Ext.refl s) (.str _)⟩)))
 ·exact h.elim
def dUn (f:D->(D->Prop)->Prop) (da:DE):DE:=λ U Q=>da U λ x=>f x Q
def fNeg:D->(D->Prop)->Prop
|.int i,Q=>Q (.int (-i))
|_,_=>False
theorem ziw (ha:RfE K ta da):RfE K (tUn (rU λ i=>V.int (-i)) ta) (dUn fNeg da):=by
 intro F H Y U Qd Q s rv h k
 refine ha s rv h λ x hx v F1 H1 e1 i1=>?_
 unfold fNeg at hx
 split at hx
 ·cases i1.int_inv
  exact ⟨_,rfl,k _ hx _ F1 H1 e1 (.int _)⟩
 ·exact hx.elim
def fB (d:D) (Q:Bool->Prop):Prop:=match d with
|.bool b=>Q b
|_=>False
theorem zfy {F:Hp} {v:V} {d:D} {Q:Bool->Prop} (i:Is K F v d) (h:fB d Q):∃ b,v=.bl b/\Q b:=by
 unfold fB at h
 split at h
 ·exact ⟨_,i.bl_inv,h⟩
 ·exact h.elim
def zz21 (da:DE):DE:=λ U Q=>da U λ x=>fB x λ b=>Q (.bool (!b))
theorem zsr (ha:RfE K ta da):RfE K (zd41 ta) (zz21 da):=by
 intro F H Y U Qd Q s rv h k
 refine ha s rv h λ x hx v F1 H1 e1 i1=>?_
 obtain ⟨b,rfl,q⟩:=zfy i1 hx
 exact ⟨b,rfl,k _ q _ F1 H1 e1 (.bl _)⟩
def zk41 (da db:DE):DE:=λ U Q=>da U λ x=>fB x λ b=>if b=true then db U Q else Q (.bool false)
theorem zmr (ha:RfE K ta da) (hb:RfE K tb db):RfE K (zn21 ta tb) (zk41 da db):=by
 intro F H Y U Qd Q s rv h k
 refine ha s rv h λ x hx v F1 H1 e1 i1=>?_
 obtain ⟨b,rfl,q⟩:=zfy i1 hx
 refine ⟨b,rfl,?_⟩
 cases b with
|true =>
  rw [if_pos rfl] at q ⊢
  exact hb e1.fh (rv.ext e1) q λ y hy u F2 H2 e2 i2=>k y hy u F2 H2 (e1.trans e2) i2
|false =>
  rw [if_neg uV] at q ⊢
  exact k _ q _ F1 H1 e1 (.bl _)
def zz41 (de:DE):DT:=λ U Q=>de U λ d=>fB d Q
theorem zx0 (h:RfE K te de):RfT K (zyv te) (zz41 de):=by
 intro F H Y U Qd Q s rv hd k
 refine h s rv hd λ x hx v F1 H1 e1 i1=>?_
 obtain ⟨b,rfl,q⟩:=zfy i1 hx
 exact ⟨b,rfl,k b q F1 H1 e1⟩
def fTru:D->(Bool->Prop)->Prop
|.none,Q=>Q false
|.bool b,Q=>Q b
|.int i,Q=>Q (i != 0)
|.str z,Q=>z.length<=sizeLine/\Q ((z.length:Int) != 0)
|.list ds,Q=>Q (!ds.isEmpty)
|.tuple ds,Q=>Q (!ds.isEmpty)
|.dict _,_=>False
def dTru (de:DE):DT:=λ U Q=>de U λ d=>fTru d Q
theorem zud {F:Hp} {xs:List V} {ds:List D} (h:IsAll K F xs ds):xs.isEmpty=ds.isEmpty:=by cases h <;> rfl
theorem zb8 (h:RfV K te de):RfT K (zg01 K te) (dTru de):=by
 intro F H Y U Qd Q s rv hd k
 refine h s rv hd λ x hx v F1 H1 e1 i1=>?_
 unfold fTru at hx
 split at hx
 ·cases i1.is e1.fh;exact ⟨false,rfl,k _ hx F1 H1 e1⟩
 ·cases i1.bl;exact ⟨_,rfl,k _ hx F1 H1 e1⟩
 ·cases i1.int;exact ⟨_,rfl,k _ hx F1 H1 e1⟩
 ·cases i1.str;exact ⟨_,⟨hx.1,rfl⟩,k _ hx.2 F1 H1 e1⟩
 ·obtain ⟨p,xs,rfl,h1,i2⟩:=i1.list e1.fh
  refine ⟨_,.inl ⟨xs,h1,rfl⟩,?_⟩
  rw [zud i2];exact k _ hx F1 H1 e1
 ·obtain ⟨p,xs,rfl,h1,_,i2⟩:=i1.tuple e1.fh
  refine ⟨_,.inr (.inl ⟨xs,h1,rfl⟩),?_⟩
  rw [zud i2];exact k _ hx F1 H1 e1
 ·exact hx.elim
def dAnd (dt du:DT):DT:=λ U Q=>dt U λ b=>if b=true then du U Q else Q false
def dOr (dt du:DT):DT:=λ U Q=>dt U λ b=>if b=true then Q true else du U Q
def dNot (dt:DT):DT:=λ U Q=>dt U λ b=>Q (!b)
theorem zlj (ht:RfT K tt dt) (hu:RfT K tu du):RfT K (tAnd tt tu) (dAnd dt du):=by
 intro F H Y U Qd Q s rv h k
 refine ht s rv h λ b hb F1 H1 e1=>?_
 cases b with
|true =>
  rw [if_pos rfl] at hb ⊢
  exact hu e1.fh (rv.ext e1) hb λ c hc F2 H2 e2=>k c hc F2 H2 (e1.trans e2)
|false =>
  rw [if_neg uV] at hb ⊢
  exact k _ hb F1 H1 e1
theorem zmx (ht:RfT K tt dt) (hu:RfT K tu du):RfT K (tOr tt tu) (dOr dt du):=by
 intro F H Y U Qd Q s rv h k
 refine ht s rv h λ b hb F1 H1 e1=>?_
 cases b with
|false =>
  rw [if_neg uV] at hb ⊢
  exact hu e1.fh (rv.ext e1) hb λ c hc F2 H2 e2=>k c hc F2 H2 (e1.trans e2)
|true =>
  rw [if_pos rfl] at hb ⊢
  exact k _ hb F1 H1 e1
theorem zzg (ht:RfT K tt dt):RfT K (tNot tt) (dNot dt):=λ s rv h k=>ht s rv h λ b hb F1 H1 e1=>k _ hb F1 H1 e1
def dIfE (dt:DT) (da db:DE):DE:=λ U Q=>dt U λ b=>if b=true then da U Q else db U Q
theorem zks (ht:RfT K tt dt) (ha:RfE K ta da) (hb:RfE K tb db):RfE K (tIf tt ta tb) (dIfE dt da db):=by
 intro F H Y U Qd Q s rv h k
 refine ht s rv h λ b hb' F1 H1 e1=>?_
 cases b with
|true =>
  rw [if_pos rfl] at hb' ⊢
  exact ha e1.fh (rv.ext e1) hb' λ y hy u F2 H2 e2 i2=>k y hy u F2 H2 (e1.trans e2) i2
|false =>
  rw [if_neg uV] at hb' ⊢
  exact hb e1.fh (rv.ext e1) hb' λ y hy u F2 H2 e2 i2=>k y hy u F2 H2 (e1.trans e2) i2
def dNil:DF:=λ _ Q=>Q []
def zox (da:DE) (dr:DF):DF:=λ U Q=>da U λ x=>dr U λ xs=>Q (x :: xs)
theorem zn0:RfA K tNil dNil:=λ s rv h k=>k _ h _ _ _ (Ext.refl s) .nil
theorem zc0 (ha:RfE K ta da) (hr:RfA K tA dA):RfA K (zu7 ta tA) (zox da dA):=by
 intro F H Y U Qd Q s rv h k
 refine ha s rv h λ x hx v F1 H1 e1 i1=>hr e1.fh (rv.ext e1) hx λ xs hxs vs F2 H2 e2 i2=>?_
 exact k _ hxs _ F2 H2 (e1.trans e2) (.cons (i1.mono e2.f) i2)
theorem zt1:RfAV K tNil dNil:=λ s rv h k=>k _ h _ _ _ (Ext.refl s) .nil
theorem zv0 (ha:RfV K ta da) (hr:RfAV K tA dA):RfAV K (zu7 ta tA) (zox da dA):=by
 intro F H Y U Qd Q s rv h k
 refine ha s rv h λ x hx v F1 H1 e1 i1=>hr e1.fh (rv.ext e1) hx λ xs hxs vs F2 H2 e2 i2=>?_
 exact k _ hxs _ F2 H2 (e1.trans e2) (.cons (i1.ext e2) i2)
def dTup (dA:DF):DE:=λ U Q=>dA U λ xs=>xs.length<=sizeLine/\Q (.tuple xs)
theorem zn9 (h:RfA K tA dA):RfE K (zl31 tA) (dTup dA):=by
 intro F H Y U Qd Q s rv hd k
 refine h s rv hd λ xs hx vs F1 H1 e1 i1=>⟨by rw [i1.dlen];exact hx.1,λ p hp=>?_⟩
 obtain ⟨ex,ii⟩:=zn8 (K:=K) e1.fh hp i1
 exact k _ hx.2 _ _ _ (e1.trans ex) ii
def dLst (dA:DF):DF:=λ U Q=>dA U λ xs=>xs.length<=sizeLine/\Q xs
theorem zk3 (h:RfA K tA dA):RfF K (zcy tA) (dLst dA):=by
 intro F H Y U Qd Q s rv hd k
 refine h s rv hd λ xs hx vs F1 H1 e1 i1=>⟨by rw [i1.dlen];exact hx.1,λ p hp=>?_⟩
 obtain ⟨ex,fn⟩:=zy2 (xs:=vs) e1.fh hp
 refine k _ hx.2 p vs F1 _ (e1.trans ex) ?_ zi0 fn i1
 cases q:H p with
|none=>rfl
|some o=>rw [e1.h p o q] at hp;cases hp
abbrev DSp:=List D->(D->Prop)->Prop
def spD (K:Fg) (p:DSp):Sp:=λ vs H Q _=>∃ F ds Qd,Same F H/\IsAll K F vs ds/\p ds Qd/\∀ d,Qd d->∀ v F' H',Ext F H F' H'->Is K F' v d->Q v H'
def za31 (p:DSp) (dA:DF):DE:=λ U Q=>dA U λ ds=>p ds Q
theorem zk1 {p:DSp} {E:XK} (h:RfA K tA dA):RfE K (zpq (spD K p) [] E tA) (za31 p dA):=by
 intro F H Y U Qd Q s rv hd k
 refine h s rv hd λ ds hp vs F1 H1 e1 i1=>?_
 rw [wE]
 exact ⟨F1,ds,Qd,e1.fh,i1,hp,λ d q v F' H' e2 i2=>k d q v F' H' (e1.trans e2) i2⟩
def CB (K:Fg) (r:List V->Hp->VK->Prop) (f:List D->(D->Prop)->Prop):Prop:=∀ {F H:Hp} {vs:List V} {ds:List D} {Qd:D->Prop} {Q:VK},Same F H->VwAll K F H vs ds->f ds Qd->(∀ z,Qd z->∀ v F' H',Ext F H F' H'->Is K F' v z->Q v H')->r vs H Q
def CF (K:Fg) (r:List V->Hp->VK->Prop) (f:List D->(List D->Prop)->Prop):Prop:=∀ {F H:Hp} {vs:List V} {ds:List D} {Qd:List D->Prop} {Q:VK},Same F H->VwAll K F H vs ds->f ds Qd->(∀ z,Qd z->∀ a xs F' H',Ext F H F' H'->H a=none->H' a=some (.lst xs)->F' a=none->IsAll K F' xs z->Q (.ref a) H')->r vs H Q
def dCB (f:List D->(D->Prop)->Prop) (dA:DF):DE:=λ U Q=>dA U λ ds=>f ds Q
def dCF (f:List D->(List D->Prop)->Prop) (dA:DF):DF:=λ U Q=>dA U λ ds=>f ds Q
theorem zjf {r:List V->Hp->VK->Prop} {f:List D->(D->Prop)->Prop} (hr:CB K r f) (h:RfAV K tA dA):RfE K (tCB r tA) (dCB f dA):=by
 intro F H Y U Qd Q s rv hd k
 refine h s rv hd λ ds hp vs F1 H1 e1 i1=>hr e1.fh i1 hp λ z q v F' H' e2 i2=>k z q v F' H' (e1.trans e2) i2
theorem zyp {r:List V->Hp->VK->Prop} {f:List D->(List D->Prop)->Prop} (hr:CF K r f) (h:RfAV K tA dA):RfF K (tCB r tA) (dCF f dA):=by
 intro F H Y U Qd Q s rv hd k
 refine h s rv hd λ ds hp vs F1 H1 e1 i1=>hr e1.fh i1 hp λ z q a xs F' H' e2 hn h1 h2 h3=>k z q a xs F' H' (e1.trans e2) ?_ h1 h2 h3
 cases z:H a with
|none=>rfl
|some o=>rw [e1.h a o z] at hn;cases hn
theorem vw1 {F H:Hp} {vs:List V} {d:D} (h:VwAll K F H vs [d]):∃ v,vs=[v]/\Vw K F H v d:=by
 cases h with
|cons h r=>cases r;exact ⟨_,rfl,h⟩
theorem vw2 {F H:Hp} {vs:List V} {d e:D} (h:VwAll K F H vs [d,e]):∃ v u,vs=[v,u]/\Vw K F H v d/\Vw K F H u e:=by
 cases h with
|cons h r=>obtain ⟨u,rfl,r2⟩:=vw1 r;exact ⟨_,u,rfl,h,r2⟩
def fLen:List D->(D->Prop)->Prop
|[.list ds],Q=>Q (.int (ds.length:Nat))
|[.tuple ds],Q=>Q (.int (ds.length:Nat))
|[.str z],Q=>z.length<=sizeLine/\Q (.int (z.length:Nat))
|_,_=>False
theorem zkk:CB K (rLen K) fLen:=by
 intro F H vs ds Qd Q s hv h k
 unfold fLen at h
 split at h
 ·obtain ⟨v,rfl,hw⟩:=vw1 hv
  obtain ⟨p,xs,rfl,h1,i1⟩:=hw.list s
  refine ⟨_,_,rfl,.inl ⟨xs,h1,rfl⟩,?_⟩
  rw [i1.dlen];exact k _ h _ F H (Ext.refl s) (.int _)
 ·obtain ⟨v,rfl,hw⟩:=vw1 hv
  obtain ⟨p,xs,rfl,h1,_,i1⟩:=hw.tuple s
  refine ⟨_,_,rfl,.inr ⟨xs,h1,rfl⟩,?_⟩
  rw [i1.dlen];exact k _ h _ F H (Ext.refl s) (.int _)
 ·obtain ⟨v,rfl,hw⟩:=vw1 hv
  cases hw.str
  exact ⟨_,_,rfl,⟨h.1,rfl⟩,k _ h.2 _ F H (Ext.refl s) (.int _)⟩
 ·exact h.elim
def zgj:List D->Option (List Int)
|[]=>some []
|.int i :: r=>(zgj r).map (i :: ·)
|_ :: _=>none
theorem zf9 {F:Hp}:∀ {xs:List V} {ds:List D} {ns:List Int},IsAll K F xs ds->zgj ds=some ns->xs=ns.map V.int
|_,_,_,.nil,e=>by cases e;rfl
|_,_,_,.cons h r,e=>by
  cases h with
 |int i =>
   unfold zgj at e
   obtain ⟨ms,e1,rfl⟩:=u6.mp e
   rw [zf9 r e1];rfl
 |_=>cases e
theorem ints_map (ns:List Int):zgj (ns.map uC)=some ns:=by
 induction ns with
|nil=>rfl
|cons n r ih=>simp [zgj,ih]
def zyy:List D->(List D->Prop)->Prop
|[.list ds],Q=>Q ds
|[.tuple ds],Q=>Q ds
|_,_=>False
theorem zme:CF K (zc41 K) zyy:=by
 intro F H vs ds Qd Q s hv h k
 unfold zyy at h
 split at h
 ·obtain ⟨v,rfl,hw⟩:=vw1 hv
  obtain ⟨p,xs,rfl,h1,i1⟩:=hw.list s
  refine ⟨p,xs,rfl,.inl h1,λ l hl=>?_⟩
  obtain ⟨ex,fn⟩:=zy2 (xs:=xs) s hl
  exact k _ h l xs F _ ex hl zi0 fn i1
 ·obtain ⟨v,rfl,hw⟩:=vw1 hv
  obtain ⟨p,xs,rfl,h1,_,i1⟩:=hw.tuple s
  refine ⟨p,xs,rfl,.inr h1,λ l hl=>?_⟩
  obtain ⟨ex,fn⟩:=zy2 (xs:=xs) s hl
  exact k _ h l xs F _ ex hl zi0 fn i1
 ·exact h.elim
def tyD:D->String
|.none => "NoneType"|.bool _ => "bool"|.int _ => "int"|.str _ => "str"|.list _ => "list"|.tuple _ => "tuple"|.dict _ => "dict"
def isT (T:String) (d:D):Bool:=tyD d == T || (T == "int" && tyD d == "bool")
structure Kit (K:Fg):Prop where
 ok:∀ t∈["NoneType", "bool", "int", "str", "list", "tuple"],∀ T∈["int", "bool", "list", "tuple", "str"],PySem.W.kitOne K (.type t) (.type T)=some (t == T || (T == "int" && t == "bool"))
def dIs (T:String) (da:DE):DE:=λ U Q=>da U λ d=>(∀ kvs,d≠.dict kvs)/\Q (.bool (isT T d))
theorem zzw {T:String} (kt:Kit K) (hT:T∈["int", "bool", "list", "tuple", "str"]) (ha:RfV K ta da):RfE K (tCB (rIsW K) (zu7 ta (zu7 (tC (.ty T)) tNil))) (dIs T da):=by
 intro F H Y U Qd Q s rv hd k
 refine ha s rv hd λ d hd v F1 H1 e1 i1=>?_
 have q:=k _ hd.2 (.bl (isT T d)) F1 H1 e1 (.bl _)
 have i2:=i1.is e1.fh
 show rIsW K [v,.ty T] H1 Q
 cases i2 with
|non=>exact .inl ⟨_,_,_,_,_,rfl,rfl,.non,kt.ok _ (by simp) T hT,q⟩
|bl b=>exact .inl ⟨_,_,_,_,_,rfl,rfl,.bl b,kt.ok _ (by simp) T hT,q⟩
|int b=>exact .inl ⟨_,_,_,_,_,rfl,rfl,.int b,kt.ok _ (by simp) T hT,q⟩
|str b=>exact .inl ⟨_,_,_,_,_,rfl,rfl,.str b,kt.ok _ (by simp) T hT,q⟩
|lst h1 h2=>exact .inr ⟨_,_,_,_,rfl,rfl,.inl ⟨⟨_,h1⟩,kt.ok _ (by simp) T hT⟩,q⟩
|tup h1 h2=>exact .inr ⟨_,_,_,_,rfl,rfl,.inr ⟨⟨_,SqT.of h1⟩,kt.ok _ (by simp) T hT⟩,q⟩
|tuc h1 h2 _=>exact .inr ⟨_,_,_,_,rfl,rfl,.inr ⟨⟨_,h1⟩,kt.ok _ (by simp) T hT⟩,q⟩
end
section
variable {K:Fg} {te ta tb tc:TE} {de da db dc:DE} {tt tu:TT} {dt du:DT} {tA:TA} {dA:DF} {w:World}
abbrev DO:=DSt->(Option Int->Prop)->Prop
def zhl:DO:=λ _ Q=>Q none
def zc51 (de:DE):DO:=λ U Q=>de U λ d=>match d with
|.int i=>Q (some i)
|_=>False
theorem zyr:RfO K zol zhl:=λ s rv h k=>k _ h _ _ (Ext.refl s)
theorem zjd (h:RfE K te de):RfO K (zas te) (zc51 de):=by
 intro F H Y U Qd Q s rv hd k
 refine h s rv hd λ d hx v F1 H1 e1 i1=>?_
 split at hx
 ·cases i1.int_inv;exact ⟨_,rfl,k _ hx F1 H1 e1⟩
 ·exact hx.elim
def cutD (xs:List D) (lo hi:Option Int):List D:=(xs.drop (HT.sIx xs.length 0 lo)).take (HT.sIx xs.length xs.length hi - HT.sIx xs.length 0 lo)
theorem zsl {F:Hp} {xs:List V} {ds:List D} (h:IsAll K F xs ds) (lo hi:Option Int):IsAll K F (cutV xs lo hi) (cutD ds lo hi):=by
 unfold cutV cutD
 rw [h.dlen]
 exact (h.ddrop _).dtake _
def fSl (d:D) (lo hi:Option Int) (Q:D->Prop):Prop:=match d with
|.list ds=>Q (.list (cutD ds lo hi))
|.str z=>z.length<=sizeLine/\Q (.str (Txt.slice z lo hi))
|.tuple ds=>¬(HT.sIx ds.length 0 lo=0/\HT.sIx ds.length ds.length hi=ds.length)/\Q (.tuple (cutD ds lo hi))
|_=>False
def fSlF (d:D) (lo hi:Option Int) (Q:List D->Prop):Prop:=match d with
|.list ds=>Q (cutD ds lo hi)
|_=>False
variable {tl th tk:TO} {dl dh dk:DO}
def dSl (de:DE) (dl dh:DO):DE:=λ U Q=>de U λ d=>dl U λ lo=>dh U λ hi=>fSl d lo hi Q
theorem zj1 {F H F' H':Hp} {p:Addr} (e:Ext F H F' H') (h:H' p=none):H p=none:=by
 cases q:H p with
|none=>rfl
|some o=>rw [e.h p o q] at h;cases h
theorem zy51 (he:RfV K te de) (hl:RfO K tl dl) (hh:RfO K th dh):RfE K (tSl (rSlW K) te tl th) (dSl de dl dh):=by
 intro F H Y U Qd Q s rv h k
 refine he s rv h λ d hd v F1 H1 e1 i1=>hl e1.fh (rv.ext e1) hd λ lo hlo F2 H2 e2=>hh e2.fh (rv.ext (e1.trans e2)) hlo λ hi hhi F3 H3 e3=>?_
 have e13:=(e1.trans e2).trans e3
 have i3:=i1.ext (e2.trans e3)
 unfold fSl at hhi
 split at hhi
 ·obtain ⟨p,xs,rfl,h1,i2⟩:=i3.list e3.fh
  refine .inl (.inl ⟨p,xs,rfl,h1,λ l hl=>?_⟩)
  obtain ⟨ex,fn⟩:=zy2 (xs:=cutV xs lo hi) e3.fh hl
  obtain ⟨ex2,ii⟩:=zpf (K:=K) ex hl zi0 fn (zsl i2 lo hi)
  exact k _ hhi _ _ _ (e13.trans ex2) ii
 ·cases i3.str
  exact .inr ⟨_,rfl,hhi.1,k _ hhi.2 _ F3 H3 e13 (.str _)⟩
 ·obtain ⟨p,xs,rfl,h1,_,i2⟩:=i3.tuple e3.fh
  refine .inl (.inr ⟨p,xs,rfl,h1,by rw [i2.dlen];exact hhi.1,λ l hl=>?_⟩)
  obtain ⟨ex,ii⟩:=zn8 (K:=K) e3.fh hl (zsl i2 lo hi)
  exact k _ hhi.2 _ _ _ (e13.trans ex) ii
 ·exact hhi.elim
theorem zoa {F:Hp} {xs:List V} {ds:List D} (h:IsAll K F xs ds):∀ js:List Nat,IsAll K F (js.filterMap (xs[·]?)) (js.filterMap (ds[·]?))
|[]=>.nil
|j :: js=>by
  have ih:=zoa h js
  cases hn:ds[j]? with
 |some n =>
   obtain ⟨u,hu,r⟩:=h.dget hn
   simp only [v9,hn,hu]
   exact .cons r ih
 |none =>
   have hv:xs[j]?=none:=by
    rw [yF] at hn ⊢
    rw [h.dlen];exact hn
   simp only [v9,hn,hv]
   exact ih
theorem zum {F:Hp} {xs:List V} {ds:List D} (h:IsAll K F xs ds) (lo hi st:Option Int):IsAll K F (zbh xs lo hi st) (zbh ds lo hi st):=by
 unfold zbh
 rw [h.dlen]
 exact zoa h _
def dSl3 (de:DE) (dl dh dk:DO):DF:=λ U Q=>de U λ d=>dl U λ lo=>dh U λ hi=>dk U λ st=>match d with
|.list ds=>st≠some 0/\Q (zbh ds lo hi st)
|_=>False
theorem zk21 (he:RfV K te de) (hl:RfO K tl dl) (hh:RfO K th dh) (hk:RfO K tk dk):RfF K (tSl3 K te tl th tk) (dSl3 de dl dh dk):=by
 intro F H Y U Qd Q s rv h k
 refine he s rv h λ d hd v F1 H1 e1 i1=>hl e1.fh (rv.ext e1) hd λ lo hlo F2 H2 e2=>hh e2.fh (rv.ext (e1.trans e2)) hlo λ hi hhi F3 H3 e3=>hk e3.fh (rv.ext ((e1.trans e2).trans e3)) hhi λ st hst F4 H4 e4=>?_
 split at hst
 ·have e14:=((e1.trans e2).trans e3).trans e4
  obtain ⟨p,xs,rfl,h1,i2⟩:=(i1.ext ((e2.trans e3).trans e4)).list e4.fh
  refine ⟨p,xs,rfl,h1,hst.1,λ l hl=>?_⟩
  obtain ⟨ex,fn⟩:=zy2 (xs:=zbh xs lo hi st) e4.fh hl
  exact k _ hst.2 l _ F4 _ (e14.trans ex) (zj1 e14 hl) zi0 fn (zum i2 lo hi st)
 ·exact hst.elim
def W0 (K:Fg) (J:It) (F H:Hp) (items:List D):Prop:=(∀ i,i < items.length->J.go i H)/\J.stop items.length H/\∀ i x H3 d,items[i]?=some d->J.yld i H x H3->H3=H/\Is K F x d
def W1 (K:Fg) (J:It) (F H:Hp) (items:List D):Prop:=(∀ i,i < items.length->J.go i H)/\J.stop items.length H/\∀ i x H3 d,items[i]?=some d->J.yld i H x H3->∃ F3,Ext F H F3 H3/\Is K F3 x d
def WD (K:Fg) (J:It) (F:Hp) (items:List D):Prop:=∀ F2 H2,Same F F2->Same F2 H2->W1 K J F2 H2 items
def WV (K:Fg) (J:It) (F H:Hp) (items:List D):Prop:=∀ F2 H2,Ext F H F2 H2->W1 K J F2 H2 items
theorem W0.w1 {J:It} {F H:Hp} {items:List D} (s:Same F H) (h:W0 K J F H items):W1 K J F H items:=⟨h.1,h.2.1,λ i x H3 d e y=>by
 obtain ⟨rfl,r⟩:=h.2.2 i x H3 d e y
 exact ⟨F,Ext.refl s,r⟩⟩
def RfI (K:Fg) (ti:TI) (di:DF):Prop:=∀ {F H:Hp} {Y:_2.St} {U:DSt} {Qd:List D->Prop} {R:It->Hp->Prop},Same F H->RV K F H Y U->di U Qd->(∀ ds,Qd ds->∀ J F' H',Ext F H F' H'->WD K J F' ds->R J H')->ti Y H R
def RfJ (K:Fg) (ti:TI) (di:DF):Prop:=∀ {F H:Hp} {Y:_2.St} {U:DSt} {Qd:List D->Prop} {R:It->Hp->Prop},Same F H->RV K F H Y U->di U Qd->(∀ ds,Qd ds->∀ J F' H',Ext F H F' H'->WV K J F' H' ds->R J H')->ti Y H R
theorem zw2 {F H:Hp} {a:Addr} {xs:List V} {ds:List D} (h:SqL K H a xs) (i:IsAll K F xs ds):W0 K (Itl K a) F H ds:=by
 have el:=i.dlen
 refine ⟨λ j hj=>⟨xs,xs[j]'(by lia),h,uB _⟩,⟨xs,h,by lia⟩,λ j x H3 d e y=>?_⟩
 obtain ⟨e3,y⟩:=y
 obtain ⟨x',h1,h2⟩:=i.dget e
 have:=y xs h
 rw [h1] at this;cases this
 exact ⟨e3,h2⟩
theorem zte {F H:Hp} {a:Addr} {xs:List V} {ds:List D} (h:SqT K H a xs) (i:IsAll K F xs ds):W0 K (Itt K a) F H ds:=by
 have el:=i.dlen
 refine ⟨λ j hj=>⟨xs,xs[j]'(by lia),h,uB _⟩,⟨xs,h,by lia⟩,λ j x H3 d e y=>?_⟩
 obtain ⟨e3,y⟩:=y
 obtain ⟨x',h1,h2⟩:=i.dget e
 have:=y xs h
 rw [h1] at this;cases this
 exact ⟨e3,h2⟩
def zow:D->(List D->Prop)->Prop
|.list ds,Q=>Q ds
|.tuple ds,Q=>Q ds
|.str z,Q=>z.cps.all (· < 128)=true/\Q (z.cps.toList.map λ c=>.str ⟨#[c]⟩)
|_,_=>False
def dIt (de:DE):DF:=λ U Q=>de U λ d=>zow d Q
theorem zgt {F H:Hp} (z:Str) (s:Same F H):W1 K (Its z) F H (z.cps.toList.map λ c=>.str ⟨#[c]⟩):=by
 have el:(z.cps.toList.map λ c=>(PyData.str ⟨#[c]⟩)).length=z.cps.size:=by simp
 refine ⟨λ j hj=>by rw [el] at hj;exact hj,by rw [el];exact uF _,λ j x H3 d e y=>?_⟩
 obtain ⟨e3,c,e1,e2⟩:=y
 subst e3
 rw [uI,xX,e1] at e
 simp at e
 subst e
 exact ⟨F,Ext.refl s,by rw [e2];exact .str _⟩
theorem ztm (h:RfV K te de):RfJ K (iW K te) (dIt de):=by
 intro F H Y U Qd R s rv hd k
 refine h s rv hd λ d hx v F1 H1 e1 i1=>?_
 unfold zow at hx
 split at hx
 ·obtain ⟨p,xs,rfl,h1,i2⟩:=i1.list e1.fh
  exact .inl (.inl ⟨p,rfl,⟨xs,h1⟩,k _ hx _ F1 H1 e1 λ F2 H2 e2=>(zw2 (e2.h.seq h1) (i2.mono e2.f)).w1 e2.fh⟩)
 ·obtain ⟨p,xs,rfl,h1,_,i2⟩:=i1.tuple e1.fh
  exact .inl (.inr ⟨p,rfl,⟨xs,h1⟩,k _ hx _ F1 H1 e1 λ F2 H2 e2=>(zte (zxb e2.h h1) (i2.mono e2.f)).w1 e2.fh⟩)
 ·cases i1.str
  exact .inr ⟨_,rfl,hx.1,k _ hx.2 _ F1 H1 e1 λ F2 H2 e2=>zgt _ e2.fh⟩
 ·exact hx.elim
theorem zvo (h:RfE K te de):RfI K (iW K te) (dIt de):=by
 intro F H Y U Qd R s rv hd k
 refine h s rv hd λ d hx v F1 H1 e1 i1=>?_
 unfold zow at hx
 split at hx
 ·obtain ⟨p,xs,rfl,h1,i2⟩:=i1.list_inv
  exact .inl (.inl ⟨p,rfl,⟨xs,e1.fh.seq h1⟩,k _ hx _ F1 H1 e1 λ F2 H2 s2 t2=>(zw2 (t2.seq (s2.seq h1)) (i2.mono s2)).w1 t2⟩)
 ·obtain ⟨p,xs,rfl,h1,i2⟩:=i1.tuple_inv
  exact .inl (.inr ⟨p,rfl,⟨xs,zxb e1.fh h1⟩,k _ hx _ F1 H1 e1 λ F2 H2 s2 t2=>(zte (zxb t2 (zxb s2 h1)) (i2.mono s2)).w1 t2⟩)
 ·cases i1.str_inv
  exact .inr ⟨_,rfl,hx.1,k _ hx.2 _ F1 H1 e1 λ F2 H2 s2 t2=>zgt _ t2⟩
 ·exact hx.elim
theorem RfI.j {ti:TI} {di:DF} (h:RfI K ti di):RfJ K ti di:=λ s rv hd k=>h s rv hd λ ds q J F' H' e w=>k ds q J F' H' e λ F2 H2 e2=>w F2 H2 e2.f e2.fh
def rngD (lo:Int) (n:Nat):List D:=(uL n).map λ i=>.int (lo+(i:Nat))
theorem zng (lo:Int) (n:Nat):(rngD lo n).length=n:=by simp [rngD]
theorem zhp {lo:Int} {n i:Nat} {d:D} (e:(rngD lo n)[i]?=some d):i < n/\d=.int (lo+(i:Nat)):=by
 unfold rngD at e
 rw [uI] at e
 obtain ⟨j,hj,rfl⟩:=u6.mp e
 obtain ⟨h1,h2⟩:=uZ.mp hj
 simp at h1 h2
 subst h2
 exact ⟨h1,rfl⟩
theorem zpx {F H:Hp} (lo:Int) (n:Nat) (s:Same F H):W1 K (Itr lo n) F H (rngD lo n):=by
 refine ⟨λ j hj=>by rw [zng] at hj;exact hj,by rw [zng];exact uF _,λ j x H3 d e y=>?_⟩
 obtain ⟨e3,y⟩:=y
 subst e3
 obtain ⟨_,rfl⟩:=zhp e
 exact ⟨F,Ext.refl s,by rw [y];exact .int _⟩
def zy41 (dA:DF):DF:=λ U Q=>dA U λ ds=>match ds with
|[.int j]=>-(2 ^ 62)<=j/\j < 2 ^ 62/\Q (rngD 0 j.toNat)
|_=>False
theorem zuf (h:RfA K tA dA):RfI K (zo41 tA) (zy41 dA):=by
 intro F H Y U Qd R s rv hd k
 refine h s rv hd λ ds hx vs F1 H1 e1 i1=>?_
 split at hx
 ·cases i1 with
 |cons h1 r1 =>
   cases r1
   cases h1.int_inv
   exact ⟨_,rfl,hx.1,hx.2.1,k _ hx.2.2 _ F1 H1 e1 λ F2 H2 s2 t2=>zpx _ _ t2⟩
 ·exact hx.elim
def zipD (ds es:List D):List D:=List.zipWith (λ a b=>.tuple [a,b]) ds es
theorem zqe {F H:Hp} {J1 J2:It} {ds es:List D} (s:Same F H) (h1:W0 K J1 F H ds) (h2:W0 K J2 F H es):W1 K (Itz J1 J2) F H (zipD ds es):=by
 have el:(zipD ds es).length=min ds.length es.length:=by simp [zipD]
 refine ⟨λ j hj=>⟨h1.1 j (by lia),h2.1 j (by lia)⟩,?_,λ j x H3 d e y=>?_⟩
 ·rw [el]
  by_cases h:ds.length<=es.length
  ·rw [yP h];exact .inl h1.2.1
  ·rw [Nat.min_eq_right (by lia)];exact .inr ⟨h1.1 es.length (by lia),h2.2.1⟩
 ·obtain ⟨x1,x2,p,y1,y2,hp,e1,e2⟩:=y
  subst e2
  unfold zipD at e
  rw [List.getElem?_zipWith] at e
  cases q1:ds[j]? with
 |none=>rw [q1] at e;cases e
 |some d1 =>
   cases q2:es[j]? with
  |none=>rw [q1,q2] at e;cases e
  |some d2 =>
    rw [q1,q2] at e
    cases e
    obtain ⟨_,i1⟩:=h1.2.2 j x1 H d1 q1 y1
    obtain ⟨_,i2⟩:=h2.2.2 j x2 H d2 q2 y2
    obtain ⟨ex,ii⟩:=zn8 (K:=K) (ds:=[d1,d2]) s hp (.cons i1 (.cons i2 .nil))
    exact ⟨_,ex,by rw [e1];exact ii⟩
def fZip:List D->(List D->Prop)->Prop
|[.list a,.list b],Q=>Q (zipD a b)
|[.list a,.tuple b],Q=>Q (zipD a b)
|[.tuple a,.list b],Q=>Q (zipD a b)
|_,_=>False
def dZip (dA:DF):DF:=λ U Q=>dA U λ ds=>fZip ds Q
theorem znv (h:RfAV K tA dA):RfJ K (iZip K tA) (dZip dA):=by
 intro F H Y U Qd R s rv hd k
 refine h s rv hd λ ds hx vs F1 H1 e1 i1=>?_
 unfold fZip at hx
 split at hx
 ·obtain ⟨v,u,rfl,w1,w2⟩:=vw2 i1
  obtain ⟨p,xs,rfl,h1,j1⟩:=w1.list e1.fh
  obtain ⟨q,ys,rfl,h2,j2⟩:=w2.list e1.fh
  exact ⟨_,_,rfl,.inl ⟨p,rfl,⟨xs,h1⟩,.inl ⟨q,rfl,⟨ys,h2⟩,k _ hx _ F1 H1 e1 λ F2 H2 e2=>zqe e2.fh (zw2 (e2.h.seq h1) (j1.mono e2.f)) (zw2 (e2.h.seq h2) (j2.mono e2.f))⟩⟩⟩
 ·obtain ⟨v,u,rfl,w1,w2⟩:=vw2 i1
  obtain ⟨p,xs,rfl,h1,j1⟩:=w1.list e1.fh
  obtain ⟨q,ys,rfl,h2,_,j2⟩:=w2.tuple e1.fh
  exact ⟨_,_,rfl,.inl ⟨p,rfl,⟨xs,h1⟩,.inr ⟨q,rfl,⟨ys,h2⟩,k _ hx _ F1 H1 e1 λ F2 H2 e2=>zqe e2.fh (zw2 (e2.h.seq h1) (j1.mono e2.f)) (zte (zxb e2.h h2) (j2.mono e2.f))⟩⟩⟩
 ·obtain ⟨v,u,rfl,w1,w2⟩:=vw2 i1
  obtain ⟨p,xs,rfl,h1,_,j1⟩:=w1.tuple e1.fh
  obtain ⟨q,ys,rfl,h2,j2⟩:=w2.list e1.fh
  exact ⟨_,_,rfl,.inr ⟨p,rfl,⟨xs,h1⟩,.inl ⟨q,rfl,⟨ys,h2⟩,k _ hx _ F1 H1 e1 λ F2 H2 e2=>zqe e2.fh (zte (zxb e2.h h1) (j1.mono e2.f)) (zw2 (e2.h.seq h2) (j2.mono e2.f))⟩⟩⟩
 ·exact hx.elim
theorem all2 {F:Hp} {vs:List V} {d e:D} (h:IsAll K F vs [d,e]):∃ v u,vs=[v,u]/\Is K F v d/\Is K F u e:=by
 cases h with
|cons h r=>cases r with
 |cons h2 r2=>cases r2;exact ⟨_,_,rfl,h,h2⟩
theorem all1 {F:Hp} {vs:List V} {d:D} (h:IsAll K F vs [d]):∃ v,vs=[v]/\Is K F v d:=by
 cases h with
|cons h r=>cases r;exact ⟨_,rfl,h⟩
theorem zeu (h:RfA K tA dA):RfI K (iZip K tA) (dZip dA):=by
 intro F H Y U Qd R s rv hd k
 refine h s rv hd λ ds hx vs F1 H1 e1 i1=>?_
 unfold fZip at hx
 split at hx
 ·obtain ⟨v,u,rfl,w1,w2⟩:=all2 i1
  obtain ⟨p,xs,rfl,h1,j1⟩:=w1.list_inv
  obtain ⟨q,ys,rfl,h2,j2⟩:=w2.list_inv
  exact ⟨_,_,rfl,.inl ⟨p,rfl,⟨xs,e1.fh.seq h1⟩,.inl ⟨q,rfl,⟨ys,e1.fh.seq h2⟩,k _ hx _ F1 H1 e1 λ F2 H2 s2 t2=>zqe t2 (zw2 (t2.seq (s2.seq h1)) (j1.mono s2)) (zw2 (t2.seq (s2.seq h2)) (j2.mono s2))⟩⟩⟩
 ·obtain ⟨v,u,rfl,w1,w2⟩:=all2 i1
  obtain ⟨p,xs,rfl,h1,j1⟩:=w1.list_inv
  obtain ⟨q,ys,rfl,h2,j2⟩:=w2.tuple_inv
  exact ⟨_,_,rfl,.inl ⟨p,rfl,⟨xs,e1.fh.seq h1⟩,.inr ⟨q,rfl,⟨ys,zxb e1.fh h2⟩,k _ hx _ F1 H1 e1 λ F2 H2 s2 t2=>zqe t2 (zw2 (t2.seq (s2.seq h1)) (j1.mono s2)) (zte (zxb t2 (zxb s2 h2)) (j2.mono s2))⟩⟩⟩
 ·obtain ⟨v,u,rfl,w1,w2⟩:=all2 i1
  obtain ⟨p,xs,rfl,h1,j1⟩:=w1.tuple_inv
  obtain ⟨q,ys,rfl,h2,j2⟩:=w2.list_inv
  exact ⟨_,_,rfl,.inr ⟨p,rfl,⟨xs,zxb e1.fh h1⟩,.inl ⟨q,rfl,⟨ys,e1.fh.seq h2⟩,k _ hx _ F1 H1 e1 λ F2 H2 s2 t2=>zqe t2 (zte (zxb t2 (zxb s2 h1)) (j1.mono s2)) (zw2 (t2.seq (s2.seq h2)) (j2.mono s2))⟩⟩⟩
 ·exact hx.elim
def zqj (ds:List D):List D:=ds.mapIdx λ i d=>.tuple [.int (i:Nat),d]
theorem zy9 (ds:List D):(zqj ds).length=ds.length:=by simp [zqj]
theorem znd {ds:List D} {i:Nat} {d:D} (e:(zqj ds)[i]?=some d):∃ x,ds[i]?=some x/\d=.tuple [.int (i:Nat),x]:=by
 unfold zqj at e
 rw [xO] at e
 obtain ⟨x,h1,h2⟩:=u6.mp e
 exact ⟨x,h1,h2.symm⟩
theorem zam {F H:Hp} {a:Addr} {xs:List V} {ds:List D} (s:Same F H) (h:SqL K H a xs) (i:IsAll K F xs ds):W1 K (Ite K a) F H (zqj ds):=by
 have el:=i.dlen
 have el2:=zy9 ds
 refine ⟨λ j hj=>⟨xs,xs[j]'(by lia),h,uB _⟩,⟨xs,h,by lia⟩,λ j x H3 d e y=>?_⟩
 obtain ⟨v,p,y1,hp,e1,e2⟩:=y
 subst e2
 obtain ⟨x',hx',rfl⟩:=znd e
 obtain ⟨u,hu,iu⟩:=i.dget hx'
 have:=y1 xs h
 rw [hu] at this;cases this
 obtain ⟨ex,ii⟩:=zn8 (K:=K) (ds:=[.int (j:Nat),x']) s hp (.cons (.int _) (.cons iu .nil))
 exact ⟨_,ex,by rw [e1];exact ii⟩
def zry (dA:DF):DF:=λ U Q=>dA U λ ds=>match ds with
|[.list a]=>Q (zqj a)
|_=>False
theorem zpa (h:RfAV K tA dA):RfJ K (zt11 K tA) (zry dA):=by
 intro F H Y U Qd R s rv hd k
 refine h s rv hd λ ds hx vs F1 H1 e1 i1=>?_
 split at hx
 ·obtain ⟨v,rfl,w1⟩:=vw1 i1
  obtain ⟨p,xs,rfl,h1,j1⟩:=w1.list e1.fh
  exact ⟨p,xs,rfl,h1,k _ hx _ F1 H1 e1 λ F2 H2 e2=>zam e2.fh (e2.h.seq h1) (j1.mono e2.f)⟩
 ·exact hx.elim
theorem znl (h:RfA K tA dA):RfI K (zt11 K tA) (zry dA):=by
 intro F H Y U Qd R s rv hd k
 refine h s rv hd λ ds hx vs F1 H1 e1 i1=>?_
 split at hx
 ·obtain ⟨v,rfl,w1⟩:=all1 i1
  obtain ⟨p,xs,rfl,h1,j1⟩:=w1.list_inv
  exact ⟨p,xs,rfl,e1.fh.seq h1,k _ hx _ F1 H1 e1 λ F2 H2 s2 t2=>zam t2 (t2.seq (s2.seq h1)) (j1.mono s2)⟩
 ·exact hx.elim
end
inductive Upd (K:Fg) (F:Hp) (n:Nat):_2.St->DSt->_2.St->DSt->Prop
|refl {Y:_2.St} {U:DSt}:Upd K F n Y U Y U
|set {Y Y':_2.St} {U U':DSt} {i:Nat} {v:V} {d:D}:i < n->Is K F v d->Upd K F n (Y.set i (some v)) (U.set i (.sh d)) Y' U'->Upd K F n Y U Y' U'
theorem zn5 {Y:_2.St} {i j:Nat} {v:Option V}:(Y.set i v).getD j none=if i=j/\j < Y.length then v else Y.getD j none:=by
 rw [uQ,uQ,wA]
 by_cases h:i=j
 ·subst h
  by_cases h2:i < Y.length
  ·simp [h2]
  ·simp [h2]
 ·simp [h]
theorem RV.set {K:Fg} {F H:Hp} {Y:_2.St} {U:DSt} {i:Nat} {v:V} {sl:Sl} (r:RV K F H Y U) (h:RSl K F H (some v) sl):RV K F H (Y.set i (some v)) (U.set i sl):=by
 refine ⟨by rw [uW,uW];exact r.len,λ j s e=>?_⟩
 rw [wA] at e
 rw [zn5,r.len]
 by_cases hij:i=j
 ·subst hij
  by_cases hl:i < U.length
  ·simp [hl] at e ⊢;subst e;exact h
  ·simp [hl] at e
 ·simp [hij] at e ⊢;exact r.sl j s e
theorem Upd.rv {K:Fg} {F H:Hp} {n:Nat} {Y Y':_2.St} {U U':DSt} (u:Upd K F n Y U Y' U') (r:RV K F H Y U):RV K F H Y' U':=by
 induction u with
|refl=>exact r
|set hi hv _ ih=>exact ih (r.set ⟨_,rfl,hv⟩)
theorem Upd.keep {K:Fg} {F:Hp} {n:Nat} {Y Y':_2.St} {U U':DSt} (u:Upd K F n Y U Y' U'):Y'.length=Y.length/\∀ i,n<=i->Y'.getD i none=Y.getD i none:=by
 induction u with
|refl=>exact ⟨rfl,λ _ _=>rfl⟩
|set hi hv _ ih =>
  refine ⟨by rw [ih.1,uW],λ j hj=>?_⟩
  rw [ih.2 j hj,zn5,if_neg (by lia)]
abbrev DG:=D->DSt->(DSt->Prop)->Prop
abbrev DGs:=List D->DSt->(DSt->Prop)->Prop
def RfG (K:Fg) (n:Nat) (g:TG) (dg:DG):Prop:=∀ {F H:Hp} {Y:_2.St} {U:DSt} {v:V} {d:D} {Gd:DSt->Prop} {G:_2.St->Hp->Prop},Same F H->Is K F v d->dg d U Gd->(∀ Y' U',Gd U'->Upd K F n Y U Y' U'->G Y' H)->g v Y H G
def RfGs (K:Fg) (n:Nat) (g:TGs) (dg:DGs):Prop:=∀ {F H:Hp} {Y:_2.St} {U:DSt} {vs:List V} {ds:List D} {Gd:DSt->Prop} {G:_2.St->Hp->Prop},Same F H->IsAll K F vs ds->dg ds U Gd->(∀ Y' U',Gd U'->Upd K F n Y U Y' U'->G Y' H)->g vs Y H G
def gN (i:Nat):DG:=λ d U G=>G (U.set i (.sh d))
def ztz:DGs:=λ ds U G=>match ds with
|[]=>G U
|_=>False
def zwo (g:DG) (gs:DGs):DGs:=λ ds U G=>match ds with
|d :: r=>g d U λ U'=>gs r U' G
|[]=>False
def gT (n:Nat) (gs:DGs):DG:=λ d U G=>match d with
|.tuple ds=>ds.length=n/\gs ds U G
|_=>False
section
variable {K:Fg} {n m:Nat}
theorem zc1 {i:Nat} (hi:i < n):RfG K n (zuj i) (gN i):=λ s h hd k=>k _ _ hd (.set hi h .refl)
theorem ze2:RfGs K n gNil ztz:=by
 intro F H Y U vs ds Gd G s h hd k
 unfold ztz at hd
 split at hd
 ·cases h;exact ⟨rfl,k _ _ hd .refl⟩
 ·exact hd.elim
theorem Upd.trans {F:Hp} {Y Y1 Y2:_2.St} {U U1 U2:DSt} (a:Upd K F n Y U Y1 U1) (b:Upd K F n Y1 U1 Y2 U2):Upd K F n Y U Y2 U2:=by
 induction a with
|refl=>exact b
|set hi hv _ ih=>exact .set hi hv (ih b)
theorem zp0 {g:TG} {dg:DG} {gs:TGs} {dgs:DGs} (h1:RfG K n g dg) (h2:RfGs K n gs dgs):RfGs K n (zd51 g gs) (zwo dg dgs):=by
 intro F H Y U vs ds Gd G s h hd k
 unfold zwo at hd
 split at hd
 ·cases h with
 |cons hx hr =>
   refine ⟨_,_,rfl,h1 s hx hd λ Y1 U1 hd1 u1=>h2 s hr hd1 λ Y2 U2 hd2 u2=>k _ _ hd2 (u1.trans u2)⟩
 ·exact hd.elim
theorem zq4 {gs:TGs} {dgs:DGs} (h:RfGs K n gs dgs):RfG K n (gTup K m gs) (gT m dgs):=by
 intro F H Y U v d Gd G s hv hd k
 unfold gT at hd
 split at hd
 ·obtain ⟨a,xs,rfl,h1,h2⟩:=hv.tuple_inv
  exact ⟨a,xs,rfl,zxb s h1,by rw [h2.dlen];exact hd.1,h s h2 hd.2 k⟩
 ·exact hd.elim
end
def cST (n:Nat) (ix:List Nat) (U:DSt):DSt:=uP n .un++ix.map λ i=>U.getD i .un
theorem zot {K:Fg} {F H:Hp} {Y:_2.St} {U:DSt} (n:Nat) (ix:List Nat) (r:RV K F H Y U):RV K F H (compY n ix Y) (cST n ix U):=by
 refine ⟨by simp [compY,cST],λ i s e=>?_⟩
 unfold cST at e
 unfold compY
 by_cases h:i < n
 ·rw [u5 (by simpa using h)] at e
  simp [vT,h] at e
  subst e;trivial
 ·rw [u9 (by simpa using h)] at e
  rw [uQ,u9 (by simpa using h)]
  simp only [wP,uI] at e ⊢
  obtain ⟨j,hj,rfl⟩:=u6.mp e
  rw [hj]
  show RSl K F H (Y.getD j none) _
  cases q:U[j]? with
 |none=>rw [show U.getD j .un=.un by rw [uQ,q];rfl];trivial
 |some t=>rw [show U.getD j .un=t by rw [uQ,q];rfl];exact r.sl j t q
theorem RV.caps {K:Fg} {F H:Hp} {Y Y':_2.St} {n:Nat} {ix:List Nat} {U:DSt} (r:RV K F H Y (cST n ix U)) (hl:Y'.length=Y.length) (hk:∀ i,n<=i->Y'.getD i none=Y.getD i none):RV K F H Y' (cST n ix U):=by
 refine ⟨by rw [hl];exact r.len,λ i s e=>?_⟩
 by_cases h:i < n
 ·unfold cST at e
  rw [u5 (by simpa using h)] at e
  simp [vT,h] at e
  subst e;trivial
 ·rw [hk i (by lia)];exact r.sl i s e
def za51 (di:DF) (n:Nat) (ix:List Nat) (dg:DG) (dt:DT) (de:DE):DF:=λ U Q=>di U λ items=>items.length<=sizeLine/\∃ R:Nat->Option D->Prop,
 (∀ i d,items[i]?=some d->dg d (cST n ix U) λ U'=>dt U' λ b=>if b=true then de U' λ r=>R i (some r) else R i none) /\
 ∀ os:List (Option D),os.length=items.length->(∀ (j:Nat) o,os[j]?=some o->R j o)->Q (os.filterMap id)
def za11:DT:=λ _ Q=>Q true
section
variable {K:Fg} {wi:TI} {di:DF} {n:Nat} {ix:List Nat} {g:TG} {dg:DG} {tt:TT} {dt:DT} {te:TE} {de:DE}
theorem zf5:RfT K zh01 za11:=λ s rv h k=>k _ h _ _ (Ext.refl s)
theorem zu2 (hi:RfJ K wi di) (hg:RfG K n g dg) (ht:RfT K tt dt) (he:RfE K te de):RfF K (zrw wi n ix g tt te) (za51 di n ix dg dt de):=by
 intro F H Y U Qd Q s rv hd k
 refine hi s rv hd λ items hx J F1 H1 e1 wj D hD=>?_
 obtain ⟨hz,R,hR,hQ⟩:=hx
 have rv1:=zot n ix (rv.ext e1)
 have F1D:F1 D=none:=by
  cases q:F1 D with
 |none=>rfl
 |some o=>rw [e1.fh D o q] at hD;cases hD
 refine ⟨λ i m acc Y' H'=>m=items.length - i/\i<=items.length/\Y'.length=(compY n ix Y).length/\(∀ j,n<=j->Y'.getD j none=(compY n ix Y).getD j none)/\∃ (F':Hp) (os:List (Option PyData)),Ext F1 H1 F' H'/\F' D=none/\H' D=some (.lst acc)/\os.length=i/\(∀ (j:Nat) o,os[j]?=some o->R j o)/\IsAll K F' acc (os.filterMap id),⟨items.length,rfl,vZ _,rfl,λ _ _=>rfl,F1,[],?_,F1D,zi0,rfl,λ j o e=>by simp at e,.nil⟩,?_⟩
 ·exact (zy2 (xs:=[]) e1.fh hD).1
 rintro i m acc Y' H' ⟨rfl,hi',hl,hk,F',os,ex,fD,hDD,hos,hRs,hall⟩
 obtain ⟨go,stop,yld⟩:=wj F' H' ex
 by_cases hlt:i < items.length
 ·refine .inr ⟨go i hlt,λ acc' Y2 H2=>i+1<=items.length/\Y2.length=(compY n ix Y).length/\(∀ j,n<=j->Y2.getD j none=(compY n ix Y).getD j none)/\∃ (F':Hp) (os:List (Option PyData)),Ext F1 H1 F' H2/\F' D=none/\H2 D=some (.lst acc')/\os.length=i+1/\(∀ (j:Nat) o,os[j]?=some o->R j o)/\IsAll K F' acc' (os.filterMap id),λ acc' Y2 H2 p=>⟨items.length - (i+1),by lia,rfl,p⟩,λ x H2 y=>?_⟩
  have hit:items[i]?=some items[i]:=uB hlt
  obtain ⟨F2,ex2,ix2⟩:=yld i x H2 _ hit y
  have rv2:RV K F2 H2 Y' (cST n ix U):=RV.caps (rv1.ext (ex.trans ex2)) hl hk
  have hRn:∀ o,R i o->∀ (j:Nat) o',(os++[o])[j]?=some o'->R j o':=λ o ho j o' e=>by
   rcases Nat.lt_trichotomy j os.length with h|h|h
   ·rw [u5 h] at e;exact hRs j o' e
   ·subst h;rw [u9 (uF _)] at e;simp at e;subst e;rw [hos];exact ho
   ·rw [u9 (xE h)] at e
    cases q:j - os.length with
   |zero=>lia
   |succ z=>rw [q] at e;simp at e
  refine hg ex2.fh ix2 (hR i _ hit) λ Y2 U2 hd2 u2=>?_
  have rv3:=u2.rv rv2
  have kp:=u2.keep
  have hl2:Y2.length=(compY n ix Y).length:=by rw [kp.1,hl]
  have hk2:∀ j,n<=j->Y2.getD j none=(compY n ix Y).getD j none:=λ j hj=>by rw [kp.2 j hj,hk j hj]
  refine ht ex2.fh rv3 hd2 λ b hb F4 H4 e4=>?_
  have e24:=ex2.trans e4
  have hD4:H4 D=some (.lst acc):=e24.h _ _ hDD
  have fD4:F4 D=none:=e24.nwo hDD (λ _=>nofun) fD
  cases b with
 |true =>
   rw [if_pos rfl] at hb ⊢
   refine he e4.fh (rv3.ext e4) hb λ r hr v F5 H5 e5 i5=>?_
   have e25:=e24.trans e5
   have hD5:H5 D=some (.lst acc):=e25.h _ _ hDD
   have fD5:F5 D=none:=e25.nwo hDD (λ _=>nofun) fD
   have hlen:acc.length<=i:=by
    rw [hall.dlen,<- hos];exact List.length_filterMap_le _ _
   have e15:=ex.trans e25
   refine ⟨hD5,by lia,hlt,hl2,hk2,F5,os++[some r],⟨λ b o hb=>?_,e15.f,λ b o hb=>?_,e15.nw⟩,fD5,zi0,by simp [hos],hRn _ hr,?_⟩
   ·have:b≠D:=λ z=>by subst z;rw [hD] at hb;cases hb
    rw [zm0 this];exact e15.h b o hb
   ·have:b≠D:=λ z=>by subst z;rw [fD5] at hb;cases hb
    rw [zm0 this];exact e15.fh b o hb
   ·rw [zM]
    exact (hall.mono e25.f).dapp (.cons i5 .nil)
 |false =>
   rw [if_neg uV] at hb ⊢
   refine ⟨hlt,hl2,hk2,F4,os++[none],ex.trans e24,fD4,hD4,by simp [hos],hRn _ hb,?_⟩
   rw [zM]
   have:yQ id [(none:Option PyData)]=[]:=rfl
   rw [this,wE]
   exact hall.mono e24.f
 ·have e:i=items.length:=by lia
  refine .inl ⟨by rw [e];exact stop,k _ (hQ os (by lia) hRs) D acc F' H' (e1.trans ex) ?_ hDD fD hall⟩
  exact zj1 e1 hD
end
theorem at_nat' {α:Type} {xs:List α} {i:Int} {x:α} (h0:0<=i) (h:xs[i.toNat]?=some x):atI xs i=some x:=by
 have e:((i.toNat:Nat):Int)=i:=by lia
 have:=zv8 (xs:=xs) (j:=i.toNat) (v:=x) h
 rwa [e] at this
inductive Stp where
|ix (j:Nat)|fl (f:Str)
abbrev Pth:=List Stp
def putA (f:Str) (t:T):List (Str×T)->List (Str×T)
|[]=>[(f,t)]
|(g,x) :: r=>if g=f then (g,t) :: r else (g,x) :: putA f t r
def setP:T->Pth->T->T
|_,[],u=>u
|.ls ts,.ix j :: p,u=>match ts[j]? with
 |some t=>.ls (ts.set j (setP t p u))
 |none=>.ls ts
|.tp ts,.ix j :: p,u=>match ts[j]? with
 |some t=>.tp (ts.set j (setP t p u))
 |none=>.tp ts
|.ob C fs,.fl f :: p,u=>match fs.lookup f with
 |some t=>.ob C (putA f (setP t p u) fs)
 |none=>.ob C fs
|t,_,_=>t
inductive At (H:Hp):V->T->Pth->V->T->Prop
|nil {v:V} {t:T}:At H v t [] v t
|ix {a:Addr} {xs:List V} {ts:List T} {j:Nat} {x v:V} {t u:T} {p:Pth}:H a=some (.lst xs)->xs[j]?=some x->ts[j]?=some t->At H x t p v u->At H (.ref a) (.ls ts) (.ix j :: p) v u
|tx {a:Addr} {xs:List V} {ts:List T} {j:Nat} {x v:V} {t u:T} {p:Pth}:H a=some (.tup xs)->xs[j]?=some x->ts[j]?=some t->At H x t p v u->At H (.ref a) (.tp ts) (.ix j :: p) v u
|fl {a C dx:Addr} {fs:List (Str×V)} {ts:List (Str×T)} {f:Str} {x v:V} {t u:T} {p:Pth}:H a=some (.ins C dx fs)->fs.lookup f=some x->ts.lookup f=some t->At H x t p v u->At H (.ref a) (.ob C ts) (.fl f :: p) v u
theorem At.mono {H H':Hp} (s:Same H H') {v v':V} {t t':T} {p:Pth} (h:At H v t p v' t'):At H' v t p v' t':=by
 induction h with
|nil=>exact .nil
|ix h1 h2 h3 _ ih=>exact .ix (s _ _ h1) h2 h3 ih
|tx h1 h2 h3 _ ih=>exact .tx (s _ _ h1) h2 h3 ih
|fl h1 h2 h3 _ ih=>exact .fl (s _ _ h1) h2 h3 ih
theorem At.snoc_ix {H:Hp} {v x y:V} {t u:T} {ts:List T} {a:Addr} {xs:List V} {j:Nat} {p:Pth} (h:At H v t p (.ref a) (.ls ts)) (h1:H a=some (.lst xs)) (h2:xs[j]?=some x) (h3:ts[j]?=some u):At H v t (p++[.ix j]) x u:=by
 generalize e:V.ref a=w at h
 generalize e2:T.ls ts=z at h
 induction h with
|nil=>subst e e2;exact .ix h1 h2 h3 .nil
|ix g1 g2 g3 _ ih=>exact .ix g1 g2 g3 (ih e e2)
|tx g1 g2 g3 _ ih=>exact .tx g1 g2 g3 (ih e e2)
|fl g1 g2 g3 _ ih=>exact .fl g1 g2 g3 (ih e e2)
theorem At.snoc_tx {H:Hp} {v x y:V} {t u:T} {ts:List T} {a:Addr} {xs:List V} {j:Nat} {p:Pth} (h:At H v t p (.ref a) (.tp ts)) (h1:H a=some (.tup xs)) (h2:xs[j]?=some x) (h3:ts[j]?=some u):At H v t (p++[.ix j]) x u:=by
 generalize e:V.ref a=w at h
 generalize e2:T.tp ts=z at h
 induction h with
|nil=>subst e e2;exact .tx h1 h2 h3 .nil
|ix g1 g2 g3 _ ih=>exact .ix g1 g2 g3 (ih e e2)
|tx g1 g2 g3 _ ih=>exact .tx g1 g2 g3 (ih e e2)
|fl g1 g2 g3 _ ih=>exact .fl g1 g2 g3 (ih e e2)
theorem At.snoc_fl {H:Hp} {v x:V} {t u:T} {ts:List (Str×T)} {a C dx:Addr} {fs:List (Str×V)} {f:Str} {p:Pth} (h:At H v t p (.ref a) (.ob C ts)) (h1:H a=some (.ins C dx fs)) (h2:fs.lookup f=some x) (h3:ts.lookup f=some u):At H v t (p++[.fl f]) x u:=by
 generalize e:V.ref a=w at h
 generalize e2:T.ob C ts=z at h
 induction h with
|nil=>subst e e2;exact .fl h1 h2 h3 .nil
|ix g1 g2 g3 _ ih=>exact .ix g1 g2 g3 (ih e e2)
|tx g1 g2 g3 _ ih=>exact .tx g1 g2 g3 (ih e e2)
|fl g1 g2 g3 _ ih=>exact .fl g1 g2 g3 (ih e e2)
section
variable {K:Fg}
theorem RtAll.len {F H:Hp}:∀ {xs:List V} {ts:List T} {fp:List Addr},RtAll K F H xs ts fp->xs.length=ts.length
|_,_,_,.nil=>rfl
|_,_,_,.cons _ r=>congrArg (·+1) (RtAll.len r)
theorem RtAll.split {F H:Hp}:∀ {xs:List V} {ts:List T} {fp:List Addr} {j:Nat} {x:V} {t:T},RtAll K F H xs ts fp->xs[j]?=some x->ts[j]?=some t ->
  ∃ fA fj fB,fp=fA++(fj++fB)/\Rt K F H x t fj/\∀ {F2 H2:Hp} {u:T} {fq:List Addr},Same F F2->(∀ b∈fA++fB,H2 b=H b/\F2 b=none)->Rt K F2 H2 x u fq->RtAll K F2 H2 xs (ts.set j u) (fA++(fq++fB))
|_,_,_,_,_,_,.nil,e,_=>by simp at e
|_,_,_,0,x,t,.cons (fp:=fp) (fq:=fq) h r,e1,e2=>by
  simp at e1 e2;subst e1 e2
  exact ⟨[],fp,fq,rfl,h,λ s k g=>(by have z:=RtAll.cons g (r.frame s λ b hb=>k b (by simp [hb]));exact z)⟩
|_,_,_,j+1,x,t,.cons (fp:=fp) (fq:=fq) h r,e1,e2=>by
  obtain ⟨fA,fj,fB,e,hr,g⟩:=RtAll.split (j:=j) r (by simpa using e1) (by simpa using e2)
  refine ⟨fp++fA,fj,fB,by rw [e,wG],hr,λ s k hu=>?_⟩
  rw [wG]
  exact .cons (h.frame s λ b hb=>k b (by simp [hb])) (g s (λ b hb=>k b (by rcases uG.mp hb with z|z <;> simp [z])) hu)
theorem RtFs.split {F H:Hp}:∀ {xs:List (Str×V)} {ts:List (Str×T)} {fp:List Addr} {f:Str} {x:V} {t:T},RtFs K F H xs ts fp->xs.lookup f=some x->ts.lookup f=some t ->
  ∃ fA fj fB,fp=fA++(fj++fB)/\Rt K F H x t fj/\(∀ {F2 H2:Hp} {u:T} {fq:List Addr},Same F F2->(∀ b∈fA++fB,H2 b=H b/\F2 b=none)->Rt K F2 H2 x u fq->RtFs K F2 H2 xs (putA f u ts) (fA++(fq++fB))) /\
   (∀ {F2 H2:Hp} {y:V} {u:T} {fq:List Addr},Same F F2->(∀ b∈fA++fB,H2 b=H b/\F2 b=none)->Rt K F2 H2 y u fq->RtFs K F2 H2 (putF f y xs) (putA f u ts) (fA++(fq++fB)))
|_,_,_,_,_,_,.nil,e,_=>by cases e
|_,_,_,f,x,t,.cons (f:=g) (x:=x') (t:=t') (fp:=fp) (fq:=fq) h r,e1,e2=>by
  by_cases hg:f=g
  ·subst hg
   simp [vR] at e1 e2
   subst e1 e2
   refine ⟨[],fp,fq,rfl,h,λ s k u=>?_,λ s k u=>?_⟩
   ·show RtFs K _ _ _ (putA f _ ((f,_) :: _)) _
    rw [show putA f _ ((f,t') :: _)=(f,_) :: _ from if_pos rfl]
    have z:=RtFs.cons (f:=f) u (r.frame s λ b hb=>k b (by simp [hb]));exact z
   ·rw [show putA f _ ((f,t') :: _)=(f,_) :: _ from if_pos rfl,show putF f _ ((f,x') :: _)=(f,_) :: _ from if_pos rfl]
    have z:=RtFs.cons (f:=f) u (r.frame s λ b hb=>k b (by simp [hb]));exact z
  ·have hb:(f == g)=false:=beq_eq_false_iff_ne.mpr hg
   simp only [vR,hb] at e1 e2
   obtain ⟨fA,fj,fB,e,hr,q1,q2⟩:=RtFs.split r e1 e2
   have hgf:¬g=f:=λ z=>hg z.symm
   refine ⟨fp++fA,fj,fB,by rw [e,wG],hr,λ s k u=>?_,λ s k u=>?_⟩
   ·rw [show putA f _ ((g,t') :: _)=(g,t') :: putA f _ _ from if_neg hgf,wG]
    exact .cons (h.frame s λ b hb=>k b (by simp [hb])) (q1 s (λ b hb=>k b (by rcases uG.mp hb with z|z <;> simp [z])) u)
   ·rw [show putA f _ ((g,t') :: _)=(g,t') :: putA f _ _ from if_neg hgf,show putF f _ ((g,x') :: _)=(g,x') :: putF f _ _ from if_neg hgf,wG]
    exact .cons (h.frame s λ b hb=>k b (by simp [hb])) (q2 s (λ b hb=>k b (by rcases uG.mp hb with z|z <;> simp [z])) u)
theorem RtFs.add {F H F2 H2:Hp} {y:V} {u:T} {fq:List Addr} (s:Same F F2) (hu:Rt K F2 H2 y u fq):∀ {xs:List (Str×V)} {ts:List (Str×T)} {fp:List Addr} {f:Str},RtFs K F H xs ts fp->ts.lookup f=none->(∀ b∈fp,H2 b=H b/\F2 b=none)->RtFs K F2 H2 (putF f y xs) (putA f u ts) (fp++fq)
|_,_,_,f,.nil,_,_=>by
  show RtFs K F2 H2 [(f,y)] [(f,u)] fq
  have:=RtFs.cons (f:=f) hu (.nil (K:=K) (F:=F2) (H:=H2))
  rwa [wE] at this
|_,_,_,f,.cons (f:=g) (x:=x') (t:=t') (fp:=fp) (fq:=fq') h r,e,k=>by
  have hg:¬f=g:=λ z=>by subst z;simp [vR] at e
  have hb:(f == g)=false:=beq_eq_false_iff_ne.mpr hg
  simp only [vR,hb] at e
  have hgf:¬g=f:=λ z=>hg z.symm
  rw [show putA f u ((g,t') :: _)=(g,t') :: putA f u _ from if_neg hgf,show putF f y ((g,x') :: _)=(g,x') :: putF f y _ from if_neg hgf,wG]
  exact .cons (h.frame s λ b hb=>k b (by simp [hb])) (RtFs.add s hu r e λ b hb=>k b (by simp [hb]))
theorem RtFs.keys {F H:Hp} {xs:List (Str×V)} {ts:List (Str×T)} {fp:List Addr} (f:Str) (h:RtFs K F H xs ts fp):(ts.lookup f=none->xs.lookup f=none)/\(∀ t,ts.lookup f=some t->∃ x,xs.lookup f=some x)/\xs.length=ts.length :=
 (Rt.ind (P:=λ _ _ _=>True) (Q:=λ _ _ _=>True) (R:=λ xs ts _=>(ts.lookup f=none->xs.lookup f=none)/\(∀ t,ts.lookup f=some t->∃ x,xs.lookup f=some x)/\xs.length=ts.length)
  (λ _=>trivial) (λ _ _ _=>trivial) (λ _ _ _=>trivial) (λ _ _ _ _ _=>trivial) (λ _ _ _=>trivial) (λ _ _ _=>trivial) (λ _ _ _ _=>trivial) trivial (λ _ _ _ _=>trivial) trivial (λ _ _=>trivial) ⟨λ _=>rfl,(λ t e=>by cases e),rfl⟩
  λ {g x _ _ _ _ _} _ ⟨k1,k2,k3⟩=>by
   rw [vP,vP,k3,u3,u3]
   cases f == g with
  |true=>exact ⟨(λ e=>by cases e),λ _ _=>⟨x,rfl⟩,rfl⟩
  |false=>exact ⟨k1,k2,rfl⟩).2.2 h
theorem ze01 {F H:Hp} {x v:V} {t u:T} {p:Pth} (h:At H x t p v u):∀ {fp:List Addr},Rt K F H x t fp->fp.Nodup->∃ fn,Rt K F H v u fn/\(∀ a∈fn,a∈fp)/\fn.Nodup /\
  ∀ {F2 H2:Hp} {u2:T} {fq:List Addr},Same F F2->(∀ b∈fp,b ∉ fn->H2 b=H b/\F2 b=none)->Rt K F2 H2 v u2 fq->fq.Nodup->(∀ b∈fq,b∈fn \/ b ∉ fp)->∃ fp2,Rt K F2 H2 x (setP t p u2) fp2/\fp2.Nodup/\∀ b∈fp2,(b∈fp/\b ∉ fn) \/ b∈fq:=by
 induction h with
|nil =>
  intro fp hr nd
  refine ⟨fp,hr,λ a z=>z,nd,λ {F2 H2 u2 fq} _ _ h2 n2 _=>⟨fq,?_,n2,λ b hb=>.inr hb⟩⟩
  cases u2 <;> exact h2
|@ix a0 xs0 ts0 j0 x0 v0 t0 u0 p0 h1 h2 h3 _ ih =>
  intro fp hr nd
  cases hr with
 |ls g1 g2 g3 =>
   rw [h1] at g1;cases g1
   obtain ⟨fA,fj,fB,e,hj,rep⟩:=g3.split h2 h3
   subst e
   have ndR:=(uU.mp nd).2
   have nA:=(uU.mp nd).1
   obtain ⟨ndA,ndJB,djA⟩:=uX.mp ndR
   obtain ⟨ndj,ndB,djB⟩:=uX.mp ndJB
   obtain ⟨fn,hn,sub,ndn,back⟩:=ih hj ndj
   refine ⟨fn,hn,λ a ha=>by simp [sub a ha],ndn,λ {F2 H2 u2 fq} s k hu nq hq=>?_⟩
   obtain ⟨f2,r2,n2,m2⟩:=back s (λ b hb hnb=>k b (by simp [hb]) hnb) hu nq λ b hb=>by
    rcases hq b hb with z|z
    ·exact .inl z
    ·exact .inr λ y=>z (by simp [y])
   have notin:∀ b,b∈fA \/ b∈fB->b ∉ fn:=λ b hb hn'=>by
    have:=sub b hn'
    rcases hb with z|z
    ·exact djA b z b (by simp [this]) rfl
    ·exact djB b this b z rfl
   have rA:=rep s (λ b hb=>by
    have hb':=uG.mp hb
    refine k b (by rcases hb' with z|z <;> simp [z]) (notin b hb')) r2
   have hnotq:∀ b,(b∈fA \/ b∈fB \/ b=a0)->b ∉ fq:=λ b hb hbq=>by
    rcases hq b hbq with z|z
    ·rcases hb with y|y|y
     ·exact notin b (.inl y) z
     ·exact notin b (.inr y) z
     ·subst y;exact nA (by simp [sub _ z])
    ·apply z
     rcases hb with y|y|y
     ·simp [y]
     ·simp [y]
     ·simp [y]
   have ha2:=k _ (vK) (λ z=>nA (by simp [sub _ z]))
   refine ⟨a0 :: (fA++(f2++fB)),?_,?_,?_⟩
   ·unfold setP
    rw [h3]
    exact .ls (by rw [ha2.1];exact h1) ha2.2 rA
   ·refine uU.mpr ⟨λ z=>?_,?_⟩
    ·rcases uG.mp z with y|y
     ·exact nA (by simp [y])
     ·rcases uG.mp y with y|y
      ·rcases m2 _ y with ⟨y1,_⟩|y1
       ·exact nA (by simp [y1])
       ·exact hnotq _ (.inr (.inr rfl)) y1
      ·exact nA (by simp [y])
    ·refine uX.mpr ⟨ndA,uX.mpr ⟨n2,ndB,λ a ha b hb=>?_⟩,λ a ha b hb=>?_⟩
     ·rcases m2 a ha with ⟨y,_⟩|y
      ·exact djB a y b hb
      ·intro z;subst z;exact hnotq a (.inr (.inl hb)) y
     ·rcases uG.mp hb with y|y
      ·rcases m2 b y with ⟨y,_⟩|y
       ·exact djA a ha b (by simp [y])
       ·intro z;subst z;exact hnotq a (.inl ha) y
      ·exact djA a ha b (by simp [y])
   ·intro b hb
    rcases uE.mp hb with y|y
    ·subst y;exact .inl ⟨by simp,λ z=>nA (by simp [sub _ z])⟩
    ·rcases uG.mp y with y|y
     ·exact .inl ⟨by simp [y],notin b (.inl y)⟩
     ·rcases uG.mp y with y|y
      ·rcases m2 b y with ⟨y1,y2⟩|y1
       ·exact .inl ⟨by simp [y1],y2⟩
       ·exact .inr y1
      ·exact .inl ⟨by simp [y],notin b (.inr y)⟩
|@tx a0 xs0 ts0 j0 x0 v0 t0 u0 p0 h1 h2 h3 _ ih =>
  intro fp hr nd
  cases hr with
 |tp g1 g2 gk g3 =>
   rw [h1] at g1;cases g1
   obtain ⟨fA,fj,fB,e,hj,rep⟩:=g3.split h2 h3
   subst e
   have ndR:=(uU.mp nd).2
   have nA:=(uU.mp nd).1
   obtain ⟨ndA,ndJB,djA⟩:=uX.mp ndR
   obtain ⟨ndj,ndB,djB⟩:=uX.mp ndJB
   obtain ⟨fn,hn,sub,ndn,back⟩:=ih hj ndj
   refine ⟨fn,hn,λ a ha=>by simp [sub a ha],ndn,λ {F2 H2 u2 fq} s k hu nq hq=>?_⟩
   obtain ⟨f2,r2,n2,m2⟩:=back s (λ b hb hnb=>k b (by simp [hb]) hnb) hu nq λ b hb=>by
    rcases hq b hb with z|z
    ·exact .inl z
    ·exact .inr λ y=>z (by simp [y])
   have notin:∀ b,b∈fA \/ b∈fB->b ∉ fn:=λ b hb hn'=>by
    have:=sub b hn'
    rcases hb with z|z
    ·exact djA b z b (by simp [this]) rfl
    ·exact djB b this b z rfl
   have rA:=rep s (λ b hb=>by
    have hb':=uG.mp hb
    refine k b (by rcases hb' with z|z <;> simp [z]) (notin b hb')) r2
   have hnotq:∀ b,(b∈fA \/ b∈fB \/ b=a0)->b ∉ fq:=λ b hb hbq=>by
    rcases hq b hbq with z|z
    ·rcases hb with y|y|y
     ·exact notin b (.inl y) z
     ·exact notin b (.inr y) z
     ·subst y;exact nA (by simp [sub _ z])
    ·apply z
     rcases hb with y|y|y
     ·simp [y]
     ·simp [y]
     ·simp [y]
   have ha2:=k _ (vK) (λ z=>nA (by simp [sub _ z]))
   refine ⟨a0 :: (fA++(f2++fB)),?_,?_,?_⟩
   ·unfold setP
    rw [h3]
    exact .tp (by rw [ha2.1];exact h1) ha2.2 gk rA
   ·refine uU.mpr ⟨λ z=>?_,?_⟩
    ·rcases uG.mp z with y|y
     ·exact nA (by simp [y])
     ·rcases uG.mp y with y|y
      ·rcases m2 _ y with ⟨y1,_⟩|y1
       ·exact nA (by simp [y1])
       ·exact hnotq _ (.inr (.inr rfl)) y1
      ·exact nA (by simp [y])
    ·refine uX.mpr ⟨ndA,uX.mpr ⟨n2,ndB,λ a ha b hb=>?_⟩,λ a ha b hb=>?_⟩
     ·rcases m2 a ha with ⟨y,_⟩|y
      ·exact djB a y b hb
      ·intro z;subst z;exact hnotq a (.inr (.inl hb)) y
     ·rcases uG.mp hb with y|y
      ·rcases m2 b y with ⟨y,_⟩|y
       ·exact djA a ha b (by simp [y])
       ·intro z;subst z;exact hnotq a (.inl ha) y
      ·exact djA a ha b (by simp [y])
   ·intro b hb
    rcases uE.mp hb with y|y
    ·subst y;exact .inl ⟨by simp,λ z=>nA (by simp [sub _ z])⟩
    ·rcases uG.mp y with y|y
     ·exact .inl ⟨by simp [y],notin b (.inl y)⟩
     ·rcases uG.mp y with y|y
      ·rcases m2 b y with ⟨y1,y2⟩|y1
       ·exact .inl ⟨by simp [y1],y2⟩
       ·exact .inr y1
      ·exact .inl ⟨by simp [y],notin b (.inr y)⟩
|@fl a0 C0 dx0 fs0 ts0 f0 x0 v0 t0 u0 p0 h1 h2 h3 _ ih =>
  intro fp hr nd
  cases hr with
 |ob g1 g2 g3 g4 g5 =>
   rw [h1] at g1;cases g1
   obtain ⟨fA,fj,fB,e,hj,rep,_⟩:=g5.split h2 h3
   subst e
   have nd1:=uU.mp nd
   have nd2:=uU.mp nd1.2
   have ndR:=nd2.2
   have nA:_ ∉ fA++(fj++fB):=λ z=>nd1.1 (vB _ z)
   have nX:=nd2.1
   obtain ⟨ndA,ndJB,djA⟩:=uX.mp ndR
   obtain ⟨ndj,ndB,djB⟩:=uX.mp ndJB
   obtain ⟨fn,hn,sub,ndn,back⟩:=ih hj ndj
   refine ⟨fn,hn,λ a ha=>by simp [sub a ha],ndn,λ {F2 H2 u2 fq} s k hu nq hq=>?_⟩
   obtain ⟨f2,r2,n2,m2⟩:=back s (λ b hb hnb=>k b (by simp [hb]) hnb) hu nq λ b hb=>by
    rcases hq b hb with z|z
    ·exact .inl z
    ·exact .inr λ y=>z (by simp [y])
   have notin:∀ b,b∈fA \/ b∈fB->b ∉ fn:=λ b hb hn'=>by
    have:=sub b hn'
    rcases hb with z|z
    ·exact djA b z b (by simp [this]) rfl
    ·exact djB b this b z rfl
   have rA:=rep s (λ b hb=>by
    have hb':=uG.mp hb
    refine k b (by rcases hb' with z|z <;> simp [z]) (notin b hb')) r2
   have hnotq:∀ b,(b∈fA \/ b∈fB)->b ∉ fq:=λ b hb hbq=>by
    rcases hq b hbq with z|z
    ·exact notin b hb z
    ·apply z
     rcases hb with y|y <;> simp [y]
   have hnq2:∀ b,b∈fn->b∈fA++(fj++fB):=λ b hb=>by simp [sub _ hb]
   have ha2:=k _ (vK) (λ z=>nA (hnq2 _ z))
   have hx2:=k _ (vB _ vK) (λ z=>nX (hnq2 _ z))
   have hf2:∀ b∈f2,b∈fj \/ b∈fq:=λ b hb=>by
    rcases m2 b hb with ⟨y,_⟩|y
    ·exact .inl y
    ·exact .inr y
   refine ⟨a0 :: dx0 :: (fA++(f2++fB)),?_,?_,?_⟩
   ·unfold setP
    rw [h3]
    exact .ob (by rw [ha2.1];exact h1) (by rw [hx2.1];exact g2) ha2.2 hx2.2 rA
   ·have inR:∀ b,b∈fA++(f2++fB)->b∈fA++(fj++fB) \/ b∈fq:=λ b hb=>by
     rcases uG.mp hb with y|y
     ·exact .inl (by simp [y])
     ·rcases uG.mp y with y|y
      ·rcases hf2 b y with y|y
       ·exact .inl (by simp [y])
       ·exact .inr y
      ·exact .inl (by simp [y])
    refine uU.mpr ⟨λ z=>?_,uU.mpr ⟨λ z=>?_,?_⟩⟩
    ·rcases uE.mp z with y|y
     ·exact nd1.1 (by rw [y];simp)
     ·rcases inR _ y with y|y
      ·exact nA y
      ·rcases hq _ y with w|w
       ·exact nA (hnq2 _ w)
       ·exact w (by simp)
    ·rcases inR _ z with y|y
     ·exact nX y
     ·rcases hq _ y with w|w
      ·exact nX (hnq2 _ w)
      ·exact w (by simp)
    ·refine uX.mpr ⟨ndA,uX.mpr ⟨n2,ndB,λ a ha b hb=>?_⟩,λ a ha b hb=>?_⟩
     ·rcases m2 a ha with ⟨y,_⟩|y
      ·exact djB a y b hb
      ·intro z;subst z;exact hnotq a (.inr hb) y
     ·rcases uG.mp hb with y|y
      ·rcases m2 b y with ⟨y,_⟩|y
       ·exact djA a ha b (by simp [y])
       ·intro z;subst z;exact hnotq a (.inl ha) y
      ·exact djA a ha b (by simp [y])
   ·intro b hb
    rcases uE.mp hb with y|y
    ·subst y;exact .inl ⟨by simp,λ z=>nA (hnq2 _ z)⟩
    ·rcases uE.mp y with y|y
     ·subst y;exact .inl ⟨by simp,λ z=>nX (hnq2 _ z)⟩
     ·rcases uG.mp y with y|y
      ·exact .inl ⟨by simp [y],notin b (.inl y)⟩
      ·rcases uG.mp y with y|y
       ·rcases m2 b y with ⟨y1,y2⟩|y1
        ·exact .inl ⟨by simp [y1],y2⟩
        ·exact .inr y1
       ·exact .inl ⟨by simp [y],notin b (.inr y)⟩
end
def AtS (H:Hp) (Y:_2.St) (U:DSt) (i:Nat) (p:Pth) (v:V) (u:T):Prop:=∃ s t x,U[i]?=some s/\s.tree=some t/\Y.getD i none=some x/\At H x t p v u
abbrev DP:=DSt->(Nat->Pth->T->Prop)->Prop
def RfP (K:Fg) (te:TE) (dp:DP):Prop:=∀ {F H:Hp} {Y:_2.St} {U:DSt} {Qd:Nat->Pth->T->Prop} {Q:VK},Same F H->RV K F H Y U->dp U Qd->(∀ i p u,Qd i p u->∀ v F' H',Ext F H F' H'->AtS H' Y U i p v u->Q v H')->te Y H Q
section
variable {K:Fg} {te ti:TE} {dp:DP} {di:DE}
theorem zj61 {F H:Hp} {x v:V} {t u:T} {p:Pth} (h:At H x t p v u):∀ {fp:List Addr},Rt K F H x t fp->∃ fn,Rt K F H v u fn:=by
 induction h with
|nil=>intro fp hr;exact ⟨fp,hr⟩
|ix h1 h2 h3 _ ih =>
  intro fp hr
  cases hr with
 |ls g1 g2 g3 =>
   rw [h1] at g1;cases g1
   obtain ⟨fA,fj,fB,e,hj,_⟩:=g3.split h2 h3
   exact ih hj
|tx h1 h2 h3 _ ih =>
  intro fp hr
  cases hr with
 |tp g1 g2 gk g3 =>
   rw [h1] at g1;cases g1
   obtain ⟨fA,fj,fB,e,hj,_⟩:=g3.split h2 h3
   exact ih hj
|fl h1 h2 h3 _ ih =>
  intro fp hr
  cases hr with
 |ob g1 g2 g3 g4 g5 =>
   rw [h1] at g1;cases g1
   obtain ⟨fA,fj,fB,e,hj,_⟩:=g5.split h2 h3
   exact ih hj
theorem AtS.rt {F H:Hp} {Y:_2.St} {U:DSt} {i:Nat} {p:Pth} {v:V} {u:T} (h:AtS H Y U i p v u) (r:RV K F H Y U):∃ fn,Rt K F H v u fn:=by
 obtain ⟨s,t,x,h1,h2,h3,h4⟩:=h
 obtain ⟨y,fp,e,hr,_⟩:=(r.sl i s h1).rt h2
 rw [h3] at e;cases e
 exact zj61 h4 hr
theorem AtS.mono {H H':Hp} {Y:_2.St} {U:DSt} {i:Nat} {p:Pth} {v:V} {u:T} (s:Same H H') (h:AtS H Y U i p v u):AtS H' Y U i p v u:=by
 obtain ⟨s',t,x,h1,h2,h3,h4⟩:=h
 exact ⟨s',t,x,h1,h2,h3,h4.mono s⟩
def pVar (i:Nat):DP:=λ U Q=>∃ s t,U[i]?=some s/\s.tree=some t/\Q i [] t
theorem zq0 (i:Nat):RfP K (tVar i) (pVar i):=by
 intro F H Y U Qd Q s r h k
 obtain ⟨sl,t,q,et,f⟩:=h
 obtain ⟨x,fp,e,hr,_⟩:=(r.sl i _ q).rt et
 exact ⟨x,ze4 (F:=F) (H:=H) (U:=U) e,k i [] t f x F H (Ext.refl s) ⟨sl,t,x,q,et,e,.nil⟩⟩
def nFld (f:Str) (u:T) (Q:T->Prop):Prop:=match u with
|.ob _ fs=>∃ t,fs.lookup f=some t/\Q t
|_=>False
def nCls (C:Addr) (u:T):Prop:=match u with
|.ob C' _=>C'=C
|_=>False
def pFld (C:Addr) (f:Str) (dp:DP):DP:=λ U Q=>dp U λ i p u=>nCls C u/\nFld f u λ t=>Q i (p++[.fl f]) t
theorem zd4 {C:Addr} {f:Str} (c:Cls K C) (na:NoAttr K C f) (h:RfP K te dp):RfP K (zl41 K te f) (pFld C f dp):=by
 intro F H Y U Qd Q s r hd k
 refine h s r hd λ i p u hu v F1 H1 e1 at1=>?_
 obtain ⟨hc,hf⟩:=hu
 obtain ⟨fn,hr⟩:=at1.rt (r.ext e1)
 cases hr with
|ob g1 g2 g3 g4 g5 =>
  cases (show _=C from hc)
  obtain ⟨t,et,q⟩:=hf
  obtain ⟨y,ey⟩:=(g5.keys f).2.1 t et
  refine ⟨_,_,_,_,y,rfl,g1,c,na,ey,k i _ t q y F1 H1 e1 ?_⟩
  obtain ⟨sl,t0,x,a1,a2,a3,a4⟩:=at1
  exact ⟨sl,t0,x,a1,a2,a3,a4.snoc_fl g1 ey et⟩
|fz _=>exact hc.elim
|li _ _ _=>exact hc.elim
|ls _ _ _=>exact hc.elim
|dk _ _ _=>exact hc.elim
|dt _ _ _=>exact hc.elim
|tp _ _ _ _=>exact hc.elim
|wh=>exact hc.elim
|dd _ _ _ _=>exact hc.elim
def nIx (u:T) (k:D) (Q:Nat->T->Prop):Prop:=match u,k with
|.ls ts,.int z=>∃ j t,ixN ts.length z=some j/\ts[j]?=some t/\Q j t
|.tp ts,.int z=>∃ j t,ixN ts.length z=some j/\ts[j]?=some t/\Q j t
|_,_=>False
def pIx (dp:DP) (di:DE):DP:=λ U Q=>dp U λ i p u=>di U λ k=>nIx u k λ j t=>Q i (p++[.ix j]) t
theorem zvp {w:World} (h:RfP K te dp) (hi:RfE K ti di):RfP K (tOp (rIxV w K) te ti) (pIx dp di):=by
 intro F H Y U Qd Q s r hd k
 refine h s r hd λ i p u hu v F1 H1 e1 at1=>hi e1.fh (r.ext e1) hu λ kd hk kv F2 H2 e2 i2=>?_
 have e12:=e1.trans e2
 have at2:=at1.mono e2.h
 obtain ⟨fn,hr⟩:=at2.rt (r.ext e12)
 unfold nIx at hk
 split at hk
 ·rename_i ts z
  obtain ⟨j,t,ej,et,q⟩:=hk
  cases i2.int_inv
  cases hr with
 |ls g1 g2 g3 =>
   have el:=g3.len
   have hj:j < ts.length:=by
    rcases vN j ts.length with y|y
    ·exact y
    ·rw [vF y] at et;cases et
   rename_i a xs fp
   obtain ⟨y,hx⟩:∃ y,xs[j]?=some y:=⟨xs[j]'(by lia),uB _⟩
   refine .inl (.inl (.inl ⟨a,xs,z,y,rfl,rfl,SqL.of g1,?_,k i _ t q _ F2 H2 e12 ?_⟩))
   ·unfold atI
    rw [el,ej]
    exact hx
   ·obtain ⟨sl,t0,x,a1,a2,a3,a4⟩:=at2
    exact ⟨sl,t0,x,a1,a2,a3,a4.snoc_ix (y:=x) g1 hx et⟩
 ·rename_i ts z
  obtain ⟨j,t,ej,et,q⟩:=hk
  cases i2.int_inv
  cases hr with
 |tp g1 g2 gk g3 =>
   have el:=g3.len
   have hj:j < ts.length:=by
    rcases vN j ts.length with y|y
    ·exact y
    ·rw [vF y] at et;cases et
   rename_i a xs fp
   obtain ⟨y,hx⟩:∃ y,xs[j]?=some y:=⟨xs[j]'(by lia),uB _⟩
   refine .inl (ze61 (SqT.of g1) (v:=y) ?_ (k i _ t q _ F2 H2 e12 ?_))
   ·unfold atI
    rw [el,ej]
    exact hx
   ·obtain ⟨sl,t0,x,a1,a2,a3,a4⟩:=at2
    exact ⟨sl,t0,x,a1,a2,a3,a4.snoc_tx (y:=x) g1 hx et⟩
 ·exact hk.elim
def dPV (dp:DP):DE:=λ U Q=>dp U λ _ _ u=>vwT u Q
def dPE (dp:DP):DE:=λ U Q=>dp U λ _ _ u=>fzT u Q
theorem RfP.v (h:RfP K te dp):RfV K te (dPV dp):=λ s r d k=>h s r d λ i p u hu v F1 H1 e1 at1=>by
 obtain ⟨fn,hr⟩:=at1.rt (r.ext e1)
 obtain ⟨d,qd,vw⟩:=zf31 hr hu
 exact k d qd v F1 H1 e1 vw
theorem RfP.e (h:RfP K te dp):RfE K te (dPE dp):=λ s r d k=>h s r d λ i p u hu v F1 H1 e1 at1=>by
 obtain ⟨fn,hr⟩:=at1.rt (r.ext e1)
 obtain ⟨d,qd,vw⟩:=zju hr hu
 exact k d qd v F1 H1 e1 vw
end
structure Bs where
 F0:Hp
 H0:Hp
 G:List Addr
def Sl.own:Sl->Bool
|.ow _=>true
|.io _ _=>true
|_=>false
def Sl.has:Sl->Bool
|.ow _=>true
|.io _ _=>true
|.bo _=>true
|_=>false
def Sl.wth:Sl->T->Sl
|.ow _,u=>.ow u
|.io a _,u=>.io a u
|s,_=>s
structure RS (K:Fg) (B:Bs) (F H:Hp) (Y:_2.St) (U:DSt) (fps:Nat->List Addr):Prop where
 hh:∀ b o,b ∉ B.G->B.H0 b=some o->H b=some o
 ff:Same B.F0 F
 fh:Same F H
 nw:∀ b,HD (B.H0 b)->B.F0 b=none->F b=none
 al:∀ b,(B.H0 b≠none->H b≠none)/\(HD (B.H0 b)->HD (H b))
 len:Y.length=U.length
 sh:∀ (i:Nat) d,U[i]?=some (.sh d)->∃ x,Y.getD i none=some x/\Is K F x d
 rt:∀ (i:Nat) s,U[i]?=some s->s.has=true->∃ x t,Y.getD i none=some x/\s.tree=some t/\Rt K F H x t (fps i)/\(∀ a u,s=.io a u->x=.ref a)/\(fps i).Nodup
 fr:∀ (i:Nat) s,U[i]?=some s->s.own=true->∀ a∈fps i,B.H0 a=none \/ (a∈B.G/\∀ t,s≠.ow t)
 dj:∀ (i j:Nat) s s',i≠j->U[i]?=some s->U[j]?=some s'->s.own=true->s'.has=true->∀ a∈fps i,a ∉ fps j
section
variable {K:Fg} {B:Bs} {F H F' H':Hp} {Y:_2.St} {U:DSt} {fps:Nat->List Addr}
theorem zh5:∀ {s:Sl},s.own=true->s.has=true
|.ow _,_=>rfl
|.io _ _,_=>rfl
|.un,e=>by cases e
|.sh _,e=>by cases e
|.bo _,e=>by cases e
theorem RS.rv (r:RS K B F H Y U fps):RV K F H Y U:=⟨r.len,λ i s e=>by
 cases s with
|un=>trivial
|sh d=>exact r.sh i d e
|ow t =>
  obtain ⟨x,t',h1,h2,h3,h4,h5⟩:=r.rt i _ e rfl
  cases h2;exact ⟨x,_,h1,h3,h5⟩
|bo t =>
  obtain ⟨x,t',h1,h2,h3,h4,h5⟩:=r.rt i _ e rfl
  cases h2;exact ⟨x,_,h1,h3,h5⟩
|io a t =>
  obtain ⟨x,t',h1,h2,h3,h4,h5⟩:=r.rt i _ e rfl
  cases h2
  cases h4 a t rfl
  exact ⟨_,h1,h3,h5⟩⟩
theorem RS.grow (r:RS K B F H Y U fps) (e:Ext F H F' H'):RS K B F' H' Y U fps where
 hh:=λ b o hb ho=>e.h b o (r.hh b o hb ho)
 ff:=r.ff.trans e.f
 fh:=e.fh
 nw:=λ b hb fb=>e.nw b ((r.al b).2 hb) (r.nw b hb fb)
 al:=λ b=>⟨(λ hb z=>by
  cases q:H b with
 |none=>exact (r.al b).1 hb q
 |some o=>rw [e.h b o q] at z;cases z),λ h=>((r.al b).2 h).mono e.h⟩
 len:=r.len
 sh:=λ i d h=>by obtain ⟨x,h1,h2⟩:=r.sh i d h;exact ⟨x,h1,h2.mono e.f⟩
 rt:=λ i s h1 h2=>by obtain ⟨x,t,a1,a2,a3,a4,a5⟩:=r.rt i s h1 h2;exact ⟨x,t,a1,a2,a3.ext e,a4,a5⟩
 fr:=r.fr
 dj:=r.dj
theorem RS.setS (r:RS K B F H Y U fps) {i:Nat} {v:V} {d:D} (h:Is K F v d):RS K B F H (Y.set i (some v)) (U.set i (.sh d)) fps:=by
 have key:∀ (j:Nat) s,(U.set i (.sh d))[j]?=some s->(j=i/\s=.sh d/\(Y.set i (some v)).getD j none=some v) \/ (j≠i/\U[j]?=some s/\(Y.set i (some v)).getD j none=Y.getD j none):=λ j s e=>by
  rw [wA] at e
  by_cases hij:i=j
  ·subst hij
   by_cases hl:i < U.length
   ·simp [hl] at e;exact .inl ⟨rfl,e.symm,by rw [zn5,r.len,if_pos ⟨rfl,hl⟩]⟩
   ·simp [hl] at e
  ·simp [hij] at e
   exact .inr ⟨λ z=>hij z.symm,e,by rw [zn5,if_neg (by lia)]⟩
 refine ⟨r.hh,r.ff,r.fh,r.nw,r.al,by rw [uW,uW];exact r.len,λ j d' e=>?_,λ j s e hs=>?_,λ j s e hs=>?_,λ j k s s' hjk e1 e2 o1 o2=>?_⟩
 ·rcases key j _ e with ⟨_,e2,e3⟩|⟨_,e2,e3⟩
  ·cases e2;exact ⟨v,e3,h⟩
  ·obtain ⟨x,h1,h2⟩:=r.sh j d' e2;exact ⟨x,by rw [e3];exact h1,h2⟩
 ·rcases key j _ e with ⟨_,e2,e3⟩|⟨_,e2,e3⟩
  ·rw [e2] at hs;cases hs
  ·rw [e3];exact r.rt j s e2 hs
 ·rcases key j _ e with ⟨_,e2,e3⟩|⟨_,e2,e3⟩
  ·rw [e2] at hs;cases hs
  ·exact r.fr j s e2 hs
 ·rcases key j _ e1 with ⟨_,z,_⟩|⟨_,z1,_⟩
  ·rw [z] at o1;cases o1
  ·rcases key k _ e2 with ⟨_,z,_⟩|⟨_,z2,_⟩
   ·rw [z] at o2;cases o2
   ·exact r.dj j k s s' hjk z1 z2 o1 o2
theorem RS.byUpd {n:Nat} {Y':_2.St} {U':DSt} (u:Upd K F n Y U Y' U') (r:RS K B F H Y U fps):RS K B F H Y' U' fps:=by
 induction u with
|refl=>exact r
|set hi hv _ ih=>exact ih (r.setS hv)
theorem RS.forget (r:RS K B F H Y U fps) (i:Nat):RS K B F H Y (U.set i .un) fps:=by
 have key:∀ (j:Nat) s,(U.set i .un)[j]?=some s->s=.un \/ (j≠i/\U[j]?=some s):=λ j s e=>by
  rw [wA] at e
  by_cases hij:i=j
  ·subst hij
   by_cases hl:i < U.length
   ·simp [hl] at e;exact .inl e.symm
   ·simp [hl] at e
  ·simp [hij] at e;exact .inr ⟨λ z=>hij z.symm,e⟩
 refine ⟨r.hh,r.ff,r.fh,r.nw,r.al,by rw [uW];exact r.len,λ j d' e=>?_,λ j s e hs=>?_,λ j s e hs=>?_,λ j k s s' hjk e1 e2 o1 o2=>?_⟩
 ·rcases key j _ e with z|⟨_,z⟩
  ·cases z
  ·exact r.sh j d' z
 ·rcases key j _ e with z|⟨_,z⟩
  ·rw [z] at hs;cases hs
  ·exact r.rt j s z hs
 ·rcases key j _ e with z|⟨_,z⟩
  ·rw [z] at hs;cases hs
  ·exact r.fr j s z hs
 ·rcases key j _ e1 with z|⟨_,z1⟩
  ·rw [z] at o1;cases o1
  ·rcases key k _ e2 with z|⟨_,z2⟩
   ·rw [z] at o2;cases o2
   ·exact r.dj j k s s' hjk z1 z2 o1 o2
def zuw (B:Bs) (U:DSt) (fps:Nat->List Addr) (b:Addr):Prop:=B.H0 b=none/\∀ (j:Nat) s,U[j]?=some s->s.has=true->b ∉ fps j
theorem RS.newOk (r:RS K B F H Y U fps) {b:Addr} (h:H b=none):zuw B U fps b:=by
 refine ⟨?_,λ j s ej hs hb=>?_⟩
 ·by_cases z:B.H0 b=none
  ·exact z
  ·exact absurd h ((r.al b).1 z)
 ·obtain ⟨x,t,a1,a2,a3,a4,a5⟩:=r.rt j s ej hs
  exact (a3.dom b hb).1 h
theorem RS.upd2 (r:RS K B F H Y U fps) {i:Nat} {s:Sl} {x:V} {t2:T} {fp2:List Addr} {F2 H2:Hp} (hi:U[i]?=some s) (ho:s.own=true) (hx:Y.getD i none=some x)
  (c1:∀ b o,b ∉ fps i->H b=some o->H2 b=some o) (c2:Same F F2) (c3:Same F2 H2) (c4:∀ b,HD (H b)->F b=none->b ∉ fps i->F2 b=none) (c5:∀ b,(H b≠none->H2 b≠none)/\(HD (H b)->HD (H2 b)))
  (h2:Rt K F2 H2 x t2 fp2) (n2:fp2.Nodup) (m2:∀ b∈fp2,b∈fps i \/ zuw B U fps b) (c6:∀ b∈fps i,F2 b≠none->B.H0 b=none) :
  RS K B F2 H2 Y (U.set i (s.wth t2)) (λ j=>if j=i then fp2 else fps j):=by
 have hlt:i < U.length:=by
  rcases vN i U.length with z|z
  ·exact z
  ·rw [vF z] at hi;cases hi
 have hs:=zh5 ho
 have wo:(s.wth t2).own=true/\(s.wth t2).has=true/\(s.wth t2).tree=some t2:=by
  cases s with
 |ow _=>exact ⟨rfl,rfl,rfl⟩
 |io _ _=>exact ⟨rfl,rfl,rfl⟩
 |un=>cases ho
 |sh _=>cases ho
 |bo _=>cases ho
 have key:∀ (j:Nat) s',(U.set i (s.wth t2))[j]?=some s'->(j=i/\s'=s.wth t2) \/ (j≠i/\U[j]?=some s'):=λ j s' e=>by
  rw [wA] at e
  by_cases hij:i=j
  ·subst hij;simp [hlt] at e;exact .inl ⟨rfl,e.symm⟩
  ·simp [hij] at e;exact .inr ⟨λ z=>hij z.symm,e⟩
 have old:∀ b∈fps i,H b≠none/\F b=none:=by
  obtain ⟨x',t',a1,a2,a3,a4,a5⟩:=r.rt i s hi hs
  exact a3.dom
 have own0:=r.fr i s hi ho
 refine ⟨λ b o hb h0=>?_,r.ff.trans c2,c3,λ b hb fb=>?_,λ b=>⟨λ hb=>(c5 b).1 ((r.al b).1 hb),λ hb=>(c5 b).2 ((r.al b).2 hb)⟩,by rw [uW];exact r.len,λ j d e=>?_,λ j s' e hs'=>?_,λ j s' e ho' a ha=>?_,λ j k s1 s2 hjk e1 e2 o1 o2 a ha=>?_⟩
 ·refine c1 b o (λ z=>?_) (r.hh b o hb h0)
  rcases own0 b z with y|y
  ·rw [y] at h0;cases h0
  ·exact hb y.1
 ·by_cases hbi:b∈fps i
  ·cases z:F2 b with
  |none=>rfl
  |some o=>exact absurd (c6 b hbi (by rw [z];simp)) hb.1
  ·exact c4 b ((r.al b).2 hb) (r.nw b hb fb) hbi
 ·rcases key j _ e with ⟨_,z⟩|⟨_,z⟩
  ·rw [<- z] at wo;cases wo.1
  ·obtain ⟨y,h1,h2⟩:=r.sh j d z;exact ⟨y,h1,h2.mono c2⟩
 ·rcases key j _ e with ⟨zj,z⟩|⟨zj,z⟩
  ·subst zj
   rw [if_pos rfl]
   refine ⟨x,t2,hx,by rw [z];exact wo.2.2,h2,λ a u e'=>?_,n2⟩
   obtain ⟨x',t',a1,a2,a3,a4,a5⟩:=r.rt j s hi hs
   rw [hx] at a1;cases a1
   cases s with
  |ow _=>rw [z] at e';cases e'
  |io a' u'=>rw [z] at e';cases e';exact a4 _ _ rfl
  |un=>cases ho
  |sh _=>cases ho
  |bo _=>cases ho
  ·rw [if_neg zj]
   obtain ⟨y,t',a1,a2,a3,a4,a5⟩:=r.rt j s' z hs'
   refine ⟨y,t',a1,a2,a3.frame c2 λ a ha=>?_,a4,a5⟩
   obtain ⟨d1,d2⟩:=a3.dom a ha
   have na:a ∉ fps i:=λ w=>r.dj i j s s' (λ q=>zj q.symm) hi z ho hs' a w ha
   cases q:H a with
  |none=>exact absurd q d1
  |some o=>exact ⟨c1 a o na q,c4 a (a3.hdd a ha) d2 na⟩
 ·rcases key j _ e with ⟨zj,z⟩|⟨zj,z⟩
  ·rw [if_pos zj] at ha
   rcases m2 a ha with y|y
   ·rcases own0 a y with w|⟨w1,w2⟩
    ·exact .inl w
    ·refine .inr ⟨w1,λ t et=>?_⟩
     rw [z] at et
     cases s with
    |ow t'=>exact w2 t' rfl
    |io _ _=>cases et
    |un=>cases ho
    |sh _=>cases ho
    |bo _=>cases ho
   ·exact .inl y.1
  ·rw [if_neg zj] at ha;exact r.fr j s' z ho' a ha
 ·rcases key j _ e1 with ⟨zj,z1⟩|⟨zj,z1⟩ <;> rcases key k _ e2 with ⟨zk,z2⟩|⟨zk,z2⟩
  ·exact absurd (zj.trans zk.symm) hjk
  ·rw [if_pos zj] at ha;rw [if_neg zk]
   subst zj
   rcases m2 a ha with y|y
   ·exact r.dj j k s s2 hjk hi z2 ho o2 a y
   ·exact y.2 k s2 z2 o2
  ·rw [if_neg zj] at ha;rw [if_pos zk]
   subst zk
   intro w
   rcases m2 a w with y|y
   ·exact r.dj j k s1 s hjk z1 hi o1 hs a ha y
   ·exact y.2 j s1 z1 (zh5 o1) ha
  ·rw [if_neg zj] at ha;rw [if_neg zk]
   exact r.dj j k s1 s2 hjk z1 z2 o1 o2 a ha
theorem RS.setT (r:RS K B F H Y U fps) {i:Nat} {v:V} {t:T} {fp:List Addr} (h:Rt K F H v t fp) (nd:fp.Nodup) (hf:∀ a∈fp,B.H0 a=none) (hd:∀ (j:Nat) s,U[j]?=some s->s.has=true->∀ a∈fps j,a ∉ fp) :
  RS K B F H (Y.set i (some v)) (U.set i (.ow t)) (λ j=>if j=i then fp else fps j):=by
 have key:∀ (j:Nat) s,(U.set i (.ow t))[j]?=some s->(j=i/\s=.ow t/\(Y.set i (some v)).getD j none=some v) \/ (j≠i/\U[j]?=some s/\(Y.set i (some v)).getD j none=Y.getD j none):=λ j s e=>by
  rw [wA] at e
  by_cases hij:i=j
  ·subst hij
   by_cases hl:i < U.length
   ·simp [hl] at e;exact .inl ⟨rfl,e.symm,by rw [zn5,r.len,if_pos ⟨rfl,hl⟩]⟩
   ·simp [hl] at e
  ·simp [hij] at e
   exact .inr ⟨λ z=>hij z.symm,e,by rw [zn5,if_neg (by lia)]⟩
 refine ⟨r.hh,r.ff,r.fh,r.nw,r.al,by rw [uW,uW];exact r.len,λ j d' e=>?_,λ j s e hs=>?_,λ j s e hs a ha=>?_,λ j k s s' hjk e1 e2 o1 o2 a ha=>?_⟩
 ·rcases key j _ e with ⟨_,e2,e3⟩|⟨_,e2,e3⟩
  ·cases e2
  ·obtain ⟨x,h1,h2⟩:=r.sh j d' e2;exact ⟨x,by rw [e3];exact h1,h2⟩
 ·rcases key j _ e with ⟨zj,e2,e3⟩|⟨zj,e2,e3⟩
  ·rw [if_pos zj,e3,e2];exact ⟨v,t,rfl,rfl,h,λ a u z=>(by cases z),nd⟩
  ·rw [if_neg zj,e3];exact r.rt j s e2 hs
 ·rcases key j _ e with ⟨zj,e2,e3⟩|⟨zj,e2,e3⟩
  ·rw [if_pos zj] at ha;exact .inl (hf a ha)
  ·rw [if_neg zj] at ha;exact r.fr j s e2 hs a ha
 ·rcases key j _ e1 with ⟨zj,z1,_⟩|⟨zj,z1,_⟩ <;> rcases key k _ e2 with ⟨zk,z2,_⟩|⟨zk,z2,_⟩
  ·exact absurd (zj.trans zk.symm) hjk
  ·rw [if_pos zj] at ha;rw [if_neg zk]
   exact λ w=>hd k s' z2 o2 a w ha
  ·rw [if_neg zj] at ha;rw [if_pos zk]
   exact hd j s z1 (zh5 o1) a ha
  ·rw [if_neg zj] at ha;rw [if_neg zk]
   exact r.dj j k s s' hjk z1 z2 o1 o2 a ha
theorem RS.put (r:RS K B F H Y U fps) {i:Nat} {s:Sl} {p:Pth} {v:V} {u:T} (hi:U[i]?=some s) (ho:s.own=true) (ha:AtS H Y U i p v u) :
  ∃ fn t,s.tree=some t/\Rt K F H v u fn/\fn.Nodup/\(∀ a∈fn,a∈fps i)/\∀ {F2 H2:Hp} {u2:T} {fq:List Addr},
   (∀ b o,b ∉ fn->H b=some o->H2 b=some o)->Same F F2->Same F2 H2->(∀ b,HD (H b)->F b=none->b ∉ fn->F2 b=none)->(∀ b,(H b≠none->H2 b≠none)/\(HD (H b)->HD (H2 b)))->(∀ b∈fn,F2 b≠none->B.H0 b=none) ->
   Rt K F2 H2 v u2 fq->fq.Nodup->(∀ b∈fq,b∈fn \/ zuw B U fps b)->∃ fps2,RS K B F2 H2 Y (U.set i (s.wth (setP t p u2))) fps2/\(∀ j,j≠i->fps2 j=fps j)/\∀ b∈fps2 i,b∈fps i \/ b∈fq:=by
 obtain ⟨s',t,x,h1,h2,h3,h4⟩:=ha
 rw [hi] at h1;cases h1
 obtain ⟨x',t',a1,a2,a3,a4,a5⟩:=r.rt i s hi (zh5 ho)
 rw [h3] at a1;cases a1
 rw [h2] at a2;cases a2
 obtain ⟨fn,hn,sub,ndn,back⟩:=ze01 h4 a3 a5
 refine ⟨fn,t,h2,hn,ndn,sub,λ {F2 H2 u2 fq} c1 c2 c3 c4 c5 c6 hu nq mq=>?_⟩
 obtain ⟨fp2,r2,n2,m2⟩:=back c2 (λ b hb hnb=>by
  obtain ⟨d1,d2⟩:=a3.dom b hb
  cases q:H b with
 |none=>exact absurd q d1
 |some o=>exact ⟨c1 b o hnb q,c4 b (a3.hdd b hb) d2 hnb⟩) hu nq λ b hb=>by
   rcases mq b hb with z|z
   ·exact .inl z
   ·exact .inr (z.2 i s hi (zh5 ho))
 refine ⟨_,r.upd2 hi ho h3 (λ b o hb=>c1 b o λ z=>hb (sub b z)) c2 c3 (λ b hb fb hbi=>c4 b hb fb λ z=>hbi (sub b z)) c5 r2 n2 (λ b hb=>?_) (λ b hb f2=>?_),λ j hj=>if_neg hj,λ b hb=>?_⟩
 ·rcases m2 b hb with ⟨y,_⟩|y
  ·exact .inl y
  ·rcases mq b y with z|z
   ·exact .inl (sub b z)
   ·exact .inr z
 ·by_cases z:b∈fn
  ·exact c6 b z f2
  ·obtain ⟨d1,d2⟩:=a3.dom b hb
   exact absurd (c4 b (a3.hdd b hb) d2 z) f2
 ·rw [if_pos rfl] at hb
  rcases m2 b hb with ⟨y,_⟩|y
  ·exact .inl y
  ·exact .inr y
end
structure Res (K:Fg) (B:Bs) (F H:Hp) (Y:_2.St) (U:DSt) (fps:Nat->List Addr) (v:V) (r:T) (fpr:List Addr):Prop where
 rs:RS K B F H Y U fps
 rt:Rt K F H v r fpr
 nd:fpr.Nodup
 fr:∀ a∈fpr,B.H0 a=none
 dj:∀ (j:Nat) s,U[j]?=some s->s.has=true->∀ a∈fps j,a ∉ fpr
abbrev DC:=DSt->(T->DSt->Prop)->Prop
def RfC (K:Fg) (te:TE) (dc:DC):Prop:=∀ {B:Bs} {F H:Hp} {Y:_2.St} {U:DSt} {fps:Nat->List Addr} {Qd:T->DSt->Prop} {Q:VK},RS K B F H Y U fps->dc U Qd->(∀ r U',Qd r U'->∀ v F' H' fps' fpr,Res K B F' H' Y U' fps' v r fpr->Q v H')->te Y H Q
structure DEnds where
 nx:DSt->Prop
 rt:T->DSt->Prop
 bk:DSt->Prop:=λ _=>False
 ct:DSt->Prop:=λ _=>False
abbrev DS:=DEnds->DSt->Prop
structure En (K:Fg) (B:Bs) (E:DEnds) (Z:Ends):Prop where
 nx:∀ {F H:Hp} {Y:_2.St} {U:DSt} {fps:Nat->List Addr},RS K B F H Y U fps->E.nx U->Z.nx Y H
 bk:∀ {F H:Hp} {Y:_2.St} {U:DSt} {fps:Nat->List Addr},RS K B F H Y U fps->E.bk U->Z.bk Y H
 ct:∀ {F H:Hp} {Y:_2.St} {U:DSt} {fps:Nat->List Addr},RS K B F H Y U fps->E.ct U->Z.ct Y H
 rt:∀ {F H:Hp} {Y:_2.St} {U:DSt} {fps:Nat->List Addr} {v:V} {r:T} {fpr:List Addr},Res K B F H Y U fps v r fpr->E.rt r U->Z.rt v H
def RfS (K:Fg) (ts:TS) (ds:DS):Prop:=∀ {B:Bs} {F H:Hp} {Y:_2.St} {U:DSt} {fps:Nat->List Addr} {E:DEnds} {Z:Ends},RS K B F H Y U fps->ds E U->En K B E Z->ts Z Y H
section
variable {K:Fg} {te ta ti:TE} {de da di:DE} {dc:DC} {tt:TT} {dt:DT} {t u tb:TS} {d e db:DS} {tA:TA} {dA:DF} {g:TG} {dg:DG} {n:Nat} {dp:DP}
def cE (de:DE):DC:=λ U Q=>de U λ d=>Q (.fz d) U
theorem RfE.c (h:RfE K te de):RfC K te (cE de):=by
 intro B F H Y U fps Qd Q r hd k
 exact h r.fh r.rv hd λ d q v F1 H1 e1 i1=>k _ _ q v F1 H1 fps [] ⟨r.grow e1,.fz i1,.nil,λ a ha=>by simp at ha,λ _ _ _ _ a _ ha=>by simp at ha⟩
def cF (df:DF):DC:=λ U Q=>df U λ ds=>Q (.li ds) U
theorem RfF.c {df:DF} (h:RfF K te df):RfC K te (cF df):=by
 intro B F H Y U fps Qd Q r hd k
 refine h r.fh r.rv hd λ ds q a xs F1 H1 e1 hn h1 h2 h3=>k _ _ q (.ref a) F1 H1 fps [a] ⟨r.grow e1,.li h1 h2 h3,by simp,λ b hb=>?_,λ j s ej hs b hb hb2=>?_⟩
 ·simp at hb;subst hb
  by_cases z:B.H0 b=none
  ·exact z
  ·exact absurd hn ((r.al b).1 z)
 ·simp at hb2;subst hb2
  obtain ⟨x,t,a1,a2,a3,a4,a5⟩:=r.rt j s ej hs
  exact (a3.dom b hb).1 hn
def slot:T->Sl
|.fz d=>.sh d
|t=>.ow t
theorem Res.set {B:Bs} {F H:Hp} {Y:_2.St} {U:DSt} {fps:Nat->List Addr} {v:V} {r:T} {fpr:List Addr} (h:Res K B F H Y U fps v r fpr) (i:Nat):∃ fps',RS K B F H (Y.set i (some v)) (U.set i (slot r)) fps':=by
 cases r with
|fz d=>cases h.rt with
 |fz hi=>exact ⟨_,h.rs.setS hi⟩
|li ds=>exact ⟨_,h.rs.setT h.rt h.nd h.fr h.dj⟩
|ls ds=>exact ⟨_,h.rs.setT h.rt h.nd h.fr h.dj⟩
|ob C ds=>exact ⟨_,h.rs.setT h.rt h.nd h.fr h.dj⟩
|dk ds=>exact ⟨_,h.rs.setT h.rt h.nd h.fr h.dj⟩
|dt ds=>exact ⟨_,h.rs.setT h.rt h.nd h.fr h.dj⟩
|tp ds=>exact ⟨_,h.rs.setT h.rt h.nd h.fr h.dj⟩
|wh=>exact ⟨_,h.rs.setT h.rt h.nd h.fr h.dj⟩
|dd _=>exact ⟨_,h.rs.setT h.rt h.nd h.fr h.dj⟩
def zo21:DS:=λ E U=>E.nx U
theorem zj2:RfS K zh31 zo21:=λ r h k=>k.nx r h
def dSeq (a b:DS):DS:=λ E U=>∃ J:DSt->Prop,a { E with nx:=J } U/\∀ U',J U'->b E U'
theorem zk0 (h1:RfS K t d) (h2:RfS K u e):RfS K (tSeq t u) (dSeq d e):=by
 intro B F H Y U fps E Z r h k
 obtain ⟨J,ha,hb⟩:=h
 exact h1 r ha ⟨λ r' q=>h2 r' (hb _ q) k,k.bk,k.ct,k.rt⟩
def dAsg (de:DE) (dg:DG):DS:=λ E U=>de U λ d=>dg d U E.nx
theorem zd1 (he:RfE K te de) (hg:RfG K n g dg):RfS K (tAsg te g) (dAsg de dg):=by
 intro B F H Y U fps E Z r h k
 exact he r.fh r.rv h λ d hd v F1 H1 e1 i1=>hg e1.fh i1 hd λ Y' U' q u=>k.nx ((r.grow e1).byUpd u) q
def dSet (i:Nat) (dc:DC):DS:=λ E U=>dc U λ r U'=>E.nx (U'.set i (slot r))
theorem zz1 {i:Nat} (hc:RfC K te dc):RfS K (tAsg te (zuj i)) (dSet i dc):=by
 intro B F H Y U fps E Z r h k
 refine hc r h λ r2 U' q v F1 H1 fps1 fpr res=>?_
 obtain ⟨fps2,r3⟩:=res.set i
 exact k.nx r3 q
def zg41 (dc:DC):DS:=λ E U=>dc U λ _ U'=>E.nx U'
theorem zs1 (hc:RfC K te dc):RfS K (zr11 te) (zg41 dc):=by
 intro B F H Y U fps E Z r h k
 exact hc r h λ r2 U' q v F1 H1 fps1 fpr res=>k.nx res.rs q
def dRet (dc:DC):DS:=λ E U=>dc U E.rt
theorem zr2 (hc:RfC K te dc):RfS K (tRet te) (dRet dc):=by
 intro B F H Y U fps E Z r h k
 exact hc r h λ r2 U' q v F1 H1 fps1 fpr res=>k.rt res q
def zoz (i:Nat):DS:=λ E U=>match U[i]? with
|some (.ow t)=>E.rt t (U.set i .un)
|some (.sh d)=>E.rt (.fz d) U
|_=>False
theorem zi5 {i:Nat}:RfS K (tRet (tVar i)) (zoz i):=by
 intro B F H Y U fps E Z r h k
 unfold zoz at h
 split at h
 ·rename_i t q
  obtain ⟨x,t',a1,a2,a3,a4,a5⟩:=r.rt i _ q rfl
  cases a2
  refine ⟨x,ze4 (F:=F) (H:=H) (U:=U) a1,k.rt ⟨r.forget i,a3,a5,λ a ha=>(r.fr i _ q rfl a ha).elim id λ z=>absurd rfl (z.2 t),λ j s ej hs a ha hb=>?_⟩ h⟩
  rw [wA] at ej
  by_cases hij:i=j
  ·subst hij
   split at ej
   ·split at ej
    ·cases ej;cases hs
    ·cases ej
   ·rename_i z;exact absurd rfl z
  ·simp [hij] at ej
   exact r.dj i j _ s hij q ej rfl hs a hb ha
 ·rename_i d q
  obtain ⟨x,h1,h2⟩:=r.sh i d q
  exact ⟨x,ze4 (F:=F) (H:=H) (U:=U) h1,k.rt ⟨r,.fz h2,.nil,λ a ha=>by simp at ha,λ _ _ _ _ a _ ha=>by simp at ha⟩ h⟩
 ·exact h.elim
def dIf (dt:DT) (d e:DS):DS:=λ E U=>dt U λ b=>if b=true then d E U else e E U
theorem zmb (ht:RfT K tt dt) (h1:RfS K t d) (h2:RfS K u e):RfS K (tIfS tt t u) (dIf dt d e):=by
 intro B F H Y U fps E Z r h k
 refine ht r.fh r.rv h λ b hb F1 H1 e1=>?_
 cases b with
|true=>rw [if_pos rfl] at hb ⊢;exact h1 (r.grow e1) hb k
|false=>rw [if_neg uV] at hb ⊢;exact h2 (r.grow e1) hb k
def dFor (di:DF) (dg:DG) (db:DS):DS:=λ E U=>di U λ items=>∃ W:Nat->DSt->Prop,W 0 U /\
 (∀ i d U',items[i]?=some d->W i U'->dg d U' λ U2=>db { E with nx:=W (i+1),ct:=W (i+1),bk:=E.nx } U2)/\∀ U',W items.length U'->E.nx U'
def Bs.rem (B:Bs) (F1:Hp):Bs:=⟨F1,B.H0,B.G⟩
theorem RS.rem {B:Bs} {F H F1:Hp} {Y:_2.St} {U:DSt} {fps:Nat->List Addr} (r:RS K B F H Y U fps) (s0:Same B.F0 F1) (s:Same F1 F):RS K (B.rem F1) F H Y U fps :=
 ⟨r.hh,s,r.fh,λ b hb fb=>r.nw b hb (by
  cases q:B.F0 b with
 |none=>rfl
 |some o=>rw [show (B.rem F1).F0 b=F1 b from rfl,s0 b o q] at fb;cases fb),r.al,r.len,r.sh,r.rt,r.fr,r.dj⟩
theorem RS.unrem {B:Bs} {F H F1:Hp} {Y:_2.St} {U:DSt} {fps:Nat->List Addr} (r:RS K (B.rem F1) F H Y U fps) (s0:Same B.F0 F1) (n0:∀ b,HD (B.H0 b)->B.F0 b=none->F1 b=none):RS K B F H Y U fps :=
 ⟨r.hh,s0.trans r.ff,r.fh,λ b hb fb=>r.nw b hb (n0 b hb fb),r.al,r.len,r.sh,r.rt,r.fr,r.dj⟩
theorem zz4 {wi:TI} {di:DF} (hi:RfI K wi di) (hg:RfG K n g dg) (hb:RfS K tb db):RfS K (tFor wi g tb) (dFor di dg db):=by
 intro B F H Y U fps E Z r h k
 refine hi r.fh r.rv h λ items hx J F1 H1 e1 wj=>?_
 obtain ⟨W,w0,ws,we⟩:=hx
 have r1:=r.grow e1
 have s0:=r1.ff
 have n0:=r1.nw
 refine ⟨λ i m Y' H'=>m=items.length - i/\i<=items.length/\∃ F' U' fps',RS K (B.rem F1) F' H' Y' U' fps'/\W i U',⟨items.length,rfl,vZ _,F1,U,fps,r1.rem s0 (λ _ _ z=>z),w0⟩,?_⟩
 rintro i m Y' H' ⟨rfl,hi',F',U',fps',r',w'⟩
 obtain ⟨go,stop,yld⟩:=wj F' H' r'.ff r'.fh
 by_cases hlt:i < items.length
 ·refine .inr ⟨go i hlt,λ Y2 H2=>i+1<=items.length/\∃ F2 U2 fps2,RS K (B.rem F1) F2 H2 Y2 U2 fps2/\W (i+1) U2,λ Y2 H2 p=>⟨_,by lia,rfl,p⟩,λ x H2 y=>?_⟩
  have hit:items[i]?=some items[i]:=uB hlt
  obtain ⟨F2,ex2,ix2⟩:=yld i x H2 _ hit y
  refine hg ex2.fh ix2 (ws i _ U' hit w') λ Y2 U2 hd2 u2=>?_
  refine hb ((r'.grow ex2).byUpd u2) hd2 ⟨λ r3 q=>⟨hlt,_,_,_,r3,q⟩,λ r3 q=>k.nx (r3.unrem s0 n0) q,λ r3 q=>⟨hlt,_,_,_,r3,q⟩,λ res q=>k.rt ⟨res.rs.unrem s0 n0,res.rt,res.nd,res.fr,res.dj⟩ q⟩
 ·have e:i=items.length:=by lia
  subst e
  exact .inl ⟨stop,k.nx (r'.unrem s0 n0) (we _ w')⟩
def zxo (dt:DT) (db:DS):DS:=λ E U=>∃ W:Nat->DSt->Prop,(∃ m,W m U)/\∀ m U',W m U'->dt U' λ b=>if b=true then db { E with nx:=λ U2=>∃ m',m' < m/\W m' U2,ct:=λ U2=>∃ m',m' < m/\W m' U2,bk:=E.nx } U' else E.nx U'
theorem zn4 (ht:RfT K tt dt) (hb:RfS K tb db):RfS K (zhs tt tb) (zxo dt db):=by
 intro B F H Y U fps E Z r h k
 obtain ⟨W,⟨m0,w0⟩,ws⟩:=h
 refine ⟨λ m Y' H'=>∃ F' U' fps',RS K B F' H' Y' U' fps'/\W m U',⟨m0,F,U,fps,r,w0⟩,?_⟩
 rintro m Y' H' ⟨F',U',fps',r',w'⟩
 refine ht r'.fh r'.rv (ws m U' w') λ b hb' F1 H1 e1=>?_
 cases b with
|true =>
  rw [if_pos rfl] at hb' ⊢
  refine ⟨λ Y2 H2=>∃ m',m' < m/\∃ F2 U2 fps2,RS K B F2 H2 Y2 U2 fps2/\W m' U2,λ Y2 H2 p=>p,hb (r'.grow e1) hb' ⟨λ r3 q=>?_,λ r3 q=>k.nx r3 q,λ r3 q=>?_,k.rt⟩⟩
  ·obtain ⟨m',h1,h2⟩:=q;exact ⟨m',h1,_,_,_,r3,h2⟩
  ·obtain ⟨m',h1,h2⟩:=q;exact ⟨m',h1,_,_,_,r3,h2⟩
|false =>
  rw [if_neg uV] at hb' ⊢
  exact k.nx (r'.grow e1) hb'
def mutS (U:DSt) (i:Nat) (p:Pth) (u:T) (N:DSt->Prop):Prop:=match U[i]? with
|some (.ow t)=>N (U.set i (.ow (setP t p u)))
|some (.io a t)=>N (U.set i (.io a (setP t p u)))
|_=>False
theorem RS.mut {B:Bs} {F H:Hp} {Y:_2.St} {U:DSt} {fps:Nat->List Addr} {i:Nat} {p:Pth} {v:V} {u u2:T} {N:DSt->Prop} (r:RS K B F H Y U fps) (ha:AtS H Y U i p v u) (hm:mutS U i p u2 N) :
  ∃ fn,Rt K F H v u fn/\fn.Nodup/\(∀ a∈fn,a∈fps i)/\∀ {F2 H2:Hp} {fq:List Addr},
   (∀ b o,b ∉ fn->H b=some o->H2 b=some o)->Same F F2->Same F2 H2->(∀ b,HD (H b)->F b=none->b ∉ fn->F2 b=none)->(∀ b,(H b≠none->H2 b≠none)/\(HD (H b)->HD (H2 b)))->(∀ b∈fn,F2 b≠none->B.H0 b=none) ->
   Rt K F2 H2 v u2 fq->fq.Nodup->(∀ b∈fq,b∈fn \/ zuw B U fps b)->∃ U2 fps2,RS K B F2 H2 Y U2 fps2/\N U2/\(∀ j,j≠i->fps2 j=fps j/\U2[j]?=U[j]?)/\(∀ b∈fps2 i,b∈fps i \/ b∈fq)/\(∃ s,U[i]?=some s/\s.own=true):=by
 obtain ⟨s,hi,ho,hN⟩:∃ s,U[i]?=some s/\s.own=true/\∀ t,s.tree=some t->N (U.set i (s.wth (setP t p u2))):=by
  unfold mutS at hm
  split at hm
  ·rename_i t q
   exact ⟨_,q,rfl,λ t' e=>by cases e;exact hm⟩
  ·rename_i a t q
   exact ⟨_,q,rfl,λ t' e=>by cases e;exact hm⟩
  ·exact hm.elim
 obtain ⟨fn,t,h1,h2,h3,h4,h5⟩:=r.put hi ho ha
 refine ⟨fn,h2,h3,h4,λ {F2 H2 fq} c1 c2 c3 c4 c5 c6 hu nq mq=>?_⟩
 obtain ⟨fps2,r2,e2⟩:=h5 c1 c2 c3 c4 c5 c6 hu nq mq
 refine ⟨_,fps2,r2,hN t h1,λ j hj=>⟨e2.1 j hj,?_⟩,e2.2,s,hi,ho⟩
 rw [vO (λ z=>hj z.symm)]
theorem RS.one {B:Bs} {F H:Hp} {Y:_2.St} {U:DSt} {fps:Nat->List Addr} {i:Nat} {p:Pth} {a:Addr} {u u2:T} {o o2:HO} {N:DSt->Prop} (r:RS K B F H Y U fps) (ha:AtS H Y U i p (.ref a) u) (hm:mutS U i p u2 N) (ho:H a=some o)
  (hu:∀ fn,Rt K F H (.ref a) u fn->fn=[a]) (h2:F a=none->Rt K F (upd H a o2) (.ref a) u2 [a]):∃ U2 fps2,RS K B F (upd H a o2) Y U2 fps2/\N U2/\(∀ j,j≠i->fps2 j=fps j/\U2[j]?=U[j]?):=by
 obtain ⟨fn,hr,nd,sub,back⟩:=r.mut ha hm
 have e:=hu fn hr
 subst e
 have fa:F a=none:=(hr.dom a (by simp)).2
 obtain ⟨U2,fps2,g1,g2,g3,_⟩:=back (F2:=F) (H2:=upd H a o2) (fq:=[a]) (λ b o' hb ho'=>by rw [zm0 (λ z=>hb (by simp [z]))];exact ho') (λ _ _ z=>z) (λ b o' z=>by
   have:b≠a:=λ w=>by subst w;rw [fa] at z;cases z
   rw [zm0 this];exact r.fh b o' z) (λ b _ fb _=>fb) (zxh ((h2 fa).hdd a (by simp))) (λ b hb f=>by simp at hb;subst hb;exact absurd fa f) (h2 fa) (by simp) (λ b hb=>.inl hb)
 exact ⟨U2,fps2,g1,g2,g3⟩
abbrev FM:=T->List D->(T->D->Prop)->Prop
def MO (K:Fg) (r:V->List V->Hp->VK->Prop) (f:FM):Prop:=∀ {F H:Hp} {v:V} {u:T} {fn:List Addr} {vs:List V} {ds:List D} {Kd:T->D->Prop} {Q:VK},Same F H->Rt K F H v u fn->IsAll K F vs ds->f u ds Kd ->
 ∃ u2 d y o o2 a,Kd u2 d/\v=.ref a/\fn=[a]/\H a=some o/\Is K F y d/\Rt K F (upd H a o2) (.ref a) u2 [a]/\(Q y (upd H a o2)->r v vs H Q)
def tyN (T:String):_4.T->Prop
|.li _=>T = "list"
|.ls _=>T = "list"
|.dk _=>T = "dict"
|.dt _=>T = "dict"
|_=>False
theorem zyx {F H:Hp} {T:String} {v:V} {u:_4.T} {fn:List Addr} (h:Rt K F H v u fn) (k:tyN T u):tyV K T v H:=by
 cases h with
|fz _=>exact k.elim
|li h1 _ _=>exact .inl ⟨k,_,SqL.of h1⟩
|ls h1 _ _=>exact .inl ⟨k,_,SqL.of h1⟩
|ob _ _ _ _ _=>exact k.elim
|tp _ _ _ _=>exact k.elim
|wh=>exact k.elim
|dd _ _ _ _=>exact k.elim
|dk h1 _ _=>exact .inr (.inr (.inl ⟨k,.inl ⟨_,h1⟩⟩))
|dt h1 _ _=>exact .inr (.inr (.inl ⟨k,.inr ⟨_,h1⟩⟩))
theorem zp41 {F H:Hp} {v:V} {u:T} {fn:List Addr} {r:V->List V->Hp->VK->Prop} {f:FM} (hm:MO K r f) {vs:List V} {ds:List D} {Kd:T->D->Prop} {B:Bs} {Y:_2.St} {U:DSt} {fps:Nat->List Addr} {i:Nat} {p:Pth} {Qd:T->DSt->Prop} {Q:VK}
  (rs:RS K B F H Y U fps) (ha:AtS H Y U i p v u) (hv:IsAll K F vs ds) (hf:f u ds λ u2 d=>mutS U i p u2 λ U'=>Qd (.fz d) U')
  (k:∀ r U',Qd r U'->∀ v F' H' fps' fpr,Res K B F' H' Y U' fps' v r fpr->Q v H'):r v vs H Q:=by
 obtain ⟨fn,hr⟩:=ha.rt rs.rv
 obtain ⟨u2,d,y,o,o2,a,kd,rfl,e2,h3,h4,h5,h6⟩:=hm (Q:=Q) rs.fh hr hv hf
 refine h6 ?_
 obtain ⟨U2,fps2,r2,q2,_⟩:=rs.one ha kd h3 (λ fn' hr'=>by
  obtain ⟨_,_,_,_,_,a',_,e1,e2',_⟩:=hm (Q:=Q) rs.fh hr' hv hf
  cases e1;exact e2') (λ _=>h5)
 exact k _ _ q2 _ _ _ fps2 [] ⟨r2,.fz h4,.nil,λ a ha=>by simp at ha,λ _ _ _ _ a _ ha=>by simp at ha⟩
def cBM (ty:String) (f:FM) (dp:DP) (dA:DF):DC:=λ U Q=>dp U λ i p u=>tyN ty u/\dA U λ ds=>f u ds λ u2 d=>mutS U i p u2 λ U'=>Q (.fz d) U'
theorem zue {T:String} {r:V->List V->Hp->VK->Prop} {f:FM} (hm:MO K r f) (hp:RfP K te dp) (hA:RfA K tA dA):RfC K (tBMU K T r te tA) (cBM T f dp dA):=by
 intro B F H Y U fps Qd Q rs hd k
 refine hp rs.fh rs.rv hd λ i p u hu v F1 H1 e1 at1=>?_
 have r1:=rs.grow e1
 obtain ⟨fn,hr⟩:=at1.rt r1.rv
 refine ⟨zyx hr hu.1,hA e1.fh r1.rv hu.2 λ ds hds vs F2 H2 e2 i2=>?_⟩
 exact zp41 hm (fn:=fn) (Kd:=λ _ _=>True) (r1.grow e2) (at1.mono e2.h) i2 hds k
def cBM0 (ty:String) (f:FM) (dp:DP):DC:=λ U Q=>dp U λ i p u=>tyN ty u/\f u [] λ u2 d=>mutS U i p u2 λ U'=>Q (.fz d) U'
theorem zlo {T:String} {r:V->List V->Hp->VK->Prop} {f:FM} (hm:MO K r f) (hp:RfP K te dp):RfC K (zbx K T r te) (cBM0 T f dp):=by
 intro B F H Y U fps Qd Q rs hd k
 refine hp rs.fh rs.rv hd λ i p u hu v F1 H1 e1 at1=>?_
 have r1:=rs.grow e1
 obtain ⟨fn,hr⟩:=at1.rt r1.rv
 exact ⟨zyx hr hu.1,zp41 hm (fn:=fn) (Kd:=λ _ _=>True) r1 at1 .nil hu.2 k⟩
def mApp:FM:=λ u ds N=>match u,ds with
|.li xs,[d]=>xs.length < sizeLine/\N (.li (xs++[d])) .none
|_,_=>False
theorem zj8:MO K zlf mApp:=by
 intro F H v u fn vs ds Kd Q s hr hv hf
 unfold mApp at hf
 split at hf
 ·obtain ⟨y,rfl,iy⟩:=all1 hv
  cases hr with
 |li h1 h2 h3 =>
   have el:=h3.dlen
   exact ⟨_,_,.non,_,.lst (_++[y]),_,hf.2,rfl,rfl,h1,.non,.li zi0 h2 (h3.dapp (.cons iy .nil)),λ q=>⟨_,_,y,rfl,rfl,h1,by lia,q⟩⟩
 ·exact hf.elim
def mExt:FM:=λ u ds N=>match u,ds with
|.li xs,[.list es]=>xs.length+es.length<=sizeLine/\N (.li (xs++es)) .none
|_,_=>False
theorem zqo:MO K (zpg K) mExt:=by
 intro F H v u fn vs ds Kd Q s hr hv hf
 unfold mExt at hf
 split at hf
 ·obtain ⟨y,rfl,iy⟩:=all1 hv
  obtain ⟨b,ys,rfl,g1,g2⟩:=iy.list_inv
  cases hr with
 |li h1 h2 h3 =>
   have el:=h3.dlen
   have el2:=g2.dlen
   exact ⟨_,_,.non,_,.lst (_++ys),_,hf.2,rfl,rfl,h1,.non,.li zi0 h2 (h3.dapp g2),λ q=>⟨_,b,_,ys,rfl,rfl,h1,s.seq g1,by lia,q⟩⟩
 ·exact hf.elim
def zny:FM:=λ u ds N=>match u,ds with
|.li xs,[]=>N (.li []) .none
|_,_=>False
def mPop:FM:=λ u ds N=>match u,ds with
|.li xs,[]=>∃ d,xs[xs.length - 1]?=some d/\N (.li xs.dropLast) d
|_,_=>False
theorem zdc {F:Hp} {xs:List V} {ds:List D} (h:IsAll K F xs ds):IsAll K F xs.dropLast ds.dropLast:=by
 rw [yR,yR,h.dlen]
 exact h.dtake _
theorem zep:MO K rPop mPop:=by
 intro F H v u fn vs ds Kd Q s hr hv hf
 unfold mPop at hf
 split at hf
 ·cases hv
  cases hr with
 |li h1 h2 h3 =>
   obtain ⟨d,ed,q⟩:=hf
   obtain ⟨y,hy,iy⟩:=h3.dget ed
   have el:=h3.dlen
   rw [<- el] at hy
   exact ⟨_,_,y,_,.lst _,_,q,rfl,rfl,h1,iy,.li zi0 h2 (zdc h3),λ q=>⟨_,_,y,rfl,rfl,h1,hy,q⟩⟩
 ·exact hf.elim
end
section
variable {K:Fg} {te ta ti tv:TE} {de da di dk:DE} {dc:DC} {tt:TT} {dt:DT} {t u tb:TS} {d e db:DS} {tA:TA} {dA:DF} {g:TG} {dg:DG} {n:Nat} {dp:DP} {w:World}
def keyD:D->Option Key
|.int i=>some (.inl i)
|.str x=>some (.inr x)
|_=>none
theorem zm9 {F:Hp} {v:V} {d:D} {k:Key} (h:Is K F v d) (e:keyD d=some k):v=kV k:=by
 cases h <;> simp [keyD] at e <;> subst e <;> rfl
def zyh:List D->Option (List Key)
|[]=>some []
|d :: ds=>match keyD d,zyh ds with
 |some k,some ks=>some (k :: ks)
 |_,_=>none
def keyT:D->Option (List Key)
|.tuple ds=>zyh ds
|_=>none
theorem zq6 {F:Hp}:∀ {xs:List V} {ds:List D} {k:List Key},IsAll K F xs ds->zyh ds=some k->xs=k.map kV/\ds.all zzu=true
|_,_,_,.nil,e=>by simp [zyh] at e;subst e;exact ⟨rfl,rfl⟩
|_,_,_,.cons (d:=d) h r,e=>by
  unfold zyh at e
  split at e
  ·rename_i k ks h1 h2
   cases e
   obtain ⟨e1,e2⟩:=zq6 r h2
   have:=zm9 h h1
   rw [uK,this,e1,yM,e2]
   refine ⟨rfl,?_⟩
   cases d <;> simp [keyD] at h1 <;> rfl
  ·cases e
theorem zxd {F:Hp} {v:V} {d:D} {k:List Key} (h:Is K F v d) (e:keyT d=some k):∃ b,v=.ref b/\F b=some (.tup (k.map kV)):=by
 cases h with
|tup h1 h2 =>
  obtain ⟨e1,_⟩:=zq6 h2 e
  subst e1
  exact ⟨_,rfl,h1⟩
|tuc h1 h2 h3 =>
  obtain ⟨_,e2⟩:=zq6 h2 e
  rw [e2] at h3;cases h3
|_=>simp [keyT] at e
def getA {κ:Type} [DecidableEq κ] (kvs:List (κ×D)) (k:κ):Option D:=(kvs.find? λ kv=>decide (kv.1=k)).map (·.2)
def putD {κ:Type} [DecidableEq κ] (kvs:List (κ×D)) (k:κ) (d:D):List (κ×D) :=
 if (kvs.any λ kv=>decide (kv.1=k))=true then kvs.map (λ kv=>if kv.1=k then (kv.1,d) else kv) else kvs++[(k,d)]
theorem KvIs.len {F:Hp} {κ:Type}:∀ {r:List (κ×V)} {s:List (κ×D)},KvIs K F r s->r.length=s.length
|_,_,.nil=>rfl
|_,_,.cons _ r=>congrArg (·+1) (KvIs.len r)
theorem KvIs.get {F:Hp} {κ:Type} [DecidableEq κ] {k:κ}:∀ {r:List (κ×V)} {s:List (κ×D)},KvIs K F r s->(getA s k=none/\valV r k=none) \/ ∃ d v,getA s k=some d/\valV r k=some v/\Is K F v d
|_,_,.nil=>.inl ⟨rfl,rfl⟩
|_,_,.cons (k:=k') (v:=v) (d:=d) h r=>by
  by_cases e:k'=k
  ·exact .inr ⟨d,v,by simp [getA,e],by simp [valV,e],h⟩
  ·rcases KvIs.get (k:=k) r with ⟨h1,h2⟩|⟨d',v',h1,h2,h3⟩
   ·exact .inl ⟨by simp [getA,e];simpa [getA] using h1,by simp [valV,e];simpa [valV] using h2⟩
   ·refine .inr ⟨d',v',?_,?_,h3⟩
    ·simp [getA,e];simpa [getA] using h1
    ·simp [valV,e];simpa [valV] using h2
theorem KvIs.any {F:Hp} {κ:Type} [DecidableEq κ] {k:κ}:∀ {r:List (κ×V)} {s:List (κ×D)},KvIs K F r s->(r.any λ kv=>decide (kv.1=k))=(s.any λ kv=>decide (kv.1=k))
|_,_,.nil=>rfl
|_,_,.cons _ r=>by rw [wK,wK,KvIs.any r]
theorem KvIs.app {F:Hp} {κ:Type}:∀ {r r':List (κ×V)} {s s':List (κ×D)},KvIs K F r s->KvIs K F r' s'->KvIs K F (r++r') (s++s')
|_,_,_,_,.nil,h=>h
|_,_,_,_,.cons h r,h'=>.cons h (r.app h')
theorem KvIs.map {F:Hp} {κ:Type} [DecidableEq κ] {k:κ} {v:V} {d:D} (hv:Is K F v d):∀ {r:List (κ×V)} {s:List (κ×D)},KvIs K F r s->KvIs K F (r.map λ kv=>if kv.1=k then (kv.1,v) else kv) (s.map λ kv=>if kv.1=k then (kv.1,d) else kv)
|_,_,.nil=>.nil
|_,_,.cons (k:=k') h r=>by
  by_cases e:k'=k
  ·simp only [uK,e,if_true];exact .cons hv (r.map hv)
  ·simp only [uK,e,if_false];exact .cons h (r.map hv)
theorem KvIs.put {F:Hp} {κ:Type} [DecidableEq κ] {k:κ} {v:V} {d:D} (hv:Is K F v d) {r:List (κ×V)} {s:List (κ×D)} (h:KvIs K F r s):KvIs K F (putK r k v) (putD s k d):=by
 unfold putK putD
 rw [h.any]
 split
 ·exact h.map hv
 ·exact h.app (.cons hv .nil)
def fPut (u:T) (k d:D) (N:T->Prop):Prop:=match u with
|.li ds=>match k with
 |.int z=>∃ j,ixN ds.length z=some j/\N (.li (ds.set j d))
 |_=>False
|.dk kvs=>∃ key,keyD k=some key/\kvs.length < sizeLine/\N (.dk (putD kvs key d))
|.dt kvs=>∃ key,keyT k=some key/\kvs.length < sizeLine/\N (.dt (putD kvs key d))
|_=>False
theorem zqu {B:Bs} {F H:Hp} {Y:_2.St} {U:DSt} {fps:Nat->List Addr} {i:Nat} {p:Pth} {v kv y:V} {u:T} {k d:D} {N:DSt->Prop} {Q:Hp->Prop} (rs:RS K B F H Y U fps) (ha:AtS H Y U i p v u) (hk:Is K F kv k) (hy:Is K F y d)
  (hf:fPut u k d λ u2=>mutS U i p u2 N) (q:∀ U2 fps2 H2,RS K B F H2 Y U2 fps2->N U2->Q H2):zdx v kv y H Q:=by
 obtain ⟨fn,hr⟩:=ha.rt rs.rv
 cases hr with
|li h1 h2 h3 =>
  simp only [fPut] at hf
  split at hf
  ·rename_i z
   obtain ⟨j,ej,hm⟩:=hf
   cases hk.int_inv
   have el:=h3.dlen
   obtain ⟨U2,fps2,r2,n2,_⟩:=rs.one (o2:=.lst (_)) ha hm h1 (λ fn' hr'=>by cases hr';rfl) (λ fa=>.li zi0 fa (h3.dset hy j))
   exact .inl ⟨_,_,z,j,rfl,rfl,h1,by rw [el];exact ej,q _ _ _ r2 n2⟩
  ·exact hf.elim
|dk h1 h2 h3 =>
  simp only [fPut] at hf
  obtain ⟨key,ek,hl,hm⟩:=hf
  have:=zm9 hk ek
  subst this
  have el:=h3.len
  obtain ⟨U2,fps2,r2,n2,_⟩:=rs.one (o2:=.dK _) ha hm h1 (λ fn' hr'=>by cases hr';rfl) (λ fa=>.dk zi0 fa (h3.put (k:=key) hy))
  exact .inr ⟨_,_,rfl,DPut.k h1 (by lia),q _ _ _ r2 n2⟩
|fz _=>exact hf.elim
|ls _ _ _=>exact hf.elim
|ob _ _ _ _ _=>exact hf.elim
|tp _ _ _ _=>exact hf.elim
|wh=>exact hf.elim
|dd _ _ _ _=>exact hf.elim
|dt h1 h2 h3 =>
  simp only [fPut] at hf
  obtain ⟨key,ek,hl,hm⟩:=hf
  obtain ⟨kb,rfl,hb⟩:=zxd hk ek
  have el:=h3.len
  obtain ⟨U2,fps2,r2,n2,_⟩:=rs.one (o2:=.dT _) ha hm h1 (λ fn' hr'=>by cases hr';rfl) (λ fa=>.dt zi0 fa (h3.put (k:=key) hy))
  exact .inr ⟨_,_,rfl,DPut.t h1 (rs.fh _ _ hb) (by lia),q _ _ _ r2 n2⟩
def dPut (dp:DP) (dk de:DE):DS:=λ E U=>de U λ d=>dp U λ i p u=>dk U λ k=>fPut u k d λ u2=>mutS U i p u2 E.nx
theorem zwi (he:RfE K te de) (hp:RfP K ta dp) (hk:RfE K ti dk):RfS K (tAsg te (gSub ta ti zdx)) (dPut dp dk de):=by
 intro B F H Y U fps E Z r h k
 refine he r.fh r.rv h λ d hd y F1 H1 e1 i1=>?_
 have r1:=r.grow e1
 refine hp r1.fh r1.rv hd λ i p u hu v F2 H2 e2 at2=>?_
 have r2:=r1.grow e2
 refine hk r2.fh r2.rv hu λ kd hkd kv F3 H3 e3 i3=>?_
 exact zqu (r2.grow e3) (at2.mono e3.h) i3 (i1.mono (e2.f.trans e3.f)) hkd λ U2 fps2 H4 r4 n4=>k.nx r4 n4
def fGet (u:T) (k:D) (Q:D->Prop):Prop:=match u with
|.li ds=>match k with
 |.int z=>0<=z/\∃ d,ds[z.toNat]?=some d/\Q d
 |_=>False
|.dk kvs=>∃ key d,keyD k=some key/\getA kvs key=some d/\Q d
|.dt kvs=>∃ key d,keyT k=some key/\getA kvs key=some d/\Q d
|_=>False
theorem zov {F H:Hp} {v kv:V} {u:T} {fn:List Addr} {k:D} {Qd:D->Prop} {Q:VK} (s:Same F H) (hr:Rt K F H v u fn) (hk:Is K F kv k) (hf:fGet u k Qd) (q:∀ d y,Qd d->Is K F y d->Q y H):zgz K v kv H Q:=by
 cases hr with
|li h1 h2 h3 =>
  simp only [fGet] at hf
  split at hf
  ·rename_i z
   obtain ⟨z0,d,ed,qd⟩:=hf
   cases hk.int_inv
   obtain ⟨y,hy,iy⟩:=h3.dget ed
   exact .inl ⟨_,_,z,y,rfl,rfl,z0,SqL.of h1,hy,q d y qd iy⟩
  ·exact hf.elim
|dk h1 h2 h3 =>
  simp only [fGet] at hf
  obtain ⟨key,d,ek,ed,qd⟩:=hf
  have:=zm9 hk ek
  subst this
  rcases h3.get (k:=key) with ⟨g1,_⟩|⟨d',y,g1,g2,g3⟩
  ·rw [g1] at ed;cases ed
  ·rw [g1] at ed;cases ed
   exact .inr ⟨_,y,rfl,by rw [<- g2];exact DGet.k h1,q d y qd g3⟩
|fz _=>exact hf.elim
|ls _ _ _=>exact hf.elim
|ob _ _ _ _ _=>exact hf.elim
|tp _ _ _ _=>exact hf.elim
|wh=>exact hf.elim
|dd _ _ _ _=>exact hf.elim
|dt h1 h2 h3 =>
  simp only [fGet] at hf
  obtain ⟨key,d,ek,ed,qd⟩:=hf
  obtain ⟨kb,rfl,hb⟩:=zxd hk ek
  rcases h3.get (k:=key) with ⟨g1,_⟩|⟨d',y,g1,g2,g3⟩
  ·rw [g1] at ed;cases ed
  ·rw [g1] at ed;cases ed
   exact .inr ⟨_,y,rfl,by rw [<- g2];exact DGet.t h1 (s _ _ hb),q d y qd g3⟩
def fII (f:Int->Int->Int) (x y:D) (Q:D->Prop):Prop:=match x,y with
|.int i,.int j=>Q (.int (f i j))
|_,_=>False
def zw41 (f:Int->Int->Int) (dp:DP) (dk de:DE):DS:=λ E U=>dp U λ i p u=>dk U λ k=>fGet u k λ x=>de U λ y=>fII f x y λ z=>fPut u k z λ u2=>mutS U i p u2 E.nx
theorem zod {f:Int->Int->Int} (hp:RfP K ta dp) (hk:RfE K ti dk) (he:RfE K te de):RfS K (zf41 ta ti te (zgz K) (ipI f) zdx) (zw41 f dp dk de):=by
 intro B F H Y U fps E Z r h k
 refine hp r.fh r.rv h λ i p u hu v F1 H1 e1 at1=>?_
 have r1:=r.grow e1
 refine hk r1.fh r1.rv hu λ kd hkd kv F2 H2 e2 i2=>?_
 have r2:=r1.grow e2
 have at2:=at1.mono e2.h
 obtain ⟨fn,hr⟩:=at2.rt r2.rv
 refine zov r2.fh hr i2 hkd λ x xv hx ix=>he r2.fh r2.rv hx λ y hy yv F3 H3 e3 i3=>?_
 unfold fII at hy
 split at hy
 ·cases ix.int_inv
  cases i3.int_inv
  refine ⟨_,_,rfl,rfl,?_⟩
  exact zqu (r2.grow e3) (at2.mono e3.h) (i2.mono e3.f) (.int _) hy λ U2 fps2 H4 r4 n4=>k.nx r4 n4
 ·exact hy.elim
def nGet (dp:DP) (dk:DE):DE:=λ U Q=>dp U λ _ _ u=>dk U λ k=>fGet u k Q
theorem zjh (hp:RfP K ta dp) (hk:RfE K ti dk):RfE K (tOp (rIxV w K) ta ti) (nGet dp dk):=by
 intro F H Y U Qd Q s rv h k
 refine hp s rv h λ i p u hu v F1 H1 e1 at1=>hk e1.fh (rv.ext e1) hu λ kd hkd kv F2 H2 e2 i2=>?_
 have e12:=e1.trans e2
 obtain ⟨fn,hr⟩:=(at1.mono e2.h).rt (rv.ext e12)
 rcases zov (Q:=Q) e12.fh hr i2 hkd λ d y qd iy=>k d qd y F2 H2 e12 iy with ⟨a,xs,j,y,rfl,rfl,j0,h1,h2,q⟩|q
 ·exact .inl (.inl (.inl ⟨a,xs,j,y,rfl,rfl,h1,at_nat' j0 h2,q⟩))
 ·exact .inr q
end
section
variable {K:Fg} {te ta ti tv:TE} {de da di dk:DE} {dc:DC} {tt:TT} {dt:DT} {t u tb:TS} {d e db:DS} {tA:TA} {dA:DF} {g:TG} {dg:DG} {n:Nat} {dp:DP} {w:World}
theorem zr7 {F H:Hp} {p:Addr} {o:HO} (s:Same F H) (hn:H p=none):Ext F H F (upd H p o) :=
 ⟨zd3 hn _,λ _ _ z=>z,λ b o z=>zd3 hn _ b o (s b o z),λ _ _ z=>z⟩
def fHas (neg:Bool) (u:T) (k:D) (Q:D->Prop):Prop:=match u with
|.dk kvs=>∃ key,keyD k=some key/\Q (.bool (if neg then !(getA kvs key).isSome else (getA kvs key).isSome))
|.dt kvs=>∃ key,keyT k=some key/\Q (.bool (if neg then !(getA kvs key).isSome else (getA kvs key).isSome))
|_=>False
def nIn (neg:Bool) (dk:DE) (dp:DP):DE:=λ U Q=>dk U λ k=>dp U λ _ _ u=>fHas neg u k Q
theorem zdu {F H:Hp} {v kv:V} {u:T} {fn:List Addr} {k:D} {Qd:D->Prop} {neg:Bool} (s:Same F H) (hr:Rt K F H v u fn) (hk:Is K F kv k) (hf:fHas neg u k Qd):∃ a o,v=.ref a/\DGet H a kv o/\Qd (.bool (if neg then !o.isSome else o.isSome)):=by
 cases hr with
|dk h1 h2 h3 =>
  obtain ⟨key,ek,q⟩:=hf
  have:=zm9 hk ek
  subst this
  rcases h3.get (k:=key) with ⟨g1,g2⟩|⟨d',y,g1,g2,g3⟩
  ·rw [g1] at q;exact ⟨_,none,rfl,by rw [<- g2];exact DGet.k h1,q⟩
  ·rw [g1] at q;exact ⟨_,some y,rfl,by rw [<- g2];exact DGet.k h1,q⟩
|fz _=>exact hf.elim
|li _ _ _=>exact hf.elim
|ls _ _ _=>exact hf.elim
|ob _ _ _ _ _=>exact hf.elim
|tp _ _ _ _=>exact hf.elim
|wh=>exact hf.elim
|dd _ _ _ _=>exact hf.elim
|dt h1 h2 h3 =>
  obtain ⟨key,ek,q⟩:=hf
  obtain ⟨kb,rfl,hb⟩:=zxd hk ek
  rcases h3.get (k:=key) with ⟨g1,g2⟩|⟨d',y,g1,g2,g3⟩
  ·rw [g1] at q;exact ⟨_,none,rfl,by rw [<- g2];exact DGet.t h1 (s _ _ hb),q⟩
  ·rw [g1] at q;exact ⟨_,some y,rfl,by rw [<- g2];exact DGet.t h1 (s _ _ hb),q⟩
theorem ze11 (hk:RfE K ti dk) (hp:RfP K ta dp):RfE K (tOp (rInV w K) ti ta) (nIn false dk dp):=by
 intro F H Y U Qd Q s rv h k
 refine hk s rv h λ kd hkd kv F1 H1 e1 i1=>hp e1.fh (rv.ext e1) hkd λ i p u hu v F2 H2 e2 at2=>?_
 have e12:=e1.trans e2
 obtain ⟨fn,hr⟩:=at2.rt (rv.ext e12)
 obtain ⟨a,o,rfl,g,q⟩:=zdu e12.fh hr (i1.mono e2.f) hu
 exact .inr ⟨a,o,rfl,g,k _ q _ F2 H2 e12 (.bl _)⟩
theorem zkf (hk:RfE K ti dk) (hp:RfP K ta dp):RfE K (tOp (zvk w K) ti ta) (nIn true dk dp):=by
 intro F H Y U Qd Q s rv h k
 refine hk s rv h λ kd hkd kv F1 H1 e1 i1=>hp e1.fh (rv.ext e1) hkd λ i p u hu v F2 H2 e2 at2=>?_
 have e12:=e1.trans e2
 obtain ⟨fn,hr⟩:=at2.rt (rv.ext e12)
 obtain ⟨a,o,rfl,g,q⟩:=zdu e12.fh hr (i1.mono e2.f) hu
 exact .inr ⟨a,o,rfl,g,k _ q _ F2 H2 e12 (.bl _)⟩
def cDK:DC:=λ U Q=>Q (.dk []) U
theorem zm51:RfC K zqv cDK:=by
 intro B F H Y U fps Qd Q r hd k
 intro p hp
 have fn:F p=none:=by
  cases e:F p with
 |none=>rfl
 |some o=>rw [r.fh p o e] at hp;cases hp
 refine k _ _ hd (.ref p) F _ fps [p] ⟨r.grow (zr7 r.fh hp),.dk zi0 fn .nil,by simp,λ b hb=>?_,λ j s ej hs b hb hb2=>?_⟩
 ·simp at hb;subst hb
  by_cases z:B.H0 b=none
  ·exact z
  ·exact absurd hp ((r.al b).1 z)
 ·simp at hb2;subst hb2
  obtain ⟨x,t,a1,a2,a3,a4,a5⟩:=r.rt j s ej hs
  exact (a3.dom b hb).1 hp
abbrev DN:=DSt->(T->Prop)->Prop
def RfN (K:Fg) (te:TE) (dn:DN):Prop:=∀ {F H:Hp} {Y:_2.St} {U:DSt} {Qd:T->Prop} {Q:VK},Same F H->RV K F H Y U->dn U Qd->(∀ r,Qd r->∀ v F' H' fp,Ext F H F' H'->Rt K F' H' v r fp->fp.Nodup->(∀ a∈fp,H a=none)->Q v H')->te Y H Q
def nE (de:DE):DN:=λ U Q=>de U λ d=>Q (.fz d)
def nF (df:DF):DN:=λ U Q=>df U λ ds=>Q (.li ds)
theorem RfE.new (h:RfE K te de):RfN K te (nE de):=λ s r d k=>h s r d λ x q v F' H' e i=>k _ q v F' H' [] e (.fz i) .nil λ a ha=>by simp at ha
theorem RfF.new {df:DF} (h:RfF K te df):RfN K te (nF df):=λ s r d k=>h s r d λ ds q a xs F' H' e hn h1 h2 h3=>k _ q (.ref a) F' H' [a] e (.li h1 h2 h3) (by simp) λ b hb=>by simp at hb;subst hb;exact hn
def cN (dn:DN):DC:=λ U Q=>dn U λ r=>Q r U
theorem RfN.c {dn:DN} (h:RfN K te dn):RfC K te (cN dn):=by
 intro B F H Y U fps Qd Q r hd k
 refine h r.fh r.rv hd λ r2 q v F1 H1 fp e1 hr nd fr=>k _ _ q v F1 H1 fps fp ⟨r.grow e1,hr,nd,λ a ha=>?_,λ j s ej hs b hb hb2=>?_⟩
 ·by_cases z:B.H0 a=none
  ·exact z
  ·exact absurd (fr a ha) ((r.al a).1 z)
 ·obtain ⟨x,t,a1,a2,a3,a4,a5⟩:=r.rt j s ej hs
  exact (a3.dom b hb).1 (fr b hb2)
theorem RtAll.app {F H:Hp}:∀ {xs ys:List V} {ts us:List T} {fp fq:List Addr},RtAll K F H xs ts fp->RtAll K F H ys us fq->RtAll K F H (xs++ys) (ts++us) (fp++fq)
|_,_,_,_,_,_,.nil,h=>h
|_,_,_,_,_,_,.cons h r,h'=>by rw [wG];exact .cons h (r.app h')
def zh41 (di:DF) (n:Nat) (ix:List Nat) (dg:DG) (dn:DN):DN:=λ U Q=>di U λ items=>items.length<=sizeLine/\∃ R:Nat->T->Prop,
 (∀ i d,items[i]?=some d->dg d (cST n ix U) λ U'=>dn U' λ r=>R i r)/\∀ rs:List T,rs.length=items.length->(∀ (j:Nat) r,rs[j]?=some r->R j r)->Q (.ls rs)
theorem zkg {wi:TI} {di:DF} {ix:List Nat} {dn:DN} (hi:RfJ K wi di) (hg:RfG K n g dg) (he:RfN K te dn):RfN K (zrw wi n ix g zh01 te) (zh41 di n ix dg dn):=by
 intro F H Y U Qd Q s rv hd k
 refine hi s rv hd λ items hx J F1 H1 e1 wj D hD=>?_
 obtain ⟨hz,R,hR,hQ⟩:=hx
 have rv1:=zot n ix (rv.ext e1)
 have F1D:F1 D=none:=by
  cases q:F1 D with
 |none=>rfl
 |some o=>rw [e1.fh D o q] at hD;cases hD
 refine ⟨λ i m acc Y' H'=>m=items.length - i/\i<=items.length/\Y'.length=(compY n ix Y).length/\(∀ j,n<=j->Y'.getD j none=(compY n ix Y).getD j none)/\∃ (F':Hp) (rs:List T) (fpA:List Addr),Ext F1 H1 F' H'/\F' D=none/\H' D=some (.lst acc)/\rs.length=i/\(∀ (j:Nat) r,rs[j]?=some r->R j r)/\RtAll K F' H' acc rs fpA/\fpA.Nodup/\(∀ a∈fpA,H1 a=none/\a≠D),
  ⟨items.length,rfl,vZ _,rfl,λ _ _=>rfl,F1,[],[],?_,F1D,zi0,rfl,λ j o e=>by simp at e,.nil,.nil,λ a ha=>by simp at ha⟩,?_⟩
 ·exact (zy2 (xs:=[]) e1.fh hD).1
 rintro i m acc Y' H' ⟨rfl,hi',hl,hk,F',rs,fpA,ex,fD,hDD,hrs,hRs,hall,ndA,frA⟩
 obtain ⟨go,stop,yld⟩:=wj F' H' ex
 by_cases hlt:i < items.length
 ·refine .inr ⟨go i hlt,λ acc' Y2 H2=>i+1<=items.length/\Y2.length=(compY n ix Y).length/\(∀ j,n<=j->Y2.getD j none=(compY n ix Y).getD j none)/\∃ (F':Hp) (rs:List T) (fpA:List Addr),Ext F1 H1 F' H2/\F' D=none/\H2 D=some (.lst acc')/\rs.length=i+1/\(∀ (j:Nat) r,rs[j]?=some r->R j r)/\RtAll K F' H2 acc' rs fpA/\fpA.Nodup/\(∀ a∈fpA,H1 a=none/\a≠D),λ acc' Y2 H2 p=>⟨items.length - (i+1),by lia,rfl,p⟩,λ x H2 y=>?_⟩
  have hit:items[i]?=some items[i]:=uB hlt
  obtain ⟨F2,ex2,ix2⟩:=yld i x H2 _ hit y
  have rv2:RV K F2 H2 Y' (cST n ix U):=RV.caps (rv1.ext (ex.trans ex2)) hl hk
  refine hg ex2.fh ix2 (hR i _ hit) λ Y2 U2 hd2 u2=>?_
  have rv3:=u2.rv rv2
  have kp:=u2.keep
  have hl2:Y2.length=(compY n ix Y).length:=by rw [kp.1,hl]
  have hk2:∀ j,n<=j->Y2.getD j none=(compY n ix Y).getD j none:=λ j hj=>by rw [kp.2 j hj,hk j hj]
  show te Y2 H2 _
  refine he ex2.fh rv3 hd2 λ r hr v F5 H5 fp e5 i5 nd5 fr5=>?_
  have e25:=ex2.trans e5
  have hD2:H2 D=some (.lst acc):=ex2.h _ _ hDD
  have hD5:H5 D=some (.lst acc):=e25.h _ _ hDD
  have fD5:F5 D=none:=e25.nwo hDD (λ _=>nofun) fD
  have hlen:acc.length<=i:=by rw [hall.len,hrs];exact uF _
  have e15:=ex.trans e25
  have hall5:RtAll K F5 H5 acc rs fpA:=hall.frame e25.f λ a ha=>by
   obtain ⟨d1,d2⟩:=hall.dom a ha
   cases q:H' a with
  |none=>exact absurd q d1
  |some o=>exact ⟨e25.h a o q,e25.nw a (hall.hdd a ha) d2⟩
  have frN:∀ a∈fp,H1 a=none/\a≠D:=λ a ha=>⟨zj1 (ex.trans ex2) (fr5 a ha),λ z=>by subst z;rw [fr5 a ha] at hD2;cases hD2⟩
  refine ⟨hD5,by lia,hlt,hl2,hk2,F5,rs++[r],fpA++fp,⟨λ b o hb=>?_,e15.f,λ b o hb=>?_,e15.nw⟩,fD5,zi0,by simp [hrs],λ j r' e=>?_,?_,?_,λ a ha=>?_⟩
  ·have:b≠D:=λ z=>by subst z;rw [hD] at hb;cases hb
   rw [zm0 this];exact e15.h b o hb
  ·have:b≠D:=λ z=>by subst z;rw [fD5] at hb;cases hb
   rw [zm0 this];exact e15.fh b o hb
  ·rcases Nat.lt_trichotomy j rs.length with h|h|h
   ·rw [u5 h] at e;exact hRs j r' e
   ·subst h;rw [u9 (uF _)] at e;simp at e;subst e;rw [hrs];exact hr
   ·rw [u9 (xE h)] at e
    cases q:j - rs.length with
   |zero=>lia
   |succ z=>rw [q] at e;simp at e
  ·have z1:RtAll K F5 (upd H5 D (.lst (acc++[v]))) acc rs fpA:=hall5.frame (λ _ _ z=>z) λ a ha=>⟨zm0 (frA a ha).2,(hall5.dom a ha).2⟩
   have z2:Rt K F5 (upd H5 D (.lst (acc++[v]))) v r fp:=i5.frame (λ _ _ z=>z) λ a ha=>⟨zm0 (frN a ha).2,(i5.dom a ha).2⟩
   have:=z1.app (RtAll.cons z2 .nil)
   rwa [wE] at this
  ·refine uX.mpr ⟨ndA,nd5,λ a ha b hb z=>?_⟩
   subst z
   have:=(hall.dom a ha).1
   exact this (zj1 ex2 (fr5 a hb))
  ·rcases uG.mp ha with z|z
   ·exact frA a z
   ·exact frN a z
 ·have e:i=items.length:=by lia
  refine .inl ⟨by rw [e];exact stop,k _ (hQ rs (by lia) hRs) (.ref D) F' H' (D :: fpA) (e1.trans ex) (.ls hDD fD hall) (uU.mpr ⟨λ z=>(frA D z).2 rfl,ndA⟩) λ a ha=>?_⟩
  rcases uE.mp ha with z|z
  ·rw [z];exact zj1 e1 hD
  ·exact zj1 e1 (frA a z).1
end
section
variable {K:Fg} {te ta ti tv:TE} {de da di dk:DE} {dc:DC} {tt:TT} {dt:DT} {t u tb:TS} {d e db:DS} {tA:TA} {dA:DF} {g:TG} {dg:DG} {n:Nat} {dp:DP} {w:World}
def nSet (f:Str) (u r:T) (N:T->Prop):Prop:=match u with
|.ob C fs=>fs.length < 1000/\N (.ob C (putA f r fs))
|_=>False
theorem Res.grow {B:Bs} {F H F' H':Hp} {Y:_2.St} {U:DSt} {fps:Nat->List Addr} {v:V} {r:T} {fpr:List Addr} (h:Res K B F H Y U fps v r fpr) (e:Ext F H F' H'):Res K B F' H' Y U fps v r fpr :=
 ⟨h.rs.grow e,h.rt.ext e,h.nd,h.fr,h.dj⟩
theorem zzy {B:Bs} {F H:Hp} {Y:_2.St} {U:DSt} {fps:Nat->List Addr} {y:V} {r:T} {fpr:List Addr} {i:Nat} {p:Pth} {a C dx:Addr} {fs:List (Str×V)} {ts:List (Str×T)} {f:Str} {N:DSt->Prop}
  (res:Res K B F H Y U fps y r fpr) (ha:AtS H Y U i p (.ref a) (.ob C ts)) (hH:H a=some (.ins C dx fs)) (hm:mutS U i p (.ob C (putA f r ts)) N):∃ U2 fps2,RS K B F (upd H a (.ins C dx (putF f y fs))) Y U2 fps2/\N U2:=by
 obtain ⟨fn,hr,nd,sub,back⟩:=res.rs.mut ha hm
 obtain ⟨s,hs,ho⟩:∃ s,U[i]?=some s/\s.own=true:=by
  unfold mutS at hm
  split at hm
  ·rename_i t q;exact ⟨_,q,rfl⟩
  ·rename_i a t q;exact ⟨_,q,rfl⟩
  ·exact hm.elim
 have dis:∀ b∈fn,b ∉ fpr:=λ b hb=>res.dj i s hs (zh5 ho) b (sub b hb)
 cases hr with
|ob g1 g2 g3 g4 g5 =>
  rename_i dx' fs' fp
  rw [hH] at g1;cases g1
  have nd1:=uU.mp nd
  have nd2:=uU.mp nd1.2
  have na:a ∉ fp:=λ z=>nd1.1 (vB _ z)
  have nx:dx≠a:=λ z=>nd1.1 (by rw [z];simp)
  have nxf:dx ∉ fp:=nd2.1
  have dp':∀ b∈fp,b ∉ fpr:=λ b hb=>dis b (by simp [hb])
  have ra:a ∉ fpr:=dis a (by simp)
  have rx:dx ∉ fpr:=dis dx (by simp)
  have hy:Rt K F (upd H a (.ins C dx (putF f y fs))) y r fpr:=res.rt.frame (λ _ _ z=>z) λ b hb=>⟨zm0 λ z=>by subst z;exact ra hb,(res.rt.dom b hb).2⟩
  have fr0:∀ b∈fp,upd H a (.ins C dx (putF f y fs)) b=H b/\F b=none:=λ b hb=>⟨zm0 λ z=>by subst z;exact na hb,(g5.dom b hb).2⟩
  obtain ⟨fq,hq,ndq,mq⟩:∃ fq,RtFs K F (upd H a (.ins C dx (putF f y fs))) (putF f y fs) (putA f r ts) fq/\fq.Nodup/\∀ b∈fq,b∈fp \/ b∈fpr:=by
   cases q:ts.lookup f with
  |none =>
    refine ⟨fp++fpr,RtFs.add (λ _ _ z=>z) hy g5 q fr0,uX.mpr ⟨nd2.2,res.nd,λ b hb c hc z=>?_⟩,λ b hb=>uG.mp hb⟩
    subst z;exact dp' b hb hc
  |some t0 =>
    obtain ⟨x0,ex⟩:=(g5.keys f).2.1 t0 q
    obtain ⟨fA,fj,fB,e,hj,_,rep⟩:=g5.split ex q
    subst e
    obtain ⟨ndA,ndJB,djA⟩:=uX.mp nd2.2
    obtain ⟨ndj,ndB,djB⟩:=uX.mp ndJB
    refine ⟨fA++(fpr++fB),rep (λ _ _ z=>z) (λ b hb=>fr0 b (by rcases uG.mp hb with z|z <;> simp [z])) hy,uX.mpr ⟨ndA,uX.mpr ⟨res.nd,ndB,λ b hb c hc z=>?_⟩,λ b hb c hc z=>?_⟩,λ b hb=>?_⟩
    ·subst z;exact dp' b (by simp [hc]) hb
    ·subst z
     rcases uG.mp hc with z|z
     ·exact dp' b (by simp [hb]) z
     ·exact djA b hb b (by simp [z]) rfl
    ·rcases uG.mp hb with z|z
     ·exact .inl (by simp [z])
     ·rcases uG.mp z with z|z
      ·exact .inr z
      ·exact .inl (by simp [z])
  obtain ⟨U2,fps2,r2,n2,_⟩:=back (F2:=F) (H2:=upd H a (.ins C dx (putF f y fs))) (fq:=a :: dx :: fq) (λ b o hb hbo=>by rw [zm0 (λ z=>hb (by simp [z]))];exact hbo) (λ _ _ z=>z) (λ b o z=>by
    have:b≠a:=λ q=>by subst q;rw [g3] at z;cases z
    rw [zm0 this];exact res.rs.fh b o z) (λ b _ fb _=>fb) (zxh (.of zi0 λ _=>nofun)) (λ b hb hf=>by
    have:F b=none:=by
     rcases uE.mp hb with z|z
     ·rw [z];exact g3
     ·rcases uE.mp z with z|z
      ·rw [z];exact g4
      ·exact (g5.dom b z).2
    exact absurd this hf) (.ob zi0 (by rw [zm0 nx];exact g2) g3 g4 hq) (uU.mpr ⟨λ z=>by
    rcases uE.mp z with y|y
    ·exact nx y.symm
    ·rcases mq a y with y|y
     ·exact na y
     ·exact ra y,uU.mpr ⟨λ z=>by
    rcases mq dx z with y|y
    ·exact nxf y
    ·exact rx y,ndq⟩⟩) (λ b hb=>by
    rcases uE.mp hb with z|z
    ·exact .inl (by simp [z])
    ·rcases uE.mp z with z|z
     ·exact .inl (by simp [z])
     ·rcases mq b z with z|z
      ·exact .inl (by simp [z])
      ·exact .inr ⟨res.fr b z,λ j s' ej hs' hbj=>res.dj j s' ej hs' b hbj z⟩)
  exact ⟨U2,fps2,r2,n2⟩
def dFld (C:Addr) (f:Str) (dc:DC) (dp:DP):DS:=λ E U=>dc U λ r U1=>dp U1 λ i p u=>nCls C u/\nSet f u r λ u2=>mutS U1 i p u2 E.nx
theorem zin {C:Addr} {f:Str} (c:Cls K C) (na:NoAttr K C f) (hc:RfC K tv dc) (hp:RfP K ta dp):RfS K (sFld K ta tv f) (dFld C f dc dp):=by
 intro B F H Y U fps E Z r h k
 refine hc r h λ r2 U1 q y F1 H1 fps1 fpr res=>hp res.rs.fh res.rs.rv q λ i p u hu v F2 H2 e2 at2=>?_
 have res2:=res.grow e2
 obtain ⟨fn,hr⟩:=at2.rt res2.rs.rv
 cases hr with
|ob g1 g2 g3 g4 g5 =>
  obtain ⟨hcl,hl,hm⟩:=hu
  cases (show _=C from hcl)
  have len:=(g5.keys f).2.2
  obtain ⟨U2,fps2,r3,n3⟩:=zzy res2 at2 g1 hm
  exact ⟨_,_,_,_,rfl,g1,c,na,by lia,k.nx r3 n3⟩
|fz _=>exact hu.1.elim
|li _ _ _=>exact hu.1.elim
|ls _ _ _=>exact hu.1.elim
|dk _ _ _=>exact hu.1.elim
|dt _ _ _=>exact hu.1.elim
|tp _ _ _ _=>exact hu.1.elim
|wh=>exact hu.1.elim
|dd _ _ _ _=>exact hu.1.elim
def zei:List T->Option (List (List D))
|[]=>some []
|.li ds :: r=>(zei r).map (ds :: ·)
|_ :: _=>none
def toD:T->Option D
|.fz d=>some d
|.li ds=>some (.list ds)
|.ls ts=>(zei ts).map λ dss=>.list (dss.map vG)
|_=>none
theorem zkl {F H:Hp} (s:Same F H):∀ {xs:List V} {ts:List T} {fp:List Addr} {dss:List (List D)},RtAll K F H xs ts fp->zei ts=some dss->fp.Nodup->∃ F2,Same F F2/\Same F2 H/\(∀ b,b ∉ fp->F2 b=F b)/\IsAll K F2 xs (dss.map vG)
|_,_,_,_,.nil,e,_=>by cases e;exact ⟨F,λ _ _ z=>z,s,λ _ _=>rfl,.nil⟩
|_,_,_,_,.cons (fp:=fp) (fq:=fq) h r,e,nd=>by
  cases h with
 |li h1 h2 h3 =>
   rename_i a xs0 ds0
   unfold zei at e
   obtain ⟨dss',e1,rfl⟩:=u6.mp e
   have nd':=uU.mp nd
   obtain ⟨F1,s1,s2,s3,s4⟩:=zkl s r e1 nd'.2
   have fa:F1 a=none:=by rw [s3 a nd'.1];exact h2
   have sn:Same F1 (upd F1 a (.lst xs0)):=zd3 fa _
   refine ⟨upd F1 a (.lst xs0),s1.trans sn,λ b o z=>?_,λ b hb=>?_,.cons (.lst (SqL.of zi0) (h3.mono (s1.trans sn))) (s4.mono sn)⟩
   ·by_cases q:b=a
    ·subst q;rw [zi0] at z;cases z;exact h1
    ·rw [zm0 q] at z;exact s2 b o z
   ·have hb1:b≠a:=λ z=>hb (by simp [z])
    rw [zm0 hb1];exact s3 b λ z=>hb (by simp [z])
 |_=>cases e
theorem zm31 {F H:Hp} (s:Same F H) {v:V} {t:T} {fp:List Addr} {d:D} (h:Rt K F H v t fp) (e:toD t=some d) (nd:fp.Nodup):∃ F2,Same F F2/\Same F2 H/\(∀ b,b ∉ fp->F2 b=F b)/\Is K F2 v d:=by
 cases h with
|fz i=>cases e;exact ⟨F,λ _ _ z=>z,s,λ _ _=>rfl,i⟩
|li h1 h2 h3 =>
  cases e
  rename_i a xs ds
  have sn:=zd3 (H:=F) h2 (.lst xs)
  refine ⟨_,sn,λ b o z=>?_,λ b hb=>zm0 λ q=>hb (by simp [q]),.lst (SqL.of zi0) (h3.mono sn)⟩
  by_cases q:b=a
  ·subst q;rw [zi0] at z;cases z;exact h1
  ·rw [zm0 q] at z;exact s b o z
|ls h1 h2 h3 =>
  rename_i a xs ts fp
  unfold toD at e
  obtain ⟨dss,e1,rfl⟩:=u6.mp e
  have nd':=uU.mp nd
  obtain ⟨F1,s1,s2,s3,s4⟩:=zkl s h3 e1 nd'.2
  have fa:F1 a=none:=by rw [s3 a nd'.1];exact h2
  have sn:Same F1 (upd F1 a (.lst xs)):=zd3 fa _
  refine ⟨upd F1 a (.lst xs),s1.trans sn,λ b o z=>?_,λ b hb=>?_,.lst (SqL.of zi0) (s4.mono sn)⟩
  ·by_cases q:b=a
   ·subst q;rw [zi0] at z;cases z;exact h1
   ·rw [zm0 q] at z;exact s2 b o z
  ·have hb1:b≠a:=λ z=>hb (by simp [z])
   rw [zm0 hb1];exact s3 b λ z=>hb (by simp [z])
|ob _ _ _ _ _=>cases e
|dk _ _ _=>cases e
|dt _ _ _=>cases e
|tp _ _ _ _=>cases e
|wh=>cases e
|dd _ _ _ _=>cases e
def getP:T->Pth->Option T
|t,[]=>some t
|.ls ts,.ix j :: p=>(ts[j]?).bind λ t=>getP t p
|.tp ts,.ix j :: p=>(ts[j]?).bind λ t=>getP t p
|.ob _ fs,.fl f :: p=>(fs.lookup f).bind λ t=>getP t p
|_,_=>none
theorem zo01 {F H:Hp} {p:Pth}:∀ {x:V} {t u:T} {fp:List Addr},Rt K F H x t fp->getP t p=some u->∃ v,At H x t p v u:=by
 induction p with
|nil=>intro x t u fp _ e;unfold getP at e;cases e;exact ⟨x,.nil⟩
|cons q p ih =>
  intro x t u fp h e
  cases h with
 |ls h1 h2 h3 =>
   cases q with
  |ix j =>
    unfold getP at e
    obtain ⟨t1,e1,e2⟩:=yS.mp e
    rename_i xs ts fp'
    have el:=h3.len
    have hj:j < ts.length:=by
     rcases vN j ts.length with y|y
     ·exact y
     ·rw [vF y] at e1;cases e1
    obtain ⟨y,hy⟩:∃ y,xs[j]?=some y:=⟨xs[j]'(by lia),uB _⟩
    obtain ⟨fA,fj,fB,_,hr,_⟩:=h3.split hy e1
    obtain ⟨v,hv⟩:=ih hr e2
    exact ⟨v,.ix h1 hy e1 hv⟩
  |fl f=>cases e
 |tp h1 h2 gk h3 =>
   cases q with
  |ix j =>
    unfold getP at e
    obtain ⟨t1,e1,e2⟩:=yS.mp e
    rename_i xs ts fp'
    have el:=h3.len
    have hj:j < ts.length:=by
     rcases vN j ts.length with y|y
     ·exact y
     ·rw [vF y] at e1;cases e1
    obtain ⟨y,hy⟩:∃ y,xs[j]?=some y:=⟨xs[j]'(by lia),uB _⟩
    obtain ⟨fA,fj,fB,_,hr,_⟩:=h3.split hy e1
    obtain ⟨v,hv⟩:=ih hr e2
    exact ⟨v,.tx h1 hy e1 hv⟩
  |fl f=>cases e
 |ob h1 h2 h3 h4 h5 =>
   cases q with
  |fl f =>
    unfold getP at e
    obtain ⟨t1,e1,e2⟩:=yS.mp e
    obtain ⟨y,hy⟩:=(h5.keys f).2.1 t1 e1
    obtain ⟨fA,fj,fB,_,hr,_⟩:=h5.split hy e1
    obtain ⟨v,hv⟩:=ih hr e2
    exact ⟨v,.fl h1 hy e1 hv⟩
  |ix j=>cases e
 |fz _=>cases q <;> cases e
 |li _ _ _=>cases q <;> cases e
 |dk _ _ _=>cases q <;> cases e
 |dt _ _ _=>cases q <;> cases e
 |wh=>cases q <;> cases e
 |dd _ _ _ _=>cases q <;> cases e
def fzS (U:DSt) (i:Nat) (p:Pth) (N:DSt->Prop):Prop:=match U[i]? with
|some (.ow t)=>∃ u d,getP t p=some u/\toD u=some d/\N (U.set i (slot (setP t p (.fz d))))
|some (.sh _)=>N U
|_=>False
def dFrz (i:Nat) (p:Pth) (d:DS):DS:=λ E U=>fzS U i p λ U'=>d E U'
theorem RS.frz {B:Bs} {F H:Hp} {Y:_2.St} {U:DSt} {fps:Nat->List Addr} {i:Nat} {p:Pth} {N:DSt->Prop} (r:RS K B F H Y U fps) (h:fzS U i p N):∃ F2 U2 fps2,RS K B F2 H Y U2 fps2/\N U2:=by
 unfold fzS at h
 split at h
 ·rename_i t q
  obtain ⟨u,d,eg,ed,hN⟩:=h
  obtain ⟨x,t',a1,a2,a3,a4,a5⟩:=r.rt i _ q rfl
  cases a2
  obtain ⟨v,hv⟩:=zo01 a3 eg
  obtain ⟨fn,t1,h1,h2,h3,h4,back⟩:=r.put q rfl ⟨_,_,x,q,rfl,a1,hv⟩
  cases h1
  obtain ⟨F2,s1,s2,s3,s4⟩:=zm31 r.fh h2 ed h3
  obtain ⟨fps2,r2,_⟩:=back (F2:=F2) (H2:=H) (fq:=[]) (λ _ _ _ z=>z) s1 s2 (λ b _ fb hb=>by rw [s3 b hb];exact fb) (λ _=>⟨id,id⟩) (λ b hb _=>(r.fr i _ q rfl b (h4 b hb)).elim id λ z=>absurd rfl (z.2 t)) (.fz s4) .nil (λ b hb=>by simp at hb)
  have hw:(Sl.ow t).wth (setP t p (.fz d))=.ow (setP t p (.fz d)):=rfl
  rw [hw] at r2
  -- a slot whose whole is frozen becomes a plain one
  cases hs:setP t p (.fz d) with
 |fz d' =>
   rw [hs] at r2 hN
   obtain ⟨x',t'',b1,b2,b3,b4,b5⟩:=r2.rt i _ (vL (by
    rcases vN i U.length with z|z
    ·exact z
    ·rw [vF z] at q;cases q)) rfl
   cases b2
   obtain ⟨d2,hd2,hi⟩:=zju (Q:=λ z=>z=d') b3 rfl
   subst hd2
   ·have r3:=r2.setS (i:=i) hi
    rw [yT] at r3
    have eY:Y.set i (some x')=Y:=by
     apply yU
     intro j
     rw [wA]
     by_cases hij:i=j
     ·subst hij
      have hlt:i < Y.length:=by
       rw [r.len]
       rcases vN i U.length with z|z
       ·exact z
       ·rw [vF z] at q;cases q
      simp [hlt]
      have:=ze4 (F:=F) (H:=H) (U:=U) b1
      rw [uB hlt] at this
      exact (u7.inj this).symm
     ·simp [hij]
    rw [eY] at r3
    exact ⟨F2,_,fps2,r3,hN⟩
 |li _=>rw [hs] at r2 hN;exact ⟨F2,_,fps2,r2,hN⟩
 |ls _=>rw [hs] at r2 hN;exact ⟨F2,_,fps2,r2,hN⟩
 |ob _ _=>rw [hs] at r2 hN;exact ⟨F2,_,fps2,r2,hN⟩
 |dk _=>rw [hs] at r2 hN;exact ⟨F2,_,fps2,r2,hN⟩
 |dt _=>rw [hs] at r2 hN;exact ⟨F2,_,fps2,r2,hN⟩
 |tp _=>rw [hs] at r2 hN;exact ⟨F2,_,fps2,r2,hN⟩
 |wh=>rw [hs] at r2 hN;exact ⟨F2,_,fps2,r2,hN⟩
 |dd _=>rw [hs] at r2 hN;exact ⟨F2,_,fps2,r2,hN⟩
 ·exact ⟨F,U,fps,r,h⟩
 ·exact h.elim
theorem za8 (i:Nat) (p:Pth) (h:RfS K t d):RfS K t (dFrz i p d):=by
 intro B F H Y U fps E Z r hd k
 obtain ⟨F2,U2,fps2,r2,h2⟩:=r.frz hd
 exact h r2 h2 k
end
inductive Arg where
|d (d:D)|b (t:T)|o (t:T)
inductive ArgP where
|d (d:D)|b (i:Nat) (p:Pth) (t:T)|o (i:Nat) (p:Pth) (t:T)
def ArgP.arg:ArgP->Arg
|.d x=>.d x
|.b _ _ x=>.b x
|.o _ _ x=>.o x
inductive ArgsR (K:Fg) (F H:Hp):List V->List Arg->List Addr->Option (Addr×List Addr)->Prop
|nil:ArgsR K F H [] [] [] none
|d {v:V} {d:D} {vs:List V} {as:List Arg} {bf:List Addr} {oo:Option (Addr×List Addr)}:Is K F v d->ArgsR K F H vs as bf oo->ArgsR K F H (v :: vs) (.d d :: as) bf oo
|b {v:V} {t:T} {fp:List Addr} {vs:List V} {as:List Arg} {bf:List Addr} {oo:Option (Addr×List Addr)}:Rt K F H v t fp->fp.Nodup->ArgsR K F H vs as bf oo->ArgsR K F H (v :: vs) (.b t :: as) (fp++bf) oo
|o {a:Addr} {t:T} {fp:List Addr} {vs:List V} {as:List Arg} {bf:List Addr}:Rt K F H (.ref a) t fp->fp.Nodup->ArgsR K F H vs as bf none->ArgsR K F H (.ref a :: vs) (.o t :: as) bf (some (a,fp))
def ofp:Option (Addr×List Addr)->List Addr
|none=>[]
|some x=>x.2
structure Post (K:Fg) (F H:Hp) (oo:Option (Addr×List Addr)) (F' H':Hp) (v:V) (r:T) (fpr:List Addr) (t':T) (fpo:List Addr):Prop where
 hh:∀ b o,b ∉ ofp oo->H b=some o->H' b=some o
 ff:Same F F'
 fh:Same F' H'
 nw:∀ b,HD (H b)->F b=none->F' b=none
 al:∀ b,(H b≠none->H' b≠none)/\(HD (H b)->HD (H' b))
 rt:Rt K F' H' v r fpr
 nd:fpr.Nodup
 fr:∀ a∈fpr,H a=none
 io:∀ a fp,oo=some (a,fp)->Rt K F' H' (.ref a) t' fpo/\fpo.Nodup/\(∀ b∈fpo,b∈fp \/ H b=none)/\∀ b∈fpo,b ∉ fpr
abbrev DSpT:=List Arg->(T->T->Prop)->Prop
def spT (K:Fg) (p:DSpT):Sp:=λ vs H Q _=>∃ F as bf oo Qd,Same F H/\ArgsR K F H vs as bf oo/\(∀ b∈ofp oo,b ∉ bf)/\p as Qd/\∀ r t',Qd r t'->∀ v F' H' fpr fpo,Post K F H oo F' H' v r fpr t' fpo->Q v H'
section
variable {K:Fg} {te ta ti tv:TE} {de da di dk:DE} {dc:DC} {tt:TT} {dt:DT} {t u tb:TS} {d e db:DS} {tA:TA} {dA:DF} {g:TG} {dg:DG} {n:Nat} {dp:DP} {w:World}
inductive ArgsP (K:Fg) (F H:Hp) (Y:_2.St) (U:DSt):List V->List ArgP->Prop
|nil:ArgsP K F H Y U [] []
|d {v:V} {d:D} {vs:List V} {as:List ArgP}:Is K F v d->ArgsP K F H Y U vs as->ArgsP K F H Y U (v :: vs) (.d d :: as)
|b {v:V} {i:Nat} {p:Pth} {t:T} {vs:List V} {as:List ArgP}:AtS H Y U i p v t->ArgsP K F H Y U vs as->ArgsP K F H Y U (v :: vs) (.b i p t :: as)
|o {v:V} {i:Nat} {p:Pth} {t:T} {vs:List V} {as:List ArgP}:AtS H Y U i p v t->ArgsP K F H Y U vs as->ArgsP K F H Y U (v :: vs) (.o i p t :: as)
abbrev DAT:=DSt->(List ArgP->Prop)->Prop
def RfAT (K:Fg) (ta:TA) (da:DAT):Prop:=∀ {F H:Hp} {Y:_2.St} {U:DSt} {Qd:List ArgP->Prop} {Q:List V->Hp->Prop},Same F H->RV K F H Y U->da U Qd->(∀ as,Qd as->∀ vs F' H',Ext F H F' H'->ArgsP K F' H' Y U vs as->Q vs H')->ta Y H Q
variable {dA':DAT}
def aNil:DAT:=λ _ Q=>Q []
def aD (de:DE) (dr:DAT):DAT:=λ U Q=>de U λ x=>dr U λ as=>Q (.d x :: as)
def aB (dp:DP) (dr:DAT):DAT:=λ U Q=>dp U λ i p t=>dr U λ as=>Q (.b i p t :: as)
def aO (dp:DP) (dr:DAT):DAT:=λ U Q=>dp U λ i p t=>dr U λ as=>Q (.o i p t :: as)
theorem zo6:RfAT K tNil aNil:=λ s rv h k=>k _ h _ _ _ (Ext.refl s) .nil
theorem at_d (ha:RfE K ta da) (hr:RfAT K tA dA'):RfAT K (zu7 ta tA) (aD da dA'):=by
 intro F H Y U Qd Q s rv h k
 refine ha s rv h λ x hx v F1 H1 e1 i1=>hr e1.fh (rv.ext e1) hx λ as has vs F2 H2 e2 i2=>?_
 exact k _ has _ F2 H2 (e1.trans e2) (.d (i1.mono e2.f) i2)
theorem at_b (ha:RfP K ta dp) (hr:RfAT K tA dA'):RfAT K (zu7 ta tA) (aB dp dA'):=by
 intro F H Y U Qd Q s rv h k
 refine ha s rv h λ i p t hx v F1 H1 e1 i1=>hr e1.fh (rv.ext e1) hx λ as has vs F2 H2 e2 i2=>?_
 exact k _ has _ F2 H2 (e1.trans e2) (.b (i1.mono e2.h) i2)
theorem at_o (ha:RfP K ta dp) (hr:RfAT K tA dA'):RfAT K (zu7 ta tA) (aO dp dA'):=by
 intro F H Y U Qd Q s rv h k
 refine ha s rv h λ i p t hx v F1 H1 e1 i1=>hr e1.fh (rv.ext e1) hx λ as has vs F2 H2 e2 i2=>?_
 exact k _ has _ F2 H2 (e1.trans e2) (.o (i1.mono e2.h) i2)
def noO:List ArgP->Prop
|[]=>True
|.o _ _ _ :: _=>False
|.d _ :: r=>noO r
|.b _ _ _ :: r=>noO r
def noS (i:Nat):List ArgP->Prop
|[]=>True
|.b j _ _ :: r=>j≠i/\noS i r
|.d _ :: r=>noS i r
|.o _ _ _ :: r=>noS i r
def zwl:List ArgP->Option (Nat×Pth×T)
|[]=>none
|.o i p t :: _=>some (i,p,t)
|.d _ :: r=>zwl r
|.b _ _ _ :: r=>zwl r
def oneO (i:Nat):List ArgP->Prop
|[]=>False
|.o _ _ _ :: r=>noO r/\noS i r
|.d _ :: r=>oneO i r
|.b j _ _ :: r=>j≠i/\oneO i r
def ztp (U:DSt) (i:Nat):Prop:=match U[i]? with
|some (.ow _)=>True
|some (.io _ _)=>True
|_=>False
def zwp:T->Prop
|.fz _=>False
|_=>True
theorem zld {F H:Hp} {Y:_2.St} {U:DSt} {fps:Nat->List Addr} (rt:∀ {i:Nat} {p:Pth} {v:V} {u:T},AtS H Y U i p v u->∃ fn,Rt K F H v u fn/\fn.Nodup/\∀ a∈fn,a∈fps i/\∃ s,U[i]?=some s/\s.has=true):∀ {vs:List V} {as:List ArgP},ArgsP K F H Y U vs as->noO as->∃ bf,ArgsR K F H vs (as.map ArgP.arg) bf none/\∀ i,noS i as->∀ b∈bf,∃ j,j≠i/\b∈fps j/\∃ s,U[j]?=some s/\s.has=true
|_,_,.nil,_=>⟨[],.nil,λ i _ b hb=>by simp at hb⟩
|_,_,.d h r,hn=>by
  obtain ⟨bf,h1,h2⟩:=zld rt r hn
  exact ⟨bf,.d h h1,h2⟩
|_,_,.b (i:=i') h r,hn=>by
  obtain ⟨bf,h1,h2⟩:=zld rt r hn
  obtain ⟨fn,g1,g2,g3⟩:=rt h
  refine ⟨fn++bf,.b g1 g2 h1,λ i hi b hb=>?_⟩
  rcases uG.mp hb with z|z
  ·exact ⟨i',hi.1,(g3 b z).1,(g3 b z).2⟩
  ·exact h2 i hi.2 b z
|_,_,.o h r,hn=>hn.elim
theorem zac {F H:Hp} {Y:_2.St} {U:DSt} {fps:Nat->List Addr} (rt:∀ {i:Nat} {p:Pth} {v:V} {u:T},AtS H Y U i p v u->∃ fn,Rt K F H v u fn/\fn.Nodup/\∀ a∈fn,a∈fps i/\∃ s,U[i]?=some s/\s.has=true) {i:Nat} {p:Pth} {u:T}:∀ {vs:List V} {as:List ArgP},ArgsP K F H Y U vs as->zwl as=some (i,p,u)->oneO i as->zwp u ->
  ∃ a,AtS H Y U i p (.ref a) u/\∀ fn,Rt K F H (.ref a) u fn->fn.Nodup->∃ bf,ArgsR K F H vs (as.map ArgP.arg) bf (some (a,fn))/\∀ b∈bf,∃ j,j≠i/\b∈fps j/\∃ s,U[j]?=some s/\s.has=true
|_,_,.nil,e,_,_=>by cases e
|_,_,.d h r,e,hn,hf=>by
  obtain ⟨a,h1,h2⟩:=zac rt r e hn hf
  refine ⟨a,h1,λ fn g1 g2=>?_⟩
  obtain ⟨bf,k1,k2⟩:=h2 fn g1 g2
  exact ⟨bf,.d h k1,k2⟩
|_,_,.b (i:=i') h r,e,hn,hf=>by
  obtain ⟨a,h1,h2⟩:=zac rt r e hn.2 hf
  obtain ⟨fb,g1,g2,g3⟩:=rt h
  refine ⟨a,h1,λ fn k1 k2=>?_⟩
  obtain ⟨bf,m1,m2⟩:=h2 fn k1 k2
  refine ⟨fb++bf,.b g1 g2 m1,λ b hb=>?_⟩
  rcases uG.mp hb with z|z
  ·exact ⟨i',hn.1,(g3 b z).1,(g3 b z).2⟩
  ·exact m2 b z
|_,_,.o h r,e,hn,hf=>by
  cases e
  obtain ⟨bf,m1,m2⟩:=zld rt r hn.1
  obtain ⟨fn0,g1,_,_⟩:=rt h
  cases g1 with
 |fz _=>exact hf.elim
 |li _ _ _=>exact ⟨_,h,λ fn k1 k2=>⟨bf,.o k1 k2 m1,m2 i hn.2⟩⟩
 |ls _ _ _=>exact ⟨_,h,λ fn k1 k2=>⟨bf,.o k1 k2 m1,m2 i hn.2⟩⟩
 |ob _ _ _ _ _=>exact ⟨_,h,λ fn k1 k2=>⟨bf,.o k1 k2 m1,m2 i hn.2⟩⟩
 |dk _ _ _=>exact ⟨_,h,λ fn k1 k2=>⟨bf,.o k1 k2 m1,m2 i hn.2⟩⟩
 |dt _ _ _=>exact ⟨_,h,λ fn k1 k2=>⟨bf,.o k1 k2 m1,m2 i hn.2⟩⟩
 |tp _ _ _ _=>exact ⟨_,h,λ fn k1 k2=>⟨bf,.o k1 k2 m1,m2 i hn.2⟩⟩
 |wh=>exact ⟨_,h,λ fn k1 k2=>⟨bf,.o k1 k2 m1,m2 i hn.2⟩⟩
 |dd _ _ _ _=>exact ⟨_,h,λ fn k1 k2=>⟨bf,.o k1 k2 m1,m2 i hn.2⟩⟩
theorem RS.rtS {B:Bs} {F H:Hp} {Y:_2.St} {U:DSt} {fps:Nat->List Addr} (r:RS K B F H Y U fps) {i:Nat} {p:Pth} {v:V} {u:T} (h:AtS H Y U i p v u):∃ fn,Rt K F H v u fn/\fn.Nodup/\∀ a∈fn,a∈fps i/\∃ s,U[i]?=some s/\s.has=true:=by
 obtain ⟨s,t,x,h1,h2,h3,h4⟩:=h
 by_cases hs:s.has=true
 ·obtain ⟨x',t',a1,a2,a3,a4,a5⟩:=r.rt i s h1 hs
  rw [h3] at a1;cases a1
  rw [h2] at a2;cases a2
  obtain ⟨fn,g1,g2,g3,_⟩:=ze01 h4 a3 a5
  exact ⟨fn,g1,g3,λ a ha=>⟨g2 a ha,s,h1,hs⟩⟩
 ·cases s with
 |sh d =>
   cases h2
   obtain ⟨y,b1,b2⟩:=r.sh i d h1
   rw [h3] at b1;cases b1
   cases h4
   exact ⟨[],.fz b2,.nil,λ a ha=>by simp at ha⟩
 |un=>cases h2
 |ow _=>exact absurd rfl hs
 |bo _=>exact absurd rfl hs
 |io _ _=>exact absurd rfl hs
theorem zpp {U:DSt} {i:Nat} {p:Pth} {u t0:T} {s:Sl} {N:DSt->Prop} (hi:U[i]?=some s) (ho:s.own=true) (ht:s.tree=some t0) (h:mutS U i p u N):N (U.set i (s.wth (setP t0 p u))):=by
 unfold mutS at h
 rw [hi] at h
 cases s with
|ow t=>cases ht;exact h
|io a t=>cases ht;exact h
|un=>cases ho
|sh _=>cases ho
|bo _=>cases ho
def zyq (p:DSpT) (U:DSt) (as:List ArgP) (Q:T->DSt->Prop):Prop:=match zwl as with
|some (i,q,t)=>ztp U i/\oneO i as/\zwp t/\p (as.map ArgP.arg) λ r t2=>mutS U i q t2 λ U'=>Q r U'
|none=>noO as/\p (as.map ArgP.arg) λ r _=>Q r U
theorem zyk {B:Bs} {F H:Hp} {Y:_2.St} {U:DSt} {fps:Nat->List Addr} {p:DSpT} {vs:List V} {as:List ArgP} {Qd:T->DSt->Prop} {Q:VK} {E:XK} (r:RS K B F H Y U fps) (ha:ArgsP K F H Y U vs as) (hc:zyq p U as Qd)
  (k:∀ r U',Qd r U'->∀ v F' H' fps' fpr,Res K B F' H' Y U' fps' v r fpr->Q v H'):spT K p vs H Q E:=by
 unfold zyq at hc
 split at hc
 ·rename_i i q t0 eo
  obtain ⟨ho,h1,hf,hp⟩:=hc
  obtain ⟨s,hs,hso⟩:∃ s,U[i]?=some s/\s.own=true:=by
   unfold ztp at ho
   split at ho
   ·rename_i q;exact ⟨_,q,rfl⟩
   ·rename_i q;exact ⟨_,q,rfl⟩
   ·exact ho.elim
  obtain ⟨a,hat,hargs⟩:=zac (λ h=>r.rtS h) ha eo h1 hf
  obtain ⟨fn,t1,g1,g2,g3,g4,back⟩:=r.put hs hso hat
  obtain ⟨bf,m1,m2⟩:=hargs fn g2 g3
  refine ⟨F,_,bf,some (a,fn),_,r.fh,m1,λ b hb hbf=>?_,hp,λ r2 t2 q2 v F' H' fpr fpo post=>?_⟩
  ·obtain ⟨j,hj,hbj,sj,e1,hh⟩:=m2 b hbf
   exact r.dj i j s sj (λ z=>hj z.symm) hs e1 hso hh b (g4 b hb) hbj
  ·obtain ⟨io1,io2,io3,io4⟩:=post.io a fn rfl
   obtain ⟨fps2,r2',e2,e3⟩:=back (F2:=F') (H2:=H') (u2:=t2) (fq:=fpo) post.hh post.ff post.fh (λ b hb fb _=>post.nw b hb fb) post.al (λ b hb f=>absurd (post.nw b (g2.hdd b hb) (g2.dom b hb).2) f) io1 io2 (λ b hb=>(io3 b hb).elim .inl λ z=>.inr (r.newOk z))
   have qd:=zpp hs hso g1 q2
   refine k _ _ qd v F' H' fps2 fpr ⟨r2',post.rt,post.nd,λ b hb=>(r.newOk (post.fr b hb)).1,λ j s' ej hs' b hb hbr=>?_⟩
   have fresh:=post.fr b hbr
   by_cases hji:j=i
   ·subst hji
    rcases e3 b hb with z|z
    ·obtain ⟨x',t',a1,a2,a3,a4,a5⟩:=r.rt j s hs (zh5 hso)
     exact (a3.dom b z).1 fresh
    ·exact io4 b z hbr
   ·rw [e2 j hji] at hb
    rw [vO (λ z=>hji z.symm)] at ej
    exact (r.newOk fresh).2 j s' ej hs' hb
 ·rename_i eo
  obtain ⟨hn,hp⟩:=hc
  obtain ⟨bf,m1,_⟩:=zld (λ h=>r.rtS h) ha hn
  refine ⟨F,_,bf,none,_,r.fh,m1,λ b hb=>by simp [ofp] at hb,hp,λ r2 t2 q2 v F' H' fpr fpo post=>?_⟩
  have ex:Ext F H F' H':=⟨λ b o hb=>post.hh b o (by simp [ofp]) hb,post.ff,post.fh,post.nw⟩
  exact k _ _ q2 v F' H' fps fpr ⟨r.grow ex,post.rt,post.nd,λ b hb=>(r.newOk (post.fr b hb)).1,λ j s' ej hs' b hb hbr=>(r.newOk (post.fr b hbr)).2 j s' ej hs' hb⟩
def noM (m:Str) (u:T):Prop:=match u with
|.ob _ fs=>fs.lookup m=none
|_=>False
def zw21 (o:Bool) (C:Addr) (m:Str) (p:DSpT) (dp:DP) (da:DAT):DC:=λ U Q=>dp U λ i q u=>nCls C u/\noM m u/\da U λ as=>zyq p U ((if o then .o i q u else .b i q u) :: as) Q
theorem zce {F H:Hp} {v:V} {u:T} {fn:List Addr} {C:Addr} {m:Str} (hr:Rt K F H v u fn) (hc:nCls C u) (hm:noM m u):∃ a dx fs,v=.ref a/\H a=some (.ins C dx fs)/\fs.lookup m=none:=by
 cases hr with
|ob g1 g2 g3 g4 g5 =>
  cases (show _=C from hc)
  exact ⟨_,_,_,rfl,g1,(g5.keys m).1 hm⟩
|fz _=>exact hc.elim
|li _ _ _=>exact hc.elim
|ls _ _ _=>exact hc.elim
|dk _ _ _=>exact hc.elim
|dt _ _ _=>exact hc.elim
|tp _ _ _ _=>exact hc.elim
|wh=>exact hc.elim
|dd _ _ _ _=>exact hc.elim
theorem zc6 {p:DSpT} {E:XK} {C:Addr} {m:Str} (o:Bool) (hp:RfP K ta dp) (h:RfAT K tA dA'):RfC K (zsp C m (spT K p) [] E ta tA) (zw21 o C m p dp dA'):=by
 intro B F H Y U fps Qd Q r hd k
 refine hp r.fh r.rv hd λ i q u hu v F1 H1 e1 at1=>?_
 have r1:=r.grow e1
 obtain ⟨fn,hr⟩:=at1.rt r1.rv
 obtain ⟨a,dx,fs,rfl,h1,h2⟩:=zce hr hu.1 hu.2.1
 refine ⟨a,dx,fs,rfl,h1,h2,h r1.fh r1.rv hu.2.2 λ as has vs F2 H2 e2 i2=>?_⟩
 rw [wE]
 have at2:=at1.mono e2.h
 cases o with
|true=>exact zyk (r1.grow e2) (.o at2 i2) has k
|false=>exact zyk (r1.grow e2) (.b at2 i2) has k
def zup (p:DSpT) (as:List ArgP) (Q:T->Prop):Prop:=noO as/\p (as.map ArgP.arg) λ r _=>Q r
theorem AtS.rtV {F H:Hp} {Y:_2.St} {U:DSt} (r:RV K F H Y U) {i:Nat} {p:Pth} {v:V} {u:T} (h:AtS H Y U i p v u):∃ fn,Rt K F H v u fn/\fn.Nodup:=by
 obtain ⟨s,t,x,h1,h2,h3,h4⟩:=h
 obtain ⟨y,fp,e,hr,nd⟩:=(r.sl i s h1).rt h2
 rw [h3] at e;cases e
 obtain ⟨fn,g1,_,g3,_⟩:=ze01 h4 hr nd
 exact ⟨fn,g1,g3⟩
theorem zyd {F H:Hp} {Y:_2.St} {U:DSt} (r:RV K F H Y U):∀ {vs:List V} {as:List ArgP},ArgsP K F H Y U vs as->noO as->∃ bf,ArgsR K F H vs (as.map ArgP.arg) bf none
|_,_,.nil,_=>⟨[],.nil⟩
|_,_,.d h q,hn=>by
  obtain ⟨bf,h1⟩:=zyd r q hn
  exact ⟨bf,.d h h1⟩
|_,_,.b h q,hn=>by
  obtain ⟨bf,h1⟩:=zyd r q hn
  obtain ⟨fn,g1,g2⟩:=h.rtV r
  exact ⟨fn++bf,.b g1 g2 h1⟩
|_,_,.o h r,hn=>hn.elim
theorem zof {F H:Hp} {Y:_2.St} {U:DSt} {p:DSpT} {vs:List V} {as:List ArgP} {Qd:T->Prop} {Q:VK} {E:XK} (s:Same F H) (r:RV K F H Y U) (ha:ArgsP K F H Y U vs as) (hc:zup p as Qd)
  (k:∀ r,Qd r->∀ v F' H' fp,Ext F H F' H'->Rt K F' H' v r fp->fp.Nodup->(∀ a∈fp,H a=none)->Q v H'):spT K p vs H Q E:=by
 obtain ⟨bf,m1⟩:=zyd r ha hc.1
 refine ⟨F,_,bf,none,_,s,m1,λ b hb=>by simp [ofp] at hb,hc.2,λ r2 t2 q2 v F' H' fpr fpo post=>?_⟩
 exact k _ q2 v F' H' fpr ⟨λ b o hb=>post.hh b o (by simp [ofp]) hb,post.ff,post.fh,post.nw⟩ post.rt post.nd post.fr
def zi31 (p:DSpT) (da:DAT):DN:=λ U Q=>da U λ as=>zup p as Q
def zo31 (C:Addr) (m:Str) (p:DSpT) (dp:DP) (da:DAT):DN:=λ U Q=>dp U λ i q u=>nCls C u/\noM m u/\da U λ as=>zup p (.b i q u :: as) Q
theorem zeq {p:DSpT} {E:XK} (h:RfAT K tA dA'):RfN K (zpq (spT K p) [] E tA) (zi31 p dA'):=by
 intro F H Y U Qd Q s rv hd k
 refine h s rv hd λ as has vs F1 H1 e1 i1=>?_
 rw [wE]
 exact zof e1.fh (rv.ext e1) i1 has λ r q v F' H' fp e2 h1 h2 h3=>k r q v F' H' fp (e1.trans e2) h1 h2 λ a ha=>zj1 e1 (h3 a ha)
theorem zbq {p:DSpT} {E:XK} {C:Addr} {m:Str} (hp:RfP K ta dp) (h:RfAT K tA dA'):RfN K (zsp C m (spT K p) [] E ta tA) (zo31 C m p dp dA'):=by
 intro F H Y U Qd Q s rv hd k
 refine hp s rv hd λ i q u hu v F1 H1 e1 at1=>?_
 have rv1:=rv.ext e1
 obtain ⟨fn,hr⟩:=at1.rt rv1
 obtain ⟨a,dx,fs,rfl,h1,h2⟩:=zce hr hu.1 hu.2.1
 refine ⟨a,dx,fs,rfl,h1,h2,h e1.fh rv1 hu.2.2 λ as has vs F2 H2 e2 i2=>?_⟩
 rw [wE]
 have e12:=e1.trans e2
 exact zof e2.fh (rv.ext e12) (.b (at1.mono e2.h) i2) has λ r q v F' H' fp e3 h1 h2 h3=>k r q v F' H' fp (e12.trans e3) h1 h2 λ a ha=>zj1 e12 (h3 a ha)
def eN (dn:DN):DE:=λ U Q=>dn U λ r=>fzT r Q
theorem RfN.ex {dn:DN} (h:RfN K te dn):RfE K te (eN dn):=λ s rv hd k=>h s rv hd λ r q v F' H' fp e1 h1 h2 h3=>by
 obtain ⟨d,qd,i⟩:=zju h1 q
 exact k d qd v F' H' e1 i
def zt31 (C:Addr) (p:DSpT) (da:DAT):DN:=λ U Q=>da U λ as=>noO as/\p (.o (.ob C []) :: as.map ArgP.arg) λ r t2=>(match r with|.fz .none=>True|_=>False)/\Q t2
theorem zat {p:DSpT} {E:XK} {C:Addr} (h:RfAT K tA dA'):RfN K (zb21 C (spT K p) [] E tA) (zt31 C p dA'):=by
 intro F H Y U Qd Q s rv hd k
 refine h s rv hd λ as has vs F1 H1 e1 i1=>?_
 intro x dx hx hdx hne
 obtain ⟨bf,m1⟩:=zyd (rv.ext e1) i1 has.1
 have hH:∀ b,b≠x->b≠dx->upd (upd H1 dx (.own x)) x (.ins C dx []) b=H1 b:=λ b h1 h2=>by rw [zm0 h1,zm0 h2]
 have s2:Same H1 (upd (upd H1 dx (.own x)) x (.ins C dx [])):=λ b o z=>by
  rw [hH b (λ q=>by subst q;rw [hx] at z;cases z) (λ q=>by subst q;rw [hdx] at z;cases z)];exact z
 have fx:F1 x=none:=by
  cases q:F1 x with
 |none=>rfl
 |some o=>rw [e1.fh x o q] at hx;cases hx
 have fdx:F1 dx=none:=by
  cases q:F1 dx with
 |none=>rfl
 |some o=>rw [e1.fh dx o q] at hdx;cases hdx
 have m2:ArgsR K F1 (upd (upd H1 dx (.own x)) x (.ins C dx [])) vs (as.map ArgP.arg) bf none/\∀ b∈bf,H1 b≠none:=by
  have key:∀ {vs:List V} {as:List Arg} {bf:List Addr} {oo:Option (Addr×List Addr)},ArgsR K F1 H1 vs as bf oo->oo=none->ArgsR K F1 (upd (upd H1 dx (.own x)) x (.ins C dx [])) vs as bf none/\∀ b∈bf,H1 b≠none:=λ {vs as bf oo} hh=>by
   induction hh with
  |nil=>intro _;exact ⟨.nil,λ b hb=>by simp at hb⟩
  |d h1 _ ih=>intro e;exact ⟨.d h1 (ih e).1,(ih e).2⟩
  |b h1 h2 _ ih =>
    intro e
    refine ⟨.b (h1.frame (λ _ _ z=>z) λ b hb=>⟨?_,(h1.dom b hb).2⟩) h2 (ih e).1,λ b hb=>?_⟩
    ·exact hH b (λ q=>by subst q;exact (h1.dom b hb).1 hx) (λ q=>by subst q;exact (h1.dom b hb).1 hdx)
    ·rcases uG.mp hb with z|z
     ·exact (h1.dom b z).1
     ·exact (ih e).2 b z
  |o _ _ _ _=>intro e;cases e
  exact key m1 rfl
 refine ⟨F1,_,bf,some (x,[x,dx]),_,e1.fh.trans s2,.o (.ob zi0 (by rw [zm0 hne,zi0]) fx fdx .nil) (by simp [Ne.symm hne]) (by rw [wE];exact m2.1),λ b hb hbf=>?_,has.2,λ r t2 q2 v F' H' fpr fpo post=>?_⟩
 ·have:=m2.2 b hbf
  simp [ofp] at hb
  rcases hb with z|z
  ·exact this (by rw [z];exact hx)
  ·exact this (by rw [z];exact hdx)
 ·obtain ⟨q0,q1⟩:=q2
  obtain ⟨io1,io2,io3,io4⟩:=post.io x [x,dx] rfl
  refine ⟨?_,k _ q1 (.ref x) F' H' fpo (e1.trans ⟨λ b o z=>?_,post.ff,post.fh,λ b hb fb=>post.nw b (hb.mono s2) fb⟩) io1 io2 λ b hb=>zj1 e1 ?_⟩
  ·split at q0
   ·cases post.rt with
   |fz i=>exact i.non_inv
   ·exact q0.elim
  ·refine post.hh b o (λ w=>?_) (s2 b o z)
   simp [ofp] at w
   rcases w with w|w
   ·rw [w,hx] at z;cases z
   ·rw [w,hdx] at z;cases z
  ·rcases io3 b hb with z|z
   ·simp at z
    rcases z with z|z
    ·rw [z];exact hx
    ·rw [z];exact hdx
   ·cases q:H1 b with
   |none=>rfl
   |some o=>rw [s2 b o q] at z;cases z
end
section
variable {P:Program} {w:World} {K:Fg} {mg:Str->Option Value} {base:Heap}
def zx11 (a:Addr):Arg->Sl
|.d x=>.sh x
|.b x=>.bo x
|.o x=>.io a x
def zye (N:List Str) (a:Addr) (as:List Arg):DSt:=as.map (zx11 a)++uP (N.length - as.length) .un
def oIx:List Arg->Option Nat
|[]=>none
|.o _ :: _=>some 0
|.d _ :: r=>(oIx r).map (·+1)
|.b _ :: r=>(oIx r).map (·+1)
def exA (as:List Arg) (a:Addr) (Qd:T->T->Prop) (r:T) (U:DSt):Prop:=match oIx as with
|none=>Qd r (.fz .none)
|some k=>∃ t',U[k]?=some (.io a t')/\Qd r t'
def zs31 (as:List Arg) (a:Addr) (Qd:T->T->Prop):DEnds:={ nx:=exA as a Qd (.fz .none),rt:=exA as a Qd }
theorem zlb {F H:Hp}:∀ {vs:List V} {as:List Arg} {bf:List Addr} {oo:Option (Addr×List Addr)},ArgsR K F H vs as bf oo->vs.length=as.length/\∃ fl:Nat->List Addr,
  (∀ (k:Nat) x,as[k]?=some (.d x)->∃ v,vs[k]?=some v/\Is K F v x) /\
  (∀ (k:Nat) x,as[k]?=some (.b x)->∃ v,vs[k]?=some v/\Rt K F H v x (fl k)/\(fl k).Nodup/\∀ b∈fl k,b∈bf) /\
  (∀ (k:Nat) x,as[k]?=some (.o x)->∃ a,vs[k]?=some (.ref a)/\oo=some (a,fl k)/\Rt K F H (.ref a) x (fl k)/\(fl k).Nodup/\oIx as=some k)/\(oo=none->oIx as=none)/\(∀ a fp,oo=some (a,fp)->∃ k x,as[k]?=some (.o x)/\fl k=fp/\oIx as=some k)
|_,_,_,_,.nil=>⟨rfl,λ _=>[],λ k x e=>by simp at e,λ k x e=>by simp at e,λ k x e=>by simp at e,λ _=>rfl,λ a fp e=>by cases e⟩
|_,_,_,_,.d h r=>by
  obtain ⟨hl,fl,h1,h2,h3,h4,h5⟩:=zlb r
  refine ⟨by simp [hl],λ k=>fl (k - 1),λ k x e=>?_,λ k x e=>?_,λ k x e=>?_,λ e=>?_,λ a fp e=>?_⟩
  ·cases k with
  |zero=>simp at e;subst e;exact ⟨_,rfl,h⟩
  |succ k=>obtain ⟨v,g1,g2⟩:=h1 k x (by simpa using e);exact ⟨v,by simpa using g1,g2⟩
  ·cases k with
  |zero=>simp at e
  |succ k=>obtain ⟨v,g1,g2⟩:=h2 k x (by simpa using e);exact ⟨v,by simpa using g1,g2⟩
  ·cases k with
  |zero=>simp at e
  |succ k=>obtain ⟨v,g1,g2,g3,g4,g5⟩:=h3 k x (by simpa using e);exact ⟨v,by simpa using g1,g2,g3,g4,by simp [oIx,g5]⟩
  ·simp [oIx,h4 e]
  ·obtain ⟨k,x,g1,g2,g3⟩:=h5 a fp e
   exact ⟨k+1,x,by simpa using g1,g2,by simp [oIx,g3]⟩
|_,_,_,_,.b (fp:=fp) (bf:=bf) h nd r=>by
  obtain ⟨hl,fl,h1,h2,h3,h4,h5⟩:=zlb r
  refine ⟨by simp [hl],λ k=>if k=0 then fp else fl (k - 1),λ k x e=>?_,λ k x e=>?_,λ k x e=>?_,λ e=>?_,λ a fp' e=>?_⟩
  ·cases k with
  |zero=>simp at e
  |succ k=>obtain ⟨v,g1,g2⟩:=h1 k x (by simpa using e);exact ⟨v,by simpa using g1,g2⟩
  ·cases k with
  |zero=>simp at e;subst e;exact ⟨_,rfl,h,nd,λ b hb=>by simp at hb ⊢;exact .inl hb⟩
  |succ k=>obtain ⟨v,g1,g2,g3,g4⟩:=h2 k x (by simpa using e);exact ⟨v,by simpa using g1,g2,g3,λ b hb=>by have:=g4 b (by simpa using hb);simp [this]⟩
  ·cases k with
  |zero=>simp at e
  |succ k=>obtain ⟨v,g1,g2,g3,g4,g5⟩:=h3 k x (by simpa using e);exact ⟨v,by simpa using g1,g2,g3,g4,by simp [oIx,g5]⟩
  ·simp [oIx,h4 e]
  ·obtain ⟨k,x,g1,g2,g3⟩:=h5 a fp' e
   exact ⟨k+1,x,by simpa using g1,by simpa using g2,by simp [oIx,g3]⟩
|_,_,_,_,.o (a:=a) (fp:=fp) h nd r=>by
  obtain ⟨hl,fl,h1,h2,h3,h4,h5⟩:=zlb r
  refine ⟨by simp [hl],λ k=>if k=0 then fp else fl (k - 1),λ k x e=>?_,λ k x e=>?_,λ k x e=>?_,λ e=>(by cases e),λ a' fp' e=>?_⟩
  ·cases k with
  |zero=>simp at e
  |succ k=>obtain ⟨v,g1,g2⟩:=h1 k x (by simpa using e);exact ⟨v,by simpa using g1,g2⟩
  ·cases k with
  |zero=>simp at e
  |succ k=>obtain ⟨v,g1,g2,g3,g4⟩:=h2 k x (by simpa using e);exact ⟨v,by simpa using g1,g2,g3,λ b hb=>g4 b (by simpa using hb)⟩
  ·cases k with
  |zero=>simp at e;subst e;exact ⟨a,rfl,rfl,h,nd,rfl⟩
  |succ k =>
    obtain ⟨v,g1,g2,g3,g4,g5⟩:=h3 k x (by simpa using e)
    cases g2
  ·cases e
   exact ⟨0,_,rfl,rfl,rfl⟩
theorem zx7 {qual:Str} {st:Stmt} {N:List Str} {k:Nat} {p:DSpT}
  (body:∀ (f:Addr) (cdv:Value) (A:Around) (outer:List Env) (s:Shared) (H:Hp) (E:XK),Room k (A.deeper (envOfC qual (zf0 st) s.heap.objs.size f cdv))->∃ t d,PSs (cxOf CX0 P w K mg base N qual (zf0 st) f cdv A outer s H E).nox (zw1 st) t/\RfS K t d/\∀ as Qd a,p as Qd->d (zs31 as a Qd) (zye N a as)) :
  zu4 P w K mg base qual st N k (spT K p):=by
 intro f cdv A outer s H vs Q E hr h
 obtain ⟨F,as,bf,oo,Qd,sf,ha,hd,hp,hq⟩:=h
 obtain ⟨t,d,h1,h2,h3⟩:=body f cdv A outer s H E hr
 obtain ⟨hl,fl,a1,a2,a3,a4,a5⟩:=zlb ha
 obtain ⟨a,haa⟩:∃ a:Addr,∀ a' fp,oo=some (a',fp)->a'=a:=by
  cases oo with
 |none=>exact ⟨0,λ a' fp e=>by cases e⟩
 |some x=>exact ⟨x.1,λ a' fp e=>by cases e;rfl⟩
 have slot:∀ (i:Nat) sl,(zye N a as)[i]?=some sl->(sl=.un/\as.length<=i) \/ ∃ g,as[i]?=some g/\sl=zx11 a g:=λ i sl e=>by
  unfold zye at e
  by_cases hi:i < as.length
  ·rw [u5 (by simpa using hi),uI] at e
   obtain ⟨g,h1,h2⟩:=u6.mp e
   exact .inr ⟨g,h1,h2.symm⟩
  ·rw [u9 (by simpa using hi),vT] at e
   split at e
   ·cases e;exact .inl ⟨rfl,by lia⟩
   ·cases e
 have val:∀ (i:Nat) v,vs[i]?=some v->(_2.start N vs).getD i none=some v:=λ i v e=>by
  have hi:i < vs.length:=by
   rcases vN i vs.length with z|z
   ·exact z
   ·rw [vF z] at e;cases e
  unfold _2.start
  rw [uQ,u5 (by simpa using hi),uI,e]
  rfl
 have rs:RS K ⟨F,H,ofp oo⟩ F H (_2.start N vs) (zye N a as) fl:=by
  refine ⟨λ b o _ z=>z,λ _ _ z=>z,sf,λ b _ z=>z,λ b=>⟨id,id⟩,by simp [_2.start,zye,hl],λ i x e=>?_,λ i sl e hs=>?_,λ i sl e ho b hb=>?_,λ i j sl sl' hij e1 e2 o1 o2 b hb hb2=>?_⟩
  ·rcases slot i _ e with ⟨z,_⟩|⟨g,e1,e2⟩
   ·cases z
   ·cases g with
   |d x'=>cases e2;obtain ⟨v,g1,g2⟩:=a1 i x e1;exact ⟨v,val i v g1,g2⟩
   |b _=>cases e2
   |o _=>cases e2
  ·rcases slot i _ e with ⟨z,_⟩|⟨g,e1,e2⟩
   ·rw [z] at hs;cases hs
   ·cases g with
   |d x'=>rw [e2] at hs;cases hs
   |b x' =>
     obtain ⟨v,g1,g2,g3,g4⟩:=a2 i x' e1
     rw [e2]
     exact ⟨v,x',val i v g1,rfl,g2,λ a u z=>(by cases z),g3⟩
   |o x' =>
     obtain ⟨a',g1,g2,g3,g4,g5⟩:=a3 i x' e1
     have:=haa a' _ g2
     subst this
     rw [e2]
     exact ⟨_,x',val i _ g1,rfl,g3,λ a u z=>(by cases z;rfl),g4⟩
  ·rcases slot i _ e with ⟨z,_⟩|⟨g,e1,e2⟩
   ·rw [z] at ho;cases ho
   ·cases g with
   |d x'=>rw [e2] at ho;cases ho
   |b x'=>rw [e2] at ho;cases ho
   |o x' =>
     obtain ⟨a',g1,g2,g3,g4,g5⟩:=a3 i x' e1
     refine .inr ⟨?_,λ t z=>?_⟩
     ·show b∈ofp oo
      rw [g2];exact hb
     ·rw [e2] at z;cases z
  ·rcases slot i _ e1 with ⟨z,_⟩|⟨g,f1,f2⟩
   ·rw [z] at o1;cases o1
   ·cases g with
   |d x'=>rw [f2] at o1;cases o1
   |b x'=>rw [f2] at o1;cases o1
   |o x' =>
     obtain ⟨a',g1,g2,g3,g4,g5⟩:=a3 i x' f1
     rcases slot j _ e2 with ⟨z,_⟩|⟨g',f1',f2'⟩
     ·rw [z] at o2;cases o2
     ·cases g' with
     |d x''=>rw [f2'] at o2;cases o2
     |b x'' =>
       obtain ⟨v,k1,k2,k3,k4⟩:=a2 j x'' f1'
       exact hd b (by rw [g2];exact hb) (k4 b hb2)
     |o x'' =>
       obtain ⟨a'',k1,k2,k3,k4,k5⟩:=a3 j x'' f1'
       rw [g5] at k5
       exact hij (u7.inj k5)
 have fin:∀ {F' H':Hp} {Y':_2.St} {U':DSt} {fps':Nat->List Addr} {v:V} {r:T} {fpr:List Addr},Res K ⟨F,H,ofp oo⟩ F' H' Y' U' fps' v r fpr->exA as a Qd r U'->Q v H':=λ {F' H' Y' U' fps' v r fpr} res ex=>by
  unfold exA at ex
  split at ex
  ·rename_i eo
   refine hq r (.fz .none) ex v F' H' fpr [] ⟨res.rs.hh,res.rs.ff,res.rs.fh,res.rs.nw,res.rs.al,res.rt,res.nd,res.fr,λ a' fp e=>?_⟩
   obtain ⟨k,x,g1,g2,g3⟩:=a5 a' fp e
   rw [eo] at g3;cases g3
  ·rename_i ko eo
   obtain ⟨t',et,qd⟩:=ex
   obtain ⟨x',t'',b1,b2,b3,b4,b5⟩:=res.rs.rt ko _ et rfl
   cases b2
   have:=b4 a t' rfl
   subst this
   refine hq r t' qd v F' H' fpr (fps' ko) ⟨res.rs.hh,res.rs.ff,res.rs.fh,res.rs.nw,res.rs.al,res.rt,res.nd,res.fr,λ a' fp e=>?_⟩
   have ea:=haa a' fp e
   subst ea
   refine ⟨b3,b5,λ b hb=>?_,λ b hb=>res.dj ko _ et rfl b hb⟩
   rcases res.rs.fr ko _ et rfl b hb with z|⟨z,_⟩
   ·exact .inr z
   ·have:b∈ofp oo:=z
    rw [e] at this
    exact .inl this
 refine ⟨t,h1,h2 rs (h3 as Qd a hp) ⟨λ r q=>fin ⟨r,.fz .non,.nil,λ a ha=>by simp at ha,λ _ _ _ _ a _ ha=>by simp at ha⟩ q,λ _ z=>z.elim,λ _ z=>z.elim,λ res q=>fin res q⟩⟩
theorem zxn {F H:Hp} {vs:List V} {as:List Arg} {bf:List Addr} {oo:Option (Addr×List Addr)} (h:ArgsR K F H vs as bf oo):vs.length=as.length:=(zlb h).1
theorem zci {p:DSpT} {ps:List Str} (h:∀ as Qd,p as Qd->as.length=ps.length):∀ vs H Q E,spT K p vs H Q E->vs.length=ps.length:=λ vs H Q E z=>by
 obtain ⟨F,as,bf,oo,Qd,_,ha,_,hp,_⟩:=z
 rw [zxn ha];exact h as Qd hp
def zda (N:List Str) (ds:List D):DSt:=ds.map Sl.sh++uP (N.length - ds.length) .un
def rD (Qd:D->Prop) (r:T) (_:DSt):Prop:=match r with
|.fz d=>Qd d
|.li ds=>Qd (.list ds)
|.ls ts=>∃ d,toD (.ls ts)=some d/\Qd d
|_=>False
theorem zwt {Qd:D->Prop} {r:T} {U:DSt} (h:rD Qd r U):∃ d,toD r=some d/\Qd d:=by
 cases r with
|fz d=>exact ⟨d,rfl,h⟩
|li ds=>exact ⟨_,rfl,h⟩
|ls ts=>exact h
|ob _ _=>exact h.elim
|dk _=>exact h.elim
|dt _=>exact h.elim
|tp _=>exact h.elim
|wh=>exact h.elim
|dd _=>exact h.elim
theorem zah {F H:Hp} {N:List Str} {vs:List V} {ds:List D} (s:Same F H) (h:IsAll K F vs ds):RS K ⟨F,H,[]⟩ F H (_2.start N vs) (zda N ds) (λ _=>[]):=by
 have el:=h.dlen
 have no:∀ (i:Nat) sl,(zda N ds)[i]?=some sl->sl.has=true->False:=λ i sl e hs=>by
  unfold zda at e
  by_cases hi:i < ds.length
  ·rw [u5 (by simpa using hi),uI] at e
   obtain ⟨x,_,z⟩:=u6.mp e
   subst z;cases hs
  ·rw [u9 (by simpa using hi),vT] at e
   split at e
   ·cases e;cases hs
   ·cases e
 refine ⟨λ b o _ z=>z,λ _ _ z=>z,s,λ b _ z=>z,λ b=>⟨id,id⟩,by simp [_2.start,zda,el],λ i x e=>?_,λ i sl e hs=>(no i sl e hs).elim,λ i sl e ho=>(no i sl e (zh5 ho)).elim,λ i j sl sl' _ e _ o _=>(no i sl e (zh5 o)).elim⟩
 unfold zda at e
 unfold _2.start
 by_cases hi:i < ds.length
 ·rw [u5 (by simpa using hi),uI] at e
  obtain ⟨y,hx,z⟩:=u6.mp e
  cases z
  obtain ⟨v,hv,iv⟩:=h.dget hx
  refine ⟨v,?_,iv⟩
  rw [uQ,u5 (by simp;lia),uI,hv]
  rfl
 ·rw [u9 (by simpa using hi),vT] at e
  split at e <;> cases e
theorem zv21 {F0 H0 F H:Hp} {Y:_2.St} {U:DSt} {fps:Nat->List Addr} {v:V} {r:T} {fpr:List Addr} {d:D} (res:Res K ⟨F0,H0,[]⟩ F H Y U fps v r fpr) (e:toD r=some d):∃ F',Ext F0 H0 F' H/\Is K F' v d:=by
 obtain ⟨F2,s1,s2,s3,s4⟩:=zm31 res.rs.fh res.rt e res.nd
 refine ⟨F2,⟨λ b o z=>res.rs.hh b o (by simp) z,res.rs.ff.trans s1,s2,λ b hb fb=>?_⟩,s4⟩
 have:b ∉ fpr:=λ z=>hb.1 (res.fr b z)
 rw [s3 b this]
 exact res.rs.nw b hb fb
theorem zp5 {qual:Str} {st:Stmt} {N:List Str} {k:Nat} {p:DSp}
  (body:∀ (f:Addr) (cdv:Value) (A:Around) (outer:List Env) (s:Shared) (H:Hp) (E:XK),Room k (A.deeper (envOfC qual (zf0 st) s.heap.objs.size f cdv))->∃ t d,PSs (cxOf CX0 P w K mg base N qual (zf0 st) f cdv A outer s H E).nox (zw1 st) t/\RfS K t d/\∀ ds Qd,p ds Qd->d { nx:=λ _=>Qd .none,rt:=rD Qd } (zda N ds)) :
  zu4 P w K mg base qual st N k (spD K p):=by
 intro f cdv A outer s H vs Q E hr h
 obtain ⟨F,ds,Qd,sf,i,hp,hq⟩:=h
 obtain ⟨t,d,h1,h2,h3⟩:=body f cdv A outer s H E hr
 refine ⟨t,h1,h2 (zah sf i) (h3 ds Qd hp) ⟨λ r q=>hq _ q _ _ _ ⟨λ b o z=>r.hh b o (by simp) z,r.ff,r.fh,r.nw⟩ .non,λ _ z=>z.elim,λ _ z=>z.elim,λ res q=>?_⟩⟩
 obtain ⟨d',e1,e2⟩:=zwt (U:=[]) q
 obtain ⟨F',ex,is⟩:=zv21 res e1
 exact hq _ e2 _ _ _ ex is
theorem zct {F:Hp} {vs:List V} {ds:List D} (h:IsAll K F vs ds):vs.length=ds.length:=h.dlen
theorem zef {p:DSp} {ps:List Str} (h:∀ ds Qd,p ds Qd->ds.length=ps.length):∀ vs H Q E,spD K p vs H Q E->vs.length=ps.length:=λ vs H Q E z=>by
 obtain ⟨F,ds,Qd,_,i,hp,_⟩:=z
 rw [zct i];exact h ds Qd hp
theorem zyl {F:Hp}:∀ ns:List Int,IsAll K F (ns.map V.int) (ns.map uC)
|[]=>.nil
|n :: r=>.cons (.int n) (zyl r)
theorem zp61 {st:Stmt} {N:List Str} {k:Nat} {fa:Addr} (M:Md K mg) (T:TopDef K "law" st) (hfa:mg "law"=some (.ref fa)) (S:FnScope N ["script"] (zf0 st)) (hb:zk7 "law" "law" st ["script"])
  (body:∀ base:Heap,K.In base->base.Ns mainGlobals mg->∀ (f:Addr) (cdv:Value) (A:Around) (outer:List Env) (s:Shared) (H:Hp) (E:XK),Room k (A.deeper (envOfC "law" (zf0 st) s.heap.objs.size f cdv)) ->
   ∃ t d,PSs (cxOf CX0 P w K mg base N "law" (zf0 st) f cdv A outer s H E).nox (zw1 st) t/\RfS K t d/\∀ (ns:List Int) (Qd:D->Prop),ns.length<=63->Qd (.bool true)->d { nx:=λ _=>Qd .none,rt:=rD Qd } (zda N [.list (ns.map .int)])) :
  ∃ fd:FuncData,(∀ (s:Shared) (v:Value),BindsTo s fd ⟨[v],[]⟩ [("script",v)])/\∀ base:Heap,K.In base->base.Ns mainGlobals mg->FnOk P w K mg base CX0 (k+1) fa fd ["script"] (zsw K):=by
 refine zb11 M T hfa S hb (λ vs H Q E h=>by obtain ⟨a,ns,rfl,_⟩:=h;rfl) λ base kb nb=>?_
 intro f cdv A outer s H vs Q E hr h
 obtain ⟨a,ns,rfl,hS,hl,hq⟩:=h
 obtain ⟨t,d,h1,h2,h3⟩:=body base kb nb f cdv A outer s H E hr
 refine ⟨t,h1,h2 (zah (F:=H) (λ _ _ z=>z) (.cons (.lst hS (zyl ns)) .nil)) (h3 ns (λ d=>d=.bool true) hl rfl) ⟨λ r q=>(by cases q),λ _ z=>z.elim,λ _ z=>z.elim,λ res q=>?_⟩⟩
 obtain ⟨d',e1,e2⟩:=zwt (U:=[]) q
 obtain ⟨F',ex,is⟩:=zv21 res e1
 subst e2
 cases is
 exact hq _
end
end _4
namespace _3
open PySem PySem.Spec PyProof.Rows _2
section
variable {X:Cx} {tg:Expr}
end
end _3
namespace _4
open PySem PySem.Spec PyProof.Rows _2 _3
section
variable {K:Fg} {tA:TA} {dA:DF}
def za41 (lo st:Int) (n:Nat):List D:=(uL n).map λ i=>.int (lo+(i:Nat) * st)
def zy61 (dA:DF):DF:=λ U Q=>dA U λ ds=>match ds with
|[.int i,.int j,.int c]=>c≠0/\(-(2 ^ 40)<=i/\i < 2 ^ 40/\-(2 ^ 40)<=j/\j < 2 ^ 40/\-(2 ^ 20)<=c/\c < 2 ^ 20)/\∃ n:Nat,Builtin.Range.rangeSize i j c=(n:Int)/\n < 2 ^ 41/\Q (za41 i c n)
|_=>False
def fAbs:List D->(D->Prop)->Prop
|[.int i],Q=>Q (.int (if i < 0 then -i else i))
|_,_=>False
theorem zr61:CB K (λ xs H Q=>∃ i,xs=[V.int i]/\Q (V.int (if i < 0 then -i else i)) H) fAbs:=by
 intro F H vs ds Qd Q s hv h k
 unfold fAbs at h
 split at h
 ·obtain ⟨v,rfl,h1⟩:=vw1 hv
  cases h1.int
  exact ⟨_,rfl,k _ h _ F H (Ext.refl s) (.int _)⟩
 ·exact h.elim
end
theorem e_dF (df:DF) (U:DSt) (Q:D->Prop):dF df U Q=( df U λ ds=>Q (.list ds)):=rfl
theorem e_dC (d:D) (x_0:DSt) (Q:D->Prop):dC d x_0 Q=( Q d):=rfl
theorem zx51 (f:D->D->(D->Prop)->Prop) (da db:DE) (U:DSt) (Q:D->Prop):dOp f da db U Q=( da U λ x=>db U λ y=>f x y Q):=rfl
theorem zu11 (df:DF) (db:DE) (U:DSt) (Q:List D->Prop):dRep df db U Q=( df U λ ds=>db U λ y=>fRep ds y Q):=rfl
theorem zd71 (f:D->(D->Prop)->Prop) (da:DE) (U:DSt) (Q:D->Prop):dUn f da U Q=( da U λ x=>f x Q):=rfl
theorem zwu (da:DE) (U:DSt) (Q:D->Prop):zz21 da U Q=( da U λ x=>fB x λ b=>Q (.bool (!b))):=rfl
theorem zts (da db:DE) (U:DSt) (Q:D->Prop):zk41 da db U Q=( da U λ x=>fB x λ b=>if b=true then db U Q else Q (.bool false)):=rfl
theorem zqs (de:DE) (U:DSt) (Q:Bool->Prop):zz41 de U Q=( de U λ d=>fB d Q):=rfl
theorem zlx (de:DE) (U:DSt) (Q:Bool->Prop):dTru de U Q=( de U λ d=>fTru d Q):=rfl
theorem za21 (dt du:DT) (U:DSt) (Q:Bool->Prop):dAnd dt du U Q=( dt U λ b=>if b=true then du U Q else Q false):=rfl
theorem zz51 (dt du:DT) (U:DSt) (Q:Bool->Prop):dOr dt du U Q=( dt U λ b=>if b=true then Q true else du U Q):=rfl
theorem zv11 (dt:DT) (U:DSt) (Q:Bool->Prop):dNot dt U Q=( dt U λ b=>Q (!b)):=rfl
theorem zh21 (dt:DT) (da db:DE) (U:DSt) (Q:D->Prop):dIfE dt da db U Q=( dt U λ b=>if b=true then da U Q else db U Q):=rfl
theorem zx01 (x_0:DSt) (Q:List D->Prop):dNil x_0 Q=( Q []):=rfl
theorem zcr (da:DE) (dr:DF) (U:DSt) (Q:List D->Prop):zox da dr U Q=( da U λ x=>dr U λ xs=>Q (x :: xs)):=rfl
theorem zqx (dA:DF) (U:DSt) (Q:D->Prop):dTup dA U Q=( dA U λ xs=>xs.length<=sizeLine/\Q (.tuple xs)):=rfl
theorem zv01 (dA:DF) (U:DSt) (Q:List D->Prop):dLst dA U Q=( dA U λ xs=>xs.length<=sizeLine/\Q xs):=rfl
theorem ziq (p:DSp) (dA:DF) (U:DSt) (Q:D->Prop):za31 p dA U Q=( dA U λ ds=>p ds Q):=rfl
theorem zw51 (f:List D->(D->Prop)->Prop) (dA:DF) (U:DSt) (Q:D->Prop):dCB f dA U Q=( dA U λ ds=>f ds Q):=rfl
theorem zn71 (f:List D->(List D->Prop)->Prop) (dA:DF) (U:DSt) (Q:List D->Prop):dCF f dA U Q=( dA U λ ds=>f ds Q):=rfl
theorem zv61 (T:String) (da:DE) (U:DSt) (Q:D->Prop):dIs T da U Q=( da U λ d=>(∀ kvs,d≠.dict kvs)/\Q (.bool (isT T d))):=rfl
theorem zfj (x_0:DSt) (Q:Option Int->Prop):zhl x_0 Q=( Q none):=rfl
theorem zdq (de:DE) (U:DSt) (Q:Option Int->Prop):zc51 de U Q=( de U λ d=>match d with
|.int i=>Q (some i)
|_=>False):=rfl
theorem zt61 (de:DE) (dl dh:DO) (U:DSt) (Q:D->Prop):dSl de dl dh U Q=( de U λ d=>dl U λ lo=>dh U λ hi=>fSl d lo hi Q):=rfl
theorem zaz (de:DE) (dl dh dk:DO) (U:DSt) (Q:List D->Prop):dSl3 de dl dh dk U Q=( de U λ d=>dl U λ lo=>dh U λ hi=>dk U λ st=>match d with
|.list ds=>st≠some 0/\Q (zbh ds lo hi st)
|_=>False):=rfl
theorem zu61 (de:DE) (U:DSt) (Q:List D->Prop):dIt de U Q=( de U λ d=>zow d Q):=rfl
theorem zkq (dA:DF) (U:DSt) (Q:List D->Prop):zy41 dA U Q=( dA U λ ds=>match ds with
|[.int j]=>-(2 ^ 62)<=j/\j < 2 ^ 62/\Q (rngD 0 j.toNat)
|_=>False):=rfl
theorem zn01 (dA:DF) (U:DSt) (Q:List D->Prop):dZip dA U Q=( dA U λ ds=>fZip ds Q):=rfl
theorem zrq (dA:DF) (U:DSt) (Q:List D->Prop):zry dA U Q=( dA U λ ds=>match ds with
|[.list a]=>Q (zqj a)
|_=>False):=rfl
theorem e_gN (i:Nat) (d:D) (U:DSt) (G:DSt->Prop):gN i d U G=( G (U.set i (.sh d))):=rfl
theorem zcw (ds:List D) (U:DSt) (G:DSt->Prop):ztz ds U G=( match ds with
|[]=>G U
|_=>False):=rfl
theorem zqn (g:DG) (gs:DGs) (ds:List D) (U:DSt) (G:DSt->Prop):zwo g gs ds U G=( match ds with
|d :: r=>g d U λ U'=>gs r U' G
|[]=>False):=rfl
theorem e_gT (n:Nat) (gs:DGs) (d:D) (U:DSt) (G:DSt->Prop):gT n gs d U G=( match d with
|.tuple ds=>ds.length=n/\gs ds U G
|_=>False):=rfl
theorem zlr (x_0:DSt) (Q:Bool->Prop):za11 x_0 Q=( Q true):=rfl
theorem zr01 (C:Addr) (f:Str) (dp:DP) (U:DSt) (Q:Nat->Pth->T->Prop):pFld C f dp U Q=( dp U λ i p u=>nCls C u/\nFld f u λ t=>Q i (p++[.fl f]) t):=rfl
theorem zh51 (dp:DP) (di:DE) (U:DSt) (Q:Nat->Pth->T->Prop):pIx dp di U Q=( dp U λ i p u=>di U λ k=>nIx u k λ j t=>Q i (p++[.ix j]) t):=rfl
theorem zh61 (dp:DP) (U:DSt) (Q:D->Prop):dPV dp U Q=( dp U λ _ _ u=>vwT u Q):=rfl
theorem zs51 (dp:DP) (U:DSt) (Q:D->Prop):dPE dp U Q=( dp U λ _ _ u=>fzT u Q):=rfl
theorem e_cE (de:DE) (U:DSt) (Q:T->DSt->Prop):cE de U Q=( de U λ d=>Q (.fz d) U):=rfl
theorem e_cF (df:DF) (U:DSt) (Q:T->DSt->Prop):cF df U Q=( df U λ ds=>Q (.li ds) U):=rfl
theorem zfu (E:DEnds) (U:DSt):zo21 E U=( E.nx U):=rfl
theorem zzx (de:DE) (dg:DG) (E:DEnds) (U:DSt):dAsg de dg E U=( de U λ d=>dg d U E.nx):=rfl
theorem zl01 (i:Nat) (dc:DC) (E:DEnds) (U:DSt):dSet i dc E U=( dc U λ r U'=>E.nx (U'.set i (slot r))):=rfl
theorem zjr (dc:DC) (E:DEnds) (U:DSt):zg41 dc E U=( dc U λ _ U'=>E.nx U'):=rfl
theorem zd01 (dc:DC) (E:DEnds) (U:DSt):dRet dc E U=( dc U E.rt):=rfl
theorem zvu (i:Nat) (E:DEnds) (U:DSt):zoz i E U=( match U[i]? with
|some (.ow t)=>E.rt t (U.set i .un)
|some (.sh d)=>E.rt (.fz d) U
|_=>False):=rfl
theorem zz61 (dt:DT) (d e:DS) (E:DEnds) (U:DSt):dIf dt d e E U=( dt U λ b=>if b=true then d E U else e E U):=rfl
theorem zf61 (ty:String) (f:FM) (dp:DP) (dA:DF) (U:DSt) (Q:T->DSt->Prop):cBM ty f dp dA U Q=( dp U λ i p u=>tyN ty u/\dA U λ ds=>f u ds λ u2 d=>mutS U i p u2 λ U'=>Q (.fz d) U'):=rfl
theorem ziy (ty:String) (f:FM) (dp:DP) (U:DSt) (Q:T->DSt->Prop):cBM0 ty f dp U Q=( dp U λ i p u=>tyN ty u/\f u [] λ u2 d=>mutS U i p u2 λ U'=>Q (.fz d) U'):=rfl
theorem zl11 (dp:DP) (dk de:DE) (E:DEnds) (U:DSt):dPut dp dk de E U=( de U λ d=>dp U λ i p u=>dk U λ k=>fPut u k d λ u2=>mutS U i p u2 E.nx):=rfl
theorem ztt (f:Int->Int->Int) (dp:DP) (dk de:DE) (E:DEnds) (U:DSt):zw41 f dp dk de E U=( dp U λ i p u=>dk U λ k=>fGet u k λ x=>de U λ y=>fII f x y λ z=>fPut u k z λ u2=>mutS U i p u2 E.nx):=rfl
theorem zt01 (dp:DP) (dk:DE) (U:DSt) (Q:D->Prop):nGet dp dk U Q=( dp U λ _ _ u=>dk U λ k=>fGet u k Q):=rfl
theorem zm71 (neg:Bool) (dk:DE) (dp:DP) (U:DSt) (Q:D->Prop):nIn neg dk dp U Q=( dk U λ k=>dp U λ _ _ u=>fHas neg u k Q):=rfl
theorem zl61 (U:DSt) (Q:T->DSt->Prop):cDK U Q=( Q (.dk []) U):=rfl
theorem e_nE (de:DE) (U:DSt) (Q:T->Prop):nE de U Q=( de U λ d=>Q (.fz d)):=rfl
theorem e_nF (df:DF) (U:DSt) (Q:T->Prop):nF df U Q=( df U λ ds=>Q (.li ds)):=rfl
theorem e_cN (dn:DN) (U:DSt) (Q:T->DSt->Prop):cN dn U Q=( dn U λ r=>Q r U):=rfl
theorem znz (C:Addr) (f:Str) (dc:DC) (dp:DP) (E:DEnds) (U:DSt):dFld C f dc dp E U=( dc U λ r U1=>dp U1 λ i p u=>nCls C u/\nSet f u r λ u2=>mutS U1 i p u2 E.nx):=rfl
theorem zby (i:Nat) (p:Pth) (d:DS) (E:DEnds) (U:DSt):dFrz i p d E U=( fzS U i p λ U'=>d E U'):=rfl
theorem zw11 (x_0:DSt) (Q:List ArgP->Prop):aNil x_0 Q=( Q []):=rfl
theorem e_aD (de:DE) (dr:DAT) (U:DSt) (Q:List ArgP->Prop):aD de dr U Q=( de U λ x=>dr U λ as=>Q (.d x :: as)):=rfl
theorem e_aB (dp:DP) (dr:DAT) (U:DSt) (Q:List ArgP->Prop):aB dp dr U Q=( dp U λ i p t=>dr U λ as=>Q (.b i p t :: as)):=rfl
theorem e_aO (dp:DP) (dr:DAT) (U:DSt) (Q:List ArgP->Prop):aO dp dr U Q=( dp U λ i p t=>dr U λ as=>Q (.o i p t :: as)):=rfl
theorem zav (o:Bool) (C:Addr) (m:Str) (p:DSpT) (dp:DP) (da:DAT) (U:DSt) (Q:T->DSt->Prop):zw21 o C m p dp da U Q=( dp U λ i q u=>nCls C u/\noM m u/\da U λ as=>zyq p U ((if o then .o i q u else .b i q u) :: as) Q):=rfl
theorem zrv (p:DSpT) (da:DAT) (U:DSt) (Q:T->Prop):zi31 p da U Q=( da U λ as=>zup p as Q):=rfl
theorem zew (C:Addr) (m:Str) (p:DSpT) (dp:DP) (da:DAT) (U:DSt) (Q:T->Prop):zo31 C m p dp da U Q=( dp U λ i q u=>nCls C u/\noM m u/\da U λ as=>zup p (.b i q u :: as) Q):=rfl
theorem e_eN (dn:DN) (U:DSt) (Q:D->Prop):eN dn U Q=( dn U λ r=>fzT r Q):=rfl
theorem zlv (C:Addr) (p:DSpT) (da:DAT) (U:DSt) (Q:T->Prop):zt31 C p da U Q=( da U λ as=>noO as/\p (.o (.ob C []) :: as.map ArgP.arg) λ r t2=>(match r with|.fz .none=>True|_=>False)/\Q t2):=rfl
theorem zdv (dA:DF) (U:DSt) (Q:List D->Prop):zy61 dA U Q=(dA U λ ds=>match ds with
|[.int i,.int j,.int c]=>c≠0/\(-(2 ^ 40)<=i/\i < 2 ^ 40/\-(2 ^ 40)<=j/\j < 2 ^ 40/\-(2 ^ 20)<=c/\c < 2 ^ 20)/\∃ n:Nat,Builtin.Range.rangeSize i j c=(n:Int)/\n < 2 ^ 41/\Q (za41 i c n)
|_=>False):=rfl
def slT:Sl->(T->Prop)->Prop
|.sh d,N=>N (.fz d)
|.ow t,N=>N t
|.bo t,N=>N t
|.io _ t,N=>N t
|.un,_=>False
def pAt (U:DSt) (i:Nat) (N:T->Prop):Prop:=∃ s t,U[i]?=some s/\s.tree=some t/\N t
theorem zhy (i:Nat) (U:DSt) (Q:D->Prop):dVar i U Q=pAt U i λ t=>fzT t Q:=rfl
theorem zmu (i:Nat) (U:DSt) (Q:D->Prop):zq41 i U Q=pAt U i λ t=>vwT t Q:=rfl
theorem zm11 (i:Nat) (U:DSt) (Q:Nat->Pth->T->Prop):pVar i U Q=pAt U i λ t=>Q i [] t:=rfl
theorem zq11 (s:Sl) (U:DSt) (N:T->Prop):pAt (s :: U) 0 N=slT s N:=by
 apply propext
 cases s <;> simp [pAt,slT,Sl.tree]
theorem zl21 (i:Nat) (s:Sl) (U:DSt) (N:T->Prop):pAt (s :: U) (i+1) N=pAt U i N:=by simp [pAt]
theorem zux (U:DSt) (i:Nat) (p:Pth) (u:T) (N:DSt->Prop):mutS U i p u N=(match U[i]? with
|some (.ow t)=>N (U.set i (.ow (setP t p u)))
|some (.io a t)=>N (U.set i (.io a (setP t p u)))
|_=>False):=rfl
theorem zn51 (U:DSt) (i:Nat) (p:Pth) (N:DSt->Prop):fzS U i p N=(match U[i]? with
|some (.ow t)=>∃ u d,getP t p=some u/\toD u=some d/\N (U.set i (slot (setP t p (.fz d))))
|some (.sh _)=>N U
|_=>False):=rfl
theorem zcu (U:DSt) (i:Nat):ztp U i=(match U[i]? with
|some (.ow _)=>True
|some (.io _ _)=>True
|_=>False):=rfl
theorem zls (t u:T):setP t [] u=u:=by cases t <;> rfl
theorem zzz (ds:List D):tyN "list" (.li ds)=True:=by simp [tyN]
theorem zay (ds:List T):tyN "list" (.ls ds)=True:=by simp [tyN]
theorem ze21 (ds:List (Key×D)):tyN "dict" (.dk ds)=True:=by simp [tyN]
theorem zqy (ds:List (List Key×D)):tyN "dict" (.dt ds)=True:=by simp [tyN]
theorem zk51 (Qd:D->Prop) (d:D) (U:DSt):rD Qd (.fz d) U=Qd d:=rfl
theorem zd61 (Qd:D->Prop) (d:List D) (U:DSt):rD Qd (.li d) U=Qd (.list d):=rfl
theorem zo51 (Qd:D->Prop) (d:List T) (U:DSt):rD Qd (.ls d) U=∃ e,toD (.ls d)=some e/\Qd e:=rfl
theorem zjw (p:DSpT) (U:DSt) (as:List ArgP) (Q:T->DSt->Prop):zyq p U as Q=(match zwl as with
|some (i,q,t)=>ztp U i/\oneO i as/\zwp t/\p (as.map ArgP.arg) λ r t2=>mutS U i q t2 λ U'=>Q r U'
|none=>noO as/\p (as.map ArgP.arg) λ r _=>Q r U):=rfl
theorem zkw (p:DSpT) (as:List ArgP) (Q:T->Prop):zup p as Q=(noO as/\p (as.map ArgP.arg) λ r _=>Q r):=rfl
def zzs (items:List D) (n:Nat) (ix:List Nat) (dg:DG) (dn:DN) (U:DSt) (Q:T->Prop):Prop:=items.length<=sizeLine/\∃ R:Nat->T->Prop,
 (∀ i d,items[i]?=some d->dg d (cST n ix U) λ U'=>dn U' λ r=>R i r)/\∀ rs:List T,rs.length=items.length->(∀ (j:Nat) r,rs[j]?=some r->R j r)->Q (.ls rs)
theorem zjq (di:DF) (n:Nat) (ix:List Nat) (dg:DG) (dn:DN) (U:DSt) (Q:T->Prop):zh41 di n ix dg dn U Q=di U λ items=>zzs items n ix dg dn U Q:=rfl
theorem zym {α:Type} {xs:List α} {enc:α->D} (f:α->T) {n:Nat} {ix:List Nat} {dg:DG} {dn:DN} {U:DSt} {Q:T->Prop} (hz:xs.length<=sizeLine)
  (h:∀ x∈xs,dg (enc x) (cST n ix U) λ U'=>dn U' λ r=>r=f x) (q:Q (.ls (xs.map f))):zzs (xs.map enc) n ix dg dn U Q:=by
 refine ⟨by rw [uA];exact hz,λ i r=>∀ x,xs[i]?=some x->r=f x,λ i d e=>?_,λ rs hl hR=>?_⟩
 ·rw [uI] at e
  obtain ⟨x,hx,rfl⟩:=u6.mp e
  have e1:(λ r=>∀ y,xs[i]?=some y->r=f y)=λ r=>r=f x:=by funext r;rw [hx];simp
  show dg (enc x) (cST n ix U) λ U'=>dn U' λ r=>∀ y,xs[i]?=some y->r=f y
  rw [e1]
  exact h x (vI hx)
 ·rw [uA] at hl
  have:rs=xs.map f:=by
   apply yU
   intro i
   rw [uI]
   by_cases hi:i < rs.length
   ·have e1:rs[i]?=some rs[i]:=uB hi
    have e2:xs[i]?=some (xs[i]'(by lia)):=uB _
    rw [e1,e2,hR i _ e1 _ e2];rfl
   ·rw [vF (by lia),vF (by lia)];rfl
  rw [this];exact q
def zh11 (items:List D) (n:Nat) (ix:List Nat) (dg:DG) (dt:DT) (de:DE) (U:DSt) (Q:List D->Prop):Prop:=items.length<=sizeLine/\∃ R:Nat->Option D->Prop,
 (∀ i d,items[i]?=some d->dg d (cST n ix U) λ U'=>dt U' λ b=>if b=true then de U' λ r=>R i (some r) else R i none) /\
 ∀ os:List (Option D),os.length=items.length->(∀ (j:Nat) o,os[j]?=some o->R j o)->Q (os.filterMap id)
theorem zfz (di:DF) (n:Nat) (ix:List Nat) (dg:DG) (dt:DT) (de:DE) (U:DSt) (Q:List D->Prop):za51 di n ix dg dt de U Q=di U λ items=>zh11 items n ix dg dt de U Q:=rfl
def ForB (items:List D) (dg:DG) (db:DS) (E:DEnds) (U:DSt):Prop:=∃ W:Nat->DSt->Prop,W 0 U /\
 (∀ i d U',items[i]?=some d->W i U'->dg d U' λ U2=>db { E with nx:=W (i+1),ct:=W (i+1),bk:=E.nx } U2)/\∀ U',W items.length U'->E.nx U'
theorem zc71 (di:DF) (dg:DG) (db:DS) (E:DEnds) (U:DSt):dFor di dg db E U=di U λ items=>ForB items dg db E U:=rfl
theorem zfh {a b:DS} {E:DEnds} {U:DSt} (h:a { E with nx:=b E } U):dSeq a b E U:=⟨b E,h,λ _ z=>z⟩
theorem ze0 {a b:DS} {E:DEnds} {U:DSt} (h:∀ J:DSt->Prop,(∀ U',b E U'->J U')->a { E with nx:=J } U):dSeq a b E U:=⟨b E,h (b E) λ _ z=>z,λ _ z=>z⟩
theorem zb31 {α:Type} {f:α->Option D}:∀ {xs:List α} {os:List (Option D)},os.length=xs.length->(∀ (j:Nat) o x,os[j]?=some o->xs[j]?=some x->o=f x)->os.filterMap id=xs.filterMap f
|[],[],_,_=>rfl
|x :: xs,o :: os,hl,h=>by
  have e:o=f x:=h 0 o x rfl rfl
  have ih:=zb31 (f:=f) (xs:=xs) (os:=os) (by simpa using hl) λ j o' x' h1 h2=>h (j+1) o' x' (by simpa using h1) (by simpa using h2)
  rw [v9,v9,e,ih]
  rfl
theorem zyu {α:Type} {xs:List α} {enc:α->D} (f:α->Option D) {n:Nat} {ix:List Nat} {dg:DG} {dt:DT} {de:DE} {U:DSt} {Q:List D->Prop} (hz:xs.length<=sizeLine)
  (h:∀ x∈xs,dg (enc x) (cST n ix U) λ U'=>dt U' λ b=>if b=true then de U' λ r=>some r=f x else none=f x) (q:Q (xs.filterMap f)):zh11 (xs.map enc) n ix dg dt de U Q:=by
 refine ⟨by rw [uA];exact hz,λ i o=>∀ x,xs[i]?=some x->o=f x,λ i d e=>?_,λ os hl hR=>?_⟩
 ·rw [uI] at e
  obtain ⟨x,hx,rfl⟩:=u6.mp e
  have:=h x (vI hx)
  have e1:(λ r=>∀ y,xs[i]?=some y->some r=f y)=λ r=>some r=f x:=by
   funext r;rw [hx];simp
  have e2:(∀ y,xs[i]?=some y->(none:Option D)=f y)=(none=f x):=by rw [hx];simp
  show dg (enc x) (cST n ix U) λ U'=>dt U' λ b=>if b=true then de U' λ r=>∀ y,xs[i]?=some y->some r=f y else ∀ y,xs[i]?=some y->(none:Option D)=f y
  rw [e1,e2]
  exact this
 ·rw [uA] at hl
  rw [zb31 hl λ j o x h1 h2=>hR j o h1 x h2]
  exact q
theorem ztj {α:Type} {xs:List α} {enc:α->D} (g:α->D) {n:Nat} {ix:List Nat} {dg:DG} {de:DE} {U:DSt} {Q:List D->Prop} (hz:xs.length<=sizeLine)
  (h:∀ x∈xs,dg (enc x) (cST n ix U) λ U'=>de U' λ r=>r=g x) (q:Q (xs.map g)):zh11 (xs.map enc) n ix dg za11 de U Q:=by
 refine zyu (λ x=>some (g x)) hz (λ x hx=>?_) ?_
 ·have:=h x hx
  have e:(λ r=>some r=some (g x))=λ r=>r=g x:=by funext r;simp
  show dg (enc x) (cST n ix U) λ U'=>if true=true then de U' λ r=>some r=some (g x) else none=some (g x)
  rw [e]
  simp only [if_true]
  exact this
 ·rw [show xs.filterMap (λ x=>some (g x))=xs.map g from congrFun List.filterMap_eq_map' xs]
  exact q
theorem zz2 {α:Type} {xs:List α} {enc:α->D} (W:Nat->DSt->Prop) {dg:DG} {db:DS} {E:DEnds} {U:DSt} (h0:W 0 U)
  (hs:∀ (i:Nat) x U',xs[i]?=some x->W i U'->dg (enc x) U' λ U2=>db { E with nx:=W (i+1),ct:=W (i+1),bk:=E.nx } U2) (he:∀ U',W xs.length U'->E.nx U'):ForB (xs.map enc) dg db E U:=by
 refine ⟨W,h0,λ i d U' e w=>?_,λ U' w=>he U' (by rw [uA] at w;exact w)⟩
 rw [uI] at e
 obtain ⟨x,hx,rfl⟩:=u6.mp e
 exact hs i x U' hx w
theorem two {c:Prop} [Decidable c] {A B:Prop} (h1:c->A) (h2:¬c->B):if c then A else B:=by
 by_cases h:c
 ·rw [if_pos h];exact h1 h
 ·rw [if_neg h];exact h2 h
def cutG {α:Type} (xs:List α) (lo hi:Option Int):List α:=(xs.drop (HT.sIx xs.length 0 lo)).take (HT.sIx xs.length xs.length hi - HT.sIx xs.length 0 lo)
theorem zkn {α:Type} (f:α->D) (xs:List α) (lo hi:Option Int):cutD (xs.map f) lo hi=(cutG xs lo hi).map f:=by
 unfold cutD cutG
 rw [uA,List.map_take,List.map_drop]
theorem zl9 {α β:Type} (f:α->D) (g:β->D) (xs:List α) (ys:List β):zipD (xs.map f) (ys.map g)=(xs.zip ys).map λ p=>.tuple [f p.1,g p.2]:=by
 unfold zipD
 rw [List.zipWith_map,List.zip_eq_zipWith,List.map_zipWith]
theorem za4 {α:Type} (f:α->D) (xs:List α):zqj (xs.map f)=(xs.mapIdx λ i x=>(i,x)).map λ p=>.tuple [.int (p.1:Nat),f p.2]:=by
 unfold zqj
 apply yU
 intro i
 rw [xO,uI,uI,xO]
 cases xs[i]? <;> rfl
theorem zze {α:Type} {xs:List α} {i:Int} {x:α} (h0:0<=i) (h:xs[i.toNat]?=some x):atI xs i=some x:=by
 have e:((i.toNat:Nat):Int)=i:=by lia
 have:=zv8 (xs:=xs) (j:=i.toNat) (v:=x) h
 rwa [e] at this
theorem zq71 {α:Type} {xs:List α} {i:Int} (h0:0<=i) (h1:i < (xs.length:Int)):∃ x,xs[i.toNat]?=some x/\atI xs i=some x:=by
 have h:i.toNat < xs.length:=by lia
 exact ⟨xs[i.toNat],uB h,zze h0 (uB h)⟩
theorem zmk {α:Type} {xs:List α} (f:α->D) {i:Int} (h0:0<=i) (h1:i < (xs.length:Int)):∃ x,xs[i.toNat]?=some x/\atI (xs.map f) i=some (f x):=by
 have h:i.toNat < xs.length:=by lia
 exact ⟨xs[i.toNat],uB h,zze h0 (by rw [uI,uB h];rfl)⟩
section
variable (K:Fg)
def RfH (te:TE) (de:DE):Prop:=∀ {F H:Hp} {Y:_2.St} {U:DSt} {Qd:D->Prop} {Q:VK},Same F H->RV K F H Y U->de U Qd->(∀ d,Qd d->∀ v F' H',Ext F H F' H'->Is K H' v d->Q v H')->te Y H Q
end
section
variable {K:Fg} {te ta tb:TE} {de da db:DE} {tA:TA} {dA:DF}
theorem RfV.h (h:RfV K te de):RfH K te de:=λ s r d k=>h s r d λ x q v F' H' e i=>k x q v F' H' e (i.is e.fh)
def R2H (K:Fg) (r:R2) (f:D->D->(D->Prop)->Prop):Prop:=∀ {F H:Hp} {x y:V} {d e:D} {Qd:D->Prop} {Q:VK},Same F H->Is K H x d->Is K H y e->f d e Qd->(∀ z,Qd z->∀ v F' H',Ext F H F' H'->Is K F' v z->Q v H')->r x y H Q
theorem zle {r:R2} {f:D->D->(D->Prop)->Prop} (hr:R2H K r f) (ha:RfH K ta da) (hb:RfH K tb db):RfE K (tOp r ta tb) (dOp f da db):=by
 intro F H Y U Qd Q s rv h k
 refine ha s rv h λ x hx v F1 H1 e1 i1=>hb e1.fh (rv.ext e1) hx λ y hy u F2 H2 e2 i2=>?_
 exact hr e2.fh (i1.mono e2.h) i2 hy λ z hz w F3 H3 e3 i3=>k z hz w F3 H3 ((e1.trans e2).trans e3) i3
theorem q_eq:R2H K (rEqU K) fEq:=by
 intro F H x y d e Qd Q s hx hy h k
 unfold fEq at h
 split at h
 ·cases hx.int_inv;cases hy.int_inv
  refine .inl ⟨rfl,k _ h _ F H (Ext.refl s) ?_⟩
  rw [zub];exact .bl _
 ·cases hx.str_inv;cases hy.str_inv
  refine .inl ⟨rfl,k _ h _ F H (Ext.refl s) ?_⟩
  rw [zhb];exact .bl _
 ·cases hx.bl_inv;cases hy.bl_inv
  refine .inl ⟨rfl,k _ h _ F H (Ext.refl s) ?_⟩
  rw [zph];exact .bl _
 ·exact .inr ⟨_,_,hx,hy,h.1,h.2.1,k _ h.2.2 _ F H (Ext.refl s) (.bl _)⟩
theorem q_ne:R2H K (rNeU K) fNe:=by
 intro F H x y d e Qd Q s hx hy h k
 unfold fNe at h
 split at h
 ·cases hx.int_inv;cases hy.int_inv
  refine .inl ⟨rfl,k _ h _ F H (Ext.refl s) ?_⟩
  rw [zub];exact .bl _
 ·cases hx.str_inv;cases hy.str_inv
  refine .inl ⟨rfl,k _ h _ F H (Ext.refl s) ?_⟩
  rw [zhb];exact .bl _
 ·cases hx.bl_inv;cases hy.bl_inv
  refine .inl ⟨rfl,k _ h _ F H (Ext.refl s) ?_⟩
  rw [zph];exact .bl _
 ·exact .inr ⟨_,_,hx,hy,h.1,h.2.1,k _ h.2.2 _ F H (Ext.refl s) (.bl _)⟩
end
theorem zc21 (i:Int):isT "int" (.int i)=true:=rfl
theorem zwz (i:Int):isT "bool" (.int i)=false:=by simp [isT,tyD]
theorem zd21 (i:List D):isT "list" (.list i)=true:=rfl
theorem zsx (i:List D):isT "tuple" (.tuple i)=true:=rfl
theorem zjy (i:Str):isT "str" (.str i)=true:=rfl
theorem zj21 (i:Int):(∀ kvs,uC i≠.dict kvs)=True:=by simp
theorem zoq (i:List D):(∀ kvs,vG i≠.dict kvs)=True:=by simp
theorem zg21 (i:List D):(∀ kvs,vU i≠.dict kvs)=True:=by simp
theorem zp01 (i:Str):(∀ kvs,PyData.str i≠.dict kvs)=True:=by simp
theorem zx61 (i:Bool):(∀ kvs,PyData.bool i≠.dict kvs)=True:=by simp
theorem zky:(∀ kvs,PyData.none≠.dict kvs)=True:=by simp
end _4
namespace _3
open PySem PySem.Spec PyProof.Rows _2
section
variable {X:Cx}
theorem zvj {C:Addr} {m:Str} {k:Nat} {ps:List Str} {sp:Sp} {o:Expr} {ta:TE} {apos pos:Pos} {pl:Sem Bool} (d:zcb X.prog X.w X.K X.mg X.base C m k ps sp) (hr:Room k X.A) (he:PE X o ta)
  (ht:eval (.Call (.Attribute o m apos) [] [] pos) X.env=(do
   let ov <- eval o X.env
   standAt apos.atName
   let (f,first) <- holding [ov] (getMethod ov m pl)
   callWith pos f first (backTo pos (starEach [] X.env)) (backToKw pos (keywordEach [] X.env))):=by rfl) :
  PE X (.Call (.Attribute o m apos) [] [] pos) (zsp C m sp [] E0 ta tNil):=by
 obtain ⟨f,fd,c,M,F,b⟩:=d
 exact zjn he c M F hr b .nil zfx ht
def zc31 (K:Fg) (le:Int->Int->Prop):List V->Hp->VK->Prop:=λ vs H Q=>∃ (a:Addr) (ns:List Int),vs=[.ref a]/\SqL K H a (ns.map V.int)/\ns≠[]/\∀ M∈ns,(∀ x∈ns,le M x)->Q (.int M) H
theorem zwj {K:Fg} (h:X.K=K) (hc:X.calm=true):CallR X (.builtin "min") (zc31 K λ M x=>M<=x):=by
 subst h
 intro pins s Y H xs us Q I r h
 obtain ⟨a,ns,rfl,hx,hne,q⟩:=h
 obtain ⟨u,rfl,r1⟩:=zoe r
 cases r1
 obtain ⟨its,rv,p,hz⟩:=I.list hx
 have hi:IntsAre its ns:=zp6 rv
 obtain ⟨ys,hy⟩:=hi.allInts.items
 have hl:s.heap.IsList a (intItems ys):=hy ▸ p.isList
 have e1:ns=ys.toList.map (·.1):=by
  rw [<- nums_intItems,<- hy]
  exact (show numsOf its.toArray.toList=ns from hi.numsOf).symm
 have hsz:0 < ys.size:=by
  rcases zN ys.size with z|z
  ·exact absurd (by rw [e1];exact x6.mpr (zO (by simpa using z))) hne
  ·exact z
 refine min_intList (I.ok.hd hc) hl hsz λ v h' tk hv hk=>?_
 obtain ⟨t,rfl⟩:=intItems_at hv
 obtain ⟨h1,h2⟩:=argBest_lt (numAt ys) (ys.size - 1)
 refine ⟨.int _,H,I.kept hk,⟨_,rfl⟩,q _ ?_ λ x hx'=>?_⟩
 ·rw [numAt_eq,e1];exact getD_mem (by rw [uA,vX];lia)
 ·rw [e1] at hx'
  obtain ⟨j,hj,rfl⟩:=mem_getD hx'
  rw [uA,vX] at hj
  rw [<- numAt_eq];exact h2 j (by lia)
end
end _3
namespace _4
open PySem PySem.Spec PyProof.Rows _2 _3
section
variable {K:Fg} {te ta ti tv tk tb:TE} {de da di dk db:DE} {dc:DC} {tA:TA} {dA:DF}
abbrev fXor:=fI0 λ i j=>.int (Builtin.bitXor i j)
abbrev fShl:=fI CPow λ i j=>.int (i * 2 ^ j.toNat)
abbrev fShr:=fI (λ _ j=>0<=j) λ i j=>.int (i / 2 ^ j.toNat)
theorem zp21:R2E K (rI0 λ i j=>V.int (Builtin.bitXor i j)) fXor:=r_I0 λ _ _ _=>.int _
theorem zx41:R2E K (rI CPow λ i j=>V.int (i * 2 ^ j.toNat)) fShl:=r_I λ _ _ _=>.int _
theorem zt51:R2E K (rI (λ _ j=>0<=j) λ i j=>V.int (i / 2 ^ j.toNat)) fShr:=r_I λ _ _ _=>.int _
theorem zhw (x:Int):Builtin.bitXor x 1=x+1 - 2 * (x % 2):=by
 rw [PyProof.Rows.bitXor_and,PyProof.Rows.bitAnd_m1]
def zi21:List D->(D->Prop)->Prop
|[.list ds],Q=>∃ ns,zgj ds=some ns/\ns≠[]/\∀ M∈ns,(∀ x∈ns,M<=x)->Q (.int M)
|_,_=>False
theorem zf21:CB K (zc31 K λ M x=>M<=x) zi21:=by
 intro F H vs ds Qd Q s hv h k
 unfold zi21 at h
 split at h
 ·obtain ⟨v,rfl,hw⟩:=vw1 hv
  obtain ⟨p,xs,rfl,h1,i1⟩:=hw.list s
  obtain ⟨ns,e,hne,q⟩:=h
  have:=zf9 i1 e
  subst this
  exact ⟨p,ns,rfl,h1,hne,λ M hM hx=>k _ (q M hM hx) _ F H (Ext.refl s) (.int _)⟩
 ·exact h.elim
def cDK1 (dk de:DE):DC:=λ U Q=>dk U λ k=>de U λ v=>∃ key,keyD k=some key/\Q (.dk [(key,v)]) U
theorem za01 (dk de:DE) (U:DSt) (Q:T->DSt->Prop):cDK1 dk de U Q=(dk U λ k=>de U λ v=>∃ key,keyD k=some key/\Q (.dk [(key,v)]) U):=rfl
theorem zn11 (hk:RfE K tk dk) (he:RfE K tv de):RfC K (zvx [(tk,tv)]) (cDK1 dk de):=by
 intro B F H Y U fps Qd Q r hd k p hp
 have r1:=r.grow (zr7 (o:=.dK []) r.fh hp)
 have fp:F p=none:=by
  cases e:F p with
 |none=>rfl
 |some o=>rw [r.fh p o e] at hp;cases hp
 show tk Y _ _
 refine hk r1.fh r1.rv hd λ kd hkd kv F1 H1 e1 i1=>he e1.fh (r1.grow e1).rv hkd λ v hv vv F2 H2 e2 i2=>?_
 obtain ⟨key,ek,q⟩:=hv
 have:=zm9 i1 ek
 subst this
 have e12:=e1.trans e2
 have hp2:H2 p=some (.dK []):=e12.h _ _ zi0
 have fp2:F2 p=none:=e12.nwo zi0 (λ _=>nofun) fp
 refine ⟨hp2,[(key,vv)],rfl,by simp,?_⟩
 have ex:Ext F H F2 (upd H2 p (.dK (zo9 [] [(key,vv)]))):=by
  have e0:=(zr7 (o:=.dK []) r.fh hp).trans e12
  refine ⟨λ b o z=>?_,e0.f,λ b o z=>?_,e0.nw⟩
  ·have:b≠p:=λ y=>by subst y;rw [hp] at z;cases z
   rw [zm0 this];exact e0.h b o z
  ·have:b≠p:=λ y=>by subst y;rw [fp2] at z;cases z
   rw [zm0 this];exact e0.fh b o z
 have hm:zo9 [] [(key,vv)]=[(key,vv)]:=rfl
 rw [hm] at ex ⊢
 refine k _ _ q (.ref p) F2 _ fps [p] ⟨r.grow ex,.dk zi0 fp2 (.cons i2 .nil),by simp,λ b hb=>?_,λ j s ej hs b hb hb2=>?_⟩
 ·simp at hb;subst hb
  exact (r.newOk hp).1
 ·simp at hb2;subst hb2
  exact (r.newOk hp).2 j s ej hs hb
def zn41 (de:DE) (f:D->D->(D->Prop)->Prop) (dc:DC) (db:DE):DC:=λ U Q=>de U λ x=>dc U λ r U1=>fzT r λ y=>db U1 λ z=>f y z λ w=>fIx x w λ d=>Q (.fz d) U1
theorem zpr (de:DE) (f:D->D->(D->Prop)->Prop) (dc:DC) (db:DE) (U:DSt) (Q:T->DSt->Prop):zn41 de f dc db U Q=(de U λ x=>dc U λ r U1=>fzT r λ y=>db U1 λ z=>f y z λ w=>fIx x w λ d=>Q (.fz d) U1):=rfl
theorem zau {w:World} {r:R2} {f:D->D->(D->Prop)->Prop} (he:RfE K te de) (hr:R2E K r f) (hc:RfC K ta dc) (hb:RfE K tb db):RfC K (tOp (rIxV w K) te (tOp r ta tb)) (zn41 de f dc db):=by
 intro B F H Y U fps Qd Q rs hd k
 refine he rs.fh rs.rv hd λ x hx xv F1 H1 e1 i1=>?_
 have r1:=rs.grow e1
 -- what is frozen stays: the base remembers F1
 have s0:=r1.ff
 have n0:=r1.nw
 refine hc (r1.rem s0 (λ _ _ z=>z)) hx λ t U1 ht yv F2 H2 fps2 fpr res=>?_
 obtain ⟨y,hy,iy⟩:=zju res.rt ht
 refine hb res.rs.fh res.rs.rv hy λ z hz zv F3 H3 e3 i3=>?_
 refine hr e3.fh (.inl (iy.mono e3.f)) (.inl i3) hz λ wd hw wv F4 H4 e4 i4=>?_
 have e34:=e3.trans e4
 have sF:Same F1 F4:=(show Same F1 F2 from res.rs.ff).trans e34.f
 refine r_ix (w:=w) e4.fh (.inl (i1.mono sF)) (.inl i4) hw λ d hd' v F5 H5 e5 i5=>?_
 refine k _ _ hd' v F5 H5 fps2 [] ⟨((res.rs.grow (e34.trans e5)).unrem s0 n0),.fz i5,.nil,λ a ha=>by simp at ha,λ _ _ _ _ a _ ha=>by simp at ha⟩
end
end _4
namespace _3
open PySem PySem.Spec PyProof.Rows _2
section
variable {X:Cx}
def zwk (K:Fg):List V->Hp->VK->Prop:=λ vs H Q=>∃ (a:Addr) (ns:List Int),vs=[.ref a]/\(SqL K H a (ns.map V.int) \/ ∃ kvs:List (Key×V),H a=some (.dK kvs)/\kvs.map (·.1)=ns.map uO)/\ns.length < 64 /\
 ∀ ns':List Int,ns'.Perm ns->ns'.Pairwise (·<=·)->∀ l,H l=none->Q (.ref l) (upd H l (.lst (ns'.map V.int)))
theorem zga {P:Program} {w:World} {i:Int} {v:Value} (h:(zu0 P w).is (.inl i) v=true):∃ t,v=.int i t:=by
 have h:xD i v=true:=h
 cases v <;> first
 |(simp [xD] at h;subst h;exact ⟨_,rfl⟩)
 |(simp [xD] at h)
theorem ztb:∀ {vs:List Value} {ns:List Int},vs.length=ns.length->(∀ (j:Nat) v i,vs[j]?=some v->ns[j]?=some i->∃ t,v=.int i t)->IntsAre vs ns
|[],[],_,_=>.nil
|[],_ :: _,h,_=>by simp at h
|_ :: _,[],h,_=>by simp at h
|v :: vs,i :: ns,h,q=>by
  obtain ⟨t,rfl⟩:=q 0 v i rfl rfl
  exact .cons i t (ztb (by simpa using h) λ j v i a b=>q (j+1) v i (by simpa using a) (by simpa using b))
theorem zcd {K:Fg} (h:X.K=K) (hc:X.calm=true):CallR X (.builtin "sorted") (zwk K):=by
 subst h
 intro pins s Y H xs us Q I r h
 obtain ⟨a,ns,rfl,hx,hz,q⟩:=h
 obtain ⟨u,rfl,r1⟩:=zoe r
 cases r1
 rcases hx with hx|⟨kvs,hx,hk⟩
 ·obtain ⟨its,rv,p,hz'⟩:=I.list hx
  have hi:IntsAre its ns:=zp6 rv
  refine sorted_ints p.isList hi (by rw [rv.length.symm,uA];exact hz) λ out ns' a1 a2 a3=>?_
  obtain ⟨e,he⟩:=sortedAll_at s.heap its out
  refine ⟨.ref _,upd H (s.heap.objs.size+1) (.lst (ns'.map V.int)),I.laid (a:=s.heap.objs.size+1) (t':=s.toks) (λ b o=>sortedAll_old) (xG _) ?_,rfl,q ns' a2 a3 _ (I.hok.fresh (xG _))⟩
  refine ⟨by rw [uA,a2.length_eq,sizeLine_eq];lia,out.toList,e,zj6 a1,?_⟩
  simpa [seqObj] using he
 ·obtain ⟨z,hd,vs0,r0,dd⟩:=zdo I.hok hx
  obtain ⟨ep,hat⟩:=dd.dictAt
  have hlen:vs0.length=ns.length:=by
   have h1:=r0.length
   have h2:=congrArg u8 hk
   rw [uA,uA] at h2
   lia
  refine Calls.call_function_entry kind_sorted plain_sorted entry_sorted (args_sorted1 _) ?_
  unfold Builtin.«sorted»
  refine wpAny_bind (m:=checkCount "sorted" 1 1 _) (wpAny_pure ?_)
  refine wpAny_bind (PySem.W.kdu_collect (A:=X.A.in1) (PySem.W.kdl_dict (knd:=zu0 X.prog X.w) (kvs:=vs0) (ep:=ep) hd) (I.ok.hd hc) hat (by rw [sizeLine_eq];lia) λ h' tk acc hk' hacc=>?_)
  have hl:acc.toList.length=vs0.length:=by rw [vX];exact hacc.1
  have hI:IntsAre acc.toList ns:=ztb (by rw [hl,hlen]) λ j v i e1 e2=>by
   obtain ⟨k,x,e3,e4⟩:=hacc.2 j v (by rw [<- xX];exact e1)
   have:k=.inl i:=by
    have e5:(kvs.map (·.1))[j]?=some k:=by
     have kk:∀ {l:List (Key×V)} {m:List (Key×Value)} {j:Nat} {k x},KV l m->m[j]?=some (k,x)->(l.map (·.1))[j]?=some k:=by
      intro l m j k x r
      unfold KV at r
      induction r generalizing j with
     |nil=>intro e;simp at e
     |cons h t ih =>
       intro e
       cases j with
      |zero=>simp at e;simp [h.1,e]
      |succ j=>simp at e ⊢;simpa using ih e
     exact kk r0 e3
    rw [hk,uI,e2] at e5
    simpa using e5.symm
   subst this
   exact zga e4
  refine wpAny_bind (wpAny_newList ?_ (by rw [hl,sizeLine_eq];lia))
  have hoL:(h'.push { cls:=.type "list",data:=.seq acc.toList.toArray }).get? h'.objs.size=some (seqObj "list" acc.toList.toArray 0):=uT _ rfl
  refine wpAny_bind (wpAny_holding (wpAny_call_entry slot_list_sort ⟨_,hoL,rfl⟩ entry_list_sort (list_sort_tree hoL hI (by rw [hl];lia) λ out ns' a1 a2 a3=>⟨_,rfl,?_⟩) (args_list_sort _)))
  refine wpAny_pure ⟨_,rfl,?_⟩
  obtain ⟨e,he⟩:=sortedHeap_at (out:=out) hoL
  have I2:=I.kept (t':=tk) hk'
  refine ⟨.ref _,upd H h'.objs.size (.lst (ns'.map V.int)),I2.laid (a:=h'.objs.size) (t':=tk) (λ b o ho=>?_) (uF _) ?_,rfl,q ns' a2 a3 _ (I2.hok.fresh (uF _))⟩
  ·have hlt:=uN ho
   rw [sortedHeap_old (uY hlt) (by rw [size_push'];exact w9 hlt)]
   exact uH _ ho
  ·refine ⟨by rw [uA,a2.length_eq,sizeLine_eq];lia,out.toList,e,zj6 a1,?_⟩
   simpa [seqObj] using he
end
end _3
namespace _4
open PySem PySem.Spec PyProof.Rows _2 _3
section
variable {K:Fg} {te ta ti tv tk tb:TE} {de da di dk db:DE} {dc:DC} {dp:DP} {tA:TA} {dA:DF}
theorem zxl {F:Hp}:∀ (ns:List Int),IsAll K F (ns.map V.int) (ns.map uC)
|[]=>.nil
|n :: r=>.cons (.int n) (zxl r)
theorem KvIs.keys {F:Hp}:∀ {kvs:List (Key×V)} {ds:List (Key×D)},KvIs K F kvs ds->kvs.map (·.1)=ds.map (·.1):=by
 intro kvs ds h
 induction h with
|nil=>rfl
|cons a r ih=>simp_all
def zxm (u:T) (Q:List D->Prop):Prop:=match u with
|.dk kvs=>∃ ns:List Int,kvs.map (·.1)=ns.map uO/\ns.length < 64/\∀ ns':List Int,ns'.Perm ns->ns'.Pairwise (·<=·)->Q (ns'.map .int)
|_=>False
def zfq (dp:DP):DF:=λ U Q=>dp U λ _ _ u=>zxm u Q
theorem znp (hp:RfP K ta dp):RfF K (tCB (zwk K) (zu7 ta tNil)) (zfq dp):=by
 intro F H Y U Qd Q s rv h k
 refine hp s rv h λ i p u hu v F2 H2 e2 at2=>?_
 obtain ⟨fn,hr⟩:=at2.rt (rv.ext e2)
 cases hr with
|dk h1 h2 h3 =>
  obtain ⟨ns,ek,hz,q⟩:=hu
  refine ⟨_,ns,rfl,.inr ⟨_,h1,by rw [<- ek];exact h3.keys⟩,hz,λ ns' p1 p2 l hl=>?_⟩
  obtain ⟨ex,fn⟩:=zy2 (xs:=ns'.map V.int) e2.fh hl
  have hn:H l=none:=by
   cases z:H l with
  |none=>rfl
  |some o=>rw [e2.h l o z] at hl;cases hl
  exact k _ (q ns' p1 p2) l _ F2 _ (e2.trans ex) hn zi0 fn (zxl ns')
|fz _=>exact hu.elim
|li _ _ _=>exact hu.elim
|ls _ _ _=>exact hu.elim
|ob _ _ _ _ _=>exact hu.elim
|dt _ _ _=>exact hu.elim
|tp _ _ _ _=>exact hu.elim
|wh=>exact hu.elim
|dd _ _ _ _=>exact hu.elim
theorem zmn (dp:DP) (U:DSt) (Q:List D->Prop):zfq dp U Q=(dp U λ _ _ u=>zxm u Q):=rfl
theorem zzo (kvs:List (Key×D)) (Q:List D->Prop):zxm (.dk kvs) Q=∃ ns:List Int,kvs.map (·.1)=ns.map uO/\ns.length < 64/\∀ ns':List Int,ns'.Perm ns->ns'.Pairwise (·<=·)->Q (ns'.map .int):=rfl
end
end _4
namespace _3
open PySem PySem.Spec PyProof.Rows _2
structure TopDefN (K:Fg) (x:Str) (st:Stmt):Prop where
 ex:∃ (f T:Addr) (oc:Value) (od:Option Addr) (kV doc pm:Value) (an:Option Addr) (cdv ct:Value) (osl:Array (Option Value)) (o:Obj) (n:Nat),PySem.W.nsIn K mainGlobals x=some (some (.ref f)) /\
  K.lookup f=some ⟨oc,od,.func (PySem.W.fnOf x x (zg4 st) (zw1 st) (zf0 st) (.ref T) kV doc pm an cdv ct),osl⟩/\PySem.W.codeIn K cdv x=true/\PySem.W.keepIn K (.ref f)=true/\K.lookup T=some o/\o.data=.seq #[.none] n
theorem zlg {K:Fg} {x:Str} {st:Stmt} {f T:Addr} {oc:Value} {od an:Option Addr} {osl:Array (Option Value)} {kV doc pm cdv ct:Value} {o:Obj} {n:Nat} (a:PySem.W.nsIn K mainGlobals x=some (some (.ref f)))
  (l:K.lookup f=some ⟨oc,od,.func (PySem.W.fnOf x x (zg4 st) (zw1 st) (zf0 st) (.ref T) kV doc pm an cdv ct),osl⟩) (c:PySem.W.codeIn K cdv x=true) (k:PySem.W.keepIn K (.ref f)=true) (lt:K.lookup T=some o) (hd:o.data=.seq #[.none] n):TopDefN K x st :=
 ⟨f,T,oc,od,kV,doc,pm,an,cdv,ct,osl,o,n,a,l,c,k,lt,hd⟩
def DefN (P:Program) (w:World) (K:Fg) (mg:Str->Option Value) (base:Heap) (x:Str) (k:Nat) (ps:List Str) (sp:Sp):Prop :=
 ∃ f fd,FnOk P w K mg base CX0 k f fd ps sp/\Binds K fd ps []/\Binds K fd ps [.none]/\PySem.W.keepIn K (.ref f)=true/\mg x=some (.ref f)
theorem DefN.d {P:Program} {w:World} {K:Fg} {mg:Str->Option Value} {base:Heap} {x:Str} {k:Nat} {ps:List Str} {sp:Sp} (h:DefN P w K mg base x k ps sp):Def P w K mg base x k ps sp:=by
 obtain ⟨f,fd,F,b,_,kp,m⟩:=h
 exact ⟨f,fd,F,b,kp,m⟩
abbrev zfe (x:Str) (st:Stmt) (ps:List Str) (ds:List Value) (qs:List Str):Prop :=
 ∀ (T:Addr) (kV doc pm:Value) (an:Option Addr) (cdv ct:Value) (us:List Value),us.length=qs.length->∃ k:Option (Array Value)->Sem (List (Str×Value)),bindArgs (PySem.W.fnOf x x (zg4 st) (zw1 st) (zf0 st) (.ref T) kV doc pm an cdv ct) ⟨us,[]⟩=seqItems? (.ref T) >>= k/\k (some #[.none])=pure (ps.zip (us++ds))
section
variable {P:Program} {w:World} {K:Fg} {mg:Str->Option Value} {base:Heap}
theorem zru {x:Str} {st:Stmt} {N ps:List Str} {k:Nat} {sp:Sp} (M:Md K mg) (T:TopDefN K x st) (S:FnScope N ps (zf0 st)) {qs:List Str} (hq:ps.length=qs.length+1) (hb:zfe x st ps [] ps) (hn:zfe x st ps [.none] qs) (len:∀ vs H Q E,sp vs H Q E->vs.length=ps.length)
  (body:zu4 P w K mg base x st N k sp):DefN P w K mg base x (k+1) ps sp:=by
 obtain ⟨f,t,oc,od,kV,doc,pm,an,cdv,ct,osl,o,n,a,lk,hcd,kp,lt,hd⟩:=T.ex
 refine ⟨f,_,zz31 lk hcd S len λ A outer s H vs Q E hr hsp=>?_,λ s us kin hl=>?_,λ s us kin hl=>?_,kp,M.got a⟩
 ·obtain ⟨t,h,q⟩:=body f cdv A outer s H vs Q E hr hsp
  exact ⟨t,PSs.nox h,q⟩
 ·obtain ⟨kk,e1,e2⟩:=hb t kV doc pm an cdv ct us (by simpa using hl)
  exact PySem.W.binds_K kin rfl lt hd e1 e2
 ·obtain ⟨kk,e1,e2⟩:=hn t kV doc pm an cdv ct us (by rw [vA] at hl;simp only [xI] at hl;lia)
  exact PySem.W.binds_K kin rfl lt hd e1 e2
end
section
variable {X:Cx} {k:Nat} {C:Addr} {ps:List Str} {sp:Sp} {x m:Str} {p pos apos:Pos} {e o:Expr} {es:List Expr} {ta:TE} {t:TA}
end
end _3
namespace _4
open PySem PySem.Spec PyProof.Rows _2 _3
section
variable {K:Fg} {te ta ti tv tk tb:TE} {de da di dk db:DE} {dc:DC} {dp:DP} {tA:TA} {dA:DF}
end
section
variable {K:Fg} {tA:TA} {dA:DF}
end
end _4
namespace _5
open PySem PySem.Spec PyProof.Rows _2 _3 _4
theorem ar1 {α:Type} {us:List α} (h:us.length=1):∃ a,us=[a]:=by
 rcases us with _|⟨a,_|⟨b,us⟩⟩
 ·cases h
 ·exact ⟨a,rfl⟩
 ·cases h
theorem ars {α:Type} {n:Nat} {us:List α} (h:us.length=n+1):∃ a r,us=a :: r/\r.length=n:=by
 rcases us with _|⟨a,us⟩
 ·cases h
 ·exact ⟨a,us,rfl,Nat.succ.inj h⟩
theorem ar2 {α:Type} {us:List α} (h:us.length=2):∃ a b,us=[a,b]:=by
 obtain ⟨a,r,rfl,k⟩:=ars h
 obtain ⟨b,rfl⟩:=ar1 k
 exact ⟨a,b,rfl⟩
theorem ar3 {α:Type} {us:List α} (h:us.length=3):∃ a b c,us=[a,b,c]:=by
 obtain ⟨a,r,rfl,k⟩:=ars h
 obtain ⟨b,c,rfl⟩:=ar2 k
 exact ⟨a,b,c,rfl⟩
theorem ar4 {α:Type} {us:List α} (h:us.length=4):∃ a b c d,us=[a,b,c,d]:=by
 obtain ⟨a,r,rfl,k⟩:=ars h
 obtain ⟨b,c,d,rfl⟩:=ar3 k
 exact ⟨a,b,c,d,rfl⟩
theorem ar5 {α:Type} {us:List α} (h:us.length=5):∃ a b c d e,us=[a,b,c,d,e]:=by
 obtain ⟨a,r,rfl,k⟩:=ars h
 obtain ⟨b,c,d,e,rfl⟩:=ar4 k
 exact ⟨a,b,c,d,e,rfl⟩
section
variable {prog:Program} {w:World} {A:Around} {E:Value->Shared->Prop}
end
section
variable {prog:Program} {w:World} {A:Around} {R:Result->Shared->Prop} {I:Addr} {fp wr:List Addr} {n:Nat} {P:Nat->Value->Prop} {St:Nat->Heap->Prop} {d:Value}
abbrev mxC (I S:Addr) (d:Value):Code:=.builtin "max.loop" ⟨[.ref I,.none,.ref S],[("default",d)]⟩
theorem zgx:(toString "max"++toString ".loop":String) = "max.loop":=by decide
theorem zg71 (W:Walks prog w A.in1 I fp wr n P St) (bt:Nat->Nat->Bool) (cm:CmpOf prog w A.in1 .Gt P bt) (S:Addr) (sf:S ∉ fp) :
  ∀ (k j:Nat) (s:Shared) (b:Value) (c:Nat),n - (j+1)=k->j+1<=n->St (j+1) s.heap->P (argBest bt j) b ->
  s.heap.get? S=some { cls:=.type "list",dict:=none,data:=.seq #[b,b] c,slots:=#[] } ->
  (∀ v g t,P (argBest bt (n - 1)) v->(∀ a o,a ∉ S :: wr->s.heap.get? a=some o->g.get? a=some o)->R (.ok (.ret v)) { s with heap:=g,toks:=t })->codeAny (model prog w) A (mxC I S d) R s:=by
 have sw:S ∉ wr:=λ h=>sf (W.sub _ h)
 have ns:∀ {a:Addr},a ∉ S :: wr->S≠a/\a ∉ wr:=λ h=>⟨λ z=>h (by rw [z];exact vK),λ z=>h (vB _ z)⟩
 intro k
 induction k with
|zero =>
  intro j s b c hk hj st pb hS q
  have e:j+1=n:=by lia
  refine codeAny_builtin F.entry_max_loop ?_
  rw [Around.under_plainId F.plain_max_loop _]
  show wpAny _ _ (seqItems? (.ref S) >>= _) _ _ s
  refine wpAny_bind (wpAny_seqItems hS rfl ?_)
  show wpAny _ _ (tryCatch (pyNext (.ref I)) _ >>= _) _ _ s
  refine wpAny_bind (wpAny_tryCatch (W.done s _ _ (e ▸ st) λ g t mv=>?_))
  have hS2:=mv S _ sw hS
  show wpAny _ _ (updateSeq S (λ _=>#[]) >>= _) _ _ _
  refine wpAny_bind (wpAny_updateSeq hS2 rfl (wpAny_bind (wpAny_letGo (wpAny_pure ?_))))
  exact q b _ _ (by rw [<- e];exact pb) λ a o ha z=>(wQ _ _ (ns ha).1).trans (mv a o (ns ha).2 z)
|succ k ih =>
  intro j s b c hk hj st pb hS q
  have lt:j+1 < n:=by lia
  refine codeAny_builtin F.entry_max_loop ?_
  rw [Around.under_plainId F.plain_max_loop _]
  show wpAny _ _ (seqItems? (.ref S) >>= _) _ _ s
  refine wpAny_bind (wpAny_seqItems hS rfl ?_)
  show wpAny _ _ (tryCatch (pyNext (.ref I)) _ >>= _) _ _ s
  refine wpAny_bind (wpAny_tryCatch (W.item (j+1) s _ _ lt st λ v g t pv st2 mv=>?_))
  have hS2:=mv S _ sw hS
  show wpAny _ _ (tryCatch (holding [v,v] (richCompare .Gt v b >>= _)) _ >>= _) _ _ _
  refine wpAny_bind (wpAny_tryCatch (wpAny_holding (wpAny_bind (cm (j+1) (argBest bt j) v b _ _ _ pv pb ?_))))
  refine wpAny_bind (wpAny_holding (wpAny_truthy_bool ?_))
  refine wpAny_bind (wpAny_letGo (wpAny_pure ?_))
  cases hb:bt (j+1) (argBest bt j) with
 |true =>
   rw [if_pos rfl]
   refine wpAny_bind (wpAny_updateSeq hS2 rfl (wpAny_bind (wpAny_letGo ?_)))
   rw [zgx]
   refine wpAny_pure ⟨plainId_quiet F.plain_max_loop _,ih (j+1) _ v _ (by lia) lt (W.frame _ _ _ st2 λ a hf o z=>?_) (by simp only [argBest,hb,if_true];exact pv) (xH _ hS2 rfl) λ v2 g2 t2 p2 mv2=>?_⟩
   ·exact (wQ _ _ (λ h:S=a=>sf (by rw [h];exact hf))).trans z
   ·exact q v2 g2 t2 p2 λ a o ha z=>mv2 a o ha ((wQ _ _ (ns ha).1).trans (mv a o (ns ha).2 z))
 |false =>
   rw [if_neg (by simp)]
   refine wpAny_bind (wpAny_letGo ?_)
   rw [zgx]
   refine wpAny_pure ⟨plainId_quiet F.plain_max_loop _,ih (j+1) _ b c (by lia) lt st2 (by simp only [argBest,hb,wL,if_false];exact pb) hS2 λ v2 g2 t2 p2 mv2=>?_⟩
   exact q v2 g2 t2 p2 λ a o ha z=>mv2 a o ha (mv a o (ns ha).2 z)
theorem zf51 (W:Walks prog w A.in1 I fp wr n P St) (bt:Nat->Nat->Bool) (cm:CmpOf prog w A.in1 .Gt P bt) (S:Addr) (sf:S ∉ fp) {s:Shared} {c:Nat} (st:St 0 s.heap)
  (hS:s.heap.get? S=some { cls:=.type "list",dict:=none,data:=.seq #[] c,slots:=#[] })
  (q:∀ v g t,(if n=0 then v=d else P (argBest bt (n - 1)) v)->(∀ a o,a ∉ S :: wr->s.heap.get? a=some o->g.get? a=some o)->R (.ok (.ret v)) { s with heap:=g,toks:=t }):codeAny (model prog w) A (mxC I S d) R s:=by
 have sw:S ∉ wr:=λ h=>sf (W.sub _ h)
 have ns:∀ {a:Addr},a ∉ S :: wr->S≠a/\a ∉ wr:=λ h=>⟨λ z=>h (by rw [z];exact vK),λ z=>h (vB _ z)⟩
 refine codeAny_builtin F.entry_max_loop ?_
 rw [Around.under_plainId F.plain_max_loop _]
 show wpAny _ _ (seqItems? (.ref S) >>= _) _ _ s
 refine wpAny_bind (wpAny_seqItems hS rfl ?_)
 show wpAny _ _ (tryCatch (pyNext (.ref I)) _ >>= _) _ _ s
 rcases zN n with z|z
 ·refine wpAny_bind (wpAny_tryCatch (W.done s _ _ (z ▸ st) λ g t mv=>?_))
  refine wpAny_bind (wpAny_rule (wpAny_pure ?_))
  exact q d g t (by rw [if_pos z]) λ a o ha e=>mv a o (ns ha).2 e
 ·refine wpAny_bind (wpAny_tryCatch (W.item 0 s _ _ z st λ v g t pv st2 mv=>?_))
  have hS2:=mv S _ sw hS
  show wpAny _ _ (updateSeq S (λ _=>#[v,v]) >>= _) _ _ _
  refine wpAny_bind (wpAny_updateSeq hS2 rfl ?_)
  rw [zgx]
  refine wpAny_pure ⟨plainId_quiet F.plain_max_loop _,zg71 W bt cm S sf _ 0 _ v _ rfl z (W.frame _ _ _ st2 λ a hf o e=>?_) pv (xH _ hS2 rfl) λ v2 g2 t2 p2 mv2=>?_⟩
  ·exact (wQ _ _ (λ h:S=a=>sf (by rw [h];exact hf))).trans e
  ·exact q v2 g2 t2 (by rw [if_neg (by lia)];exact p2) λ a o ha e=>mv2 a o ha ((wQ _ _ (ns ha).1).trans (mv a o (ns ha).2 e))
theorem znq (a d:Value):argsOk "max" ⟨[a],[("default",d)]⟩:=by unfold argsOk;kernel_rfl
theorem zi51 {s:Shared} {E:Value->Shared->Prop} {id:String} {b:Builtin} {us:List Value} {kw:List (Str×Value)} {Q:Value->Shared->Prop} (k1:builtinKind id=none) (k2:plainId id=true) (k3:entryFor table id=some b) (k4:argsOk id ⟨us,kw⟩)
  (h:wpAny (model prog w) A.in1 (b ⟨us,kw⟩) (λ fin s'=>match fin with
  |.done f=>(match (Except.ok f:Result) with|.ok (.ret v)=>Q v s'|.ok _=>False|.error e=>E e s')
  |.again c=>c.quiet=true/\codeAny (model prog w) A c (λ r s'=>match r with|.ok (.ret v)=>Q v s'|.ok _=>False|.error e=>E e s') s') E s):wpAny (model prog w) A (call (.builtin id) us kw) Q E s:=by
 refine wpAny_call (codeAny_call_builtin k2 k3 ?_)
 simp only [checkBuiltinCall,k1]
 cases hs:Manifest.signature? id with
|none=>exact wpAny_pure h
|some sg =>
  simp only [argsOk,hs] at k4
  show wpAny _ _ (Bind.checkArgs id sg ⟨us,kw⟩) _ _ s
  rw [show Bind.checkArgs id sg ⟨us,kw⟩=pure () from k4]
  exact wpAny_pure h
theorem zgr (d:Value):Builtin.Builtins.bindParams "max" ["key", "default"] 0 ⟨[],[("default",d)]⟩=pure [none,some d]:=rfl
theorem zzq {s:Shared} {E:Value->Shared->Prop} {l:Addr} {xs:Array (Int×Nat)} {Q:Value->Shared->Prop} (hh:A.handled=none) (hl:s.heap.IsList l (intItems xs))
  (h:∀ v g t,(if xs.size=0 then v=d else (intItems xs)[argBest (λ i j=>decide (numAt xs i > numAt xs j)) (xs.size - 1)]?=some v)->(∀ b o,s.heap.get? b=some o->g.get? b=some o)->Q v { s with heap:=g,toks:=t }) :
  wpAny (model prog w) A (call (.builtin "max") [.ref l] [("default",d)]) Q E s:=by
 refine zi51 F.kind_max F.plain_max F.entry_max (znq _ _) ?_
 show wpAny _ _ (Builtin.Builtins.bindParams "max" ["key", "default"] 0 ⟨[],[("default",d)]⟩ >>= _) _ _ s
 rw [zgr]
 refine wpAny_bind (wpAny_pure (wpAny_bind (wpAny_pure ?_)))
 refine wpAny_bind (iter_intList hl λ s2 e st hf hI=>?_)
 subst e
 refine wpAny_bind (wpAny_newObj_type ?_)
 have sf:(s.heap.push { cls:=.type "list_iterator",data:=.fields #[.ref l,.int 0 0] }).objs.size ∉ [s.heap.objs.size,l]:=λ z=>vM _ (hf _ z)
 rw [zgx]
 have W:=Walks.list (prog:=prog) (w:=w) (A:=A.in1) hh s.heap.objs.size l hI (intItems xs)
 refine wpAny_pure ⟨plainId_quiet F.plain_max_loop _,zf51 W _ (CmpOf.ints_gt (numAt xs) (λ _ _=>intItems_at)) _ sf (W.frame 0 _ _ st λ b _ o e=>uH _ e) (uT _ rfl) λ v g t hv mv=>?_⟩
 refine h v g t ?_ λ b o e=>?_
 ·simpa [intItems] using hv
 ·have lb:b < s.heap.objs.size:=uN e
  refine mv b o (λ z=>?_) (uH _ (uH _ e))
  rcases uE.mp z with z|z
  ·rw [z,vD] at lb;exact Nat.not_lt_of_le (xG _) lb
  ·simp at z;rw [z] at lb;exact vM _ lb
end
section
variable {X:Cx} {x:Str} {p pos kp:Pos} {e e2:Expr} {te te2:TE}
def rMxD (K:Fg) (v u:V) (H:Hp) (Q:VK):Prop:=∃ (a:Addr) (ns:List Int),v=.ref a/\SqL K H a (ns.map V.int)/\(ns=[]->Q u H)/\(ns≠[]->∀ M∈ns,(∀ y∈ns,y<=M)->Q (.int M) H)
def tMxD (K:Fg) (te te2:TE):TE:=λ Y H Q=>te Y H λ v H1=>te2 Y H1 λ u H2=>rMxD K v u H2 Q
theorem zc01 {K:Fg} (hK:X.K=K) (hc:X.calm=true) (hg:Gl X x) (hm:X.mg x=none) (hv:bootBuiltins x=some (.builtin "max")) (h1:PE X e te) (h2:PE X e2 te2) (hn:x ≠ "__name__":=by decide) (hdb:(x == ("__debug__":Str))=false:=by decide)
  (he:starEach [e] X.env=(false,eval e X.env) :: starEach [] X.env:=by rfl):PE X (.Call (.Name x p) [e] [⟨some "default",e2,kp⟩] pos) (tMxD K te te2):=by
 subst hK
 intro pins s Y H Q I h
 refine wpAny_Call_Name_kw (zg9 I hg hm hv ?_ hn hdb)
 refine PyProof.Rows.callWith_kw (thn (za0 h1 zh0 he pos pins s Y H (λ vs H1=>match vs with|[v]=>te2 Y H1 λ u H2=>rMxD X.K v u H2 Q|_=>False) I ?_) λ us s1 ⟨vs,H1,I1,r1,q1⟩=>?_) (by rw [he];rfl) (by rw [he];rfl) rfl rfl
 ·exact h
 rcases vs with _|⟨v,_|⟨v2,vr⟩⟩
 ·exact False.elim q1
 rotate_left
 ·exact False.elim q1
 obtain ⟨uv,rfl,r5⟩:=zoe r1
 refine thn (zpt (nm:=some "default") (kpos:=kp) h2 zm01 pos pins s1 Y H1 (λ zs H2=>match zs with|[u]=>rMxD X.K v u H2 Q|_=>False) I1 ?_) λ ws s2 ⟨zs,H2,I2,rz,q2⟩=>?_
 ·exact q1
 rcases zs with _|⟨u,_|⟨u2,ur⟩⟩
 ·exact False.elim q2
 rotate_left
 ·exact False.elim q2
 obtain ⟨ud,rfl,rd⟩:=zoe rz
 obtain ⟨a,ns,rfl,hx,qe,qn⟩:=q2
 cases r5
 obtain ⟨its,rv,pl,hz⟩:=I2.list hx
 have hi:IntsAre its ns:=zp6 rv
 obtain ⟨ys,hy⟩:=hi.allInts.items
 have hl:s2.heap.IsList a (intItems ys):=hy ▸ pl.isList
 have e1:ns=ys.toList.map (·.1):=by
  rw [<- nums_intItems,<- hy]
  exact (show numsOf its.toArray.toList=ns from hi.numsOf).symm
 show wpAny _ _ (call (.builtin "max") [.ref a] [("default",ud)]) _ _ s2
 refine zzq (I2.ok.hd hc) hl λ v g t hv' hk=>?_
 by_cases z:ys.size=0
 ·rw [if_pos z] at hv'
  subst hv'
  have en:ns=[]:=by rw [e1];exact x6.mpr (zO (by simpa using z))
  exact ⟨u,H2,I2.kept hk,rd,qe en⟩
 ·rw [if_neg z] at hv'
  obtain ⟨t',rfl⟩:=intItems_at hv'
  obtain ⟨h1',h2'⟩:=argBest_gt (numAt ys) (ys.size - 1)
  have hne:ns≠[]:=λ q=>z (by
   have:=congrArg u8 e1
   rw [q,uA,vX] at this
   simpa using this.symm)
  refine ⟨.int _,H2,I2.kept hk,⟨_,rfl⟩,qn hne _ ?_ λ x hx'=>?_⟩
  ·rw [numAt_eq,e1];exact getD_mem (by rw [uA,vX];lia)
  ·rw [e1] at hx'
   obtain ⟨j,hj,rfl⟩:=mem_getD hx'
   rw [uA,vX] at hj
   rw [<- numAt_eq];exact h2' j (by lia)
end
section
variable {K:Fg} {te te2:TE} {df:DE} {dd:DE}
def dMxD (df dd:DE):DE:=λ U Q=>df U λ l=>dd U λ x=>∃ ds ns,l=.list ds/\zgj ds=some ns/\(ns=[]->Q x)/\(ns≠[]->∀ M∈ns,(∀ y∈ns,y<=M)->Q (.int M))
theorem zm21 (df dd:DE) (U:DSt) (Q:D->Prop):dMxD df dd U Q=(df U λ l=>dd U λ x=>∃ ds ns,l=.list ds/\zgj ds=some ns/\(ns=[]->Q x)/\(ns≠[]->∀ M∈ns,(∀ y∈ns,y<=M)->Q (.int M))):=rfl
theorem zf01 (h1:RfE K te df) (h2:RfE K te2 dd):RfE K (tMxD K te te2) (dMxD df dd):=by
 intro F H Y U Qd Q s rv h k
 refine h1 s rv h λ l hl v F1 H1 e1 i1=>h2 e1.fh (rv.ext e1) hl λ x hx u F2 H2 e2 i2=>?_
 obtain ⟨ds,ns,rfl,hn,qe,qn⟩:=hx
 obtain ⟨a,xs,rfl,sq,ia⟩:=(i1.mono e2.f).list_inv
 have ex:=zf9 ia hn
 subst ex
 have e12:=e1.trans e2
 exact ⟨a,ns,rfl,e2.fh.seq sq,λ z=>k _ (qe z) _ F2 H2 e12 i2,λ z M hM hy=>k _ (qn z M hM hy) _ F2 H2 e12 (.int M)⟩
end
section
variable {P:Program} {w:World} {K:Fg} {mg:Str->Option Value} {base:Heap} {m:Str} {k:Nat} {ta:TE} {tA:TA} {dn:DN} {dA:DF}
end
section
variable {P:Program} {w:World} {K:Fg} {mg:Str->Option Value} {base:Heap} {m:Str} {k:Nat} {ta tk tx:TE} {tA:TA} {dp:DP} {dk dx:DE} {dA:DF}
def zhx (u:T) (k x:D) (Q:D->Prop):Prop:=match u with
|.dk kvs=>∃ key,keyD k=some key/\Q ((getA kvs key).getD x)
|.dt kvs=>∃ key,keyT k=some key/\Q ((getA kvs key).getD x)
|_=>False
def zs21 (dp:DP) (dk dx:DE):DE:=λ U Q=>dp U λ _ _ u=>tyN "dict" u/\dk U λ k=>dx U λ x=>zhx u k x Q
theorem zvr (dp:DP) (dk dx:DE) (U:DSt) (Q:D->Prop):zs21 dp dk dx U Q=(dp U λ _ _ u=>tyN "dict" u/\dk U λ k=>dx U λ x=>zhx u k x Q):=rfl
theorem zxs {F H:Hp} {v kv xv:V} {u:T} {fn:List Addr} {k x:D} {Qd:D->Prop} {Q:VK} (s:Same F H) (hr:Rt K F H v u fn) (hk:Is K F kv k) (hx:Is K F xv x) (hf:zhx u k x Qd) (q:∀ d y,Qd d->Is K F y d->Q y H):zgo v [kv,xv] H Q:=by
 cases hr with
|dk h1 h2 h3 =>
  obtain ⟨key,ek,qd⟩:=hf
  have:=zm9 hk ek
  subst this
  rcases h3.get (k:=key) with ⟨g1,g2⟩|⟨d',y,g1,g2,g3⟩
  ·rw [g1] at qd
   exact ⟨_,_,_,none,rfl,rfl,by rw [<- g2];exact DGet.k h1,q _ _ qd hx⟩
  ·rw [g1] at qd
   exact ⟨_,_,_,some y,rfl,rfl,by rw [<- g2];exact DGet.k h1,q _ _ qd g3⟩
|dt h1 h2 h3 =>
  obtain ⟨key,ek,qd⟩:=hf
  obtain ⟨kb,rfl,hb⟩:=zxd hk ek
  rcases h3.get (k:=key) with ⟨g1,g2⟩|⟨d',y,g1,g2,g3⟩
  ·rw [g1] at qd
   exact ⟨_,_,_,none,rfl,rfl,by rw [<- g2];exact DGet.t h1 (s _ _ hb),q _ _ qd hx⟩
  ·rw [g1] at qd
   exact ⟨_,_,_,some y,rfl,rfl,by rw [<- g2];exact DGet.t h1 (s _ _ hb),q _ _ qd g3⟩
|fz _=>exact hf.elim
|li _ _ _=>exact hf.elim
|ls _ _ _=>exact hf.elim
|ob _ _ _ _ _=>exact hf.elim
|tp _ _ _ _=>exact hf.elim
|wh=>exact hf.elim
|dd _ _ _ _=>exact hf.elim
theorem zbw (hp:RfP K ta dp) (hk:RfE K tk dk) (hx:RfE K tx dx):RfE K (tBMU K "dict" zgo ta (zu7 tk (zu7 tx tNil))) (zs21 dp dk dx):=by
 intro F H Y U Qd Q s rv hd kk
 refine hp s rv hd λ i p u hu v F1 H1 e1 at1=>?_
 have rv1:=rv.ext e1
 obtain ⟨fn,hr⟩:=at1.rt rv1
 refine ⟨zyx hr hu.1,hk e1.fh rv1 hu.2 λ kd hkd kv F2 H2 e2 i2=>hx e2.fh (rv1.ext e2) hkd λ xd hxd xv F3 H3 e3 i3=>?_⟩
 have e13:=(e1.trans e2).trans e3
 exact zxs e3.fh ((hr.ext e2).ext e3) (i2.mono e3.f) i3 hxd λ d y qd iy=>kk d qd y F3 H3 e13 iy
end
end _5
namespace _3
open PySem PySem.Spec PyProof.Rows _2
section
variable {s:Shared} {w:World} {prog:Program} {E:Value->Shared->Prop} {A:Around}
end
section
variable {X:Cx} {pins:List (Addr×Obj)} {Y:_2.St} {H:Hp} {s:Shared} {a:Addr} {u:HO} {o:Obj}
end
section
variable {X:Cx} {elts:List Expr}
end
end _3
namespace _4
open PySem PySem.Spec PyProof.Rows _2 _3
section
variable {K:Fg} {ta:TE} {dp:DP}
end
end _4
namespace _3
open PySem PySem.Spec PyProof.Rows _2
section
variable {s:Shared} {w:World} {prog:Program} {E:Value->Shared->Prop} {A:Around}
end
end _3
namespace _4
open PySem PySem.Spec PyProof.Rows _2 _3
section
variable {K:Fg}
end
end _4
namespace _3
open PySem PySem.Spec PyProof.Rows _2
section
variable {s:Shared} {w:World} {prog:Program} {E:Value->Shared->Prop} {A:Around} {Ky:Type} [DecidableEq Ky] {knd:HeapKind prog w Ky}
end
end _3
namespace _4
open PySem PySem.Spec PyProof.Rows _2 _3
section
variable {K:Fg} {ta tb ti tk tx:TE} {dp dq:DP} {dk dy dz:DE}
def zu21 {κ:Type} [DecidableEq κ] (kvs:List (κ×D)) (k:κ):List (κ×D):=kvs.filter λ kv=>decide (kv.1≠k)
theorem KvIs.drop {κ:Type} [DecidableEq κ] {F:Hp} {k:κ}:∀ {r:List (κ×V)} {s:List (κ×D)},KvIs K F r s->KvIs K F (zbi r k) (zu21 s k)
|_,_,.nil=>.nil
|_,_,.cons (k:=k') (r:=r) (s:=s) h t=>by
  unfold zbi zu21
  by_cases e:k'=k
  ·rw [x8 (by simp [e]),x8 (by simp [e])]
   exact t.drop
  ·rw [yV (by simp [e]),yV (by simp [e])]
   exact .cons h t.drop
end
end _4
namespace _5
def xr (s:Nat):Nat:=if s % 2=0 then s+1 else s - 1
theorem ztx (s:Nat):xr (xr s)=s:=by unfold xr;split <;> split <;> lia
theorem ztw {s m:Nat} (h:s < 2 * m):xr s < 2 * m:=by unfold xr;split <;> lia
theorem zwy (s:Nat):xr s≠s:=by unfold xr;split <;> lia
def hd (E:List Nat) (s:Nat):Nat:=E.getD s 0
def tl (E:List Nat) (s:Nat):Nat:=hd E (xr s)
theorem zxw (E:List Nat) (s:Nat):tl E (xr s)=hd E s:=by unfold tl;rw [ztx]
theorem zus (E:List Nat) (s:Nat):hd E (xr s)=tl E s:=rfl
def lf (L:List Int) (s:Nat):Int:=L.getD s 0
structure Net (n m:Nat) (E:List Nat) (S:List (List Nat)):Prop where
 lE:E.length=2 * m
 bE:∀ s,s < 2 * m->hd E s < n
 lS:S.length=n
 s1:∀ (v:Nat) l,S[v]?=some l->∀ s∈l,s < 2 * m/\tl E s=v
 s2:∀ s,s < 2 * m->∃ l,S[tl E s]?=some l/\s∈l
def lkp (lv:List (Nat×Nat)) (v:Nat):Option Nat:=(lv.find? λ p=>decide (p.1=v)).map (·.2)
theorem zs8 {lv:List (Nat×Nat)} {u a v:Nat}:lkp (lv++[(u,a)]) v=match lkp lv v with
 |some b=>some b
 |none=>if u=v then some a else none:=by
 unfold lkp
 rw [List.find?_append]
 cases h:lv.find? λ p=>decide (p.1=v) with
|some x=>simp
|none =>
  by_cases e:u=v
  ·simp [e]
  ·simp [e]
theorem zfg {lv:List (Nat×Nat)} {v a:Nat} (h:lkp lv v=some a):(v,a)∈lv:=by
 unfold lkp at h
 obtain ⟨p,hp,e⟩:=u6.mp h
 have h1:=zP hp
 have h2:=List.find?_some hp
 simp at h2
 obtain ⟨p1,p2⟩:=p
 simp at h2 e
 subst h2 e
 exact h1
theorem zrc {lv:List (Nat×Nat)} {v:Nat} (h:lkp lv v=none):v ∉ lv.map (·.1):=by
 unfold lkp at h
 rw [Option.map_eq_none_iff,List.find?_eq_none] at h
 intro hm
 obtain ⟨p,hp,e⟩:=uM.mp hm
 have:=h p hp
 simp [e] at this
theorem zs0:∀ (n:Nat) (l:List Nat),l.Nodup->(∀ x∈l,x < n)->l.length<=n
|0,[],_,_=>uF _
|0,x :: r,_,h=>absurd (h x (by simp)) (by lia)
|n+1,l,nd,h=>by
  by_cases hm:n∈l
  ·have h1:(l.erase n).length=l.length - 1:=List.length_erase_of_mem hm
   have h2:(l.erase n).Nodup:=nd.erase n
   have h3:∀ x∈l.erase n,x < n:=λ x hx=>by
    have hx1:=(List.Nodup.mem_erase_iff nd).mp hx
    have:=h x hx1.2
    lia
   have:=zs0 n _ h2 h3
   lia
  ·have h3:∀ x∈l,x < n:=λ x hx=>by
    have:=h x hx
    have:x≠n:=λ e=>hm (e ▸ hx)
    lia
   have:=zs0 n l nd h3
   lia
structure Lev (n m:Nat) (E:List Nat) (L:List Int) (src:Nat) (lv:List (Nat×Nat)):Prop where
 nd:(lv.map (·.1)).Nodup
 bd:∀ p∈lv,p.1 < n
 l0:lkp lv src=some 0
 z0:∀ v,lkp lv v=some 0->v=src
 cl:∀ s,s < 2 * m->0 < lf L s->(lkp lv (tl E s)).isSome=true->(lkp lv (hd E s)).isSome=true
 pr:∀ v a,lkp lv v=some (a+1)->∃ s,s < 2 * m/\0 < lf L s/\hd E s=v/\lkp lv (tl E s)=some a
def Adm (E:List Nat) (L:List Int) (lv:List (Nat×Nat)) (s:Nat):Prop:=0 < lf L s/\∃ a,lkp lv (tl E s)=some a/\lkp lv (hd E s)=some (a+1)
inductive Rch (m:Nat) (E:List Nat) (L:List Int) (lv:List (Nat×Nat)) (t:Nat):Nat->Prop
|here:Rch m E L lv t t
|step {s:Nat}:s < 2 * m->Adm E L lv s->Rch m E L lv t (hd E s)->Rch m E L lv t (tl E s)
theorem zeb {n m:Nat} {E:List Nat} {L:List Int} {src:Nat} {lv:List (Nat×Nat)} (h:Lev n m E L src lv) {t:Nat}:∀ (a v:Nat),lkp lv v=some a->Rch m E L lv t v->Rch m E L lv t src
|0,v,e,r=>by rw [<- h.z0 v e];exact r
|a+1,v,e,r=>by
  obtain ⟨s,h1,h2,h3,h4⟩:=h.pr v a e
  refine zeb h a (tl E s) h4 (.step h1 ⟨h2,a,h4,by rw [h3];exact e⟩ (by rw [h3];exact r))
theorem Rch.mono {m:Nat} {E:List Nat} {L L':List Int} {lv:List (Nat×Nat)} {t v:Nat} (h:∀ s,s < 2 * m->Adm E L' lv s->Adm E L lv s) (r:Rch m E L' lv t v):Rch m E L lv t v:=by
 induction r with
|here=>exact .here
|step h1 h2 _ ih=>exact .step h1 (h _ h1 h2) ih
structure Tri (m:Nat) (E:List Nat) (S:List (List Nat)) (L:List Int) (lv:List (Nat×Nat)) (t:Nat) (TT:List (List Nat)):Prop where
 len:TT.length=S.length
 pre:∀ (v:Nat) l,TT[v]?=some l->∃ k,S[v]?=some k/\l <+: k
 vain:∀ (v:Nat) l k,TT[v]?=some l->S[v]?=some k->∀ (j:Nat) s,l.length<=j->k[j]?=some s->¬(Adm E L lv s/\Rch m E L lv t (hd E s))
theorem Tri.mono {m:Nat} {E:List Nat} {S:List (List Nat)} {L L':List Int} {lv:List (Nat×Nat)} {t:Nat} {TT:List (List Nat)} (h:∀ s,s < 2 * m->Adm E L' lv s->Adm E L lv s) (hS:∀ (v:Nat) k,S[v]?=some k->∀ s∈k,s < 2 * m) (r:Tri m E S L lv t TT):Tri m E S L' lv t TT :=
 ⟨r.len,r.pre,λ v l k h1 h2 j s hj hs z=>r.vain v l k h1 h2 j s hj hs ⟨h s (hS v k h2 s (vI hs)) z.1,z.2.mono h⟩⟩
theorem Tri.all {m:Nat} {E:List Nat} {S:List (List Nat)} {L:List Int} {lv:List (Nat×Nat)} {t:Nat}:Tri m E S L lv t S :=
 ⟨rfl,λ v l h=>⟨l,h,List.prefix_refl _⟩,λ v l k h1 h2 j s hj hs=>by
  rw [h1] at h2;cases h2
  rw [vF hj] at hs;cases hs⟩
theorem Tri.dead {n m:Nat} {E:List Nat} {S:List (List Nat)} {L:List Int} {lv:List (Nat×Nat)} {t:Nat} {TT:List (List Nat)} (N:Net n m E S) (r:Tri m E S L lv t TT) {v:Nat} (h:TT[v]?=some []) (hv:v≠t):¬ Rch m E L lv t v:=by
 intro z
 cases z with
|here=>exact hv rfl
|step h1 h2 h3 =>
  obtain ⟨l,hl,hm⟩:=N.s2 _ h1
  obtain ⟨j,hj,e⟩:=List.getElem_of_mem hm
  exact r.vain _ [] l h hl j _ (vZ _) (by rw [<- e];exact uB hj) ⟨h2,h3⟩
theorem Tri.cut {m:Nat} {E:List Nat} {S:List (List Nat)} {L:List Int} {lv:List (Nat×Nat)} {t:Nat} {TT:List (List Nat)} (r:Tri m E S L lv t TT) {v:Nat} {l:List Nat} (h:TT[v]?=some l) {k:Nat} (hk:k<=l.length)
  (hv:∀ (j:Nat) s,k<=j->l[j]?=some s->¬(Adm E L lv s/\Rch m E L lv t (hd E s))):Tri m E S L lv t (TT.set v (l.take k)):=by
 have hlt:v < TT.length:=by
  rcases vN v TT.length with z|z
  ·exact z
  ·rw [vF z] at h;cases h
 have key:∀ (u:Nat) x,(TT.set v (l.take k))[u]?=some x->(u=v/\x=l.take k) \/ (u≠v/\TT[u]?=some x):=λ u x e=>by
  rw [wA] at e
  by_cases z:v=u
  ·subst z;simp [hlt] at e;exact .inl ⟨rfl,e.symm⟩
  ·simp [z] at e;exact .inr ⟨λ y=>z y.symm,e⟩
 refine ⟨by rw [uW];exact r.len,λ u x e=>?_,λ u x y e e2 j s hj hs=>?_⟩
 ·rcases key u x e with ⟨rfl,rfl⟩|⟨_,e'⟩
  ·obtain ⟨kk,h1,h2⟩:=r.pre u l h
   exact ⟨kk,h1,(List.take_prefix _ _).trans h2⟩
  ·exact r.pre u x e'
 ·rcases key u x e with ⟨rfl,rfl⟩|⟨_,e'⟩
  ·by_cases hjl:j < l.length
   ·obtain ⟨kk,h1,h2⟩:=r.pre u l h
    rw [h1] at e2;cases e2
    have hs':l[j]?=some s:=by
     rw [<- hs]
     exact (List.prefix_iff_getElem?.mp h2 j hjl) ▸ uB hjl
    refine hv j s ?_ hs'
    rw [vS] at hj;lia
   ·exact r.vain u l y h e2 j s (by lia) hs
  ·exact r.vain u x y e' e2 j s hj hs
def Way (m:Nat) (E:List Nat) (L:List Int) (lv:List (Nat×Nat)):Nat->List Nat->Nat->Prop
|v,[],t=>v=t
|v,s :: p,t=>s < 2 * m/\tl E s=v/\Adm E L lv s/\Way m E L lv (hd E s) p t
theorem Way.snoc {m:Nat} {E:List Nat} {L:List Int} {lv:List (Nat×Nat)}:∀ {v:Nat} {p:List Nat} {u s:Nat},Way m E L lv v p u->s < 2 * m->tl E s=u->Adm E L lv s->Way m E L lv v (p++[s]) (hd E s)
|v,[],u,s,h,h1,h2,h3=>⟨h1,by rw [h2];exact h.symm,h3,rfl⟩
|v,x :: p,u,s,h,h1,h2,h3=>⟨h.1,h.2.1,h.2.2.1,Way.snoc h.2.2.2 h1 h2 h3⟩
theorem Way.unsnoc {m:Nat} {E:List Nat} {L:List Int} {lv:List (Nat×Nat)}:∀ {v:Nat} {p:List Nat} {u s:Nat},Way m E L lv v (p++[s]) u->Way m E L lv v p (tl E s)/\hd E s=u/\s < 2 * m/\Adm E L lv s
|v,[],u,s,h=>⟨h.2.1.symm,h.2.2.2,h.1,h.2.2.1⟩
|v,x :: p,u,s,h=>by
  obtain ⟨a,b,c,d⟩:=Way.unsnoc h.2.2.2
  exact ⟨⟨h.1,h.2.1,h.2.2.1,a⟩,b,c,d⟩
theorem Way.level {m:Nat} {E:List Nat} {L:List Int} {lv:List (Nat×Nat)}:∀ {v:Nat} {p:List Nat} {u a:Nat},Way m E L lv v p u->lkp lv v=some a->lkp lv u=some (a+p.length)
|v,[],u,a,h,e=>by rw [show v=u from h] at e;exact e
|v,x :: p,u,a,h,e=>by
  obtain ⟨h1,h2,⟨_,b,h3,h4⟩,h5⟩:=h
  rw [h2,e] at h3;cases h3
  have:=Way.level h5 h4
  rw [this];congr 1;simp;lia
theorem Way.tails {m:Nat} {E:List Nat} {L:List Int} {lv:List (Nat×Nat)}:∀ {v:Nat} {p:List Nat} {u a:Nat},Way m E L lv v p u->lkp lv v=some a->∀ s∈p,∃ b,a<=b/\lkp lv (tl E s)=some b/\lkp lv (hd E s)=some (b+1)
|v,[],u,a,_,_,s,hs=>by simp at hs
|v,x :: p,u,a,h,e,s,hs=>by
  obtain ⟨h1,h2,⟨_,b,h3,h4⟩,h5⟩:=h
  rw [h2,e] at h3;cases h3
  rcases uE.mp hs with z|z
  ·subst z;exact ⟨a,uF _,by rw [h2];exact e,h4⟩
  ·obtain ⟨c,k1,k2,k3⟩:=Way.tails h5 h4 s z
   exact ⟨c,by lia,k2,k3⟩
theorem Way.nodup {m:Nat} {E:List Nat} {L:List Int} {lv:List (Nat×Nat)}:∀ {v:Nat} {p:List Nat} {u a:Nat},Way m E L lv v p u->lkp lv v=some a->p.Nodup/\∀ s∈p,xr s ∉ p
|v,[],u,a,_,_=>⟨.nil,λ s hs=>by simp at hs⟩
|v,x :: p,u,a,h,e=>by
  obtain ⟨h1,h2,⟨_,b,h3,h4⟩,h5⟩:=h
  rw [h2,e] at h3;cases h3
  obtain ⟨n1,n2⟩:=Way.nodup h5 h4
  have tx:lkp lv (tl E x)=some a:=by rw [h2];exact e
  refine ⟨uU.mpr ⟨λ z=>?_,n1⟩,λ s hs hx=>?_⟩
  ·obtain ⟨c,k1,k2,_⟩:=Way.tails h5 h4 x z
   rw [tx] at k2;cases k2;lia
  ·rcases uE.mp hs with z|z
   ·subst z
    rcases uE.mp hx with y|y
    ·exact zwy _ y
    ·obtain ⟨c,k1,k2,k3⟩:=Way.tails h5 h4 _ y
     rw [zxw,h4] at k2;cases k2
     rw [zus,tx] at k3;injection k3 with k3;lia
   ·rcases uE.mp hx with y|y
    ·obtain ⟨c,k1,k2,k3⟩:=Way.tails h5 h4 s z
     have e1:x=xr s:=y.symm
     subst e1
     rw [zus,k2] at h4;cases h4
     rw [zxw,k3] at tx;injection tx with tx;lia
    ·exact n2 s z y
end _5
namespace _5
def zpc (L:List Int) (s:Nat) (a:Int):List Int:=(L.set s (lf L s - a)).set (xr s) (lf L (xr s)+a)
def zh2 (L:List Int) (p:List Nat) (a:Int):List Int:=p.foldl (λ L s=>zpc L s a) L
theorem zq9 (L:List Int) (s:Nat) (a:Int):(zpc L s a).length=L.length:=by simp [zpc]
theorem zm6 (a:Int):∀ (p:List Nat) (L:List Int),(zh2 L p a).length=L.length
|[],L=>rfl
|s :: p,L=>by show (zh2 (zpc L s a) p a).length=_;rw [zm6 a p,zq9]
theorem zyn {L:List Int} {i j:Nat} {x:Int} (h:i < L.length):lf (L.set i x) j=if i=j then x else lf L j:=by
 unfold lf
 rw [uQ,uQ,wA]
 by_cases e:i=j
 ·subst e;simp [h]
 ·simp [e]
theorem zfd {L:List Int} {s j m:Nat} {a:Int} (hl:L.length=2 * m) (hs:s < 2 * m):lf (zpc L s a) j=if j=s then lf L s - a else if j=xr s then lf L (xr s)+a else lf L j:=by
 unfold zpc
 rw [zyn (by rw [uW,hl];exact ztw hs),zyn (by lia)]
 by_cases e1:j=s
 ·subst e1
  rw [if_neg (zwy j),if_pos rfl,if_pos rfl]
 ·rw [if_neg e1]
  by_cases e2:j=xr s
  ·rw [if_pos e2.symm,if_pos e2]
  ·rw [if_neg (λ z=>e2 z.symm),if_neg e2,if_neg (λ z=>e1 z.symm)]
theorem zr6 {m:Nat} {a:Int}:∀ {p:List Nat} {L:List Int} {j:Nat},L.length=2 * m->(∀ s∈p,s < 2 * m)->p.Nodup->(∀ s∈p,xr s ∉ p)->lf (zh2 L p a) j=if j∈p then lf L j - a else if xr j∈p then lf L j+a else lf L j
|[],L,j,_,_,_,_=>by simp [zh2]
|s :: p,L,j,hl,hb,nd,nx=>by
  have hs:=hb s (by simp)
  have nd':=uU.mp nd
  have xsp:xr s ∉ p:=λ z=>nx s (by simp) (by simp [z])
  have ih:=zr6 (a:=a) (p:=p) (L:=zpc L s a) (j:=j) (by rw [zq9];exact hl) (λ t ht=>hb t (by simp [ht])) nd'.2 (λ t ht z=>nx t (by simp [ht]) (by simp [z]))
  show lf (zh2 (zpc L s a) p a) j=_
  rw [ih,zfd hl hs]
  by_cases e1:j=s
  ·subst e1
   rw [if_neg nd'.1,if_pos rfl,if_neg xsp,if_pos (by simp)]
  ·by_cases e2:j=xr s
   ·subst e2
    have n1:xr s ∉ s :: p:=nx s (by simp)
    rw [if_neg xsp,ztx,if_neg nd'.1,if_neg e1,if_pos rfl,if_neg n1,if_pos (by simp)]
   ·have e3:xr j≠s:=λ z=>e2 (by rw [<- z,ztx])
    simp only [uE,e1,e2,e3,if_false,false_or]
def term (E:List Nat) (L:List Int) (v k:Nat):Int:=(if hd E (2 * k)=v then lf L (2 * k+1) else 0) - (if hd E (2 * k+1)=v then lf L (2 * k+1) else 0)
def bal (m:Nat) (E:List Nat) (L:List Int) (v:Nat):Int:=((uL m).map (term E L v)).sum
theorem zma {f g:Nat->Int} {d:Int} {k0:Nat}:∀ (m:Nat),k0 < m->(∀ k,k≠k0->g k=f k)->g k0=f k0+d->((uL m).map g).sum=((uL m).map f).sum+d
|0,h,_,_=>by lia
|m+1,h,h1,h2=>by
  rw [yW,uJ,uJ,wS,wS]
  by_cases e:k0=m
  ·subst e
   have:(uL k0).map g=(uL k0).map f:=xP λ k hk=>h1 k (by have:=wD.mp hk;lia)
   rw [this]
   simp [h2];lia
  ·have ih:=zma m (by lia) h1 h2
   rw [ih]
   simp [h1 m (λ z=>e z.symm)];lia
theorem ztn {m:Nat} {E:List Nat} {L:List Int} {s:Nat} {a:Int} {v:Nat} (hl:L.length=2 * m) (hs:s < 2 * m):bal m E (zpc L s a) v=bal m E L v+((if hd E s=v then a else 0) - (if tl E s=v then a else 0)):=by
 unfold bal
 refine zma (k0:=s / 2) m (by lia) (λ k hk=>?_) ?_
 ·unfold term
  have:lf (zpc L s a) (2 * k+1)=lf L (2 * k+1):=by
   rw [zfd hl hs,if_neg (by lia),if_neg (by unfold xr;split <;> lia)]
  rw [this]
 ·unfold term
  by_cases e:s % 2=0
  ·have e1:2 * (s / 2)=s:=by lia
   have e2:xr s=s+1:=by unfold xr;rw [if_pos e]
   have h1:lf (zpc L s a) (2 * (s / 2)+1)=lf L (2 * (s / 2)+1)+a:=by
    rw [zfd hl hs,e1,if_neg (by lia),if_pos e2.symm,e2]
   rw [h1,e1]
   have e3:tl E s=hd E (s+1):=by unfold tl;rw [e2]
   rw [e3]
   split <;> split <;> lia
  ·have e1:2 * (s / 2)+1=s:=by lia
   have e2:xr s=2 * (s / 2):=by unfold xr;rw [if_neg e];lia
   have h1:lf (zpc L s a) (2 * (s / 2)+1)=lf L (2 * (s / 2)+1) - a:=by
    rw [zfd hl hs,e1,if_pos rfl]
   rw [h1,e1]
   have e3:tl E s=hd E (2 * (s / 2)):=by unfold tl;rw [e2]
   rw [e3]
   split <;> split <;> lia
theorem zb5 {m:Nat} {E:List Nat} {LA:List Int} {lv:List (Nat×Nat)} {a:Int} {w:Nat}:∀ {p:List Nat} {L:List Int} {v t:Nat},L.length=2 * m->Way m E LA lv v p t->bal m E (zh2 L p a) w=bal m E L w+((if t=w then a else 0) - (if v=w then a else 0))
|[],L,v,t,_,h=>by
  rw [show v=t from h]
  show bal m E L w=_
  lia
|s :: p,L,v,t,hl,h=>by
  have ih:=zb5 (a:=a) (w:=w) (p:=p) (L:=zpc L s a) (by rw [zq9];exact hl) h.2.2.2
  show bal m E (zh2 (zpc L s a) p a) w=_
  rw [ih,ztn hl h.1,h.2.1]
  lia
structure Cap (m:Nat) (most:Nat->Int) (L:List Int):Prop where
 len:L.length=2 * m
 nn:∀ s,s < 2 * m->0<=lf L s
 sm:∀ k,k < m->lf L (2 * k)+lf L (2 * k+1)=most k
theorem Cap.carry {m:Nat} {most:Nat->Int} {E:List Nat} {L:List Int} {lv:List (Nat×Nat)} {v t a0:Nat} {p:List Nat} {a:Int} (c:Cap m most L) (h:Way m E L lv v p t) (hv:lkp lv v=some a0) (ha:0<=a) (hm:∀ s∈p,a<=lf L s):Cap m most (zh2 L p a):=by
 obtain ⟨nd,nx⟩:=h.nodup hv
 have hb:∀ {v p t},Way m E L lv v p t->∀ s∈p,s < 2 * m:=λ {v p t} h=>by
  induction p generalizing v with
 |nil=>intro s hs;simp at hs
 |cons x p ih =>
   intro s hs
   rcases uE.mp hs with z|z
   ·subst z;exact h.1
   ·exact ih h.2.2.2 s z
 have hb:=hb h
 have lc:∀ j,lf (zh2 L p a) j=if j∈p then lf L j - a else if xr j∈p then lf L j+a else lf L j:=λ j=>zr6 c.len hb nd nx
 refine ⟨by rw [zm6];exact c.len,λ s hs=>?_,λ k hk=>?_⟩
 ·rw [lc]
  have:=c.nn s hs
  split
  ·rename_i z;have:=hm s z;lia
  ·split <;> lia
 ·rw [lc,lc]
  have e1:xr (2 * k)=2 * k+1:=by unfold xr;rw [if_pos (by lia)]
  have e2:xr (2 * k+1)=2 * k:=by unfold xr;rw [if_neg (by lia)];lia
  rw [e1,e2]
  have:=c.sm k hk
  by_cases h1:2 * k∈p
  ·have h2:2 * k+1 ∉ p:=λ z=>nx _ h1 (by rw [e1];exact z)
   rw [if_pos h1,if_neg h2,if_pos h1];lia
  ·by_cases h2:2 * k+1∈p
   ·rw [if_neg h1,if_pos h2,if_pos h2];lia
   ·rw [if_neg h1,if_neg h2,if_neg h2,if_neg h1];lia
theorem zfi {m:Nat} {E:List Nat} {L:List Int} {lv:List (Nat×Nat)} {v t a0:Nat} {p:List Nat} {a:Int} (hl:L.length=2 * m) (h:Way m E L lv v p t) (hv:lkp lv v=some a0) (ha:0<=a):∀ s,s < 2 * m->Adm E (zh2 L p a) lv s->Adm E L lv s:=by
 intro s hs ⟨h1,b,h2,h3⟩
 refine ⟨?_,b,h2,h3⟩
 obtain ⟨nd,nx⟩:=h.nodup hv
 have hb:∀ {v p t},Way m E L lv v p t->∀ s∈p,s < 2 * m:=λ {v p t} h=>by
  induction p generalizing v with
 |nil=>intro s hs;simp at hs
 |cons x p ih =>
   intro s hs
   rcases uE.mp hs with z|z
   ·subst z;exact h.1
   ·exact ih h.2.2.2 s z
 rw [zr6 hl (hb h) nd nx] at h1
 by_cases e1:s∈p
 ·rw [if_pos e1] at h1;lia
 ·rw [if_neg e1] at h1
  by_cases e2:xr s∈p
  ·-- the step against one of the way leads down
   obtain ⟨c,k1,k2,k3⟩:=h.tails hv (xr s) e2
   rw [zxw,h3] at k2
   rw [zus,h2] at k3
   injection k2 with k2;injection k3 with k3;lia
  ·rw [if_neg e2] at h1;exact h1
theorem zxj {m:Nat} {E:List Nat} {L:List Int} {lv:List (Nat×Nat)} {v t a0:Nat} {p:List Nat} {a:Int} (hl:L.length=2 * m) (h:Way m E L lv v p t) (hv:lkp lv v=some a0)
  (cl:∀ s,s < 2 * m->0 < lf L s->(lkp lv (tl E s)).isSome=true->(lkp lv (hd E s)).isSome=true) (ha:0<=a):∀ s,s < 2 * m->0 < lf (zh2 L p a) s->(lkp lv (tl E s)).isSome=true->(lkp lv (hd E s)).isSome=true:=by
 intro s hs h1 h2
 obtain ⟨nd,nx⟩:=h.nodup hv
 have hb:∀ {v p t},Way m E L lv v p t->∀ s∈p,s < 2 * m:=λ {v p t} h=>by
  induction p generalizing v with
 |nil=>intro s hs;simp at hs
 |cons x p ih =>
   intro s hs
   rcases uE.mp hs with z|z
   ·subst z;exact h.1
   ·exact ih h.2.2.2 s z
 rw [zr6 hl (hb h) nd nx] at h1
 by_cases e1:s∈p
 ·rw [if_pos e1] at h1;exact cl s hs (by lia) h2
 ·rw [if_neg e1] at h1
  by_cases e2:xr s∈p
  ·obtain ⟨c,k1,k2,k3⟩:=h.tails hv (xr s) e2
   rw [zus] at k3
   rw [zxw] at k2
   rw [k2];rfl
  ·rw [if_neg e2] at h1;exact cl s hs h1 h2
def tot (m:Nat) (most:Nat->Int):Int:=((uL m).map most).sum
theorem zgs {m:Nat} {most:Nat->Int} {E:List Nat} {L:List Int} (c:Cap m most L) (v:Nat):bal m E L v<=tot m most:=by
 unfold bal tot
 have:∀ j,j<=m->((uL j).map (term E L v)).sum<=((uL j).map most).sum:=λ j=>by
  induction j with
 |zero=>intro _;simp
 |succ j ih =>
   intro hj
   have:=ih (by lia)
   rw [yW,uJ,uJ,wS,wS]
   have h1:=c.nn (2 * j) (by lia)
   have h2:=c.nn (2 * j+1) (by lia)
   have h3:=c.sm j (by lia)
   have h4:term E L v j<=most j:=by unfold term;split <;> split <;> lia
   simp;lia
 exact this m (uF _)
end _5
namespace _5
open PySem
theorem zs7:((uD "ends") == (uD "left"))=false:=by decide +kernel
theorem za6:((uD "ends") == (uD "steps"))=false:=by decide +kernel
theorem zp7:((uD "left") == (uD "ends"))=false:=by decide +kernel
theorem zd6:((uD "left") == (uD "steps"))=false:=by decide +kernel
theorem zy5:((uD "steps") == (uD "ends"))=false:=by decide +kernel
theorem zv5:((uD "steps") == (uD "left"))=false:=by decide +kernel
theorem zh8:((uD "amounts") == (uD "ends"))=false:=by decide +kernel
theorem zv7:((uD "amounts") == (uD "left"))=false:=by decide +kernel
theorem zb7:((uD "amounts") == (uD "steps"))=false:=by decide +kernel
theorem zia:((uD "levels") == (uD "ends"))=false:=by decide +kernel
theorem zz9:((uD "levels") == (uD "left"))=false:=by decide +kernel
theorem zi8:((uD "levels") == (uD "steps"))=false:=by decide +kernel
theorem zs5:((uD "row_behind") == (uD "ends"))=false:=by decide +kernel
theorem zu5:((uD "row_behind") == (uD "left"))=false:=by decide +kernel
theorem zj5:((uD "row_behind") == (uD "steps"))=false:=by decide +kernel
theorem zw7:((uD "push_up") == (uD "ends"))=false:=by decide +kernel
theorem zf8:((uD "push_up") == (uD "left"))=false:=by decide +kernel
theorem zf7:((uD "push_up") == (uD "steps"))=false:=by decide +kernel
theorem zaa:((uD "way_up") == (uD "ends"))=false:=by decide +kernel
theorem zx9:((uD "way_up") == (uD "left"))=false:=by decide +kernel
theorem ze8:((uD "way_up") == (uD "steps"))=false:=by decide +kernel
theorem zz7:((uD "step_up") == (uD "ends"))=false:=by decide +kernel
theorem zc8:((uD "step_up") == (uD "left"))=false:=by decide +kernel
theorem zc7:((uD "step_up") == (uD "steps"))=false:=by decide +kernel
theorem zsb:((uD "carry") == (uD "ends"))=false:=by decide +kernel
theorem zza:((uD "carry") == (uD "left"))=false:=by decide +kernel
theorem zp9:((uD "carry") == (uD "steps"))=false:=by decide +kernel
theorem zzc:((uD "ends")=(uD "left"))=False:=eq_false (by intro h;have:=zs7;rw [h] at this;simp at this)
theorem zra:((uD "ends")=(uD "steps"))=False:=eq_false (by intro h;have:=za6;rw [h] at this;simp at this)
theorem zkc:((uD "left")=(uD "ends"))=False:=eq_false (by intro h;have:=zp7;rw [h] at this;simp at this)
theorem zbb:((uD "left")=(uD "steps"))=False:=eq_false (by intro h;have:=zd6;rw [h] at this;simp at this)
theorem zpb:((uD "steps")=(uD "ends"))=False:=eq_false (by intro h;have:=zy5;rw [h] at this;simp at this)
theorem zdb:((uD "steps")=(uD "left"))=False:=eq_false (by intro h;have:=zv5;rw [h] at this;simp at this)
end _5
namespace _5
open PySem PySem.Spec PyProof.Rows _2 _3 _4
def nI (x:Nat):D:=.int (x:Int)
abbrev dSt (S:List (List Nat)):D:=.list (S.map λ l=>.list (l.map nI))
abbrev oS (C:Addr) (E:List Nat) (L:List Int) (S:List (List Nat)):T:=.ob C [("ends",.fz (.list (E.map nI))),("left",.li (L.map .int)),("steps",.fz (dSt S))]
def kN (lv:List (Nat×Nat)):List (Key×D):=lv.map λ p=>(.inl (p.1:Int),nI p.2)
theorem zmv (p v:Nat):((uO (p:Int):Key)=uO (v:Int))=(p=v):=by
 apply propext
 constructor
 ·intro z;injection z with z;exact_mod_cast z
 ·intro z;rw [z]
theorem zvd (lv:List (Nat×Nat)) (v:Nat):getA (kN lv) (.inl (v:Int))=(lkp lv v).map nI:=by
 unfold getA kN lkp
 induction lv with
|nil=>rfl
|cons p r ih =>
  by_cases e:p.1=v
  ·simp [e]
  ·have e2:¬ (uO (p.1:Int):Key)=uO (v:Int):=by rw [zmv];exact e
   simp only [uK,wH]
   simp only [e,e2,decide_false]
   exact ih
theorem zmt {lv:List (Nat×Nat)} {v a:Nat} (h:lkp lv v=none):putD (kN lv) (.inl (v:Int)) (nI a)=kN (lv++[(v,a)]):=by
 unfold putD
 have:((kN lv).any λ kv=>decide (kv.1=(uO (v:Int):Key)))=false:=by
  rw [List.any_eq_false]
  intro kv hk
  unfold kN at hk
  obtain ⟨p,hp,rfl⟩:=uM.mp hk
  have h1:=zrc h
  have:p.1≠v:=λ e=>h1 (by rw [<- e];exact x9 hp)
  simp only [decide_eq_true_eq]
  rw [zmv];exact this
 rw [this]
 simp [kN]
theorem zx21 {l:List Nat} {i s:Nat} (h:l[i]?=some s):atI (l.map nI) (i:Int)=some (nI s):=zze (by lia) (by rw [u4,uI,h];rfl)
theorem zex {E:List Nat} {s m:Nat} (hl:E.length=2 * m) (hs:s < 2 * m):atI (E.map nI) (s:Int)=some (nI (hd E s)):=by
 refine zx21 ?_
 unfold hd
 rw [uQ,uB (by lia)];rfl
theorem zxy {L:List Int} {s m:Nat} (hl:L.length=2 * m) (hs:s < 2 * m):atI (L.map uC) (s:Int)=some (.int (lf L s)):=by
 refine zze (by lia) ?_
 rw [u4,uI]
 unfold lf
 rw [uQ,uB (by lia)];rfl
theorem zs61 {S:List (List Nat)} {v:Nat} {l:List Nat} (h:S[v]?=some l):atI (S.map λ l=>(vG (l.map nI))) (v:Int)=some (.list (l.map nI)):=zze (by lia) (by rw [u4,uI,h];rfl)
theorem zor (s:Nat):(s:Int)+1 - 2 * ((s:Int) % 2)=((xr s:Nat):Int):=by unfold xr;split <;> lia
end _5
namespace _5
structure Bfs (n m:Nat) (E:List Nat) (L:List Int) (src:Nat) (lv:List (Nat×Nat)) (row:List Nat) (lev:Nat):Prop where
 nd:(lv.map (·.1)).Nodup
 bd:∀ p∈lv,p.1 < n
 l0:lkp lv src=some 0
 z0:∀ v,lkp lv v=some 0->v=src
 ro:∀ v∈row,lkp lv v=some lev
 le:∀ v b,lkp lv v=some b->b<=lev/\(b=lev->v∈row)
 cl:∀ v b,lkp lv v=some b->b < lev->∀ s,s < 2 * m->tl E s=v->0 < lf L s->(lkp lv (hd E s)).isSome=true
 pr:∀ v a,lkp lv v=some (a+1)->∃ s,s < 2 * m/\0 < lf L s/\hd E s=v/\lkp lv (tl E s)=some a
theorem Bfs.start {n m:Nat} {E:List Nat} {L:List Int} {src:Nat} (h:src < n):Bfs n m E L src [(src,0)] [src] 0:=by
 have e:∀ v,lkp [(src,0)] v=if src=v then some 0 else none:=λ v=>by
  by_cases z:src=v
  ·simp [lkp,z]
  ·simp [lkp,z]
 refine ⟨by simp,λ p hp=>?_,by rw [e];simp,λ v hv=>?_,λ v hv=>?_,λ v b hv=>?_,λ v b _ hb=>by lia,λ v a hv=>?_⟩
 ·simp at hp;subst hp;exact h
 ·rw [e] at hv
  split at hv
  ·rename_i z;exact z.symm
  ·cases hv
 ·simp at hv;subst hv;rw [e];simp
 ·rw [e] at hv
  split at hv
  ·rename_i z;cases hv;exact ⟨uF _,λ _=>by simp [z]⟩
  ·cases hv
 ·rw [e] at hv
  split at hv <;> cases hv
theorem Bfs.lev {n m:Nat} {E:List Nat} {L:List Int} {src:Nat} {lv:List (Nat×Nat)} {lev:Nat} (h:Bfs n m E L src lv [] lev):Lev n m E L src lv:=by
 refine ⟨h.nd,h.bd,h.l0,h.z0,λ s hs hp ht=>?_,h.pr⟩
 obtain ⟨b,hb⟩:=v7.mp ht
 have:=h.le _ b hb
 have hlt:b < lev:=by
  rcases vN b lev with z|z
  ·exact z
  ·have:=this.2 (by lia);simp at this
 exact h.cl _ b hb hlt s hs rfl hp
structure Mid (n m:Nat) (E:List Nat) (L:List Int) (lv:List (Nat×Nat)) (lev:Nat) (lv1:List (Nat×Nat)) (beh:List Nat):Prop where
 nd:(lv1.map (·.1)).Nodup
 bd:∀ p∈lv1,p.1 < n
 old:∀ v b,lkp lv v=some b->lkp lv1 v=some b
 new:∀ v b,lkp lv1 v=some b->lkp lv v=some b \/ (b=lev+1/\v∈beh)
 ro:∀ v∈beh,lkp lv1 v=some (lev+1)
 pr:∀ v a,lkp lv1 v=some (a+1)->∃ s,s < 2 * m/\0 < lf L s/\hd E s=v/\lkp lv1 (tl E s)=some a
 len:lv1.length=lv.length+beh.length
theorem Mid.start {n m:Nat} {E:List Nat} {L:List Int} {src:Nat} {lv:List (Nat×Nat)} {row:List Nat} {lev:Nat} (h:Bfs n m E L src lv row lev):Mid n m E L lv lev lv [] :=
 ⟨h.nd,h.bd,λ _ _ z=>z,λ _ _ z=>.inl z,λ v hv=>by simp at hv,h.pr,by simp⟩
theorem Mid.put {n m:Nat} {E:List Nat} {L:List Int} {lv lv1:List (Nat×Nat)} {lev:Nat} {beh:List Nat} {s:Nat} (h:Mid n m E L lv lev lv1 beh) (hs:s < 2 * m) (hp:0 < lf L s) (ht:lkp lv1 (tl E s)=some lev) (hn:hd E s < n) (hg:lkp lv1 (hd E s)=none):Mid n m E L lv lev (lv1++[(hd E s,lev+1)]) (beh++[hd E s]):=by
 have keep:∀ v b,lkp lv1 v=some b->lkp (lv1++[(hd E s,lev+1)]) v=some b:=λ v b e=>by rw [zs8,e]
 have me:lkp (lv1++[(hd E s,lev+1)]) (hd E s)=some (lev+1):=by rw [zs8,hg];simp
 have back:∀ v b,lkp (lv1++[(hd E s,lev+1)]) v=some b->lkp lv1 v=some b \/ (v=hd E s/\b=lev+1):=λ v b e=>by
  rw [zs8] at e
  cases q:lkp lv1 v with
 |some c=>rw [q] at e;exact .inl e
 |none =>
   rw [q] at e
   simp only at e
   split at e
   ·rename_i z;cases e;exact .inr ⟨z.symm,rfl⟩
   ·cases e
 refine ⟨?_,λ p hp'=>?_,λ v b e=>keep v b (h.old v b e),λ v b e=>?_,λ v hv=>?_,λ v a e=>?_,by simp [h.len];lia⟩
 ·rw [uJ]
  refine uX.mpr ⟨h.nd,by simp,λ x hx y hy z=>?_⟩
  simp at hy;subst hy;subst z
  exact zrc hg hx
 ·rcases uG.mp hp' with z|z
  ·exact h.bd p z
  ·simp at z;subst z;exact hn
 ·rcases back v b e with z|⟨z1,z2⟩
  ·rcases h.new v b z with y|⟨y1,y2⟩
   ·exact .inl y
   ·exact .inr ⟨y1,by simp [y2]⟩
  ·exact .inr ⟨z2,by simp [z1]⟩
 ·rcases uG.mp hv with z|z
  ·exact keep v _ (h.ro v z)
  ·simp at z;rw [z];exact me
 ·rcases back v (a+1) e with z|⟨z1,z2⟩
  ·obtain ⟨s',k1,k2,k3,k4⟩:=h.pr v a z
   exact ⟨s',k1,k2,k3,keep _ _ k4⟩
  ·have:a=lev:=by lia
   subst this
   exact ⟨s,hs,hp,z1.symm,keep _ _ ht⟩
theorem Mid.bfs {n m:Nat} {E:List Nat} {S:List (List Nat)} {L:List Int} {src:Nat} {lv lv1:List (Nat×Nat)} {row:List Nat} {lev:Nat} {beh:List Nat} (N:Net n m E S) (h0:Bfs n m E L src lv row lev) (h:Mid n m E L lv lev lv1 beh)
  (cl:∀ v∈row,∀ l,S[v]?=some l->∀ s∈l,0 < lf L s->(lkp lv1 (hd E s)).isSome=true):Bfs n m E L src lv1 beh (lev+1):=by
 refine ⟨h.nd,h.bd,h.old _ _ h0.l0,λ v hv=>?_,h.ro,λ v b hv=>?_,λ v b hv hb s hs ht hp=>?_,h.pr⟩
 ·rcases h.new v 0 hv with z|⟨z,_⟩
  ·exact h0.z0 v z
  ·lia
 ·rcases h.new v b hv with z|⟨z1,z2⟩
  ·have:=h0.le v b z;exact ⟨by lia,λ e=>by lia⟩
  ·exact ⟨by lia,λ _=>z2⟩
 ·rcases h.new v b hv with z|⟨z1,_⟩
  ·have le:=h0.le v b z
   by_cases e:b=lev
   ·have hr:=le.2 e
    obtain ⟨l,hl,hm⟩:=N.s2 s hs
    rw [ht] at hl
    exact cl v hr l hl s hm hp
   ·have:=h0.cl v b z (by lia) s hs ht hp
    obtain ⟨c,hc⟩:=v7.mp this
    rw [h.old _ c hc];rfl
  ·lia
end _5
namespace _5
open PySem PySem.Spec PyProof.Rows _2 _3 _4
structure Go (m:Nat) (E:List Nat) (S:List (List Nat)) (L:List Int) (lv:List (Nat×Nat)) (t src:Nat) (p:List Nat) (here:Nat) (TT:List (List Nat)):Prop where
 tri:Tri m E S L lv t TT
 way:Way m E L lv src p here
 l0:lkp lv src=some 0
 last:∀ s∈p,∃ l,TT[tl E s]?=some (l++[s])
def szT (TT:List (List Nat)):Nat:=(TT.map u8).sum
theorem zi7:∀ {TT:List (List Nat)} {v:Nat} {l:List Nat} (k:List Nat),TT[v]?=some l->szT (TT.set v k)+l.length=szT TT+k.length
|[],v,l,k,h=>by simp at h
|x :: r,0,l,k,h=>by simp at h;subst h;simp [szT];lia
|x :: r,v+1,l,k,h=>by
  have:=zi7 (TT:=r) (v:=v) k (by simpa using h)
  simp [szT] at this ⊢;lia
theorem Go.lev {m:Nat} {E:List Nat} {S:List (List Nat)} {L:List Int} {lv:List (Nat×Nat)} {t src:Nat} {p:List Nat} {here:Nat} {TT:List (List Nat)} (g:Go m E S L lv t src p here TT):lkp lv here=some p.length:=by
 have:=g.way.level g.l0
 rwa [Nat.zero_add] at this
theorem Go.short {m:Nat} {E:List Nat} {S:List (List Nat)} {L:List Int} {lv:List (Nat×Nat)} {t src:Nat} {p:List Nat} {here:Nat} {TT:List (List Nat)} (g:Go m E S L lv t src p here TT) (hb:∀ s∈p,s < 2 * m):p.length<=2 * m :=
 zs0 _ p (g.way.nodup g.l0).1 hb
theorem Way.lt {m:Nat} {E:List Nat} {L:List Int} {lv:List (Nat×Nat)}:∀ {v:Nat} {p:List Nat} {t:Nat},Way m E L lv v p t->∀ s∈p,s < 2 * m
|_,[],_,_,s,hs=>by simp at hs
|v,x :: p,t,h,s,hs=>by
  rcases uE.mp hs with z|z
  ·rw [z];exact h.1
  ·exact h.2.2.2.lt s z
theorem Go.tails {m:Nat} {E:List Nat} {S:List (List Nat)} {L:List Int} {lv:List (Nat×Nat)} {t src:Nat} {p:List Nat} {here:Nat} {TT:List (List Nat)} (g:Go m E S L lv t src p here TT):∀ s∈p,tl E s≠here:=by
 have key:∀ {v:Nat} {p:List Nat} {u a:Nat},Way m E L lv v p u->lkp lv v=some a->∀ s∈p,∃ b,b < a+p.length/\lkp lv (tl E s)=some b:=by
  intro v p
  induction p generalizing v with
 |nil=>intro u a _ _ s hs;simp at hs
 |cons x r ih =>
   intro u a h e s hs
   obtain ⟨h1,h2,⟨h3,b,h4,h5⟩,h6⟩:=h
   have:b=a:=by rw [h2,e] at h4;injection h4 with h4;exact h4.symm
   subst this
   rcases uE.mp hs with z|z
   ·subst z;exact ⟨b,by simp,h4⟩
   ·obtain ⟨c,c1,c2⟩:=ih h6 h5 s z
    exact ⟨c,by simp;lia,c2⟩
 intro s hs e
 obtain ⟨b,h1,h2⟩:=key g.way g.l0 s hs
 rw [e,g.lev] at h2
 injection h2 with h2
 lia
theorem Go.vain {m:Nat} {E:List Nat} {S:List (List Nat)} {L:List Int} {lv:List (Nat×Nat)} {t src:Nat} {p:List Nat} {here n:Nat} {TT:List (List Nat)} (N:Net n m E S) (g:Go m E S L lv t src p here TT) {l:List Nat} {j:Nat} (h:TT[here]?=some l)
  (bad:∀ (i:Nat) s,j<=i->l[i]?=some s->¬(0 < lf L s/\lkp lv (hd E s)=some (p.length+1))):∀ (i:Nat) s,j<=i->l[i]?=some s->¬(Adm E L lv s/\Rch m E L lv t (hd E s)):=λ i s hi e z=>by
 obtain ⟨k,h1,h2⟩:=g.tri.pre here l h
 obtain ⟨_,hs⟩:=N.s1 here k h1 s (h2.subset (vI e))
 obtain ⟨z1,a,z2,z3⟩:=z.1
 rw [hs,g.lev] at z2
 injection z2 with z2
 subst z2
 exact bad i s hi e ⟨z1,z3⟩
theorem Go.cut {m:Nat} {E:List Nat} {S:List (List Nat)} {L:List Int} {lv:List (Nat×Nat)} {t src:Nat} {p:List Nat} {here n:Nat} {TT:List (List Nat)} (N:Net n m E S) (g:Go m E S L lv t src p here TT) {l:List Nat} {j:Nat} (h:TT[here]?=some l) (hj:j<=l.length)
  (bad:∀ (i:Nat) s,j<=i->l[i]?=some s->¬(0 < lf L s/\lkp lv (hd E s)=some (p.length+1))):Go m E S L lv t src p here (TT.set here (l.take j)) :=
 ⟨g.tri.cut h hj (g.vain N h bad),g.way,g.l0,λ s hs=>by
  obtain ⟨k,hk⟩:=g.last s hs
  refine ⟨k,?_⟩
  rw [vO (λ z=>g.tails s hs z.symm)]
  exact hk⟩
theorem zrb {TT:List (List Nat)} {v:Nat} {l:List Nat} (h:TT[v]?=some l):v < TT.length:=by
 rcases vN v TT.length with z|z
 ·exact z
 ·rw [vF z] at h;cases h
theorem Go.fwd {m:Nat} {E:List Nat} {S:List (List Nat)} {L:List Int} {lv:List (Nat×Nat)} {t src:Nat} {p:List Nat} {here n:Nat} {TT:List (List Nat)} (N:Net n m E S) (g:Go m E S L lv t src p here TT) {l:List Nat} {j s:Nat} (h:TT[here]?=some l) (h0:0 < j) (hj:j<=l.length)
  (bad:∀ (i:Nat) s,j<=i->l[i]?=some s->¬(0 < lf L s/\lkp lv (hd E s)=some (p.length+1))) (hs:l[j - 1]?=some s) (hp:0 < lf L s) (hl:lkp lv (hd E s)=some (p.length+1)) :
  Go m E S L lv t src (p++[s]) (hd E s) (TT.set here (l.take j))/\szT (TT.set here (l.take j))<=szT TT/\s < 2 * m:=by
 have g1:=g.cut N h hj bad
 obtain ⟨k,k1,k2⟩:=g.tri.pre here l h
 obtain ⟨hsm,hst⟩:=N.s1 here k k1 s (k2.subset (vI hs))
 refine ⟨⟨g1.tri,g.way.snoc hsm hst ⟨hp,_,by rw [hst];exact g.lev,hl⟩,g.l0,λ x hx=>?_⟩,?_,hsm⟩
 ·rcases uG.mp hx with z|z
  ·exact g1.last x z
  ·simp at z;subst z
   refine ⟨l.take (j - 1),?_⟩
   rw [hst,vL (zrb h)]
   congr 1
   have:j=(j - 1)+1:=by lia
   rw [this,wM,xQ,hs];rfl
 ·have:=zi7 (l.take j) h
  rw [vS] at this
  lia
theorem Go.back {m:Nat} {E:List Nat} {S:List (List Nat)} {L:List Int} {lv:List (Nat×Nat)} {t src:Nat} {p:List Nat} {s here n:Nat} {TT:List (List Nat)} (N:Net n m E S) (g:Go m E S L lv t src (p++[s]) here TT) {l:List Nat} (h:TT[here]?=some l) (ht:here≠t)
  (bad:∀ (i:Nat) s',0<=i->l[i]?=some s'->¬(0 < lf L s'/\lkp lv (hd E s')=some ((p++[s]).length+1))) :
  s < 2 * m/\∃ k,(TT.set here [])[tl E s]?=some (k++[s])/\Go m E S L lv t src p (tl E s) ((TT.set here []).set (tl E s) k)/\szT ((TT.set here []).set (tl E s) k)+1<=szT TT:=by
 have g1:=g.cut (j:=0) N h (vZ _) bad
 rw [List.take_zero] at g1
 obtain ⟨k,hk⟩:=g1.last s (by simp)
 obtain ⟨w1,w2,w3,w4⟩:=g.way.unsnoc
 have dead:¬ Rch m E L lv t here:=g1.tri.dead N (v:=here) (by rw [vL (zrb h)]) ht
 have tri2:=g1.tri.cut hk (k:=k.length) (by simp) (λ j x hj e z=>by
  have hjl:j < (k++[s]).length:=by
   rcases vN j (k++[s]).length with y|y
   ·exact y
   ·rw [vF y] at e;cases e
  have:j=k.length:=by rw [vA] at hjl;simp at hjl;lia
  subst this
  rw [List.getElem?_concat_length] at e
  injection e with e
  subst e
  rw [w2] at z
  exact dead z.2)
 rw [List.take_left] at tri2
 have sz1:=zi7 (TT:=TT) [] h
 have sz2:=zi7 k hk
 have g2:Go m E S L lv t src p (tl E s) (TT.set here []):=⟨g1.tri,w1,g.l0,λ x hx=>g1.last x (by simp [hx])⟩
 refine ⟨w3,k,hk,⟨tri2,w1,g.l0,λ x hx=>?_⟩,?_⟩
 ·obtain ⟨q,hq⟩:=g2.last x hx
  refine ⟨q,?_⟩
  rw [vO (λ z=>g2.tails x hx z.symm)]
  exact hq
 ·rw [vA] at sz2
  simp at sz1 sz2
  lia
theorem Go.dead {m:Nat} {E:List Nat} {S:List (List Nat)} {L:List Int} {lv:List (Nat×Nat)} {t src:Nat} {here n:Nat} {TT:List (List Nat)} (N:Net n m E S) (g:Go m E S L lv t src [] here TT) {l:List Nat} (h:TT[here]?=some l) (ht:here≠t)
  (bad:∀ (i:Nat) s',0<=i->l[i]?=some s'->¬(0 < lf L s'/\lkp lv (hd E s')=some (([]:List Nat).length+1))):¬ Rch m E L lv t src:=by
 have g1:=g.cut (j:=0) N h (vZ _) bad
 have e:src=here:=g.way
 rw [e]
 exact g1.tri.dead N (v:=here) (by rw [vL (zrb h)];rfl) ht
theorem zzd {n j:Nat} (h:j < n):ixN n ((j:Nat):Int)=some j:=by
 unfold ixN
 rw [if_pos (by lia),if_pos (by lia),u4]
end _5
namespace _5
structure Up (m:Nat) (most:Nat->Int) (E:List Nat) (L L':List Int) (src snk:Nat):Prop where
 cap:Cap m most L'
 eqb:∀ v,v≠src->v≠snk->bal m E L' v=bal m E L v
 out:∀ k,k < m->hd E (2 * k+1)=src->lf L (2 * k+1)<=lf L' (2 * k+1)
 inn:∀ k,k < m->hd E (2 * k)=snk->lf L (2 * k+1)<=lf L' (2 * k+1)
 bs:bal m E L' src<=bal m E L src
 bt:bal m E L snk<=bal m E L' snk
theorem Up.refl {m:Nat} {most:Nat->Int} {E:List Nat} {L:List Int} {src snk:Nat} (c:Cap m most L):Up m most E L L src snk :=
 ⟨c,λ _ _ _=>rfl,λ _ _ _=>vH _,λ _ _ _=>vH _,vH _,vH _⟩
theorem Up.trans {m:Nat} {most:Nat->Int} {E:List Nat} {L L' _2:List Int} {src snk:Nat} (h:Up m most E L L' src snk) (k:Up m most E L' _2 src snk):Up m most E L _2 src snk :=
 ⟨k.cap,λ v a b=>(k.eqb v a b).trans (h.eqb v a b),λ i a b=>wI (h.out i a b) (k.out i a b),λ i a b=>wI (h.inn i a b) (k.inn i a b),wI k.bs h.bs,wI h.bt k.bt⟩
theorem Up.carry {m:Nat} {most:Nat->Int} {E:List Nat} {L:List Int} {lv:List (Nat×Nat)} {src snk:Nat} {p:List Nat} {a:Int} (c:Cap m most L) (h:Way m E L lv src p snk) (l0:lkp lv src=some 0) (ha:0<=a) (hm:∀ s∈p,a<=lf L s):Up m most E L (zh2 L p a) src snk:=by
 obtain ⟨nd,nx⟩:=h.nodup l0
 have lev:=h.level l0
 have ft:∀ {v:Nat} {p:List Nat} {u a:Nat},Way m E L lv v p u->lkp lv v=some a->∀ s∈p,∃ b,b < a+p.length/\lkp lv (tl E s)=some b:=by
  intro v p
  induction p generalizing v with
 |nil=>intro u a _ _ s hs;simp at hs
 |cons x r ih =>
   intro u a h e s hs
   obtain ⟨h1,h2,⟨h3,b,h4,h5⟩,h6⟩:=h
   have:b=a:=by rw [h2,e] at h4;injection h4 with h4;exact h4.symm
   subst this
   rcases uE.mp hs with z|z
   ·subst z;exact ⟨b,by simp,h4⟩
   ·obtain ⟨c,c1,c2⟩:=ih h6 h5 s z
    exact ⟨c,by simp;lia,c2⟩
 have keep:∀ j,j ∉ p->lf L j<=lf (zh2 L p a) j:=λ j hj=>by
  rw [zr6 c.len h.lt nd nx,if_neg hj]
  split <;> lia
 refine ⟨c.carry h l0 ha hm,λ v v1 v2=>?_,λ k hk e=>keep _ λ z=>?_,λ k hk e=>keep _ λ z=>?_,by rw [zb5 c.len h,if_pos rfl];split <;> lia,by rw [zb5 c.len h,if_pos rfl];split <;> lia⟩
 ·rw [zb5 c.len h,if_neg (λ z=>v2 z.symm),if_neg (λ z=>v1 z.symm)];lia
 ·obtain ⟨b,_,_,z3⟩:=h.tails l0 _ z
  rw [e,l0] at z3
  injection z3 with z3
  lia
 ·obtain ⟨b,z1,z2⟩:=ft h l0 _ z
  have:tl E (2 * k+1)=snk:=by
   unfold tl xr
   rw [if_neg (by lia),xQ];exact e
  rw [this,lev] at z2
  injection z2 with z2
  lia
end _5
namespace _5
open PySem PySem.Spec PyProof.Rows _2 _3 _4
abbrev Ar:=Nat×Nat×Int
def dAr (a:Ar):D:=.tuple [nI a.1,nI a.2.1,.int a.2.2]
def zl4 (A:List Ar):List Nat:=A.flatMap λ a=>[a.2.1,a.1]
def zi6 (A:List Ar) (f:List Int):List Int:=(A.zip f).flatMap λ x=>[x.1.2.2 - x.2,x.2]
theorem zxf (A:List Ar) (a:Ar):zl4 (A++[a])=zl4 A++[a.2.1,a.1]:=by simp [zl4]
theorem zrs {E X:List Nat} {s:Nat} (h:s < E.length):hd (E++X) s=hd E s:=by
 unfold hd
 rw [uQ,uQ,u5 h]
theorem zo71 {E:List Nat} {m x y:Nat} (h:E.length=2 * m):hd (E++[x,y]) (2 * m)=x/\hd (E++[x,y]) (2 * m+1)=y:=by
 unfold hd
 constructor
 ·rw [uQ,u9 (by lia),h];simp
 ·rw [uQ,u9 (by lia),h];simp
theorem Net.nil (n:Nat):Net n 0 [] (uP n []):=⟨rfl,λ s hs=>by lia,by simp,(λ v l h s hs=>by
 rw [vT] at h
 split at h
 ·cases h;simp at hs
 ·cases h),λ s hs=>by lia⟩
theorem Net.push {n m:Nat} {E:List Nat} {S:List (List Nat)} {u v:Nat} {l1 l2:List Nat} (N:Net n m E S) (hu:u < n) (hv:v < n) (h1:S[u]?=some l1) (h2:(S.set u (l1++[2 * m]))[v]?=some l2) :
  Net n (m+1) (E++[v,u]) ((S.set u (l1++[2 * m])).set v (l2++[2 * m+1])):=by
 obtain ⟨e1,e2⟩:=zo71 (x:=v) (y:=u) N.lE
 have x1:xr (2 * m)=2 * m+1:=by unfold xr;rw [if_pos (by lia)]
 have x2:xr (2 * m+1)=2 * m:=by unfold xr;rw [if_neg (by lia)];lia
 have old:∀ s,s < 2 * m->tl (E++[v,u]) s=tl E s:=λ s hs=>zrs (by rw [N.lE];exact ztw hs)
 have t1:tl (E++[v,u]) (2 * m)=u:=by unfold tl;rw [x1];exact e2
 have t2:tl (E++[v,u]) (2 * m+1)=v:=by unfold tl;rw [x2];exact e1
 have A1:∀ (w:Nat) l,(S.set u (l1++[2 * m]))[w]?=some l->∀ s∈l,(s < 2 * m/\tl E s=w) \/ (s=2 * m/\w=u):=λ w l h s hs=>by
  by_cases z:u=w
  ·subst z
   rw [vL (by rw [N.lS];exact hu)] at h
   cases h
   rcases uG.mp hs with y|y
   ·exact .inl (N.s1 u l1 h1 s y)
   ·simp at y;exact .inr ⟨y,rfl⟩
  ·rw [vO z] at h
   exact .inl (N.s1 w l h s hs)
 have B1:∀ s,s < 2 * m->∃ l,(S.set u (l1++[2 * m]))[tl E s]?=some l/\s∈l:=λ s hs=>by
  obtain ⟨l,k1,k2⟩:=N.s2 s hs
  by_cases z:u=tl E s
  ·rw [<- z] at k1 ⊢
   rw [h1] at k1;cases k1
   exact ⟨_,vL (by rw [N.lS];exact hu),by simp [k2]⟩
  ·exact ⟨l,by rw [vO z];exact k1,k2⟩
 have B2:∃ l,(S.set u (l1++[2 * m]))[u]?=some l/\2 * m∈l:=⟨_,vL (by rw [N.lS];exact hu),by simp⟩
 have B3:∀ (w s:Nat),(∃ l,(S.set u (l1++[2 * m]))[w]?=some l/\s∈l)->∃ l,((S.set u (l1++[2 * m])).set v (l2++[2 * m+1]))[w]?=some l/\s∈l:=λ w s ⟨l,k1,k2⟩=>by
  by_cases z:v=w
  ·subst z
   rw [h2] at k1;cases k1
   exact ⟨_,vL (by rw [uW,N.lS];exact hv),by simp [k2]⟩
  ·exact ⟨l,by rw [vO z];exact k1,k2⟩
 refine ⟨by rw [vA,N.lE];simp;lia,λ s hs=>?_,by rw [uW,uW];exact N.lS,λ w l h s hs=>?_,λ s hs=>?_⟩
 ·by_cases z:s < 2 * m
  ·rw [zrs (by rw [N.lE];exact z)];exact N.bE s z
  ·have:s=2 * m \/ s=2 * m+1:=by lia
   rcases this with y|y
   ·rw [y,e1];exact hv
   ·rw [y,e2];exact hu
 ·have key:(s < 2 * m/\tl E s=w) \/ (s=2 * m/\w=u) \/ (s=2 * m+1/\w=v):=by
   by_cases z:v=w
   ·subst z
    rw [vL (by rw [uW,N.lS];exact hv)] at h
    cases h
    rcases uG.mp hs with y|y
    ·rcases A1 v l2 h2 s y with k|k
     ·exact .inl k
     ·exact .inr (.inl k)
    ·simp at y;exact .inr (.inr ⟨y,rfl⟩)
   ·rw [vO z] at h
    rcases A1 w l h s hs with k|k
    ·exact .inl k
    ·exact .inr (.inl k)
  rcases key with ⟨k1,k2⟩|⟨rfl,rfl⟩|⟨rfl,rfl⟩
  ·exact ⟨by lia,by rw [old s k1];exact k2⟩
  ·exact ⟨by lia,t1⟩
  ·exact ⟨by lia,t2⟩
 ·by_cases z:s < 2 * m
  ·rw [old s z];exact B3 _ _ (B1 s z)
  ·have:s=2 * m \/ s=2 * m+1:=by lia
   rcases this with y|y
   ·subst y;rw [t1];exact B3 _ _ B2
   ·subst y;rw [t2]
    exact ⟨_,vL (by rw [uW,N.lS];exact hv),by simp⟩
theorem zu9:∀ {A:List Ar} {f:List Int},f.length=A.length->(zi6 A f).length=2 * A.length
|[],f,h=>by simp [zi6]
|a :: r,[],h=>by simp at h
|a :: r,x :: f,h=>by have:=zu9 (A:=r) (f:=f) (by simpa using h);simp [zi6] at this ⊢;lia
theorem zn7:∀ {A:List Ar} {f:List Int} {k:Nat} {a:Ar} {x:Int},A[k]?=some a->f[k]?=some x->lf (zi6 A f) (2 * k)=a.2.2 - x/\lf (zi6 A f) (2 * k+1)=x
|[],f,k,a,x,h,_=>by simp at h
|b :: r,[],k,a,x,_,h=>by simp at h
|b :: r,y :: f,0,a,x,h1,h2=>by simp at h1 h2;subst h1;subst h2;simp [zi6,lf]
|b :: r,y :: f,k+1,a,x,h1,h2=>by
  have:=zn7 (A:=r) (f:=f) (k:=k) (by simpa using h1) (by simpa using h2)
  rw [show 2 * (k+1)=2 * k+1+1 by lia]
  simp [zi6,lf] at this ⊢;exact this
theorem zwc:∀ {A:List Ar} {k:Nat} {a:Ar},A[k]?=some a->hd (zl4 A) (2 * k)=a.2.1/\hd (zl4 A) (2 * k+1)=a.1
|[],k,a,h=>by simp at h
|b :: r,0,a,h=>by simp at h;subst h;simp [zl4,hd]
|b :: r,k+1,a,h=>by
  have:=zwc (A:=r) (k:=k) (by simpa using h)
  rw [show 2 * (k+1)=2 * k+1+1 by lia]
  simp [zl4,hd] at this ⊢;exact this
def zf1 (A:List Ar) (k:Nat):Int:=((A[k]?).map λ a=>a.2.2).getD 0
theorem zui {A:List Ar} {f:List Int} (hl:f.length=A.length) (hf:∀ (k:Nat) a x,A[k]?=some a->f[k]?=some x->0<=x/\x<=a.2.2):Cap A.length (zf1 A) (zi6 A f):=by
 have get:∀ k,k < A.length->∃ a x,A[k]?=some a/\f[k]?=some x:=λ k hk=>⟨A[k],f[k],uB _,uB _⟩
 refine ⟨zu9 hl,λ s hs=>?_,λ k hk=>?_⟩
 ·obtain ⟨a,x,h1,h2⟩:=get (s / 2) (by lia)
  obtain ⟨e1,e2⟩:=zn7 h1 h2
  have:=hf _ a x h1 h2
  rcases Nat.mod_two_eq_zero_or_one s with z|z
  ·rw [show s=2 * (s / 2) by lia,e1];lia
  ·rw [show s=2 * (s / 2)+1 by lia,e2];lia
 ·obtain ⟨a,x,h1,h2⟩:=get k hk
  obtain ⟨e1,e2⟩:=zn7 h1 h2
  rw [e1,e2,zf1,h1];simp
theorem zrm {L:List Int} {m:Nat} (h:L.length=2 * m):zbh (L.map uC) (some 1) none (some 2)=(uL m).map λ k=>.int (lf L (2 * k+1)):=by
 unfold zbh
 rw [uA,h]
 have e1:sliceBounds (some 1) none (some 2) (2 * m)=(max 0 (min (1:Int) ((2 * m:Nat):Int)),((2 * m:Nat):Int),2):=by
  unfold sliceBounds
  rfl
 rw [e1]
 show yQ _ (sliceRange (max 0 (min (1:Int) ((2 * m:Nat):Int))) ((2 * m:Nat):Int) 2)=_
 have e2:sliceRange (max 0 (min (1:Int) ((2 * m:Nat):Int))) ((2 * m:Nat):Int) 2=(uL m).map λ k=>2 * k+1:=by
  unfold sliceRange
  cases m with
 |zero=>rfl
 |succ m =>
   have e3:max 0 (min (1:Int) ((2 * (m+1):Nat):Int))=1:=by lia
   rw [e3]
   have:(if (2:Int) > 0 then (if (1:Int) < ((2 * (m+1):Nat):Int) then (((2 * (m+1):Nat):Int) - 1+2 - 1) / 2 else 0) else (if (1:Int) > ((2 * (m+1):Nat):Int) then (1 - ((2 * (m+1):Nat):Int) - 2 - 1) / (-2) else 0))=((m+1:Nat):Int):=by
    rw [if_pos (by decide),if_pos (by lia)];lia
   simp only [this]
   rw [u4]
   refine xP λ k hk=>?_
   lia
 rw [e2,yL]
 have:∀ l:List Nat,(∀ k∈l,k < m)->yQ ((λ x=>(L.map uC)[x]?) ∘ λ k=>2 * k+1) l=l.map λ k=>uC (lf L (2 * k+1)):=by
  intro l
  induction l with
 |nil=>intro _;rfl
 |cons k r ih =>
   intro hk
   have hk0:=hk k (by simp)
   have e:(L.map uC)[2 * k+1]?=some (.int (lf L (2 * k+1))):=by
    rw [uI]
    unfold lf
    rw [uQ,uB (by lia)];rfl
   rw [v9]
   simp only [Function.comp]
   rw [e]
   simp only [uK]
   congr 1
   exact ih λ x hx=>hk x (by simp [hx])
 exact this _ λ k hk=>wD.mp hk
theorem zhu {S:List (List Nat)} {v:Nat} {l:List Nat} (h:S[v]?=some l):l.length<=szT S:=by
 have:=zi7 [] h
 simp at this;lia
theorem zos (i:Nat):CMul 2 (i:Int):=by
 unfold CMul
 exact .inl (by decide)
theorem zvf:∀ {A:List Ar} {f:List Int} {a:Ar} {x:Int},f.length=A.length->zi6 (A++[a]) (f++[x])=zi6 A f++[a.2.2 - x,x]:=by
 intro A f a x h
 unfold zi6
 rw [List.zip_append h.symm,List.flatMap_append]
 rfl
structure Best (n:Nat) (A:List Ar) (f:List Int) (src snk:Nat) (L:List Int) (side:List Nat):Prop where
 up:Up A.length (zf1 A) (zl4 A) (zi6 A f) L src snk
 inn:src∈side
 out:snk ∉ side
 bd:∀ v∈side,v < n
 ris:side.Pairwise (· < ·)
 cl:∀ s,s < 2 * A.length->0 < lf L s->tl (zl4 A) s∈side->hd (zl4 A) s∈side
 rc:∃ lv,Lev n A.length (zl4 A) L src lv/\∀ v,v∈side ↔ (lkp lv v).isSome=true
theorem zlu {lv:List (Nat×Nat)} {v:Nat}:(lkp lv v).isSome=true ↔ v∈lv.map (·.1):=by
 constructor
 ·intro h
  obtain ⟨b,hb⟩:=v7.mp h
  exact x9 (f:=(·.1)) (zfg hb)
 ·intro h
  cases e:lkp lv v with
 |some b=>rfl
 |none=>exact absurd h (zrc e)
theorem zkr {n:Nat} {A:List Ar} {f:List Int} {src snk:Nat} {L:List Int} {lv:List (Nat×Nat)} (up:Up A.length (zf1 A) (zl4 A) (zi6 A f) L src snk) (hv:Lev n A.length (zl4 A) L src lv) (ht:(lkp lv snk).isSome=false)
  {ns:List Int} (hp:ns.Perm (lv.map λ p=>((p.1:Nat):Int))) (hs:ns.Pairwise (·<=·)):∃ side:List Nat,ns.map uC=side.map nI/\Best n A f src snk L side:=by
 have hmem:∀ x∈ns,∃ p∈lv,x=((p.1:Nat):Int):=λ x hx=>by
  obtain ⟨p,h1,h2⟩:=uM.mp (hp.mem_iff.mp hx)
  exact ⟨p,h1,h2.symm⟩
 refine ⟨ns.map Int.toNat,?_,?_⟩
 ·rw [vC]
  refine xP λ x hx=>?_
  obtain ⟨p,_,rfl⟩:=hmem x hx
  simp [nI]
 have iff:∀ v,v∈ns.map Int.toNat ↔ (lkp lv v).isSome=true:=λ v=>by
  rw [zlu]
  constructor
  ·intro h
   obtain ⟨x,hx,rfl⟩:=uM.mp h
   obtain ⟨p,hp',rfl⟩:=hmem x hx
   rw [u4]
   exact x9 (f:=(·.1)) hp'
  ·intro h
   obtain ⟨p,hp',rfl⟩:=uM.mp h
   refine uM.mpr ⟨((p.1:Nat):Int),hp.mem_iff.mpr (uM.mpr ⟨p,hp',rfl⟩),u4 _⟩
 have nd:ns.Nodup:=by
  refine hp.nodup_iff.mpr ?_
  have h1:=hv.nd
  have:(lv.map λ p=>((p.1:Nat):Int))=(lv.map (·.1)).map λ x=>((x:Nat):Int):=by rw [vC];rfl
  rw [this]
  exact h1.map (λ x:Nat=>(x:Int)) (λ a b hne z=>hne (by exact_mod_cast z))
 refine ⟨up,(iff _).mpr (by rw [hv.l0];rfl),(λ z=>by rw [(iff _).mp z] at ht;cases ht),λ v hvm=>?_,?_,λ s h1 h2 h3=>(iff _).mpr (hv.cl s h1 h2 ((iff _).mp h3)),lv,hv,iff⟩
 ·obtain ⟨b,hb⟩:=v7.mp ((iff v).mp hvm)
  exact hv.bd _ (zfg hb)
 ·have key:∀ (l:List Int),l.Pairwise (·<=·)->l.Nodup->(∀ x∈l,0<=x)->(l.map Int.toNat).Pairwise (· < ·):=by
   intro l
   induction l with
  |nil=>intros;exact .nil
  |cons x r ih =>
    intro h1 h2 h3
    obtain ⟨a1,a2⟩:=zQ.mp h1
    obtain ⟨b1,b2⟩:=uU.mp h2
    refine zQ.mpr ⟨λ y hy=>?_,ih a2 b2 λ z hz=>h3 z (by simp [hz])⟩
    obtain ⟨z,hz,rfl⟩:=uM.mp hy
    have c1:=a1 z hz
    have c2:x≠z:=λ e=>b1 (e ▸ hz)
    have c3:=h3 x (by simp)
    lia
  exact key ns hs nd λ x hx=>by obtain ⟨p,_,rfl⟩:=hmem x hx;lia
def sm (m:Nat) (g:Nat->Int):Int:=((uL m).map g).sum
theorem zv1 (m:Nat) (g:Nat->Int):sm (m+1) g=sm m g+g m:=by
 unfold sm
 rw [yW,uJ,wS]
 simp
theorem zb1 {m:Nat} {g h:Nat->Int} (e:∀ k,k < m->g k=h k):sm m g=sm m h:=by
 unfold sm
 rw [xP λ k hk=>e k (wD.mp hk)]
theorem zpo (g h:Nat->Int):∀ m,sm m (λ k=>g k+h k)=sm m g+sm m h
|0=>rfl
|m+1=>by rw [zv1,zv1,zv1,zpo g h m];lia
theorem zdk (g h:Nat->Int):∀ m,sm m (λ k=>g k - h k)=sm m g - sm m h
|0=>rfl
|m+1=>by rw [zv1,zv1,zv1,zdk g h m];lia
theorem zi3:∀ m,sm m (λ _=>0)=0
|0=>rfl
|m+1=>by rw [zv1,zi3 m];rfl
theorem zif {g h:Nat->Int}:∀ {m:Nat},(∀ k,k < m->g k<=h k)->sm m g<=sm m h
|0,_=>vH _
|m+1,e=>by
  rw [zv1,zv1]
  have:=zif (m:=m) λ k hk=>e k (by lia)
  have:=e m (by lia)
  lia
theorem zl5 {g h:Nat->Int}:∀ {m:Nat},(∀ k,k < m->g k<=h k)->sm m g=sm m h->∀ k,k < m->g k=h k
|0,_,_,k,hk=>by lia
|m+1,e,q,k,hk=>by
  rw [zv1,zv1] at q
  have a:=zif (m:=m) λ k hk=>e k (by lia)
  have b:=e m (by lia)
  by_cases z:k=m
  ·subst z;lia
  ·exact zl5 (m:=m) (λ k hk=>e k (by lia)) (by lia) k (by lia)
theorem zrj {j:Nat} (d:Int):∀ {m:Nat},j < m->sm m (λ k=>if k=j then d else 0)=d
|0,h=>by lia
|m+1,h=>by
  rw [zv1]
  by_cases z:m=j
  ·subst z
   rw [if_pos rfl,zb1 (h:=λ _=>0) λ k hk=>if_neg (by lia),zi3];lia
  ·rw [zrj d (m:=m) (by lia),if_neg z];lia
def trm (u v:Nat) (x:Int) (w:Nat):Int:=(if v=w then x else 0) - (if u=w then x else 0)
def bl (m:Nat) (eu ev:Nat->Nat) (x:Nat->Int) (w:Nat):Int:=sm m λ k=>trm (eu k) (ev k) (x k) w
def flux (m:Nat) (eu ev:Nat->Nat) (x:Nat->Int) (side:List Nat):Int:=sm m λ k=>(if ev k∈side then x k else 0) - (if eu k∈side then x k else 0)
theorem zm5 (m:Nat) (eu ev:Nat->Nat) (x:Nat->Int):∀ {side:List Nat},side.Nodup->flux m eu ev x side=(side.map (bl m eu ev x)).sum
|[],_=>by
  unfold flux
  rw [zb1 (h:=λ _=>0) λ k _=>by simp,zi3];rfl
|w :: r,h=>by
  obtain ⟨h1,h2⟩:=uU.mp h
  rw [uK,wT,<- zm5 m eu ev x h2]
  unfold bl flux
  rw [<- zpo]
  refine zb1 λ k _=>?_
  unfold trm
  have a:∀ z:Nat,(if z∈w :: r then x k else 0)=(if z=w then x k else 0)+(if z∈r then x k else 0):=λ z=>by
   by_cases e:z=w
   ·subst e;simp [h1]
   ·simp [e]
  rw [a,a];lia
def tight (m:Nat) (eu ev:Nat->Nat) (cap x:Nat->Int) (side:List Nat):Prop:=∀ k,k < m->(eu k∈side->ev k ∉ side->x k=cap k)/\(ev k∈side->eu k ∉ side->x k=0)
def within (m:Nat) (cap x:Nat->Int):Prop:=∀ k,k < m->0<=x k/\x k<=cap k
theorem zzv {m:Nat} {eu ev:Nat->Nat} {cap x y:Nat->Int} {side:List Nat} (hx:tight m eu ev cap x side) (hy:within m cap y):flux m eu ev x side<=flux m eu ev y side:=by
 refine zif λ k hk=>?_
 obtain ⟨a,b⟩:=hx k hk
 obtain ⟨c,d⟩:=hy k hk
 by_cases h1:ev k∈side
 ·by_cases h2:eu k∈side
  ·simp only [if_pos h1,if_pos h2];lia
  ·simp only [if_pos h1,if_neg h2,b h1 h2];lia
 ·by_cases h2:eu k∈side
  ·simp only [if_neg h1,if_pos h2,a h2 h1];lia
  ·simp only [if_neg h1,if_neg h2];lia
theorem zrg {m:Nat} {eu ev:Nat->Nat} {cap x y:Nat->Int} {side:List Nat} (hx:tight m eu ev cap x side) (hy:within m cap y) (e:flux m eu ev x side=flux m eu ev y side):tight m eu ev cap y side:=by
 have key:=zl5 (m:=m) (g:=λ k=>(if ev k∈side then x k else 0) - (if eu k∈side then x k else 0)) (h:=λ k=>(if ev k∈side then y k else 0) - (if eu k∈side then y k else 0)) (λ k hk=>by
  obtain ⟨a,b⟩:=hx k hk
  obtain ⟨c,d⟩:=hy k hk
  by_cases h1:ev k∈side
  ·by_cases h2:eu k∈side
   ·simp only [if_pos h1,if_pos h2];lia
   ·simp only [if_pos h1,if_neg h2,b h1 h2];lia
  ·by_cases h2:eu k∈side
   ·simp only [if_neg h1,if_pos h2,a h2 h1];lia
   ·simp only [if_neg h1,if_neg h2];lia) e
 intro k hk
 have q:=key k hk
 obtain ⟨a,b⟩:=hx k hk
 refine ⟨λ h1 h2=>?_,λ h1 h2=>?_⟩
 ·simp only [if_neg h2,if_pos h1,a h1 h2] at q;lia
 ·simp only [if_neg h2,if_pos h1,b h1 h2] at q;lia
def aU (A:List Ar) (k:Nat):Nat:=((A[k]?).map λ a=>a.1).getD 0
def aV (A:List Ar) (k:Nat):Nat:=((A[k]?).map λ a=>a.2.1).getD 0
theorem zoo {A:List Ar} {L:List Int} (w:Nat):bal A.length (zl4 A) L w=bl A.length (aU A) (aV A) (λ k=>lf L (2 * k+1)) w:=by
 show sm _ _=sm _ _
 refine zb1 λ k hk=>?_
 have ga:A[k]?=some A[k]:=uB hk
 obtain ⟨e1,e2⟩:=zwc ga
 unfold term trm aU aV
 rw [e1,e2,ga];rfl
theorem zdd {l:List Nat} (h:l.Pairwise (· < ·)):l.Nodup:=h.imp λ h=>by lia
theorem Best.tight {n:Nat} {A:List Ar} {f L:List Int} {src snk:Nat} {side:List Nat} (b:Best n A f src snk L side):tight A.length (aU A) (aV A) (zf1 A) (λ k=>lf L (2 * k+1)) side:=λ k hk=>by
 have ga:A[k]?=some A[k]:=uB hk
 obtain ⟨e1,e2⟩:=zwc ga
 have s1:=b.up.cap.sm k hk
 have n1:=b.up.cap.nn (2 * k) (by lia)
 have n2:=b.up.cap.nn (2 * k+1) (by lia)
 have x1:xr (2 * k)=2 * k+1:=by unfold xr;rw [if_pos (by lia)]
 have x2:xr (2 * k+1)=2 * k:=by unfold xr;rw [if_neg (by lia)];lia
 have u1:aU A k=A[k].1:=by unfold aU;rw [ga];rfl
 have v1:aV A k=A[k].2.1:=by unfold aV;rw [ga];rfl
 rw [u1,v1]
 refine ⟨λ h1 h2=>?_,λ h1 h2=>?_⟩
 ·by_cases z:0 < lf L (2 * k)
  ·have:=b.cl (2 * k) (by lia) z (by unfold tl;rw [x1,e2];exact h1)
   rw [e1] at this;exact absurd this h2
  ·show lf L (2 * k+1)=_;lia
 ·by_cases z:0 < lf L (2 * k+1)
  ·have:=b.cl (2 * k+1) (by lia) z (by unfold tl;rw [x2,e1];exact h1)
   rw [e2] at this;exact absurd this h2
  ·show lf L (2 * k+1)=_;lia
theorem Best.within {n:Nat} {A:List Ar} {f L:List Int} {src snk:Nat} {side:List Nat} (b:Best n A f src snk L side):within A.length (zf1 A) (λ k=>lf L (2 * k+1)):=λ k hk=>by
 have s1:=b.up.cap.sm k hk
 have n1:=b.up.cap.nn (2 * k) (by lia)
 have n2:=b.up.cap.nn (2 * k+1) (by lia)
 show 0<=lf L (2 * k+1)/\lf L (2 * k+1)<=_
 lia
abbrev Pr:=Nat×Nat
def pU (P:List Pr) (k:Nat):Nat:=((P[k]?).map λ a=>a.1).getD 0
def pV (P:List Pr) (k:Nat):Nat:=((P[k]?).map λ a=>a.2).getD 0
def fx (f:List Int) (k:Nat):Int:=(f[k]?).getD 0
def nb (P:List Pr) (f:List Int) (w:Nat):Int:=bl P.length (pU P) (pV P) (fx f) w
theorem zmc (u v w:Nat):trm u v 0 w=0:=by unfold trm;simp
theorem zcm {u v w:Nat} (x:Int) (h1:w≠u) (h2:w≠v):trm u v x w=0:=by unfold trm;rw [if_neg (λ z=>h2 z.symm),if_neg (λ z=>h1 z.symm)];rfl
theorem zc4 {κ:Type} [DecidableEq κ] (p:κ×D) (r:List (κ×D)) (k:κ):getA (p :: r) k=if p.1=k then some p.2 else getA r k:=by
 unfold getA
 rw [wH]
 by_cases e:p.1=k
 ·simp [e]
 ·simp [e]
theorem zxc {κ:Type} [DecidableEq κ] (k k':κ) (d:D):∀ l:List (κ×D),getA (l++[(k,d)]) k'=match getA l k' with|some x=>some x|none=>if k=k' then some d else none
|[]=>by
  rw [List.nil_append,zc4]
  rfl
|p :: r=>by
  rw [List.cons_append,zc4,zc4,zxc k k' d r]
  by_cases e:p.1=k'
  ·rw [if_pos e,if_pos e]
  ·rw [if_neg e,if_neg e]
theorem zag {κ:Type} [DecidableEq κ] (k:κ):∀ l:List (κ×D),(l.any λ kv=>decide (kv.1=k))=(getA l k).isSome
|[]=>rfl
|p :: r=>by
  rw [wK,zc4,zag k r]
  by_cases e:p.1=k
  ·simp [e]
  ·simp [e]
theorem zlc {κ:Type} [DecidableEq κ] (k k':κ) (d:D):∀ l:List (κ×D),getA (l.map λ kv=>if kv.1=k then (kv.1,d) else kv) k'=if k=k' then (getA l k').map (λ _=>d) else getA l k'
|[]=>by simp [getA]
|p :: r=>by
  rw [uK,zc4,zc4,zlc k k' d r]
  by_cases e1:p.1=k
  ·rw [if_pos e1]
   by_cases e2:k=k'
   ·rw [if_pos (e1.trans e2),if_pos e2,if_pos (e1.trans e2)];rfl
   ·have:¬ p.1=k':=λ z=>e2 (e1.symm.trans z)
    rw [if_neg this,if_neg e2,if_neg e2,if_neg this]
  ·rw [if_neg e1]
   by_cases e2:p.1=k'
   ·have:¬ k=k':=λ z=>e1 (e2.trans z.symm)
    rw [if_pos e2,if_neg this,if_pos e2]
   ·rw [if_neg e2,if_neg e2]
theorem zjo {κ:Type} [DecidableEq κ] (kvs:List (κ×D)) (k k':κ) (d:D):getA (putD kvs k d) k'=if k=k' then some d else getA kvs k':=by
 unfold putD
 rw [zag]
 by_cases e:k=k'
 ·subst e
  rw [if_pos rfl]
  cases h:getA kvs k with
 |some x=>rw [if_pos (by simp),zlc,if_pos rfl,h];rfl
 |none=>rw [if_neg (by simp),zxc,h];simp
 ·rw [if_neg e]
  split
  ·rw [zlc,if_neg e]
  ·rw [zxc]
   cases getA kvs k' with
  |none=>simp [e]
  |some y=>rfl
theorem zxq {κ:Type} [DecidableEq κ] (kvs:List (κ×D)) (k:κ) (d:D):(putD kvs k d).length<=kvs.length+1:=by
 unfold putD
 split
 ·rw [uA];lia
 ·simp
def kP (u v:Nat):List Key:=[.inl (u:Int),.inl (v:Int)]
def Th (kvs:List (List Key×D)) (P:List Pr):Prop:=∀ (u v:Nat) d,getA kvs (kP u v)=some d->∃ j:Nat,d=nI j/\P[j]?=some (u,v)
theorem Th.nil:Th [] []:=λ u v d h=>by simp [getA] at h
theorem Th.put {kvs:List (List Key×D)} {P:List Pr} (h:Th kvs P) (u v:Nat):Th (putD kvs (kP u v) (nI P.length)) (P++[(u,v)]):=λ u' v' d e=>by
 rw [zjo] at e
 split at e
 ·next z =>
  cases e
  simp [kP] at z
  obtain ⟨z1,z2⟩:=z
  have z1:u=u':=by lia
  have z2:v=v':=by lia
  subst z1;subst z2
  exact ⟨P.length,rfl,by simp⟩
 ·obtain ⟨j,e1,e2⟩:=h u' v' d e
  exact ⟨j,e1,by rw [u5 (uZ.mp e2).1];exact e2⟩
structure Dr (n src snk:Nat) (P:List Pr) (f sl:List Int) (kvs:List (List Key×D)):Prop where
 lf:f.length=P.length
 ls:sl.length=P.length
 lk:kvs.length<=P.length
 bd:∀ p∈P,p.1 < n/\p.2 < n
 f0:∀ x∈f,0<=x
 s0:∀ x∈sl,0<=x
 th:Th kvs P
theorem Dr.nil (n src snk:Nat):Dr n src snk [] [] [] []:=⟨rfl,rfl,uF _,λ p h=>by simp at h,λ p h=>by simp at h,λ p h=>by simp at h,Th.nil⟩
theorem Dr.push {n src snk:Nat} {P:List Pr} {f sl:List Int} {kvs:List (List Key×D)} (h:Dr n src snk P f sl kvs) {u v:Nat} {x y:Int} (hu:u < n) (hv:v < n) (hx:0<=x) (hy:0<=y):Dr n src snk (P++[(u,v)]) (f++[x]) (sl++[y]) (putD kvs (kP u v) (nI P.length)):=by
 refine ⟨by simp [h.lf],by simp [h.ls],?_,λ p hp=>?_,λ z hz=>?_,λ z hz=>?_,h.th.put u v⟩
 ·have:=zxq kvs (kP u v) (nI P.length)
  have:=h.lk
  simp;lia
 ·rcases uG.mp hp with q|q
  ·exact h.bd p q
  ·simp at q;subst q;exact ⟨hu,hv⟩
 ·rcases uG.mp hz with q|q
  ·exact h.f0 z q
  ·simp at q;lia
 ·rcases uG.mp hz with q|q
  ·exact h.s0 z q
  ·simp at q;lia
def zr8 (P:List Pr) (f sl:List Int):List Ar:=(uL P.length).map λ k=>(pU P k,pV P k,fx f k+fx sl k)
theorem Best.bal {n:Nat} {A:List Ar} {f L:List Int} {src snk:Nat} {side:List Nat} (b:Best n A f src snk L side) (hf:f.length=A.length) (h:∀ w,w≠src->w≠snk->_5.bl A.length (aU A) (aV A) (fx f) w=0):∀ v,v≠src->v≠snk->_5.bal A.length (zl4 A) L v=0:=λ v h1 h2=>by
 rw [b.up.eqb v h1 h2,zoo]
 rw [show _5.bl A.length (aU A) (aV A) (λ k=>lf (zi6 A f) (2 * k+1)) v=_5.bl A.length (aU A) (aV A) (fx f) v from zb1 λ k hk=>?_]
 ·exact h v h1 h2
 ·have ga:A[k]?=some A[k]:=uB hk
  have gf:f[k]?=some f[k]:=uB (by lia)
  have e:=(zn7 ga gf).2
  show trm _ _ (lf (zi6 A f) (2 * k+1)) v=_
  rw [e]
  unfold fx;rw [gf];rfl
theorem zbu {A:List Ar} {f:List Int} (hf:f.length=A.length) {k:Nat} (hk:k < A.length):lf (zi6 A f) (2 * k+1)=fx f k:=by
 have ga:A[k]?=some A[k]:=uB hk
 have gf:f[k]?=some f[k]:=uB (by lia)
 rw [(zn7 ga gf).2]
 unfold fx;rw [gf];rfl
end _5
namespace _4
open PySem PySem.Spec PyProof.Rows _2 _3
section
variable {P:Program} {w:World} {K:Fg} {mg:Str->Option Value} {base:Heap}
end
section
variable {K:Fg} {g:TG} {dg:DG} {tb:TS} {db:DS} {n:Nat}
end
section
variable {K:Fg} {t1 t2 t3 te:TE} {d1 d2 d3:DE} {dn:DN}
end
end _4
namespace _5
open PySem PySem.W PyProof.Rows
def Whole (n:Nat) (p:Array Nat):Prop:=p.toList.Perm (uL n)
section
variable {n:Nat} {lt:Nat->Nat->Bool} {cmp:Nat->Nat->(Bool->Shared->Prop)->Shared->Prop} {s:Shared} {p:Array Nat}
theorem Whole.size (h:Whole n p):p.size=n:=by have:=h.length_eq;simpa using this
end
end _5
namespace _3
open PySem PySem.W PySem.Spec PyProof.Rows _2 _5
section
variable {s:Shared} {w:World} {prog:Program} {E:Value->Shared->Prop} {A:Around}
inductive TupRows (h:Heap):List Value->List (List Int)->Prop
|nil:TupRows h [] []
|cons {v:Value} {r:List Int} {vs:List Value} {rows:List (List Int)}:(∃ b o its k,v=.ref b/\h.get? b=some o/\o.cls=.type "tuple"/\o.data=.seq its k/\IntsAre its.toList r/\r≠[])->TupRows h vs rows->TupRows h (v :: vs) (r :: rows)
theorem TupRows.mono {h h':Heap} {vs:List Value} {rows:List (List Int)} (t:TupRows h vs rows) (k:∀ b o,h.get? b=some o->o.cls=.type "tuple"->h'.get? b=some o):TupRows h' vs rows:=by
 induction t with
|nil=>exact .nil
|cons a t ih =>
  obtain ⟨b,o,its,n,e1,e2,e3,e4,e5,e6⟩:=a
  exact .cons ⟨b,o,its,n,e1,k b o e2 e3,e3,e4,e5,e6⟩ ih
end
inductive RowsV (K:Fg) (H:Hp):List V->List (List Int)->Prop
|nil:RowsV K H [] []
|cons {b:Addr} {r:List Int} {xs:List V} {rows:List (List Int)}:SqT K H b (r.map V.int)->r≠[]->RowsV K H xs rows->RowsV K H (.ref b :: xs) (r :: rows)
theorem RowsV.len {K:Fg} {H:Hp} {xs:List V} {rows:List (List Int)} (h:RowsV K H xs rows):xs.length=rows.length:=by
 induction h with
|nil=>rfl
|cons _ _ _ ih=>simp [ih]
theorem Vals.getP {xs:List V} {us:List Value} (h:Vals xs us) {i:Nat} (hi:i < xs.length):RelV (xs.getD i .non) (us.getD i .none):=by
 obtain ⟨u,e,r⟩:=Vals.get h (uB hi)
 rw [uQ,uQ,uB hi,e]
 exact r
end _3
namespace _4
open PySem PySem.Spec PyProof.Rows _2 _3
section
variable {K:Fg}
end
end _4
namespace _3
open PySem PySem.Spec PyProof.Rows _2
section
variable {s:Shared} {w:World} {prog:Program} {E:Value->Shared->Prop} {A:Around}
end
section
variable {X:Cx} {tg:Expr}
end
end _3
namespace _4
open PySem PySem.Spec PyProof.Rows _2 _3
section
variable {K:Fg} {w:World}
end
section
variable {K:Fg} {g:TG} {dg:DG} {tb:TS} {db:DS} {n:Nat} {B:Bs} {F H:Hp} {Y:_2.St} {U:DSt} {fps:Nat->List Addr}
end
section
variable {K:Fg} {te:TE} {tA:TA} {dA:DF} {dc:DC} {tt tu:TT} {dt:DT} {t u:TS} {d e:DS}
variable {du:DU}
end
abbrev DX:=Addr->DSt->Prop
abbrev DSpX:=List Arg->(T->T->Prop)->(Addr->T->Prop)->Prop
def ExOk (K:Fg) (EY:_2.St->XK) (ex:DX) (B:Bs):Prop:=∀ {C:Addr} {F H:Hp} {Y:_2.St} {U:DSt} {fps:Nat->List Addr},RS K B F H Y U fps->ex C U->EY Y (.ref C) none H
section
variable {K:Fg} {EY:_2.St->XK} {ex:DX} {te ta:TE} {tA:TA} {dA:DF} {dc:DCX} {tt:TT} {dt:DT} {t u tb:TS} {d e db:DS} {g:TG} {dg:DG} {n:Nat} {dp:DP} {dA':DAT}
theorem ExOk.mono {B B':Bs} (h:ExOk K EY ex B) (k:∀ {F H:Hp} {Y:_2.St} {U:DSt} {fps:Nat->List Addr},RS K B' F H Y U fps->RS K B F H Y U fps):ExOk K EY ex B':=λ r q=>h (k r) q
def zy11 (p:DSpX) (U:DSt) (as:List ArgP) (Q:T->DSt->Prop) (X:DX):Prop:=match zwl as with
|some (i,q,t)=>ztp U i/\oneO i as/\zwp t/\p (as.map ArgP.arg) (λ r t2=>mutS U i q t2 λ U'=>Q r U') λ C t2=>mutS U i q t2 λ U'=>X C U'
|none=>noO as/\p (as.map ArgP.arg) (λ r _=>Q r U) λ C _=>X C U
def zqw (K:Fg):List (Value×DS)->Addr->DEnds->DSt->Prop
|[],_,_,_=>False
|(c,d) :: r,C,E,U=>∃ b,PySem.W.exmOne K (.ref C) c=some b/\if b=true then d E U else zqw K r C E U
inductive RfHs (K:Fg):List (Value×TS)->List (Value×DS)->Prop
|nil:RfHs K [] []
|cons {c:Value} {t:TS} {d:DS} {l:List (Value×TS)} {hs:List (Value×DS)}:RfS K t d->RfHs K l hs->RfHs K ((c,t) :: l) ((c,d) :: hs)
end
section
variable {P:Program} {w:World} {K:Fg} {mg:Str->Option Value} {base:Heap}
end
end _4
namespace _3
open PySem PySem.Spec PyProof.Rows _2
section
variable {X:Cx}
variable {k:Nat} {m:Str} {pos apos:Pos} {o:Expr} {ta:TE} {EY:St->XK}
end
end _3
namespace _4
open PySem PySem.Spec PyProof.Rows _2 _3
section
variable {K:Fg} {te:TE} {de:DE} {tj:TJ}
abbrev DJ:=DSt->Nat->(Nat->Prop)->Prop
variable {dj:DJ}
end
theorem zno (K:Fg) (C:Addr) (E:DEnds) (U:DSt):zqw K [] C E U=False:=rfl
theorem zdn (K:Fg) (c:Value) (d:DS) (r:List (Value×DS)) (C:Addr) (E:DEnds) (U:DSt):zqw K ((c,d) :: r) C E U=∃ b,PySem.W.exmOne K (.ref C) c=some b/\if b=true then d E U else zqw K r C E U:=rfl
theorem zzi (p:DSpX) (U:DSt) (as:List ArgP) (Q:T->DSt->Prop) (X:DX):zy11 p U as Q X=match zwl as with
|some (i,q,t)=>ztp U i/\oneO i as/\zwp t/\p (as.map ArgP.arg) (λ r t2=>mutS U i q t2 λ U'=>Q r U') λ C t2=>mutS U i q t2 λ U'=>X C U'
|none=>noO as/\p (as.map ArgP.arg) (λ r _=>Q r U) λ C _=>X C U:=rfl
section
variable {K:Fg} {te ta:TE} {tA:TA} {da de:DE} {dA:DF} {dp:DP} {dn:DN}
end
end _4
namespace _4
open PySem PySem.W PySem.Spec PySem.Calls PyProof.Rows PySem.Builtin PySem.Builtin.ObjectAttr PySem.Builtin.Getset_descriptor
section
variable {prog:Program} {w:World} {A:Around} {E:Value->Shared->Prop} {s:Shared} {K:Fg} {x D:Addr} {ox:Obj}
structure XAt (h:Heap) (x:Addr) (ox:Obj) (C:Addr):Prop where
 at_:h.get? x=some ox
 cls:ox.cls=.ref C
structure ExK (K:Fg) (D:Addr):Prop where
 hc:(clsIn K D).isSome=true
 hga:findIn K (.ref D) "__getattribute__"=some (some (.builtin "BaseException.__getattribute__"))
 hgn:findIn K (.ref D) "__getattr__"=some none
 ha:findIn K (.ref D) "__class__"=some (some (.builtin "object.__class__"))
 hn:specialIn K (.builtin "object.__class__") "__get__"=some (some (.builtin "getset_descriptor.__get__"))
 htk:takesIn K (.builtin "object.__class__")=some true
 hm:mroIn K D (.type "object")=some true
 hmB:mroIn K D (.type "BaseException")=some true
end
end _4
namespace _3
open PySem PySem.Spec PyProof.Rows _2
section
variable {X:Cx} {pins:List (Addr×Obj)} {Y:St} {H:Hp} {s:Shared}
end
def asX (X:Cx) (ea:Addr) (oe:Obj):Cx:={ zy21 X ea with pn:=X.pn++[(ea,oe)] }
section
variable {X:Cx} {pins:List (Addr×Obj)} {Y:St} {H H':Hp} {s s':Shared} {ea C:Addr} {oe:Obj} {B:Heap} {a0:Value}
def unD (i:Nat) (D:Ends):Ends:={ nx:=λ Y H=>D.nx (Y.set i none) H,rt:=D.rt,bk:=λ Y H=>D.bk (Y.set i none) H,ct:=λ Y H=>D.ct (Y.set i none) H }
def tAs (i:Nat) (t:Addr->TS):TS:=λ D Y H=>∀ ea,H ea=none->t ea (unD i D) (Y.set i (some (.ref ea))) H
inductive HandsN (X:Cx):List ExceptHandler->List (Value×(Addr->TS))->Prop
|nil:HandsN X [] []
|cons {x n:Str} {np pos:Pos} {i:Nat} {b₀:Stmt} {suite:List Stmt} {c:Value} {t:Addr->Addr->TS} {hs:List ExceptHandler} {l:List (Value×(Addr->TS))}:Gl X x->(X.mg x=some c \/ (X.mg x=none/\bootBuiltins x=some c/\x ≠ "__name__"))->(x == ("__debug__":Str))=false ->
   X.N.Nodup->X.N[i]?=some n->X.env.kindOf n=some .local->(∀ ea oe C,oe.cls=.ref C->PSs (asX X ea oe) (b₀ :: suite) (t C ea))->HandsN X hs l ->
   HandsN X (.ExceptHandler (some (.Name x np)) (some n) (b₀ :: suite) pos :: hs) ((c,λ C=>tAs i (t C)) :: l)
end
end _3
namespace _4
open PySem PySem.Spec PyProof.Rows _2 _3
section
variable {i j:Nat} {ea:Addr}
structure ImpS (i:Nat) (ea:Addr) (ts ts':TS):Prop where
 of:∀ {D:Ends} {Y:_2.St} {H:Hp},Y[i]?=some (some (.ref ea))->ts' D Y H->ts D Y H
variable {te te':TE} {ta ta':TA} {u u':TS}
end
section
variable {K:Fg} {B:Bs} {F H:Hp} {Y:_2.St} {U:DSt} {fps:Nat->List Addr} {i:Nat}
def zlk (K:Fg):List (Value×(Addr->DS))->Addr->DEnds->DSt->Prop
|[],_,_,_=>False
|(c,d) :: r,C,E,U=>∃ b,PySem.W.exmOne K (.ref C) c=some b/\if b=true then d C E U else zlk K r C E U
def dAs (i:Nat) (d:DS):DS:=λ E U=>U[i]?=some .un/\d { nx:=λ U'=>U'[i]?=some .un/\E.nx U',bk:=λ U'=>U'[i]?=some .un/\E.bk U',ct:=λ U'=>U'[i]?=some .un/\E.ct U',rt:=E.rt } U
def dG (Cs:List Addr) (C:Addr) (d:DS):DS:=λ E U=>C∈Cs/\d E U
inductive RfHsN (K:Fg):List (Value×(Addr->TS))->List (Value×(Addr->DS))->Prop
|nil:RfHsN K [] []
|cons {Cs:List Addr} {c:Value} {i:Nat} {t:Addr->Addr->TS} {t':Addr->TS} {d:Addr->DS} {l:List (Value×(Addr->TS))} {hs:List (Value×(Addr->DS))}:(∀ C,C∈Cs->∀ ea,ImpS i ea (t C ea) (t' C))->(∀ C,C∈Cs->RfS K (t' C) (d C))->RfHsN K l hs->RfHsN K ((c,λ C=>tAs i (t C)) :: l) ((c,λ C=>dAs i (dG Cs C (d C))) :: hs)
end
structure KxT (K:Fg) (Cs Ds:List Addr):Prop where
 ex:∀ C∈Cs,ExK K C
 one:∀ C∈Cs,∀ D∈Ds,PySem.W.kitOne K (.ref C) (.ref D)=some (C == D)
 ve:∀ C∈Cs,PySem.W.kitOne K (.ref C) (.type "ValueError")=some true
 nd:Ds.Nodup
theorem zti (K:Fg) (C:Addr) (E:DEnds) (U:DSt):zlk K [] C E U=False:=rfl
theorem zgi (K:Fg) (c:Value) (d:Addr->DS) (r:List (Value×(Addr->DS))) (C:Addr) (E:DEnds) (U:DSt):zlk K ((c,d) :: r) C E U=∃ b,PySem.W.exmOne K (.ref C) c=some b/\if b=true then d C E U else zlk K r C E U:=rfl
theorem zr51 (i:Nat) (d:DS) (E:DEnds) (U:DSt):dAs i d E U=(U[i]?=some .un/\d { nx:=λ U'=>U'[i]?=some .un/\E.nx U',bk:=λ U'=>U'[i]?=some .un/\E.bk U',ct:=λ U'=>U'[i]?=some .un/\E.ct U',rt:=E.rt } U):=rfl
theorem e_dG (Cs:List Addr) (C:Addr) (d:DS) (E:DEnds) (U:DSt):dG Cs C d E U=(C∈Cs/\d E U):=rfl
end _4
namespace _3
open PySem PySem.Spec PyProof.Rows _2
theorem zjl {k:Key} {v:Value} (h:zto k v=true):RelV (kV k) v:=by
 rcases za1 h with ⟨j,t,rfl,rfl⟩|⟨x,t,rfl,rfl⟩
 ·exact ⟨t,rfl⟩
 ·exact ⟨t,rfl⟩
section
variable {X:Cx} {tg:Expr}
end
end _3
namespace _4
open PySem PySem.Spec PyProof.Rows _2 _3
section
variable {K:Fg} {w:World}
end
section
variable {K:Fg} {te:TE} {de:DE} {tj:TJ} {dj:DJ}
end
section
variable {K:Fg} {te te1 te2:TE} {df:DF} {de:DE} {dc:DC}
end
section
variable {X:Cx} {x:Str} {pos pos':Pos} {e a b:Expr} {te ta tb:TE} {k j:Nat} {K:Fg}
theorem pset (i:Nat) (hN:X.N.Nodup) (he:PE X e te) (hi:X.N[i]?=some x:=by rfl) (hx:Loc X.env.scope x:=by first|exact Or.inl rfl|exact Or.inr rfl) (hs:swapsWith e (some (.Name x pos')) pos.line X.env=pure false:=by rfl) (hf:X.fn x=true \/ X.env.scope.names.lookup x=some .local:=by first|exact .inl rfl|exact .inr rfl|assumption):PS X (.Assign [.Name x pos'] e pos) (tAsg te (zuj i)):=zlz hN hi hx he hs hf
theorem pgn (i:Nat) (hN:X.N.Nodup) (hi:X.N[i]?=some x:=by rfl) (hx:Loc X.env.scope x:=by first|exact Or.inl rfl|exact Or.inr rfl) (hf:X.fn x=true \/ X.env.scope.names.lookup x=some .local:=by first|exact .inl rfl|exact .inr rfl|assumption):PG X (.Name x pos) (zuj i):=zlq hN hi hx hf
theorem pix (w:World) (K:Fg) (hr:Room k X.A) (ha:PE X a ta) (hb:PE X b tb) (hw:X.w=w:=by rfl) (hK:X.K=K:=by rfl) (hs:zrl b:=by exact λ _ _=>rfl):PE X (.Subscript a b pos) (tOp (rIxV w K) ta tb):=zk71 (ix_V (Room.units hr) hw hK) ha hb hs
theorem nds (l:List Str) (h:l.Nodup:=by decide +kernel):l.Nodup:=h
theorem rvi {i:Int}:RfV K (tC (.int i)) (dC (.int i)):=RfE.v zp1
theorem rgn (i:Nat) (hi:i < 100:=by decide):RfG K 100 (zuj i) (gN i):=zc1 hi
theorem rmn {A:Around} (hr:Room k A) (h:j<=k:=by decide):Room j A:=Room.mono hr h
end
section
variable {K:Fg} {te ta te1 te2:TE} {dn1 dn2:DN} {dp:DP}
variable {tA:TA} {dA:DAT}
end
section
variable {K:Fg} {B:Bs} {F H F' H':Hp} {Y:_2.St} {U:DSt} {fps:Nat->List Addr}
end
section
structure PreM (K:Fg) (F H:Hp) (vs:List V) (as:List Arg) (fl:Nat->List Addr):Prop where
 len:vs.length=as.length
 d:∀ (k:Nat) x,as[k]?=some (.d x)->∃ v,vs[k]?=some v/\Is K F v x
 b:∀ (k:Nat) x,as[k]?=some (.b x)->∃ v,vs[k]?=some v/\Rt K F H v x (fl k)/\(fl k).Nodup
 o:∀ (k:Nat) x,as[k]?=some (.o x)->∃ a,vs[k]?=some (.ref a)/\Rt K F H (.ref a) x (fl k)/\(fl k).Nodup
 dj:∀ (j k:Nat) x y,j≠k->as[j]?=some (.o x)->(as[k]?=some (.b y) \/ as[k]?=some (.o y))->∀ b∈fl j,b ∉ fl k
structure PostM (K:Fg) (F H:Hp) (vs:List V) (as:List Arg) (fl:Nat->List Addr) (F' H':Hp) (v:V) (r:T) (fpr:List Addr) (ts:List T) (fq:Nat->List Addr):Prop where
 hh:∀ b o,(∀ (k:Nat) x,as[k]?=some (.o x)->b ∉ fl k)->H b=some o->H' b=some o
 ff:Same F F'
 fh:Same F' H'
 nw:∀ b,HD (H b)->F b=none->F' b=none
 al:∀ b,(H b≠none->H' b≠none)/\(HD (H b)->HD (H' b))
 rt:Rt K F' H' v r fpr
 nd:fpr.Nodup
 fr:∀ a∈fpr,H a=none
 io:∀ (k:Nat) x a,as[k]?=some (.o x)->vs[k]?=some (.ref a)->∃ t',ts[k]?=some t'/\Rt K F' H' (.ref a) t' (fq k)/\(fq k).Nodup/\(∀ b∈fq k,(∃ (j:Nat) (y:T),as[j]?=some (.o y)/\b∈fl j) \/ H b=none)/\∀ b∈fq k,b ∉ fpr
 dj:∀ (j k:Nat) x y,j≠k->as[j]?=some (.o x)->as[k]?=some (.o y)->∀ b∈fq j,b ∉ fq k
variable {P:Program} {w:World} {K:Fg} {mg:Str->Option Value} {base:Heap}
end
section
variable {K:Fg} {B:Bs} {F H:Hp} {Y:_2.St} {U:DSt} {fps:Nat->List Addr}
end
section
variable {K:Fg} {B:Bs} {F H:Hp} {Y:_2.St} {U:DSt} {fps:Nat->List Addr}
structure FoO (K:Fg) (F H:Hp) (Y:_2.St) (U:DSt) (fps:Nat->List Addr) (v:Option V) (i:Nat) (q:Pth) (t:T) (fn:List Addr) (a:Addr) (s:Sl) (t0:T) (x:V):Prop where
 ev:v=some (.ref a)
 es:U[i]?=some s
 os:s.own=true
 et:s.tree=some t0
 ex:Y.getD i none=some x
 rt0:Rt K F H x t0 (fps i)
 rta:Rt K F H (.ref a) t fn
 nd:fn.Nodup
 sub:∀ b∈fn,b∈fps i
 back:∀ (F2 H2:Hp) (u2:T) (fq:List Addr),Same F F2->(∀ b∈fps i,b ∉ fn->H2 b=H b/\F2 b=none)->Rt K F2 H2 (.ref a) u2 fq->fq.Nodup->(∀ b∈fq,b∈fn \/ b ∉ fps i)->∃ fp2,Rt K F2 H2 x (setP t0 q u2) fp2/\fp2.Nodup/\∀ b∈fp2,(b∈fps i/\b ∉ fn) \/ b∈fq
structure FoP (K:Fg) (F H:Hp) (Y:_2.St) (U:DSt) (j:Nat) (q:Pth) (fp2 fn fm fq:List Addr) (fpr:List Addr) (old:Addr->Prop) (t1:Option T) (s:Sl) (t0:T) (x:V) (tk:T):Prop where
 es:U[j]?=some s
 et:s.tree=some t0
 ex:Y.getD j none=some x
 ek:t1=some tk
 rt:Rt K F H x (setP t0 q tk) fp2
 nd:fp2.Nodup
 m2:∀ b∈fp2,(b∈fn/\b ∉ fm) \/ b∈fq
 mo:∀ b∈fq,old b
 fk:∀ b∈fq,b ∉ fpr
variable {tA:TA} {dA:DAT}
end
end _4
namespace _5
open PySem PySem.Spec PyProof.Rows _2 _3 _4
section
variable {K:Fg} {te ta:TE} {df:DF} {da:DE} {tt tu:TT} {dt:DT} {du dv:DU}
end
section
variable {prog:Program} {w:World} {A:Around} {E:Value->Shared->Prop}
end
section
variable {X:Cx} {pins:List (Addr×Obj)} {Y:_2.St} {A:Around} {E:Value->Shared->Prop}
end
section
variable {K:Fg} {te:TE} {de:DE}
end
section
variable {K:Fg}
end
end _5
namespace _4
open PySem PySem.Spec PyProof.Rows _2 _3
section
variable {K:Fg} {te ta ti tj:TE} {de d1 d2:DE} {dp:DP} {w:World}
end
end _4
namespace _3
open PySem PySem.W PySem.Spec PyProof.Rows _2 _5
section
variable {w:World} {prog:Program}
end
end _3
namespace _4
open PySem PySem.Spec PyProof.Rows _2 _3
section
variable {K:Fg} {ta:TE} {dp:DP}
end
end _4
namespace _3
open PySem PySem.Spec PyProof.Rows _2
end _3
namespace _4
open PySem PySem.Spec PyProof.Rows _2 _3
section
variable {K:Fg} {g:TG} {dg:DG} {tb:TS} {db:DS} {n:Nat}
def NoFz (H:Hp) (fp:List Addr):Prop:=∀ a∈fp,∀ o u,H a≠some (.frz o u)
theorem NoFz.nil {H:Hp}:NoFz H []:=λ _ h=>nomatch h
end
end _4
namespace _3
open PySem PySem.Spec PyProof.Rows _2
structure PAX (X:Cx) (es:List Expr) (t:TA):Prop where
 h:PA X es t
end _3
namespace _5
open PySem PySem.Spec PyProof.Rows _2 _3 _4
theorem zq2 {di:DF} {dg:DG} {db:DS} {E:DEnds} {U:DSt} (h:∀ B:DS,(∀ E U,db E U->B E U)->dFor di dg B E U):dFor di dg db E U:=h db λ _ _ z=>z
theorem zpl {dt:DT} {da db:DS} {E:DEnds} {U:DSt} (h:∀ A B:DS,(∀ E U,da E U->A E U)->(∀ E U,db E U->B E U)->dIf dt A B E U):dIf dt da db E U:=h da db (λ _ _ z=>z) λ _ _ z=>z
end _5
namespace _3
open PySem PySem.Spec PyProof.Rows _2
theorem zgl:∀ {xs:List V} {us:List Value},xs.length=us.length->(∀ (k:Nat) x u,xs[k]?=some x->us[k]?=some u->RelV x u)->Vals xs us
|[],[],_,_=>.nil
|[],_ :: _,e,_=>by simp at e
|_ :: _,[],e,_=>by simp at e
|x :: xs,u :: us,e,h=>.cons (h 0 x u rfl rfl) (zgl (by simpa using e) λ k x u a b=>h (k+1) x u (by simpa using a) (by simpa using b))
section
variable {X:Cx}
theorem zbr:∀ {kvs:List (Key×V)} {vs:List (Key×Value)},KV kvs vs->∀ {i:Nat} {k:Key} {u:Value},vs[i]?=some (k,u)->∃ v,kvs[i]?=some (k,v)/\RelV v u:=by
 intro kvs vs h
 induction h with
|nil=>intro i k u e;simp at e
|@cons p q ps qs hq t ih =>
  intro i k u e
  cases i with
 |zero =>
   simp at e
   subst e
   obtain ⟨p1,p2⟩:=p
   obtain ⟨h1,h2⟩:=hq
   dsimp only at h1 h2
   subst h1
   exact ⟨p2,rfl,h2⟩
 |succ i=>simp at e ⊢;exact ih e
def zv41:List V->Hp->VK->Prop:=λ vs H Q=>∃ (a:Addr) (kvs:List (Key×V)) (ns:List Int),vs=[.ref a]/\H a=some (.dK kvs)/\kvs.map (·.1)=ns.map uO/\ns≠[]/\∀ M∈ns,(∀ x∈ns,M<=x)->Q (.int M) H
theorem zvi (hc:X.calm=true):CallR X (.builtin "min") zv41:=by
 intro pins s Y H xs us Q I r h
 obtain ⟨a,kvs,ns,rfl,hx,hk,hne,q⟩:=h
 obtain ⟨u,rfl,r1⟩:=zoe r
 cases r1
 obtain ⟨z,lo,vs,rel,o,es,ep,h1,h2⟩:=(show ObjOk X.prog X.w H s.heap a (.dK kvs) from I.hok a _ hx)
 have hm:s.heap.DictAt (zu0 X.prog X.w) a vs ep:=⟨o,es,h1,h2⟩
 have hlen:vs.length=ns.length:=by
  have:=congrArg u8 hk
  rw [uA,uA] at this
  rw [<- this];exact (Paired.length rel).symm
 have hat:∀ (i:Nat) (k:Key) (u:Value),vs[i]?=some (k,u)->k=uO (ns.getD i 0):=λ i k u e=>by
  obtain ⟨v,e1,_⟩:=zbr rel e
  have e2:(kvs.map (·.1))[i]?=some k:=by rw [uI,e1];rfl
  rw [hk,uI] at e2
  obtain ⟨n,e3,e4⟩:=u6.mp e2
  rw [<- e4,uQ,e3];rfl
 have hpos:0 < ns.length:=yX.mpr hne
 have aL:a < s.heap.objs.size:=uN h1
 refine call_min_walk (wpAny_pyIter_dict lo hm ?_)
 refine ⟨_,_,_,_,_,_,_,rfl,Walks.dictKeys (A:=X.A.in1) (knd:=zu0 X.prog X.w) (I.ok.hd hc) s.heap.objs.size a (uY aL) vs ep,⟨⟨_,uT _ rfl,rfl,rfl⟩,hm.at' λ o e=>uH _ e⟩,λ b hb=>?_,by lia,CmpOf.ints_lt (λ i=>ns.getD i 0) (λ i v hv=>?_),λ v h' tk hP hk'=>?_⟩
 ·show b < (s.heap.push _).objs.size
  rw [vD]
  simp at hb
  rcases hb with e|e
  ·rw [e];exact xF _
  ·rw [e];exact w9 aL
 ·obtain ⟨k,x,e1,e2⟩:=hv
  rw [hat i k x e1] at e2
  exact (show RelV (kV (uO (ns.getD i 0))) v from zjl e2)
 ·obtain ⟨k,x,e1,e2⟩:=hP
  rw [hat _ k x e1] at e2
  obtain ⟨g1,g2⟩:=argBest_lt (λ i=>ns.getD i 0) (vs.length - 1)
  have hb:∀ b o,s.heap.get? b=some o->h'.get? b=some o:=λ b o e=>hk' b o (by simp;exact uY (uN e)) (uH _ e)
  refine ⟨.int _,H,I.kept hb,(show RelV (kV (uO _)) v from zjl e2),q _ (getD_mem (by lia)) λ y hy=>?_⟩
  obtain ⟨j,hj,rfl⟩:=mem_getD hy
  exact g2 j (by lia)
def vwH (p a:Addr):Heap->Prop:=λ h=>h.IsValuesView p a
def zb51:V->List V->Hp->VK->Prop:=λ x vs H Q=>∃ (a:Addr) (kvs:List (Key×V)),x=.ref a/\vs=[]/\H a=some (.dK kvs)/\∀ p,H p=none->Q (.ref p) (upd H p (.ext (vwH p a)))
theorem znw:MtM X "dict.values" zb51:=by
 intro pins s Y H x vs v us Q I rx rv h
 obtain ⟨a,kvs,rfl,rfl,hx,q⟩:=h
 cases rx
 cases rv
 obtain ⟨z,lo,vs,rel,dd⟩:=zdo I.hok hx
 refine call_meetsIn PySem.F.slot_dict_values dd.typeIs PySem.F.entry_dict_values (PySem.F.args_dict_values_1 _) (meets_dict_values (zu0 X.prog X.w) a lo) ⟨⟨vs,dd⟩,?_⟩
 refine ⟨.ref _,_,I.laid (t':=s.toks) (o:=.ext (vwH s.heap.objs.size a)) (λ b ob e=>uH _ e) (uF _) ?_,rfl,q _ (I.hok.fresh (uF _))⟩
 exact ⟨⟨_,uT _ rfl,rfl,rfl⟩,⟨_,uT _ rfl⟩,λ h1 h2 ⟨o,e,r⟩ k=>⟨o,k o e,r⟩⟩
def zj41:List V->Hp->VK->Prop:=λ vs H Q=>∃ (p a:Addr) (kvs:List (Key×V)) (ns:List Int),vs=[.ref p]/\H p=some (.ext (vwH p a))/\H a=some (.dK kvs)/\kvs.map (·.2)=ns.map V.int/\ns≠[]/\∀ M∈ns,(∀ x∈ns,x<=M)->Q (.int M) H
theorem zcj (hc:X.calm=true):CallR X (.builtin "max") zj41:=by
 intro pins s Y H xs us Q I r h
 obtain ⟨p,a,kvs,ns,rfl,hp,hx,hk,hne,q⟩:=h
 obtain ⟨u,rfl,r1⟩:=zoe r
 cases r1
 obtain ⟨z,lo,vs,rel,o,es,ep,h1,h2⟩:=(show ObjOk X.prog X.w H s.heap a (.dK kvs) from I.hok a _ hx)
 have hm:s.heap.DictAt (zu0 X.prog X.w) a vs ep:=⟨o,es,h1,h2⟩
 have hv:s.heap.IsValuesView p a:=((show ObjOk X.prog X.w H s.heap p (.ext (vwH p a)) from I.hok p _ hp)).1
 have hlen:vs.length=ns.length:=by
  have:=congrArg u8 hk
  rw [uA,uA] at this
  rw [<- this];exact (Paired.length rel).symm
 have hat:∀ (i:Nat) (k:Key) (u:Value),vs[i]?=some (k,u)->∃ t,u=.int (ns.getD i 0) t:=λ i k u e=>by
  obtain ⟨v,e1,e5⟩:=zbr rel e
  have e2:(kvs.map (·.2))[i]?=some v:=by rw [uI,e1];rfl
  rw [hk,uI] at e2
  obtain ⟨n,e3,e4⟩:=u6.mp e2
  rw [<- e4] at e5
  obtain ⟨t,e6⟩:=e5
  exact ⟨t,by rw [e6,uQ,e3];rfl⟩
 have hpos:0 < ns.length:=yX.mpr hne
 have aL:a < s.heap.objs.size:=uN h1
 refine call_max_walk (wpAny_pyIter_values hv hm ?_)
 refine ⟨_,_,_,_,_,_,_,rfl,Walks.dictValues (A:=X.A.in1) (knd:=zu0 X.prog X.w) (I.ok.hd hc) s.heap.objs.size a (uY aL) vs ep,⟨⟨_,uT _ rfl,rfl,rfl⟩,hm.at' λ o e=>uH _ e⟩,λ b hb=>?_,by lia,CmpOf.ints_gt (λ i=>ns.getD i 0) (λ i v hv=>?_),λ v h' tk hP hk'=>?_⟩
 ·show b < (s.heap.push _).objs.size
  rw [vD]
  simp at hb
  rcases hb with e|e
  ·rw [e];exact xF _
  ·rw [e];exact w9 aL
 ·obtain ⟨k,e1⟩:=hv
  exact hat i k v e1
 ·obtain ⟨k,e1⟩:=hP
  obtain ⟨t,rfl⟩:=hat _ k v e1
  obtain ⟨g1,g2⟩:=argBest_gt (λ i=>ns.getD i 0) (vs.length - 1)
  have hb:∀ b o,s.heap.get? b=some o->h'.get? b=some o:=λ b o e=>hk' b o (by simp;exact uY (uN e)) (uH _ e)
  refine ⟨.int _,H,I.kept hb,⟨_,rfl⟩,q _ (getD_mem (by lia)) λ y hy=>?_⟩
  obtain ⟨j,hj,rfl⟩:=mem_getD hy
  exact g2 j (by lia)
def rAny (K:Fg):List V->Hp->VK->Prop:=λ vs H Q=>∃ (a:Addr) (ns:List Int),vs=[.ref a]/\SqL K H a (ns.map V.int)/\Q (.bl (ns.any λ n=>n != 0)) H
theorem zso {K:Fg} (h:X.K=K) (hc:X.calm=true):CallR X (.builtin "any") (rAny K):=by
 subst h
 intro pins s Y H xs us Q I r h
 obtain ⟨a,ns,rfl,hx,q⟩:=h
 obtain ⟨u,rfl,r1⟩:=zoe r
 cases r1
 obtain ⟨its,rv,p,hz⟩:=I.list hx
 have hl:=rv.length
 rw [uA] at hl
 have aL:a < s.heap.objs.size:=by obtain ⟨o,ho,_⟩:=p.isList;exact uN ho
 refine call_any_walk (wpAny_pyIter_list p.isList ?_)
 refine ⟨_,_,_,_,_,_,λ i=>ns.getD i 0 != 0,rfl,Walks.list (A:=X.A.in1) (I.ok.hd hc) s.heap.objs.size a (uY aL) its.toArray,⟨⟨_,uT _ rfl,rfl,rfl⟩,p.isList.at λ o e=>uH _ e⟩,?_,λ h' tk hk'=>?_⟩
 ·intro i v s Q E hv hq
  have hv:its.toArray[i]?=some v:=hv
  have hv:its[i]?=some v:=by simpa using hv
  have hi:i < ns.length:=by rw [hl];exact (uZ.mp hv).1
  have e3:ns[i]?=some ns[i]:=uB hi
  obtain ⟨u,e1,e2⟩:=rv.get (i:=i) (x:=.int ns[i]) (by rw [uI,e3];rfl)
  rw [hv] at e1
  cases e1
  obtain ⟨t,rfl⟩:=e2
  refine truthy_int ?_
  have hq:Q (ns.getD i 0 != 0) s:=hq
  have:ns.getD i 0=ns[i]:=by rw [uQ,e3];rfl
  rw [this] at hq;exact hq
 ·have hb:∀ b o,s.heap.get? b=some o->h'.get? b=some o:=λ b o e=>hk' b o (by simp;exact uY (uN e)) (uH _ e)
  refine ⟨.bl _,H,I.kept hb,rfl,?_⟩
  have:((uL its.toArray.size).any λ i=>ns.getD i 0 != 0)=ns.any λ n=>n != 0:=by
   rw [uS,<- hl]
   have e:ns=(uL ns.length).map λ i=>ns.getD i 0:=by
    refine yA (by simp) λ i h1 h2=>?_
    simp [uB h1]
   have e2:(ns.any λ n=>n != 0)=((uL ns.length).map λ i=>ns.getD i 0).any λ n=>n != 0:=congrArg (λ l:List Int=>l.any λ n=>n != 0) e
   rw [e2,List.any_map];rfl
  rw [this];exact q
def zcl:V->List V->Hp->VK->Prop:=λ x vs H Q=>∃ (a:Addr) (kvs:List (Key×V)) (k:Key) (z:V),x=.ref a/\vs=[kV k,z]/\H a=some (.dK kvs)/\kvs.length < sizeLine /\
 (∀ v,valV kvs k=some v->Q v H)/\(valV kvs k=none->Q z (upd H a (.dK (kvs++[(k,z)]))))
theorem ztk:MtM X "dict.setdefault" zcl:=by
 intro pins s Y H x vs v us Q I rx rv h
 obtain ⟨a,kvs,k,z,rfl,rfl,hx,hz,q1,q2⟩:=h
 cases rx
 obtain ⟨u1,u2,rfl,r1,r2⟩:=rv.two
 obtain ⟨z0,lo,vs,rel,dd⟩:=zdo I.hok hx
 refine call_meetsIn PySem.F.slot_dict_setdefault dd.typeIs PySem.F.entry_dict_setdefault (PySem.F.args_dict_setdefault_3 _ _ _) (kt_meets_setdefault (zu0 X.prog X.w) a (zdi r1) lo u2) ⟨vs,dd,by rw [<- rel.length];exact z0,λ w' hw=>?_,λ hn h' dd' hs=>?_⟩
 ·obtain ⟨v,e1,e2⟩:∃ v,valV kvs k=some v/\RelV v w':=by
   have:=rel.val k
   rw [hw] at this
   cases e:valV kvs k with
  |none=>rw [e] at this;exact this.elim
  |some v=>rw [e] at this;exact ⟨v,rfl,this⟩
  exact ⟨v,H,I.tok _,e2,q1 v e1⟩
 ·have hn2:valV kvs k=none:=by
   have:=rel.val k
   rw [hn] at this
   cases e:valV kvs k with
  |none=>rfl
  |some v=>rw [e] at this;exact this.elim
  have he:∃ q,h'.get? a=some q:=let ⟨q,_,_,hq,_⟩:=dd';⟨q,hq⟩
  refine ⟨z,_,?_,r2,q2 hn2⟩
  rw [<- zlp z hn2]
  have hl:(putK kvs k z).length<=sizeLine:=by have:=zz3 kvs k z;lia
  exact zu8 I (by rw [hx];exact True.intro) hs he (zxg hl lo (rel.put k r2) dd')
def zb41:V->List V->Hp->VK->Prop:=λ x vs H Q=>∃ (a:Addr) (kvs:List (Key×V)) (k:Key) (v:V),x=.ref a/\vs=[kV k]/\H a=some (.dK kvs)/\valV kvs k=some v/\Q v (upd H a (.dK (zbi kvs k)))
theorem zsu:MtM X "dict.pop" zb41:=by
 intro pins s Y H x vs v us Q I rx rv h
 obtain ⟨a,kvs,k,z,rfl,rfl,hx,hz,q⟩:=h
 cases rx
 obtain ⟨u1,rfl,r1⟩:=rv.one
 exact zk61 I hx r1 hz (.inl rfl) λ w' s' I' rw'=>⟨z,_,I',rw',q⟩
def zu41:V->List V->Hp->VK->Prop:=λ x vs H Q=>∃ i,x=.int i/\vs=[]/\Q (.int (Builtin.Int.intBits i:Nat)) H
theorem zmq:MtR X "int.bit_length" zu41:=by
 intro pins s Y H x vs v us Q I rx rv h
 obtain ⟨i,rfl,rfl,q⟩:=h
 obtain ⟨t,rfl⟩:=rx
 cases rv
 exact call_int_bit_length ⟨.int _,H,I.tok _,⟨_,rfl⟩,q⟩
def rngH (p:Addr) (i j c:Int):Heap->Prop:=λ h=>∃ t u v,IsRange h p i j c t u v
def zm41:List V->Hp->VK->Prop:=λ vs H Q=>∃ i j c:Int,vs=[.int i,.int j,.int c]/\c≠0/\(-(2 ^ 20)<=c/\c < 2 ^ 20)/\∀ p,H p=none->Q (.ref p) (upd H p (.ext (rngH p i j c)))
theorem zjk:CallR X (.type "range") zm41:=by
 intro pins s Y H xs us Q I r h
 obtain ⟨i,j,c,rfl,c0,⟨q5,q6⟩,q⟩:=h
 cases r with
|cons r rr =>
  cases rr with
 |cons r' rr =>
   cases rr with
  |cons r'' rr =>
    cases rr
    obtain ⟨t,rfl⟩:=r
    obtain ⟨t',rfl⟩:=r'
    obtain ⟨t'',rfl⟩:=r''
    refine PySem.call_range_3 c0 ?_ (.inl (PyProof.noPylong_of_log2 ?_))
    ·refine ⟨.ref _,_,I.laid (t':=s.toks) (o:=.ext (rngH s.heap.objs.size i j c)) (λ b ob e=>uH _ e) (uF _) ?_,rfl,q _ (I.hok.fresh (uF _))⟩
     exact ⟨⟨t,t',t'',IsRange.new ..⟩,⟨_,uT _ rfl⟩,λ h1 h2 ⟨a,b,c,e⟩ k=>⟨a,b,c,k _ e⟩⟩
    ·have:c.natAbs.log2 < 40:=(yO (by lia)).mpr (by lia)
     lia
def zuq:List V->Hp->VK->Prop:=λ vs H Q=>∃ (p:Addr) (i j c:Int) (n:Nat),vs=[.ref p]/\H p=some (.ext (rngH p i j c))/\(-(2 ^ 40)<=i/\i < 2 ^ 40/\-(2 ^ 40)<=j/\j < 2 ^ 40/\-(2 ^ 20)<=c/\c < 2 ^ 20)/\Builtin.Range.rangeSize i j c=n/\n<=1000 /\
 ∀ l,H l=none->Q (.ref l) (upd H l (.lst ((uL n).map λ k:Nat=>.int (i+k * c))))
theorem zhg (hc:X.calm=true):CallR X (.type "list") zuq:=by
 intro pins s Y H xs us Q I r h
 obtain ⟨p,i,j,c,n,rfl,hp,⟨q1,q2,q3,q4,q5,q6⟩,en,hn,q⟩:=h
 obtain ⟨u,rfl,r1⟩:=zoe r
 cases r1
 obtain ⟨⟨t,t',t'',hr⟩,_,_⟩:=(show ObjOk X.prog X.w H s.heap p (.ext (rngH p i j c)) from I.hok p _ hp)
 refine call_list_range (I.ok.hd hc) hr ?_ en (by lia) λ h' tk acc' c' kp e hacc=>?_
 ·unfold Builtin.Range.small
  rw [en]
  simp only [Builtin.Range.rangeFitsLong,wY,Bool.or_eq_true,decide_eq_true_eq,beq_iff_eq]
  refine ⟨⟨⟨⟨?_,?_⟩,?_⟩,?_⟩,.inr ?_⟩ <;> first|lia|(split <;> (simp only [wY,decide_eq_true_eq];lia))
 ·refine ⟨.ref _,_,I.laid (t':=tk) (o:=.lst ((uL n).map λ k:Nat=>.int (i+k * c))) kp (uF _) ⟨by rw [uA,vV,sizeLine_eq];lia,acc'.toList,c',?_,by simpa using e⟩,rfl,q _ (I.hok.fresh (uF _))⟩
  obtain ⟨a1,a2⟩:=hacc
  refine zgl (by rw [uA,vV,vX,a1]) λ k x u h1 h2=>?_
  rw [uI] at h1
  obtain ⟨k',h3,rfl⟩:=u6.mp h1
  obtain ⟨t,rfl⟩:=a2 k u (by rw [<- xX];exact h2)
  have:=(uZ.mp h3).2
  rw [wU] at this
  subst this
  exact ⟨t,rfl⟩
def Itv (K:Fg) (a:Addr) (xs:List V):It:=⟨λ i H=>SqL K H a xs/\i < xs.length,λ i H x H'=>xs[xs.length - 1 - i]?=some x/\H'=H,λ i H=>SqL K H a xs/\xs.length=i⟩
theorem zqp {P:Program} {w:World} {K:Fg} {tg:Expr} {a it:Addr} {xs:List V} :
  Turn P w K tg (Itv K a xs) [it] it (λ i h=>h.IsRevIter it a ((xs.length:Int) - 1 - (i:Int))) where
 mem:=by simp
 obj:=λ i h S b hb=>by
  obtain ⟨io,g1,g2,g3⟩:=S
  simp at hb
  subst hb
  exact ⟨_,g1,λ v q=>by rw [g3] at q;cases q⟩
 keep:=λ i h h' S k=>S.at λ o e=>k _ (by simp) _ e
 item:=by
  intro X hP hw hK hc i pins s Y H E I hf S hg
  subst hP hw hK
  obtain ⟨hq,hlt⟩:=hg
  obtain ⟨its,rv,p,hz⟩:=I.list hq
  have hl:=rv.length
  have e:(xs.length:Int) - 1 - (i:Int)=((xs.length - 1 - i:Nat):Int):=by lia
  have S:s.heap.IsRevIter it a ((xs.length - 1 - i:Nat):Int):=by rw [<- e];exact S
  have hx:xs[xs.length - 1 - i]?=some (xs[xs.length - 1 - i]'(by lia)):=uB (by lia)
  obtain ⟨u,hu,ru⟩:=rv.get hx
  have fi:=hf it (by simp)
  refine wpAny_pyNext_rev_item S p.isList (x:=u) (by simpa using hu) λ h' S' sb=>?_
  have e2:((xs.length - 1 - i:Nat):Int) - 1=(xs.length:Int) - 1 - ((i+1:Nat):Int):=by lia
  rw [e2] at S'
  obtain ⟨io,i1,i2,i3⟩:=id S'
  exact ⟨u,rfl,zjv (s:={ s with heap:=h' }) i1 i2 i3 (by decide) ⟨_,H,zve (tk:=s.toks) I fi sb.extBut,ru,⟨hx,rfl⟩,S',λ b hb=>(hf b hb).1⟩⟩
 done:=by
  intro X hP hw hK hc i pins s Y H E I hf S hg
  subst hP hw hK
  obtain ⟨hq,hge⟩:=hg
  have S:s.heap.IsRevIter it a (-1):=by
   have e:(xs.length:Int) - 1 - (i:Int)=-1:=by lia
   rw [<- e];exact S
  exact wpAny_pyNext_rev_end (I.ok.hd hc) S λ h' eb=>⟨rfl,zve (tk:=s.toks) I (hf it (by simp)) eb⟩
 self:=λ _ _ _ _ _ S h=>wpAny_pyIter_revIter S h
def kRev (K:Fg) (vs:List V) (H:Hp) (R:It->Hp->Prop):Prop:=∃ a xs,vs=[.ref a]/\SqL K H a xs/\R (Itv K a xs) H
def iRev (K:Fg) (ta:TA):TI:=λ Y H R=>ta Y H λ vs H1=>kRev K vs H1 R
theorem zpe:bootBuiltins "reversed"=some (.type "reversed"):=by decide +kernel
theorem zsz {K:Fg} (hK:X.K=K) {tg:Expr} {a:Expr} {ta:TA} {p pos:Pos} (hg:Gl X "reversed") (hm:X.mg "reversed"=none) (ha:PA X [a] ta) (hs:starEach [a] X.env=[(false,eval a X.env)]:=by rfl) :
  PI X tg (.Call (.Name "reversed" p) [a] [] pos) (iRev K ta):=by
 subst hK
 intro pins s Y H R I h
 refine Call_ (zg9 I hg hm zpe (PyProof.Rows.callWith_type1 (thn (ha pos pins s Y H _ I h) λ us s1 ⟨vs,H1,I1,r1,q1⟩=>?_) (by rw [hs];rfl) (by rfl)))
 obtain ⟨l,xs,e,hq,q⟩:=q1
 subst e
 obtain ⟨u1,rfl,ru⟩:=zoe r1
 obtain rfl:u1=uR l:=ru
 obtain ⟨its,rv,pl,hz⟩:=I1.list hq
 have hl:=rv.length
 have hit:Heap.IsRevIter (s1.heap.push (revObj l ((its.toArray.size:Int) - 1))) s1.heap.objs.size l ((xs.length:Int) - 1 - ((0:Nat):Int)):=⟨_,uT _ rfl,rfl,by rw [uS,<- hl];simp [revObj]⟩
 refine call_reversed_list pl.isList (wpAny_pyIter_revIter (s:={ s1 with heap:=s1.heap.push (revObj l ((its.toArray.size:Int) - 1)) }) hit ?_)
 have I2:_2.Inv X pins Y H1 { s1 with heap:=s1.heap.push (revObj l ((its.toArray.size:Int) - 1)) }:=I1.kept (t':=s1.toks) λ b o e=>uH _ e
 refine ⟨s1.heap.objs.size,[s1.heap.objs.size],_,_,H1,rfl,I2,zqp,hit,λ b hb=>?_,q⟩
 have hb':s1.heap.objs.size<=b:=by simp at hb;exact yK hb.symm
 exact I1.fpOk hb' (I1.hok.fresh hb')
end
theorem zyz:bootBuiltins "any"=some (.builtin "any"):=by decide +kernel
theorem zyo:bootBuiltins "range"=some (.type "range"):=by decide +kernel
theorem zuz:bootBuiltins "abs"=some (.builtin "abs"):=by decide +kernel
end _3
namespace _4
open PySem PySem.Spec PyProof.Rows _2 _3
section
variable {K:Fg} {te ta tk tg ty:TE} {de da dk dg:DE} {tA:TA} {dA:DF} {dp:DP} {w:World}
theorem RtAll.mid {F H:Hp}:∀ {xs:List V} {ts:List T} {x:V} {t:T} {ys:List V} {us:List T} {fp:List Addr},xs.length=ts.length->RtAll K F H (xs++x :: ys) (ts++t :: us) fp->∃ fA fj fB,fp=fA++(fj++fB)/\RtAll K F H xs ts fA/\Rt K F H x t fj/\RtAll K F H ys us fB
|[],[],_,_,_,_,_,_,.cons (fp:=fp) (fq:=fq) h r=>⟨[],fp,fq,rfl,.nil,h,r⟩
|[],_ :: _,_,_,_,_,_,e,_=>by simp at e
|_ :: _,[],_,_,_,_,_,e,_=>by simp at e
|_ :: xs,_ :: ts,_,_,_,_,_,e,.cons (fp:=fp) (fq:=fq) h r=>by
  obtain ⟨fA,fj,fB,e1,h1,h2,h3⟩:=RtAll.mid (xs:=xs) (ts:=ts) (by simpa using e) r
  exact ⟨fp++fA,fj,fB,by rw [e1,wG],.cons h h1,h2,h3⟩
theorem zwg {l r:List (Key×T)} {key:Key} {t:T} {kvs:List (Key×V)} (e:kvs.map (·.1)=(l++(key,t) :: r).map (·.1)):∃ l' v r',kvs=l'++(key,v) :: r'/\l'.map (·.1)=l.map (·.1)/\r'.map (·.1)=r.map (·.1):=by
 rw [uJ,uK] at e
 obtain ⟨l',r0,e0,e1,e2⟩:=List.map_eq_append_iff.mp e
 obtain ⟨kv,r',e3,e4,e5⟩:=List.map_eq_cons_iff.mp e2
 obtain ⟨k,v⟩:=kv
 dsimp only at e4
 subst e4
 exact ⟨l',v,r',by rw [e0,e3],e1,e5⟩
theorem zlh {l' r':List (Key×V)} {key:Key} {v:V} (h:key ∉ l'.map (·.1)):valV (l'++(key,v) :: r') key=some v:=by
 induction l' with
|nil=>exact zw9 rfl
|cons a l ih =>
  rw [uK,uE,not_or] at h
  rw [List.cons_append]
  have:=ih h.2
  unfold valV at this ⊢
  rw [xA (by simpa using λ z=>h.1 z.symm)]
  exact this
theorem zz01 {l:List (Key×V)} {key:Key} (h:key ∉ l.map (·.1)):valV l key=none:=by
 induction l with
|nil=>rfl
|cons a l ih =>
  rw [uK,uE,not_or] at h
  have:=ih h.2
  unfold valV at this ⊢
  rw [xA (by simpa using λ z=>h.1 z.symm)]
  exact this
theorem zlm {l' r':List (Key×V)} {key:Key} {v:V} (h:key ∉ l'.map (·.1)) (h2:key ∉ r'.map (·.1)):zbi (l'++(key,v) :: r') key=l'++r':=by
 have no:∀ {l:List (Key×V)},key ∉ l.map (·.1)->l.filter (λ kv=>decide (kv.1≠key))=l:=λ {l} hl=>List.filter_eq_self.mpr λ a ha=>decide_eq_true λ z=>hl (uM.mpr ⟨a,ha,z⟩)
 unfold zbi
 rw [List.filter_append,x8 (by simp),no h,no h2]
theorem RS.dd {B:Bs} {F H:Hp} {Y:_2.St} {U:DSt} {fps:Nat->List Addr} (r:RS K B F H Y U fps) {i:Nat} {ts:List (Key×T)} (hi:U[i]?=some (.ow (.dd ts))) :
  ∃ a kvs fp,Y.getD i none=some (.ref a)/\H a=some (.dK kvs)/\F a=none/\kvs.map (·.1)=ts.map (·.1)/\RtAll K F H (kvs.map (·.2)) (ts.map (·.2)) fp/\fps i=a :: fp/\(a :: fp).Nodup/\(∀ b∈a :: fp,B.H0 b=none):=by
 obtain ⟨x,t,g1,g2,g3,g4,g5⟩:=r.rt i _ hi rfl
 cases g2
 have fr:=r.fr i _ hi rfl
 generalize hf:fps i=f0 at g3 g5 fr
 cases g3 with
|dd h1 h2 h3 h4=>exact ⟨_,_,_,g1,h1,h2,h3,h4,rfl,g5,λ b hb=>(fr b hb).elim id λ z=>absurd rfl (z.2 _)⟩
def cDD1 (dk de:DE):DC:=λ U Q=>dk U λ k=>de U λ v=>∃ key,keyD k=some key/\Q (.dd [(key,.fz v)]) U
theorem zu01 {tv:TE} (hk:RfE K tk dk) (he:RfE K tv de):RfC K (zvx [(tk,tv)]) (cDD1 dk de):=by
 intro B F H Y U fps Qd Q r hd k p hp
 have r1:=r.grow (zr7 (o:=.dK []) r.fh hp)
 have fp:F p=none:=by
  cases e:F p with
 |none=>rfl
 |some o=>rw [r.fh p o e] at hp;cases hp
 show tk Y _ _
 refine hk r1.fh r1.rv hd λ kd hkd kv F1 H1 e1 i1=>he e1.fh (r1.grow e1).rv hkd λ v hv vv F2 H2 e2 i2=>?_
 obtain ⟨key,ek,q⟩:=hv
 have:=zm9 i1 ek
 subst this
 have e12:=e1.trans e2
 have hp2:H2 p=some (.dK []):=e12.h _ _ zi0
 have fp2:F2 p=none:=e12.nwo zi0 (λ _=>nofun) fp
 refine ⟨hp2,[(key,vv)],rfl,by simp,?_⟩
 have ex:Ext F H F2 (upd H2 p (.dK (zo9 [] [(key,vv)]))):=by
  have e0:=(zr7 (o:=.dK []) r.fh hp).trans e12
  refine ⟨λ b o z=>?_,e0.f,λ b o z=>?_,e0.nw⟩
  ·have:b≠p:=λ y=>by subst y;rw [hp] at z;cases z
   rw [zm0 this];exact e0.h b o z
  ·have:b≠p:=λ y=>by subst y;rw [fp2] at z;cases z
   rw [zm0 this];exact e0.fh b o z
 have hm:zo9 [] [(key,vv)]=[(key,vv)]:=rfl
 rw [hm] at ex ⊢
 have ra:=RtAll.cons (Rt.fz (H:=upd H2 p (.dK [(key,vv)])) i2) (.nil (K:=K) (F:=F2) (H:=upd H2 p (.dK [(key,vv)])))
 refine k _ _ q (.ref p) F2 _ fps [p] ⟨r.grow ex,.dd (kvs:=[(key,vv)]) (ts:=[(key,.fz v)]) (fp:=[]) zi0 fp2 rfl ra,by simp,λ b hb=>?_,λ j s ej hs b hb hb2=>?_⟩
 ·simp at hb;subst hb
  exact (r.newOk hp).1
 ·simp at hb2;subst hb2
  exact (r.newOk hp).2 j s ej hs hb
def zv31 (i:Nat):DT:=λ U Q=>∃ ts,U[i]?=some (.ow (.dd ts))/\Q (!ts.isEmpty)
theorem zws (i:Nat):RfT K (zg01 K (tVar i)) (zv31 i):=by
 intro F H Y U Qd Q s rv h k
 obtain ⟨ts,hi,q⟩:=h
 obtain ⟨x,fp,ex,hr,_⟩:=(rv.sl i _ hi)
 refine ⟨x,ze4 (F:=F) (H:=H) (U:=U) ex,?_⟩
 cases hr with
|@dd a kvs ts fp h1 h2 h3 h4 =>
  refine ⟨!ts.isEmpty,.inr (.inr ⟨kvs,h1,?_⟩),k _ q F H (Ext.refl s)⟩
  have:kvs.length=ts.length:=by simpa using congrArg u8 h3
  cases kvs <;> cases ts <;> simp_all
def zj31 (i:Nat):DE:=λ U Q=>∃ ts ns,U[i]?=some (.ow (.dd ts))/\ts.map (·.1)=ns.map uO/\ns≠[]/\∀ M∈ns,(∀ x∈ns,M<=x)->Q (.int M)
theorem ziu (i:Nat):RfE K (tCB zv41 (zu7 (tVar i) tNil)) (zj31 i):=by
 intro F H Y U Qd Q s rv h k
 obtain ⟨ts,ns,hi,e,hne,q⟩:=h
 obtain ⟨x,fp,ex,hr,_⟩:=(rv.sl i _ hi)
 refine ⟨x,ze4 (F:=F) (H:=H) (U:=U) ex,?_⟩
 cases hr with
|@dd a kvs ts fp h1 h2 h3 h4 =>
  exact ⟨a,kvs,ns,rfl,h1,by rw [h3];exact e,hne,λ M hM hx=>k _ (q M hM hx) _ F H (Ext.refl s) (.int M)⟩
def zw31 (i:Nat) (dk:DE):DC:=λ U Q=>∃ ts,U[i]?=some (.ow (.dd ts))/\dk U λ k=>∃ l key t r,ts=l++(key,t) :: r/\keyD k=some key/\key ∉ l.map (·.1)/\key ∉ r.map (·.1)/\Q t (U.set i (.ow (.dd (l++r))))
theorem zxt {i:Nat} (hk:RfE K tk dk):RfC K (tBMU K "dict" zb41 (tVar i) (zu7 tk tNil)) (zw31 i dk):=by
 intro B F H Y U fps Qd Q r hd k
 obtain ⟨ts,hi,hd⟩:=hd
 obtain ⟨a,kvs,fp,x1,x2,_⟩:=r.dd hi
 refine ⟨.ref a,ze4 (F:=F) (H:=H) (U:=U) x1,.inr (.inr (.inl ⟨rfl,.inl ⟨kvs,x2⟩⟩)),?_⟩
 refine hk r.fh r.rv hd λ kd hkd kv F1 H1 e1 i1=>?_
 obtain ⟨l,key,t,rr,rfl,ek,n1,n2,q⟩:=hkd
 have:=zm9 i1 ek
 subst this
 have r1:=r.grow e1
 obtain ⟨a',kvs',fp',y1,y2,y3,y4,y5,y6,y7,y8⟩:=r1.dd hi
 rw [x1] at y1;cases y1
 obtain ⟨l',v,r',rfl,el,er⟩:=zwg y4
 have m1:key ∉ l'.map (·.1):=by rw [el];exact n1
 have m2:key ∉ r'.map (·.1):=by rw [er];exact n2
 refine ⟨a,_,key,v,rfl,rfl,y2,zlh m1,?_⟩
 rw [zlm m1 m2]
 rw [uJ,uJ,uK,uK] at y5
 obtain ⟨fA,fj,fB,rfl,h1,h2,h3⟩:=y5.mid (by rw [uA,uA];simpa using congrArg u8 el)
 have nd:=uU.mp y7
 obtain ⟨ndA,ndJB,djA⟩:=uX.mp nd.2
 obtain ⟨ndj,ndB,djB⟩:=uX.mp ndJB
 have fin:∀ b,b∈fA \/ b∈fj \/ b∈fB->b≠a/\F1 b=none:=λ b hb=>by
  refine ⟨λ z=>?_,?_⟩
  ·subst z;exact nd.1 (by simp;exact hb)
  ·rcases hb with z|z|z
   ·exact (h1.dom b z).2
   ·exact (h2.dom b z).2
   ·exact (h3.dom b z).2
 have kp:∀ fq:List Addr,(∀ b∈fq,b∈fA \/ b∈fj \/ b∈fB)->∀ b∈fq,upd H1 a (.dK (l'++r')) b=H1 b/\F1 b=none:=λ fq hq b hb=>⟨zm0 (fin b (hq b hb)).1,(fin b (hq b hb)).2⟩
 have rs2:=r1.upd2 (t2:=.dd (l++rr)) (fp2:=a :: (fA++fB)) (F2:=F1) (H2:=upd H1 a (.dK (l'++r'))) hi rfl x1 (λ b o hb ho=>by rw [zm0 (λ z=>hb (by rw [y6,z];simp))];exact ho) (λ _ _ z=>z)
  (λ b o z=>by rw [zm0 (λ y=>by subst y;rw [y3] at z;cases z)];exact r1.fh b o z) (λ b _ fb _=>fb) (zxh (by rw [zi0];exact ⟨by simp,λ ks=>by simp⟩))
  (.dd zi0 y3 (by rw [uJ,uJ,el,er]) (by
   rw [uJ,uJ]
   exact (h1.frame (λ _ _ z=>z) (kp fA λ b hb=>.inl hb)).app (h3.frame (λ _ _ z=>z) (kp fB λ b hb=>.inr (.inr hb)))))
  (uU.mpr ⟨λ z=>nd.1 (by simp at z ⊢;rcases z with z|z;exact .inl z;exact .inr (.inr z)),uX.mpr ⟨ndA,ndB,λ x hx y hy=>djA x hx y (by simp [hy])⟩⟩)
  (λ b hb=>.inl (by rw [y6];simp at hb ⊢;rcases hb with z|z|z;exact .inl z;exact .inr (.inl z);exact .inr (.inr (.inr z))))
  (λ b hb z=>by
   rw [y6] at hb
   rcases uE.mp hb with y|y
   ·subst y;exact absurd y3 z
   ·exact absurd (fin b (by simpa using y)).2 z)
 refine k t _ q v F1 _ _ fj ⟨rs2,h2.frame (λ _ _ z=>z) (kp fj λ b hb=>.inr (.inl hb)),ndj,λ b hb=>y8 b (by simp [hb]),λ j s ej hs b hb hb2=>?_⟩
 by_cases ji:j=i
 ·simp only [if_pos ji] at hb
  rcases uE.mp hb with z|z
  ·exact (fin b (.inr (.inl hb2))).1 z
  ·rcases uG.mp z with z|z
   ·exact djA b z b (by simp [hb2]) rfl
   ·exact djB b hb2 b z rfl
 ·simp only [if_neg ji] at hb
  have ej':U[j]?=some s:=by rw [vO (Ne.symm ji)] at ej;exact ej
  exact r1.dj i j _ s (Ne.symm ji) hi ej' rfl hs b (by rw [y6];simp [hb2]) hb
theorem RS.appD {B:Bs} {F H:Hp} {Y:_2.St} {U:DSt} {fps:Nat->List Addr} (rs:RS K B F H Y U fps) {i:Nat} {l r:List (Key×T)} {key:Key} {ds:List D} (hi:U[i]?=some (.ow (.dd (l++(key,.li ds) :: r)))) {gv:V} {g:D} (ig:Is K F gv g) :
  ∃ a l' b r' xs,Y.getD i none=some (.ref a)/\H a=some (.dK (l'++(key,.ref b) :: r'))/\l'.map (·.1)=l.map (·.1)/\r'.map (·.1)=r.map (·.1)/\H b=some (.lst xs)/\xs.length=ds.length /\
   ∃ fps',RS K B F (upd H b (.lst (xs++[gv]))) Y (U.set i (.ow (.dd (l++(key,.li (ds++[g])) :: r)))) fps':=by
 obtain ⟨a,kvs,fp,y1,y2,y3,y4,y5,y6,y7,y8⟩:=rs.dd hi
 obtain ⟨l',v,r',rfl,el,er⟩:=zwg y4
 rw [uJ,uJ,uK,uK] at y5
 have ell:l'.length=l.length:=by simpa using congrArg u8 el
 obtain ⟨fA,fj,fB,rfl,h1,h2,h3⟩:=y5.mid (by rw [uA,uA];exact ell)
 have nd:=uU.mp y7
 obtain ⟨ndA,ndJB,djA⟩:=uX.mp nd.2
 obtain ⟨ndj,ndB,djB⟩:=uX.mp ndJB
 have h2:Rt K F H v (.li ds) fj:=h2
 cases h2 with
|@li b xs _ z1 z2 z3 =>
  have nb:∀ c,c=a \/ c∈fA \/ c∈fB->c≠b:=λ c hc z=>by
   subst z
   rcases hc with y|y|y
   ·subst y;exact nd.1 (by simp)
   ·exact djA c y c (by simp) rfl
   ·exact djB c (by simp) c y rfl
  have fF:∀ c,c∈fA \/ c∈fB->F c=none:=λ c hc=>by
   rcases hc with y|y
   ·exact (h1.dom c y).2
   ·exact (h3.dom c y).2
  refine ⟨a,l',b,r',xs,y1,y2,el,er,z1,z3.dlen,_,rs.upd2 (t2:=.dd (l++(key,.li (ds++[g])) :: r)) (fp2:=a :: (fA++([b]++fB))) (F2:=F) (H2:=upd H b (.lst (xs++[gv]))) hi rfl y1 (λ c o hc ho=>by rw [zm0 (λ z=>hc (by rw [y6,z];simp))];exact ho) (λ _ _ z=>z)
   (λ c o z=>by rw [zm0 (λ y=>by subst y;rw [z2] at z;cases z)];exact rs.fh c o z) (λ c _ fc _=>fc) (zxh (by rw [zi0];exact ⟨by simp,λ ks=>by simp⟩))
   (.dd (kvs:=l'++(key,.ref b) :: r') (by rw [zm0 (nb a (.inl rfl))];exact y2) y3 (by rw [uJ,uJ,uK,uK,el,er]) (by
    rw [uJ,uJ,uK,uK]
    refine (h1.frame (λ _ _ z=>z) λ c hc=>⟨zm0 (nb c (.inr (.inl hc))),fF c (.inl hc)⟩).app (.cons (.li zi0 z2 (z3.dapp (.cons ig .nil))) (h3.frame (λ _ _ z=>z) λ c hc=>⟨zm0 (nb c (.inr (.inr hc))),fF c (.inr hc)⟩))))
   y7 (λ c hc=>.inl (by rw [y6];exact hc)) (λ c hc z=>?_)⟩
  rw [y6] at hc
  rcases uE.mp hc with y|y
  ·subst y;exact absurd y3 z
  ·rcases uG.mp y with y|y
   ·exact absurd (fF c (.inl y)) z
   ·rcases uG.mp y with y|y
    ·simp at y;subst y;exact absurd z2 z
    ·exact absurd (fF c (.inr y)) z
def zfm (i:Nat) (dk dg:DE):DS:=λ E U=>∃ ts,U[i]?=some (.ow (.dd ts))/\dk U λ k=>∃ key,keyD k=some key/\ts.length < sizeLine /\
 ((key ∉ ts.map (·.1)/\dg (U.set i .un) λ g=>E.nx (U.set i (.ow (.dd (ts++[(key,.li [g])]))))) \/ ∃ l ds r,ts=l++(key,.li ds) :: r/\key ∉ l.map (·.1)/\ds.length < sizeLine/\dg (U.set i .un) λ g=>E.nx (U.set i (.ow (.dd (l++(key,.li (ds++[g])) :: r)))))
theorem zpj {i:Nat} (hk:RfE K tk dk) (hg:RfE K tg dg):RfS K (zr11 (tBMU K "list" zlf (tBMU K "dict" zcl (tVar i) (zu7 tk (zu7 (zcy tNil) tNil))) (zu7 tg tNil))) (zfm i dk dg):=by
 intro B F H Y U fps E Z r h k
 obtain ⟨ts,hi,hd⟩:=h
 obtain ⟨a,kvs,fp,x1,x2,_⟩:=r.dd hi
 have hil:i < U.length:=(uZ.mp hi).1
 refine ⟨.ref a,ze4 (F:=F) (H:=H) (U:=U) x1,.inr (.inr (.inl ⟨rfl,.inl ⟨kvs,x2⟩⟩)),?_⟩
 refine hk r.fh r.rv hd λ kd hkd kv F1 H1 e1 i1=>?_
 obtain ⟨key,ek,hz,hkd⟩:=hkd
 have:=zm9 i1 ek
 subst this
 refine ⟨by rw [sizeLine_eq];simp,λ p hp=>?_⟩
 have r1:=r.grow e1
 have r2:=r1.grow (zy2 (xs:=[]) r1.fh hp).1
 have Fp:=(zy2 (xs:=([]:List V)) r1.fh hp).2
 have z2:H1 a=some (.dK kvs):=e1.h _ _ x2
 have pa:a≠p:=λ z=>by subst z;rw [hp] at z2;cases z2
 have z3:upd H1 p (.lst []) a=some (.dK kvs):=by rw [zm0 pa];exact z2
 obtain ⟨a',kvs',fp',y1,y2,y3,y4,y5,y6,y7,y8⟩:=r2.dd hi
 rw [x1] at y1;cases y1
 rw [z3] at y2;cases y2
 have hlen:kvs.length=ts.length:=by simpa using congrArg u8 y4
 refine ⟨a,kvs,key,.ref p,rfl,rfl,z3,by lia,λ v hv=>?_,λ hv=>?_⟩
 ·rcases hkd with ⟨no,_⟩|⟨l,ds,rr,rfl,no,hds,hdg⟩
  ·rw [zz01 (by rw [y4];exact no)] at hv;cases hv
  ·obtain ⟨a4,l',b,r',xs,w1,w2,w3,w4,w5,w6,_⟩:=r2.appD hi (gv:=.non) .non
   rw [x1] at w1;cases w1
   rw [z3] at w2;cases w2
   have m1:key ∉ l'.map (·.1):=by rw [w3];exact no
   rw [zlh m1] at hv;cases hv
   refine ⟨.inl ⟨rfl,xs,SqL.of w5⟩,?_⟩
   refine hg r2.fh (r2.forget i).rv hdg λ g hq gv F4 H4 e4 i4=>?_
   have r4:=r2.grow e4
   obtain ⟨a4,l2,b2,r3,xs2,v1,v2,v3,v4,v5,v6,fps',r5⟩:=r4.appD hi i4
   rw [x1] at v1;cases v1
   rw [e4.h _ _ z3] at v2
   have ev:=u7.inj v2
   have ev:=HO.dK.inj ev
   have el:l'.length=l2.length:=by
    have h1:=congrArg u8 w3
    have h2:=congrArg u8 v3
    simp only [uA] at h1 h2
    lia
   obtain ⟨_,e6⟩:=List.append_inj ev el
   cases e6
   rw [e4.h _ _ w5] at v5;cases v5
   exact ⟨b,xs,gv,rfl,rfl,e4.h _ _ w5,by lia,k.nx r5 hq⟩
 ·rcases hkd with ⟨no,hdg⟩|⟨l,ds,rr,rfl,no,_,_⟩
  ·have nw:=r1.newOk hp
   have npf:p ∉ a :: fp':=by rw [<- y6];exact nw.2 i _ hi rfl
   have npa:p≠a:=λ z=>npf (by rw [z];simp)
   have hpl:upd H1 p (.lst []) p=some (.lst []):=zi0
   have nd:=uU.mp y7
   have fF:∀ c∈fp',F1 c=none:=λ c hc=>(y5.dom c hc).2
   have r3:=r2.upd2 (t2:=.dd (ts++[(key,.li [])])) (fp2:=a :: (fp'++[p])) (F2:=F1) (H2:=upd (upd H1 p (.lst [])) a (.dK (kvs++[(key,.ref p)]))) hi rfl x1 (λ c o hc ho=>by rw [zm0 (λ z=>hc (by rw [y6,z];simp))];exact ho) (λ _ _ z=>z)
    (λ c o z=>by rw [zm0 (λ y=>by subst y;rw [y3] at z;cases z)];exact r2.fh c o z) (λ c _ fc _=>fc) (zxh (by rw [zi0];exact ⟨by simp,λ ks=>by simp⟩))
    (.dd (kvs:=kvs++[(key,.ref p)]) zi0 y3 (by rw [uJ,uJ,y4];rfl) (by
     rw [uJ,uJ]
     refine (y5.frame (λ _ _ z=>z) λ c hc=>⟨zm0 (λ z=>nd.1 (by rw [<- z];exact hc)),fF c hc⟩).app ?_
     have:=RtAll.cons (Rt.li (K:=K) (F:=F1) (H:=upd (upd H1 p (.lst [])) a (.dK (kvs++[(key,.ref p)]))) (a:=p) (xs:=[]) (ds:=[]) (by rw [zm0 npa];exact hpl) Fp .nil) .nil
     exact this))
    (uU.mpr ⟨λ z=>(uG.mp z).elim nd.1 λ y=>npa (by simp at y;exact y.symm),uX.mpr ⟨nd.2,by simp,λ x hx y hy e=>npf (by simp at hy;rw [<- hy,<- e];simp [hx])⟩⟩)
    (λ c hc=>by
     rcases uE.mp hc with y|y
     ·exact .inl (by rw [y6,y];simp)
     ·rcases uG.mp y with y|y
      ·exact .inl (by rw [y6];simp [y])
      ·simp at y;subst y;exact .inr nw)
    (λ c hc z=>by
     rw [y6] at hc
     rcases uE.mp hc with y|y
     ·subst y;exact absurd y3 z
     ·exact absurd (fF c y) z)
   have hi3:(U.set i (.ow (.dd (ts++[(key,.li [])]))))[i]?=some (.ow (.dd (ts++(key,.li []) :: []))):=vL hil
   have r3:RS K B F1 (upd (upd H1 p (.lst [])) a (.dK (kvs++[(key,.ref p)]))) Y (U.set i (.ow (.dd (ts++[(key,.li [])])))) _:=r3
   have hp3:upd (upd H1 p (.lst [])) a (.dK (kvs++[(key,.ref p)])) p=some (.lst []):=by rw [zm0 npa];exact hpl
   have ha3:upd (upd H1 p (.lst [])) a (.dK (kvs++[(key,.ref p)])) a=some (.dK (kvs++[(key,.ref p)])):=zi0
   refine ⟨.inl ⟨rfl,[],SqL.of hp3⟩,?_⟩
   have rf3:=r3.forget i
   rw [yT] at rf3
   refine hg rf3.fh rf3.rv hdg λ g hq gv F4 H4 e4 i4=>?_
   have r4:=r3.grow e4
   obtain ⟨a4,l2,b2,r5,xs2,v1,v2,v3,v4,v5,v6,fps',r6⟩:=r4.appD hi3 i4
   rw [x1] at v1;cases v1
   rw [e4.h _ _ ha3] at v2
   have ev:=HO.dK.inj (u7.inj v2)
   have el:kvs.length=l2.length:=by
    have h2:=congrArg u8 v3
    simp only [uA] at h2
    lia
   obtain ⟨_,e6⟩:=List.append_inj ev el
   cases e6
   rw [e4.h _ _ hp3] at v5;cases v5
   rw [yT] at r6
   exact ⟨p,[],gv,rfl,rfl,e4.h _ _ hp3,by rw [sizeLine_eq];simp,k.nx r6 hq⟩
  ·obtain ⟨l',v',r',ekv,el,er⟩:=zwg y4
   have m1:key ∉ l'.map (·.1):=by rw [el];exact no
   rw [ekv,zlh m1] at hv;cases hv
def zg31 (dp:DP):DE:=λ U Q=>dp U λ _ _ u=>∃ kvs ns,u=.dk kvs/\kvs.map (·.2)=ns.map uC/\ns≠[]/\∀ M∈ns,(∀ x∈ns,x<=M)->Q (.int M)
theorem zxk {F:Hp}:∀ {r:List (Key×V)} {s:List (Key×D)} {ns:List Int},KvIs K F r s->s.map (·.2)=ns.map uC->r.map (·.2)=ns.map V.int
|_,_,[],.nil,_=>rfl
|_,_,_ :: _,.nil,e=>by simp at e
|_,_,[],.cons _ _,e=>by simp at e
|_,_,n :: ns,.cons h r,e=>by
  simp only [uK,List.cons.injEq] at e ⊢
  obtain ⟨e1,e2⟩:=e
  subst e1
  exact ⟨h.int_inv,zxk r e2⟩
theorem zgv (hp:RfP K ta dp):RfE K (tCB zj41 (zu7 (zbx K "dict" zb51 ta) tNil)) (zg31 dp):=by
 intro F H Y U Qd Q s rv h k
 refine hp s rv h λ i p u hu v F1 H1 e1 at1=>?_
 obtain ⟨kvs,ns,rfl,ei,hne,q⟩:=hu
 obtain ⟨fn,hr⟩:=at1.rt (rv.ext e1)
 cases hr with
|@dk a kvs' _ h1 h2 h3 =>
  refine ⟨.inr (.inr (.inl ⟨rfl,.inl ⟨kvs',h1⟩⟩)),a,kvs',rfl,rfl,h1,λ p hp=>?_⟩
  have ex:=zr7 (o:=.ext (vwH p a)) e1.fh hp
  have pa:a≠p:=λ z=>by subst z;rw [hp] at h1;cases h1
  exact ⟨p,a,kvs',ns,rfl,zi0,by rw [zm0 pa];exact h1,zxk h3 ei,hne,λ M hM hx=>k _ (q M hM hx) _ F1 _ (e1.trans ex) (.int M)⟩
def fAny:List D->(D->Prop)->Prop
|[.list ds],Q=>∃ ns,zgj ds=some ns/\Q (.bool (ns.any λ n=>n != 0))
|_,_=>False
theorem za71:CB K (rAny K) fAny:=by
 intro F H vs ds Qd Q s hv h k
 unfold fAny at h
 split at h
 ·obtain ⟨v,rfl,hw⟩:=vw1 hv
  obtain ⟨p,xs,rfl,h1,i1⟩:=hw.list s
  obtain ⟨ns,e,q⟩:=h
  have:=zf9 i1 e
  subst this
  exact ⟨p,ns,rfl,h1,k _ q _ F H (Ext.refl s) (.bl _)⟩
 ·exact h.elim
def zu31 (de:DE):DE:=λ U Q=>de U λ d=>∃ i,d=.int i/\Q (.int (Builtin.Int.intBits i:Nat))
theorem zwq (h:RfE K te de):RfE K (zbx K "int" zu41 te) (zu31 de):=by
 intro F H Y U Qd Q s rv hd k
 refine h s rv hd λ d hx v F1 H1 e1 i1=>?_
 obtain ⟨i,rfl,hx⟩:=hx
 cases i1.int_inv
 exact ⟨rfl,i,rfl,rfl,k _ hx _ F1 H1 e1 (.int _)⟩
def zwv (dA:DF):DF:=λ U Q=>dA U λ ds=>∃ i j c:Int,ds=[.int i,.int j,.int c]/\c≠0/\(-(2 ^ 40)<=i/\i < 2 ^ 40/\-(2 ^ 40)<=j/\j < 2 ^ 40/\-(2 ^ 20)<=c/\c < 2 ^ 20)/\∃ n:Nat,Builtin.Range.rangeSize i j c=n/\n<=1000/\Q ((uL n).map λ k:Nat=>.int (i+k * c))
theorem zop (h:RfA K tA dA):RfF K (tCB zuq (zu7 (tCB zm41 tA) tNil)) (zwv dA):=by
 intro F H Y U Qd Q s rv hd k
 refine h s rv hd λ ds hx vs F1 H1 e1 i1=>?_
 obtain ⟨i,j,c,rfl,c0,hb,n,en,hn,q⟩:=hx
 obtain ⟨v1,v2,v3,rfl,j1,j2,j3⟩:∃ v1 v2 v3,vs=[v1,v2,v3]/\Is K F1 v1 (.int i)/\Is K F1 v2 (.int j)/\Is K F1 v3 (.int c):=by
  cases i1 with
 |cons a r=>cases r with
  |cons b r=>cases r with
   |cons c r=>cases r;exact ⟨_,_,_,rfl,a,b,c⟩
 cases j1.int_inv
 cases j2.int_inv
 cases j3.int_inv
 refine ⟨i,j,c,rfl,c0,⟨hb.2.2.2.2.1,hb.2.2.2.2.2⟩,λ p hp=>⟨p,i,j,c,n,rfl,zi0,hb,en,hn,λ l hl=>?_⟩⟩
 have ex:=zr7 (o:=.ext (rngH p i j c)) e1.fh hp
 obtain ⟨ex2,fn⟩:=zy2 (xs:=(uL n).map λ k:Nat=>V.int (i+k * c)) ex.fh hl
 have hn0:H l=none:=zj1 (e1.trans ex) hl
 refine k _ q l _ F1 _ ((e1.trans ex).trans ex2) hn0 zi0 fn ?_
 have all:∀ l:List Nat,IsAll K F1 (l.map λ k:Nat=>V.int (i+k * c)) (l.map λ k:Nat=>uC (i+k * c)):=λ l=>by
  induction l with
 |nil=>exact .nil
 |cons x l ih=>exact .cons (.int _) ih
 exact all _
theorem zgy {F H:Hp} {a:Addr} {xs:List V} {ds:List D} (s:Same F H) (h:SqL K H a xs) (i:IsAll K F xs ds):W1 K (Itv K a xs) F H ds.reverse:=by
 have el:=i.dlen
 refine ⟨λ j hj=>⟨h,by rw [xR] at hj;lia⟩,⟨h,by rw [xR];exact el⟩,λ j x H3 d e y=>?_⟩
 obtain ⟨y1,y2⟩:=y
 subst y2
 have hj:j < ds.length:=by have:=(uZ.mp e).1;rwa [xR] at this
 rw [List.getElem?_reverse hj] at e
 rw [el] at y1
 obtain ⟨u,hu,iu⟩:=i.dget e
 rw [y1] at hu;cases hu
 exact ⟨F,Ext.refl s,iu⟩
def dRev (dA:DF):DF:=λ U Q=>dA U λ ds=>match ds with
|[.list a]=>Q a.reverse
|_=>False
theorem zez (h:RfA K tA dA):RfI K (iRev K tA) (dRev dA):=by
 intro F H Y U Qd R s rv hd k
 refine h s rv hd λ ds hx vs F1 H1 e1 i1=>?_
 split at hx
 ·obtain ⟨v,rfl,w1⟩:=all1 i1
  obtain ⟨p,xs,rfl,h1,j1⟩:=w1.list_inv
  exact ⟨p,xs,rfl,e1.fh.seq h1,k _ hx _ F1 H1 e1 λ F2 H2 s2 t2=>zgy t2 (t2.seq (s2.seq h1)) (j1.mono s2)⟩
 ·exact hx.elim
def zgm (p:DSpT) (d1:DE) (dn:DN):DN:=λ U Q=>d1 U λ x1=>dn U λ t=>p [.d x1,.b t] λ r _=>Q r
theorem znk {p:DSpT} {E:XK} {t1:TE} {d1:DE} {dn:DN} (h1:RfE K t1 d1) (h4:RfN K te dn):RfN K (zpq (spT K p) [] E (zu7 t1 (zu7 te tNil))) (zgm p d1 dn):=by
 intro F H Y U Qd Q s rv hd k
 refine h1 s rv hd λ x1 hd v1 F1 H1 e1 i1=>h4 e1.fh (rv.ext e1) hd λ t hd v4 F4 H4 fp e4 hr nd fr=>?_
 have e14:=e1.trans e4
 refine ⟨F4,_,fp++[],none,_,e4.fh,.d (i1.mono e4.f) (.b hr nd .nil),λ b hb=>by simp [ofp] at hb,hd,λ r2 t2 q2 v F' H' fpr fpo post=>?_⟩
 exact k _ q2 v F' H' fpr (e14.trans ⟨λ b o hb=>post.hh b o (by simp [ofp]) hb,post.ff,post.fh,post.nw⟩) post.rt post.nd λ a ha=>zj1 e14 (post.fr a ha)
end
section
variable (dk de dg:DE) (dA:DF) (dp:DP) (dn:DN) (i:Nat) (U:DSt)
theorem zxx (Q:T->DSt->Prop):cDD1 dk de U Q=(dk U λ k=>de U λ v=>∃ key,keyD k=some key/\Q (.dd [(key,.fz v)]) U):=rfl
theorem znt (Q:Bool->Prop):zv31 i U Q=∃ ts,U[i]?=some (.ow (.dd ts))/\Q (!ts.isEmpty):=rfl
theorem zhr (Q:D->Prop):zj31 i U Q=∃ ts ns,U[i]?=some (.ow (.dd ts))/\ts.map (·.1)=ns.map uO/\ns≠[]/\∀ M∈ns,(∀ x∈ns,M<=x)->Q (.int M):=rfl
theorem zvv (Q:T->DSt->Prop):zw31 i dk U Q=∃ ts,U[i]?=some (.ow (.dd ts))/\dk U λ k=>∃ l key t r,ts=l++(key,t) :: r/\keyD k=some key/\key ∉ l.map (·.1)/\key ∉ r.map (·.1)/\Q t (U.set i (.ow (.dd (l++r)))):=rfl
theorem zgk (E:DEnds):zfm i dk dg E U=∃ ts,U[i]?=some (.ow (.dd ts))/\dk U λ k=>∃ key,keyD k=some key/\ts.length < sizeLine /\
 ((key ∉ ts.map (·.1)/\dg (U.set i .un) λ g=>E.nx (U.set i (.ow (.dd (ts++[(key,.li [g])]))))) \/ ∃ l ds r,ts=l++(key,.li ds) :: r/\key ∉ l.map (·.1)/\ds.length < sizeLine/\dg (U.set i .un) λ g=>E.nx (U.set i (.ow (.dd (l++(key,.li (ds++[g])) :: r))))):=rfl
theorem zbs (Q:D->Prop):zg31 dp U Q=dp U λ _ _ u=>∃ kvs ns,u=.dk kvs/\kvs.map (·.2)=ns.map uC/\ns≠[]/\∀ M∈ns,(∀ x∈ns,x<=M)->Q (.int M):=rfl
theorem zur (Q:D->Prop):zu31 de U Q=de U λ d=>∃ i,d=.int i/\Q (.int (Builtin.Int.intBits i:Nat)):=rfl
theorem zrp (Q:List D->Prop):zwv dA U Q=dA U λ ds=>∃ i j c:Int,ds=[.int i,.int j,.int c]/\c≠0/\(-(2 ^ 40)<=i/\i < 2 ^ 40/\-(2 ^ 40)<=j/\j < 2 ^ 40/\-(2 ^ 20)<=c/\c < 2 ^ 20)/\∃ n:Nat,Builtin.Range.rangeSize i j c=n/\n<=1000/\Q ((uL n).map λ k:Nat=>.int (i+k * c)):=rfl
theorem zoy (Q:List D->Prop):dRev dA U Q=dA U λ ds=>match ds with
|[.list a]=>Q a.reverse
|_=>False:=rfl
theorem zrk (p:DSpT) (Q:T->Prop):zgm p de dn U Q=de U λ x1=>dn U λ t=>p [.d x1,.b t] λ r _=>Q r:=rfl
end
end _4
namespace _3
open PySem PySem.Spec PyProof.Rows _2
def zhf (h:Heap) (T:Addr) (a b c:Value):Prop:=h.get? T=some { cls:=.type "tuple",data:=.seq #[a,b,c] }
theorem zo3 {prog:Program} {w:World} {A:Around} {E:Value->Shared->Prop} {s:Shared} {T:Addr} {a b c x:Value} {k:Nat} {Q:Unit->Shared->Prop} (hT:zhf s.heap T a b c)
  (h:∀ h',h'.get? T=some { cls:=.type "tuple",data:=.seq ((#[a,b,c]:Array Value).setIfInBounds k x) }->Heap.SameBut T s.heap h'->Q () { s with heap:=h' }) :
  wpAny (model prog w) A (updateSeq T (·.setIfInBounds k x)) Q E s:=by
 refine wpAny_updateSeq hT rfl (h _ ?_ (Heap.SameBut.update ..))
 rw [xH _ hT rfl]
 simp [Obj.mapSeq]
structure YAp (z TI TO i1 i2 i3:Addr):Prop extends ZAp z TI TO i1 i2 where
 i3z:i3≠z
 TIi3:TI≠i3
 TOi3:TO≠i3
 i13:i1≠i3
 i23:i2≠i3
structure YSt (z TI TO i1 i2 i3:Addr) (f0:Value) (st1 st2 st3:Nat->Heap->Prop) (i:Nat) (h:Heap):Prop where
 z:IsZip h z TI TO f0
 TI:zhf h TI (.ref i1) (.ref i2) (.ref i3)
 TO:∃ a b c,zhf h TO a b c
 s1:st1 i h
 s2:st2 i h
 s3:st3 i h
section
variable {X:Cx} {pins:List (Addr×Obj)} {Y:St} {H:Hp} {s:Shared} {J1 J2 J3:It} {z TI TO i1 i2 i3:Addr} {st1 st2 st3:Nat->Heap->Prop} {i:Nat}
theorem zek {A:Around} {E:Value->Shared->Prop} {Q:Value->Shared->Prop} (N1:Nx X.prog X.w X.K J1 i1 st1) (N2:Nx X.prog X.w X.K J2 i2 st2) (N3:Nx X.prog X.w X.K J3 i3 st3) (D:YAp z TI TO i1 i2 i3) (I:Inv X pins Y H s)
  (fz:FpOk X pins H z) (fTO:FpOk X pins H TO) (f1:FpOk X pins H i1) (f2:FpOk X pins H i2) (f3:FpOk X pins H i3) (S:YSt z TI TO i1 i2 i3 .none st1 st2 st3 i s.heap) (g1:J1.go i H) (g2:J2.go i H) (g3:J3.go i H)
  (hQ:∀ p x1 x2 x3 s',H p=none->p≠z->p≠TI->p≠TO->p≠i1->p≠i2->p≠i3->J1.yld i H x1 H->J2.yld i H x2 H->J3.yld i H x3 H->Inv X pins Y (upd H p (.tup [x1,x2,x3])) s'->YSt z TI TO i1 i2 i3 (rawInt p) st1 st2 st3 (i+1) s'.heap->Q (.ref p) s') :
  wpAny (model X.prog X.w) A (Builtin.«zip.__next__» ⟨[.ref z],[]⟩) (λ fin s'=>∃ v,fin=.done (.ret v)/\Q v s') E s:=by
 obtain ⟨hz,hTI,⟨a,b,c,hTO⟩,h1,h2,h3⟩:=S
 show wpAny _ _ (field (.ref z) 2 >>= _) _ _ _
 refine wpAny_bind (wpAny_field hz rfl (x:=.bool false) rfl ?_)
 show wpAny _ _ (field (.ref z) 3 >>= _) _ _ _
 refine wpAny_bind (wpAny_field hz rfl (x:=.ref TI) rfl ?_)
 refine wpAny_bind (wpAny_seqItems hTI rfl ?_)
 show wpAny _ _ (Builtin.SmallTypes.ownedTupleIsFree (.ref z) >>= _) _ _ _
 refine wpAny_bind ?_
 unfold Builtin.SmallTypes.ownedTupleIsFree
 refine wpAny_bind (wpAny_field hz rfl (x:=.none) rfl (wpAny_pure ?_))
 simp only [if_true]
 refine wpAny_bind (wpAny_rule ?_)
 refine wpAny_bind (wpAny_field hz rfl (x:=.ref TO) rfl ?_)
 refine wpAny_bind (wpAny_setField_rec hz (by simp) λ h₁ hz₁ hs₁=>?_)
 replace hz₁:IsZip h₁ z TI TO .ellipsis:=hz₁
 have I1:Inv X pins Y H { s with heap:=h₁ }:=zw0 (tk:=s.toks) I fz hs₁
 refine wpAny_bind ?_
 simp only [xY,xZ,xJ,xL]
 refine wpAny_bind (wpAny_bind (wpAny_onRaise ?_))
 show wpAny _ _ (Builtin.SmallTypes.nextOf (.ref i1) >>= _) _ _ _
 have a1:st1 i h₁:=N1.keep _ _ _ h1 λ o e=>hs₁.extBut _ _ D.i1z e
 refine wpAny_bind (N1.item X rfl rfl rfl _ i pins _ Y H _ _ I1 a1 g1 λ x x1 h₂ tk₂ r1 y1 b1 hs₂=>wpAny_pure ?_)
 replace hs₂:Heap.SameBut i1 h₁ h₂:=hs₂
 have I2:Inv X pins Y H { s with heap:=h₂,toks:=tk₂ }:=zw0 (s:={ s with heap:=h₁ }) (tk:=tk₂) I1 f1 hs₂
 have hTO₂:zhf h₂ TO a b c:=hs₂.extBut _ _ D.TOi1 (hs₁.extBut _ _ D.TOz hTO)
 refine wpAny_bind (wpAny_seqItems hTO₂ rfl ?_)
 refine wpAny_bind (zo3 (s:={ s with heap:=h₂,toks:=tk₂ }) hTO₂ λ h₃ hTO₃ hs₃=>?_)
 replace hTO₃:zhf h₃ TO x b c:=hTO₃
 replace hs₃:Heap.SameBut TO h₂ h₃:=hs₃
 have I3:Inv X pins Y H { s with heap:=h₃,toks:=tk₂ }:=zw0 (s:={ s with heap:=h₂,toks:=tk₂ }) (tk:=tk₂) I2 fTO hs₃
 refine wpAny_bind (wpAny_letGo (wpAny_pure ?_))
 refine wpAny_bind (wpAny_bind (wpAny_onRaise ?_))
 show wpAny _ _ (Builtin.SmallTypes.nextOf (.ref i2) >>= _) _ _ _
 have a2:st2 i h₃:=N2.keep _ _ _ h2 λ o e=>hs₃.extBut _ _ D.TOi2.symm (hs₂.extBut _ _ D.i12.symm (hs₁.extBut _ _ D.i2z e))
 refine wpAny_bind (N2.item X rfl rfl rfl _ i pins _ Y H _ _ I3 a2 g2 λ y x2 h₄ tk₄ r2 y2 b2 hs₄=>wpAny_pure ?_)
 replace hs₄:Heap.SameBut i2 h₃ h₄:=hs₄
 have I4:Inv X pins Y H { s with heap:=h₄,toks:=tk₄ }:=zw0 (s:={ s with heap:=h₃,toks:=tk₂ }) (tk:=tk₄) I3 f2 hs₄
 have hTO₄:zhf h₄ TO x b c:=hs₄.extBut _ _ D.TOi2 hTO₃
 refine wpAny_bind (wpAny_seqItems hTO₄ rfl ?_)
 refine wpAny_bind (zo3 (s:={ s with heap:=h₄,toks:=tk₄ }) hTO₄ λ h₅ hTO₅ hs₅=>?_)
 replace hTO₅:zhf h₅ TO x y c:=hTO₅
 replace hs₅:Heap.SameBut TO h₄ h₅:=hs₅
 have I5:Inv X pins Y H { s with heap:=h₅,toks:=tk₄ }:=zw0 (s:={ s with heap:=h₄,toks:=tk₄ }) (tk:=tk₄) I4 fTO hs₅
 refine wpAny_bind (wpAny_letGo (wpAny_pure ?_))
 refine wpAny_bind (wpAny_bind (wpAny_onRaise ?_))
 show wpAny _ _ (Builtin.SmallTypes.nextOf (.ref i3) >>= _) _ _ _
 have a3:st3 i h₅:=N3.keep _ _ _ h3 λ o e=>hs₅.extBut _ _ D.TOi3.symm (hs₄.extBut _ _ D.i23.symm (hs₃.extBut _ _ D.TOi3.symm (hs₂.extBut _ _ D.i13.symm (hs₁.extBut _ _ D.i3z e))))
 refine wpAny_bind (N3.item X rfl rfl rfl _ i pins _ Y H _ _ I5 a3 g3 λ t x3 h₆ tk₆ r3 y3 b3 hs₆=>wpAny_pure ?_)
 replace hs₆:Heap.SameBut i3 h₅ h₆:=hs₆
 have I6:Inv X pins Y H { s with heap:=h₆,toks:=tk₆ }:=zw0 (s:={ s with heap:=h₅,toks:=tk₄ }) (tk:=tk₆) I5 f3 hs₆
 have hTO₆:zhf h₆ TO x y c:=hs₆.extBut _ _ D.TOi3 hTO₅
 refine wpAny_bind (wpAny_seqItems hTO₆ rfl ?_)
 refine wpAny_bind (zo3 (s:={ s with heap:=h₆,toks:=tk₆ }) hTO₆ λ h₇ hTO₇ hs₇=>?_)
 replace hTO₇:zhf h₇ TO x y t:=hTO₇
 replace hs₇:Heap.SameBut TO h₆ h₇:=hs₇
 have I7:Inv X pins Y H { s with heap:=h₇,toks:=tk₆ }:=zw0 (s:={ s with heap:=h₆,toks:=tk₆ }) (tk:=tk₆) I6 fTO hs₇
 refine wpAny_bind (wpAny_letGo (wpAny_pure (wpAny_pure ?_)))
 refine wpAny_bind (wpAny_seqItems hTO₇ rfl ?_)
 refine wpAny_bind (wpAny_newTuple ?_)
 have hz₇:IsZip h₇ z TI TO .ellipsis:=hs₇.extBut _ _ D.TOz.symm (hs₆.extBut _ _ D.i3z.symm (hs₅.extBut _ _ D.TOz.symm (hs₄.extBut _ _ D.i2z.symm (hs₃.extBut _ _ D.TOz.symm (hs₂.extBut _ _ D.i1z.symm hz₁)))))
 have hTI₇:zhf h₇ TI (.ref i1) (.ref i2) (.ref i3):=hs₇.extBut _ _ D.TITO (hs₆.extBut _ _ D.TIi3 (hs₅.extBut _ _ D.TITO (hs₄.extBut _ _ D.TIi2 (hs₃.extBut _ _ D.TITO (hs₂.extBut _ _ D.TIi1 (hs₁.extBut _ _ D.TIz hTI))))))
 have c1:st1 (i+1) h₇:=N1.keep _ _ _ b1 λ o e=>hs₇.extBut _ _ D.TOi1.symm (hs₆.extBut _ _ D.i13 (hs₅.extBut _ _ D.TOi1.symm (hs₄.extBut _ _ D.i12 (hs₃.extBut _ _ D.TOi1.symm e))))
 have c2:st2 (i+1) h₇:=N2.keep _ _ _ b2 λ o e=>hs₇.extBut _ _ D.TOi2.symm (hs₆.extBut _ _ D.i23 (hs₅.extBut _ _ D.TOi2.symm e))
 have c3:st3 (i+1) h₇:=N3.keep _ _ _ b3 λ o e=>hs₇.extBut _ _ D.TOi3.symm e
 have hp:H h₇.objs.size=none:=I7.hok.fresh (uF _)
 have I8:Inv X pins Y (upd H h₇.objs.size (.tup [x1,x2,x3])) { s with heap:=h₇.push { cls:=.type "tuple",data:=.seq #[x,y,t] },toks:=tk₆ }:=by
  refine I7.laid (t':=tk₆) (o:=.tup [x1,x2,x3]) (λ b ob q=>uH _ q) (uF _) ?_
  exact ⟨by show 3<=sizeLine;rw [sizeLine_eq];decide,[x,y,t],.cons r1 (.cons r2 (.cons r3 .nil)),_,uT _ rfl,rfl,0,rfl⟩
 have lt:∀ {c:Addr} {o:Obj},h₇.get? c=some o->h₇.objs.size≠c:=λ e=>xU (uN e)
 obtain ⟨o1,e1,_⟩:=N1.obj _ _ c1
 obtain ⟨o2,e2,_⟩:=N2.obj _ _ c2
 obtain ⟨o3,e3,_⟩:=N3.obj _ _ c3
 have fz':FpOk X pins (upd H h₇.objs.size (.tup [x1,x2,x3])) z:=⟨by rw [zm0 (lt hz₇).symm];exact fz.1,fz.2⟩
 show wpAny _ _ (Builtin.SmallTypes.ownedTupleHandOut (.ref z) (.ref h₇.objs.size) >>= _) _ _ _
 refine wpAny_bind ?_
 unfold Builtin.SmallTypes.ownedTupleHandOut
 have hz₈:IsZip (h₇.push { cls:=.type "tuple",data:=.seq #[x,y,t] }) z TI TO .ellipsis:=uH _ hz₇
 refine wpAny_bind (wpAny_setField_rec hz₈ (by simp) λ h₉ hz₉ hs₉=>?_)
 replace hz₉:IsZip h₉ z TI TO (rawInt h₇.objs.size):=hz₉
 have I9:Inv X pins Y (upd H h₇.objs.size (.tup [x1,x2,x3])) { s with heap:=h₉,toks:=tk₆ }:=zw0 (s:={ s with heap:=h₇.push { cls:=.type "tuple",data:=.seq #[x,y,t] },toks:=tk₆ }) (tk:=tk₆) I8 fz' hs₉
 refine wpAny_setField_rec hz₉ (by simp) λ k hk hsk=>?_
 replace hk:IsZip k z TI TO (rawInt h₇.objs.size):=hk
 have Ik:Inv X pins Y (upd H h₇.objs.size (.tup [x1,x2,x3])) { s with heap:=k,toks:=tk₆ }:=zw0 (s:={ s with heap:=h₉,toks:=tk₆ }) (tk:=tk₆) I9 fz' hsk
 have up:∀ c o,c≠z->h₇.get? c=some o->k.get? c=some o:=λ c o c1 e=>hsk.extBut _ _ c1 (hs₉.extBut _ _ c1 (uH _ e))
 refine wpAny_pure ⟨_,rfl,?_⟩
 exact hQ h₇.objs.size x1 x2 x3 _ hp (lt hz₇) (lt hTI₇) (lt hTO₇) (lt e1) (lt e2) (lt e3) y1 y2 y3 Ik ⟨hk,up _ _ D.TIz hTI₇,⟨_,_,_,up _ _ D.TOz hTO₇⟩,N1.keep _ _ _ c1 λ o e=>up _ o D.i1z e,N2.keep _ _ _ c2 λ o e=>up _ o D.i2z e,N3.keep _ _ _ c3 λ o e=>up _ o D.i3z e⟩
theorem zbo {A:Around} {E:Value->Shared->Prop} {Q:Fin->Shared->Prop} (hh:A.handled=none) (N1:Nx X.prog X.w X.K J1 i1 st1) (D:YAp z TI TO i1 i2 i3) (I:Inv X pins Y H s)
  (fz:FpOk X pins H z) (f1:FpOk X pins H i1) (S:YSt z TI TO i1 i2 i3 .none st1 st2 st3 i s.heap) (g:J1.stop i H)
  (hE:∀ h' e tk,Inv X pins Y H { s with heap:=h',toks:=tk }->(∃ o,h'.get? e=some o/\o.cls=.type "StopIteration")->E (.ref e) { s with heap:=h',toks:=tk }) :
  wpAny (model X.prog X.w) A (Builtin.«zip.__next__» ⟨[.ref z],[]⟩) Q E s:=by
 obtain ⟨hz,hTI,⟨a,b,c,hTO⟩,h1,h2,h3⟩:=S
 show wpAny _ _ (field (.ref z) 2 >>= _) _ _ _
 refine wpAny_bind (wpAny_field hz rfl (x:=.bool false) rfl ?_)
 show wpAny _ _ (field (.ref z) 3 >>= _) _ _ _
 refine wpAny_bind (wpAny_field hz rfl (x:=.ref TI) rfl ?_)
 refine wpAny_bind (wpAny_seqItems hTI rfl ?_)
 show wpAny _ _ (Builtin.SmallTypes.ownedTupleIsFree (.ref z) >>= _) _ _ _
 refine wpAny_bind ?_
 unfold Builtin.SmallTypes.ownedTupleIsFree
 refine wpAny_bind (wpAny_field hz rfl (x:=.none) rfl (wpAny_pure ?_))
 simp only [if_true]
 refine wpAny_bind (wpAny_rule ?_)
 refine wpAny_bind (wpAny_field hz rfl (x:=.ref TO) rfl ?_)
 refine wpAny_bind (wpAny_setField_rec hz (by simp) λ h₁ hz₁ hs₁=>?_)
 replace hz₁:IsZip h₁ z TI TO .ellipsis:=hz₁
 have I1:Inv X pins Y H { s with heap:=h₁ }:=zw0 (tk:=s.toks) I fz hs₁
 refine wpAny_bind ?_
 simp only [xY,xZ,xJ,xL]
 refine wpAny_bind (wpAny_bind (wpAny_onRaise ?_))
 show wpAny _ _ (Builtin.SmallTypes.nextOf (.ref i1) >>= _) _ _ _
 have a1:st1 i h₁:=N1.keep _ _ _ h1 λ o e=>hs₁.extBut _ _ D.i1z e
 refine wpAny_bind (N1.done X rfl rfl rfl _ i pins _ Y H _ _ hh I1 a1 g λ h₂ e hs₂ he=>?_)
 replace hs₂:Heap.ExtBut i1 h₁ h₂:=hs₂
 have I2:Inv X pins Y H { s with heap:=h₂ }:=zve (s:={ s with heap:=h₁ }) (tk:=s.toks) I1 f1 hs₂
 obtain ⟨oe,hoe,hce⟩:=he
 have hz₂:IsZip h₂ z TI TO .ellipsis:=hs₂ _ _ D.i1z.symm hz₁
 have hez:e≠z:=λ x=>by subst x;rw [hz₂] at hoe;cases hoe;simp at hce
 exact wpAny_setField_rec hz₂ (by simp) λ h₃ _ hs₃=>hE h₃ e s.toks (zw0 (s:={ s with heap:=h₂ }) (tk:=s.toks) I2 fz hs₃) ⟨oe,hs₃.extBut _ _ hez hoe,hce⟩
end
def Ity (J1 J2 J3:It):It:=⟨λ i H=>J1.go i H/\J2.go i H/\J3.go i H,λ i H x H'=>∃ x1 x2 x3 p,J1.yld i H x1 H/\J2.yld i H x2 H/\J3.yld i H x3 H/\H p=none/\x=.ref p/\H'=upd H p (.tup [x1,x2,x3]),λ i H=>J1.stop i H⟩
theorem zsj {P:Program} {w:World} {K:Fg} {elts:List Expr} {c:_} {pos:Pos} {J1 J2 J3:It} {z TI TO i1 i2 i3:Addr} {st1 st2 st3:Nat->Heap->Prop} (N1:Nx P w K J1 i1 st1) (N2:Nx P w K J2 i2 st2) (N3:Nx P w K J3 i3 st3) (D:YAp z TI TO i1 i2 i3) :
  Turn P w K (.Tuple elts c pos) (Ity J1 J2 J3) [z,TI,TO,i1,i2,i3] z (YSt z TI TO i1 i2 i3 .none st1 st2 st3) where
 mem:=by simp
 obj:=λ i h S b hb=>by
  obtain ⟨hz,hTI,⟨a,b',c',hTO⟩,h1,h2,h3⟩:=S
  simp at hb
  rcases hb with rfl|rfl|rfl|rfl|rfl|rfl
  ·exact ⟨_,hz,λ v q=>by cases q⟩
  ·exact ⟨_,hTI,λ v q=>by cases q⟩
  ·exact ⟨_,hTO,λ v q=>by cases q⟩
  ·exact N1.obj _ _ h1
  ·exact N2.obj _ _ h2
  ·exact N3.obj _ _ h3
 keep:=λ i h h' S k=>by
  obtain ⟨hz,hTI,⟨a,b',c',hTO⟩,h1,h2,h3⟩:=S
  exact ⟨k _ (by simp) _ hz,k _ (by simp) _ hTI,⟨a,b',c',k _ (by simp) _ hTO⟩,N1.keep _ _ _ h1 λ o e=>k _ (by simp) _ e,N2.keep _ _ _ h2 λ o e=>k _ (by simp) _ e,N3.keep _ _ _ h3 λ o e=>k _ (by simp) _ e⟩
 item:=by
  intro X hP hw hK hc i pins s Y H E I hf S hg
  subst hP hw hK
  have hT:s.TypeIs (.ref z) "zip":=⟨_,S.z,rfl⟩
  unfold pyNext
  refine wpAny_bind (wpAny_attempt (wpAny_callSpecial?_slot (name:=uD "__next__") hT F.slot_zip_next
   (wpAny_call_entry F.slot_zip_next hT F.entry_zip_next
    (zek N1 N2 N3 D I (hf _ (by simp)) (hf _ (by simp)) (hf _ (by simp)) (hf _ (by simp)) (hf _ (by simp)) S hg.1 hg.2.1 hg.2.2 λ p x1 x2 x3 s' hp n1 n2 n3 n4 n5 n6 y1 y2 y3 I' S'=>wpAny_pure ?_) (F.args_zip_next_1 _))))
  refine ⟨.ref p,rfl,wpAny_letOwnedTupleGo_zip S'.z λ h' hz' hs'=>?_⟩
  have nn:∀ b∈[z,TI,TO,i1,i2,i3],b≠p:=λ b hb=>by
   simp at hb
   rcases hb with rfl|rfl|rfl|rfl|rfl|rfl
   ·exact n1.symm
   ·exact n2.symm
   ·exact n3.symm
   ·exact n4.symm
   ·exact n5.symm
   ·exact n6.symm
  have fz:FpOk X pins (upd H p (.tup [x1,x2,x3])) z:=⟨by rw [zm0 n1.symm];exact (hf z (by simp)).1,(hf z (by simp)).2⟩
  obtain ⟨_,hTI,⟨a,b',c',hTO⟩,h1,h2,h3⟩:=S'
  refine ⟨.ref p,_,zw0 (tk:=s'.toks) I' fz hs',rfl,⟨x1,x2,x3,p,y1,y2,y3,hp,rfl,rfl⟩,⟨hz',hs'.extBut _ _ D.TIz hTI,⟨a,b',c',hs'.extBut _ _ D.TOz hTO⟩,N1.keep _ _ _ h1 λ o e=>hs'.extBut _ _ D.i1z e,N2.keep _ _ _ h2 λ o e=>hs'.extBut _ _ D.i2z e,N3.keep _ _ _ h3 λ o e=>hs'.extBut _ _ D.i3z e⟩,λ b hb=>?_⟩
  rw [zm0 (nn b hb)]
  exact (hf b hb).1
 done:=by
  intro X hP hw hK hc i pins s Y H E I hf S hg
  subst hP hw hK
  have hT:s.TypeIs (.ref z) "zip":=⟨_,S.z,rfl⟩
  unfold pyNext
  refine wpAny_bind (wpAny_attempt (wpAny_callSpecial?_slot (name:=uD "__next__") hT F.slot_zip_next
   (wpAny_call_entry F.slot_zip_next hT F.entry_zip_next (zbo (I.ok.hd hc) N1 D I (hf _ (by simp)) (hf _ (by simp)) S hg λ h' e tk I' he=>?_) (F.args_zip_next_1 _))))
  obtain ⟨o,ho,hc⟩:=he
  refine wpAny_bind (wpAny_isInstance (T := "StopIteration") (b:=true) ⟨o,ho,hc⟩ isSubtype_stop ?_)
  exact wpAny_pure ⟨rfl,I'⟩
 self:=λ _ _ _ _ _ S h=>wpAny_pyIter_zip S.z h
theorem zfa (a b c:Value):checkTypeCall "zip" ⟨[a,b,c],[]⟩=pure ():=by kernel_rfl
theorem zvb (a b c:Value):checkBuiltinCall "zip.__new__" ⟨[.type "zip",a,b,c],[]⟩=pure ():=by kernel_rfl
theorem zo5 (a b c d:Value):argsOk "object.__init__" ⟨[a,b,c,d],[]⟩:=by
 unfold argsOk;rw [signature?_of (id := "object.__init__") (n:=['_','_','t','i','n','i','_','_']) (o:=['t','c','e','j','b','o']) (by kernel_rfl) F.owner_object];kernel_rfl
def zco (h:Heap) (o1 o2 o3:Obj):Heap:=(((((h.push o1).push o2).push o3).push { cls:=.type "tuple",data:=.seq #[.ref h.objs.size,.ref (h.push o1).objs.size,.ref ((h.push o1).push o2).objs.size] }).push { cls:=.type "tuple",data:=.seq #[.none,.none,.none] }).push
 { cls:=.type "zip",data:=.fields #[.none,.bool false,.bool false,.ref (((h.push o1).push o2).push o3).objs.size,.ref ((((h.push o1).push o2).push o3).push { cls:=.type "tuple",data:=.seq #[.ref h.objs.size,.ref (h.push o1).objs.size,.ref ((h.push o1).push o2).objs.size] }).objs.size] }
theorem zeh (v1 v2 v3:Value) (o1 o2 o3:Obj) :
  Meets (Builtin.«zip.__new__» ⟨[.type "zip",v1,v2,v3],[]⟩) (λ _ R s=>zch s.heap v1 o1/\zch s.heap v2 o2/\zch s.heap v3 o3 /\
   R (.ok (.ret (.ref (((((s.heap.push o1).push o2).push o3).push { cls:=.type "tuple",data:=.seq #[.ref s.heap.objs.size,.ref (s.heap.push o1).objs.size,.ref ((s.heap.push o1).push o2).objs.size] }).push { cls:=.type "tuple",data:=.seq #[.none,.none,.none] }).objs.size))) { s with heap:=zco s.heap o1 o2 o3 }) :=
 .of_wp λ prog w A R s h=>by
  obtain ⟨hp,g,d,tk,os⟩:=s;obtain ⟨q1,q2,q3,h⟩:=h
  have hsub:=sub_zip
  have p1:∀ {A:Around} {Q E:Value->Shared->Prop},Q (.ref hp.objs.size) ⟨hp.push o1,g,d,tk,os⟩->wpAny (model prog w) A (pyIter v1) Q E ⟨hp,g,d,tk,os⟩:=λ {A Q E} z=>q1 prog w A ⟨hp,g,d,tk,os⟩ Q E (λ _ _ e=>e) z
  have p2:∀ {A:Around} {Q E:Value->Shared->Prop},Q (.ref (hp.push o1).objs.size) ⟨(hp.push o1).push o2,g,d,tk,os⟩->wpAny (model prog w) A (pyIter v2) Q E ⟨hp.push o1,g,d,tk,os⟩:=λ {A Q E} z=>q2 prog w A ⟨hp.push o1,g,d,tk,os⟩ Q E (λ _ _ e=>uH _ e) z
  have p3:∀ {A:Around} {Q E:Value->Shared->Prop},Q (.ref ((hp.push o1).push o2).objs.size) ⟨((hp.push o1).push o2).push o3,g,d,tk,os⟩->wpAny (model prog w) A (pyIter v3) Q E ⟨(hp.push o1).push o2,g,d,tk,os⟩:=λ {A Q E} z=>q3 prog w A ⟨(hp.push o1).push o2,g,d,tk,os⟩ Q E (λ _ _ e=>uH _ (uH _ e)) z
  wp_walk using p1,p2,p3
  exact ⟨_,rfl,h⟩
theorem zji {prog:Program} {w:World} {A:Around} {E:Value->Shared->Prop} {s:Shared} {v1 v2 v3:Value} {o1 o2 o3:Obj} {Q:Value->Shared->Prop} (h1:zch s.heap v1 o1) (h2:zch s.heap v2 o2) (h3:zch s.heap v3 o3)
  (h:∀ h',IsZip h' (s.heap.objs.size+5) (s.heap.objs.size+3) (s.heap.objs.size+4) .none->zhf h' (s.heap.objs.size+3) (.ref s.heap.objs.size) (.ref (s.heap.objs.size+1)) (.ref (s.heap.objs.size+2)) ->
   zhf h' (s.heap.objs.size+4) .none .none .none->h'.get? s.heap.objs.size=some o1->h'.get? (s.heap.objs.size+1)=some o2->h'.get? (s.heap.objs.size+2)=some o3->(∀ c o,s.heap.get? c=some o->h'.get? c=some o)->Q (.ref (s.heap.objs.size+5)) { s with heap:=h' })
  (f1:o1.isFreed=false) (f2:o2.isFreed=false) (f3:o3.isFreed=false):wpAny (model prog w) A (call (.type "zip") [v1,v2,v3]) Q E s:=by
 refine callType_new F.called_zip (by decide) (zfa _ _ _) (zvb _ _ _) (λ obj=>zo5 obj _ _ _) F.entry_zip_new (zeh v1 v2 v3 o1 o2 o3) ⟨h1,h2,h3,?_⟩
 have z1:(s.heap.push o1).objs.size=s.heap.objs.size+1:=vD ..
 have z2:((s.heap.push o1).push o2).objs.size=s.heap.objs.size+2:=by rw [vD,z1]
 have z3:(((s.heap.push o1).push o2).push o3).objs.size=s.heap.objs.size+3:=by rw [vD,z2]
 have z4:((((s.heap.push o1).push o2).push o3).push { cls:=.type "tuple",data:=.seq #[.ref s.heap.objs.size,.ref (s.heap.push o1).objs.size,.ref ((s.heap.push o1).push o2).objs.size] }).objs.size=s.heap.objs.size+4:=by rw [vD,z3]
 have z5:(((((s.heap.push o1).push o2).push o3).push { cls:=.type "tuple",data:=.seq #[.ref s.heap.objs.size,.ref (s.heap.push o1).objs.size,.ref ((s.heap.push o1).push o2).objs.size] }).push { cls:=.type "tuple",data:=.seq #[.none,.none,.none] }).objs.size=s.heap.objs.size+5:=by rw [vD,z4]
 have up:∀ {h:Heap} {c:Addr} {o ob:Obj},h.get? c=some o->(h.push ob).get? c=some o:=λ e=>uH _ e
 have g6:(zco s.heap o1 o2 o3).get? (((((s.heap.push o1).push o2).push o3).push { cls:=.type "tuple",data:=.seq #[.ref s.heap.objs.size,.ref (s.heap.push o1).objs.size,.ref ((s.heap.push o1).push o2).objs.size] }).push { cls:=.type "tuple",data:=.seq #[.none,.none,.none] }).objs.size=some _:=uT _ rfl
 have g5:(zco s.heap o1 o2 o3).get? ((((s.heap.push o1).push o2).push o3).push { cls:=.type "tuple",data:=.seq #[.ref s.heap.objs.size,.ref (s.heap.push o1).objs.size,.ref ((s.heap.push o1).push o2).objs.size] }).objs.size=some _:=up (uT _ rfl)
 have g4:(zco s.heap o1 o2 o3).get? (((s.heap.push o1).push o2).push o3).objs.size=some _:=up (up (uT _ rfl))
 have g3:(zco s.heap o1 o2 o3).get? ((s.heap.push o1).push o2).objs.size=some o3:=up (up (up (uT _ f3)))
 have g2:(zco s.heap o1 o2 o3).get? (s.heap.push o1).objs.size=some o2:=up (up (up (up (uT _ f2))))
 have g1:(zco s.heap o1 o2 o3).get? s.heap.objs.size=some o1:=up (up (up (up (up (uT _ f1)))))
 show _/\_
 rw [z3,z4,z5] at g6
 rw [z1,z2,z3] at g4
 rw [z4] at g5
 rw [z2] at g3
 rw [z1] at g2
 rw [z5]
 exact ⟨⟨_,g6,rfl⟩,h _ g6 g4 g5 g1 g2 g3 λ c o x=>up (up (up (up (up (up x)))))⟩
theorem yap (n:Nat):YAp (n+5) (n+3) (n+4) n (n+1) (n+2):=by
 refine ⟨⟨?_,?_,?_,?_,?_,?_,?_,?_,?_,?_⟩,?_,?_,?_,?_,?_⟩ <;> (refine λ (h:(_:Nat)=_)=>?_;lia)
theorem six (n:Nat) (b:Nat) (h:b=n+5 \/ b=n+3 \/ b=n+4 \/ b=n \/ b=n+1 \/ b=n+2):n<=b:=by lia
section
variable {X:Cx} {elts:List Expr}
def zg61 (K:Fg) (vs:List V) (H:Hp) (R:It->Hp->Prop):Prop:=∃ x1 x2 x3,vs=[x1,x2,x3]/\kSrc K x1 H λ J1=>kSrc K x2 H λ J2=>kSrc K x3 H λ J3=>R (Ity J1 J2 J3) H
def zn31 (K:Fg) (ta:TA):TI:=λ Y H R=>ta Y H λ vs H1=>zg61 K vs H1 R
theorem zgw {K:Fg} (hK:X.K=K) {c:_} {tpos:Pos} {a b d:Expr} {ta:TA} {p pos:Pos} (hg:Gl X "zip") (hm:X.mg "zip"=none) (ha:PA X [a,b,d] ta) (hs:starEach [a,b,d] X.env=[(false,eval a X.env),(false,eval b X.env),(false,eval d X.env)]:=by rfl) (hs2:starEach [b,d] X.env=[(false,eval b X.env),(false,eval d X.env)]:=by rfl) :
  PI X (.Tuple elts c tpos) (.Call (.Name "zip" p) [a,b,d] [] pos) (zn31 K ta):=by
 subst hK
 intro pins s Y H R I h
 refine Call_ (zg9 I hg hm zut (PyProof.Rows.callWith_type1 (thn (ha pos pins s Y H _ I h) λ us s1 ⟨vs,H1,I1,r1,q1⟩=>?_) (by rw [hs,hs2]) (by rw [hs2];rfl)))
 obtain ⟨x1,x2,x3,e,q1⟩:=q1
 subst e
 cases r1 with
|cons r1 rr =>
  cases rr with
 |cons r2 rr =>
   cases rr with
  |cons r3 rr =>
    cases rr
    obtain ⟨J1,o1,st1,q2,op1,fr1,n1,z1⟩:=zl7 I1 r1 q1
    obtain ⟨J2,o2,st2,q3,op2,fr2,n2,z2⟩:=zl7 I1 r2 q2
    obtain ⟨J3,o3,st3,q,op3,fr3,n3,z3⟩:=zl7 I1 r3 q3
    refine zji op1 op2 op3 (λ h' hz hTI hTO g1 g2 g3 kk=>wpAny_pyIter_zip hz ?_) fr1 fr2 fr3
    have I2:Inv X pins Y H1 { s1 with heap:=h' }:=I1.kept (t':=s1.toks) kk
    refine ⟨s1.heap.objs.size+5,[s1.heap.objs.size+5,s1.heap.objs.size+3,s1.heap.objs.size+4,s1.heap.objs.size,s1.heap.objs.size+1,s1.heap.objs.size+2],_,_,H1,rfl,I2,
     zsj (n1 s1.heap.objs.size) (n2 (s1.heap.objs.size+1)) (n3 (s1.heap.objs.size+2)) (yap _),⟨hz,hTI,⟨_,_,_,hTO⟩,z1 _ _ g1,z2 _ _ g2,z3 _ _ g3⟩,λ b hb=>?_,q⟩
    have hb':s1.heap.objs.size<=b:=by
     simp at hb
     exact six _ _ hb
    exact I1.fpOk hb' (I1.hok.fresh hb')
end
end _3
namespace _4
open PySem PySem.Spec PyProof.Rows _2 _3
section
variable {K:Fg} {tA:TA} {dA:DF}
def zpn (a b c:List D):List D:=(uL a.length).map λ i=>.tuple [a.getD i .none,b.getD i .none,c.getD i .none]
theorem zrt {F H:Hp} {J1 J2 J3:It} {ds es fs:List D} (s:Same F H) (e2:ds.length=es.length) (e3:ds.length=fs.length) (h1:W0 K J1 F H ds) (h2:W0 K J2 F H es) (h3:W0 K J3 F H fs):W1 K (Ity J1 J2 J3) F H (zpn ds es fs):=by
 have el:(zpn ds es fs).length=ds.length:=by simp [zpn]
 refine ⟨λ j hj=>⟨h1.1 j (by lia),h2.1 j (by lia),h3.1 j (by lia)⟩,by rw [el];exact h1.2.1,λ j x H3 d e y=>?_⟩
 obtain ⟨x1,x2,x3,p,y1,y2,y3,hp,z1,z2⟩:=y
 subst z2
 unfold zpn at e
 rw [uI] at e
 obtain ⟨j',e4,rfl⟩:=u6.mp e
 obtain ⟨hj,e5⟩:=uZ.mp e4
 rw [vV] at hj
 rw [wU] at e5
 subst e5
 have g:∀ {l:List D},j < l.length->l[j]?=some (l.getD j .none):=λ {l} hl=>by rw [uQ,uB hl];rfl
 obtain ⟨_,i1⟩:=h1.2.2 j x1 H _ (g hj) y1
 obtain ⟨_,i2⟩:=h2.2.2 j x2 H _ (g (by lia)) y2
 obtain ⟨_,i3⟩:=h3.2.2 j x3 H _ (g (by lia)) y3
 obtain ⟨ex,ii⟩:=zn8 (K:=K) (ds:=[ds.getD j .none,es.getD j .none,fs.getD j .none]) s hp (.cons i1 (.cons i2 (.cons i3 .nil)))
 exact ⟨_,ex,by rw [z1];exact ii⟩
def zt41 (dA:DF):DF:=λ U Q=>dA U λ ds=>∃ a b c:List D,ds=[.list a,.list b,.list c]/\a.length=b.length/\a.length=c.length/\Q (zpn a b c)
theorem zps (h:RfA K tA dA):RfI K (zn31 K tA) (zt41 dA):=by
 intro F H Y U Qd R s rv hd k
 refine h s rv hd λ ds hx vs F1 H1 e1 i1=>?_
 obtain ⟨a,b,c,rfl,l1,l2,hx⟩:=hx
 cases i1 with
|cons w1 r=>cases r with
 |cons w2 r=>cases r with
  |cons w3 r =>
    cases r
    obtain ⟨p,xs,rfl,h1,j1⟩:=w1.list_inv
    obtain ⟨q,ys,rfl,h2,j2⟩:=w2.list_inv
    obtain ⟨o,zs,rfl,h3,j3⟩:=w3.list_inv
    exact ⟨_,_,_,rfl,.inl ⟨p,rfl,⟨xs,e1.fh.seq h1⟩,.inl ⟨q,rfl,⟨ys,e1.fh.seq h2⟩,.inl ⟨o,rfl,⟨zs,e1.fh.seq h3⟩,k _ hx _ F1 H1 e1 λ F2 H2 s2 t2=>zrt t2 l1 l2 (zw2 (t2.seq (s2.seq h1)) (j1.mono s2)) (zw2 (t2.seq (s2.seq h2)) (j2.mono s2)) (zw2 (t2.seq (s2.seq h3)) (j3.mono s2))⟩⟩⟩⟩
theorem zrr (U:DSt) (Q:List D->Prop):zt41 dA U Q=dA U λ ds=>∃ a b c:List D,ds=[.list a,.list b,.list c]/\a.length=b.length/\a.length=c.length/\Q (zpn a b c):=rfl
end
end _4
namespace _5
open PySem PySem.Spec PyProof.Rows _2 _3 _4
abbrev Wy:=Nat×Int
def wAt (W:List (List Wy)) (u:Nat):List Wy:=(W[u]?).getD []
abbrev Kv:=List (Nat×Int)
abbrev Rw:=List (Int×List Nat)
structure DJ (n:Nat) (W:List (List Wy)) (wy:Nat->List Wy) (S:List Nat) (kv:Kv) (R:Rw):Prop where
 nd:(kv.map (·.1)).Nodup
 nn:∀ q∈kv,q.1 < n/\0<=q.2
 rn:∀ r∈R,0<=r.1/\∀ v∈r.2,v < n
 mo:∀ q∈kv,∀ r∈R,q.2<=r.1
 st:∀ s∈S,(s,0)∈kv \/ ∃ l,(0,l)∈R/\s∈l
 cl:∀ q∈kv,∀ p∈wy q.1,(∃ b,(p.1,b)∈kv/\b<=q.2+p.2) \/ ∃ k l,(k,l)∈R/\p.1∈l/\k<=q.2+p.2
 pr:∀ (j:Nat) v b,kv[j]?=some (v,b)->(v∈S/\b=0) \/ ∃ i u a s,i < j/\kv[i]?=some (u,a)/\(v,s)∈wAt W u/\b=a+s
 pq:∀ r∈R,∀ v∈r.2,(v∈S/\r.1=0) \/ ∃ u a s,(u,a)∈kv/\(v,s)∈wAt W u/\r.1=a+s
section
variable {n:Nat} {W:List (List Wy)} {wy:Nat->List Wy} {S:List Nat} {kv:Kv} {R:Rw} {M:Int} {h:Nat} {l:List Nat}
theorem DJ.init (hS:∀ s∈S,s < n):DJ n W wy S [] [(0,S)]:=by
 refine ⟨by simp,λ q hq=>by simp at hq,λ r hr=>?_,(λ q hq=>by simp at hq),λ s hs=>.inr ⟨S,by simp,hs⟩,(λ q hq=>by simp at hq),λ j v b e=>by simp at e,λ r hr v hv=>?_⟩
 ·simp at hr;subst hr;exact ⟨vH 0,hS⟩
 ·simp at hr;subst hr;exact .inl ⟨hv,rfl⟩
theorem DJ.perm {R':Rw} (d:DJ n W wy S kv R) (e:∀ r,r∈R' ↔ r∈R):DJ n W wy S kv R' :=
 ⟨d.nd,d.nn,λ r hr=>d.rn r ((e r).mp hr),λ q hq r hr=>d.mo q hq r ((e r).mp hr),λ s hs=>(d.st s hs).imp id λ ⟨l,a,b⟩=>⟨l,(e _).mpr a,b⟩,λ q hq p hp=>(d.cl q hq p hp).imp id λ ⟨k,l,a,b⟩=>⟨k,l,(e _).mpr a,b⟩,d.pr,λ r hr=>d.pq r ((e r).mp hr)⟩
theorem DJ.wy' {wy':Nat->List Wy} (d:DJ n W wy S kv R) (e:∀ q∈kv,∀ p∈wy' q.1,p∈wy q.1):DJ n W wy' S kv R :=
 ⟨d.nd,d.nn,d.rn,d.mo,d.st,λ q hq p hp=>d.cl q hq p (e q hq p hp),d.pr,d.pq⟩
theorem DJ.skip {b:Int} (d:DJ n W wy S kv ((M,h :: l) :: R)) (hb:(h,b)∈kv):DJ n W wy S kv ((M,l) :: R):=by
 have bM:b<=M:=d.mo _ hb (M,h :: l) (by simp)
 have b0:0<=b:=(d.nn _ hb).2
 refine ⟨d.nd,d.nn,λ r hr=>?_,λ q hq r hr=>?_,λ s hs=>?_,λ q hq p hp=>?_,d.pr,λ r hr v hv=>?_⟩
 ·rcases uE.mp hr with z|z
  ·subst z
   have:=d.rn (M,h :: l) (by simp)
   exact ⟨this.1,λ v hv=>this.2 v (by simp [hv])⟩
  ·exact d.rn r (by simp [z])
 ·rcases uE.mp hr with z|z
  ·subst z;exact d.mo q hq (M,h :: l) (by simp)
  ·exact d.mo q hq r (by simp [z])
 ·rcases d.st s hs with z|⟨l',z1,z2⟩
  ·exact .inl z
  ·rcases uE.mp z1 with y|y
   ·injection y with y1 y2
    subst y1 y2
    rcases uE.mp z2 with x|x
    ·subst x
     have:b=0:=by lia
     subst this;exact .inl hb
    ·exact .inr ⟨l,by simp,x⟩
   ·exact .inr ⟨l',by simp [y],z2⟩
 ·rcases d.cl q hq p hp with z|⟨k,l',z1,z2,z3⟩
  ·exact .inl z
  ·rcases uE.mp z1 with y|y
   ·injection y with y1 y2
    subst y1 y2
    rcases uE.mp z2 with x|x
    ·exact .inl ⟨b,by rw [x];exact hb,by lia⟩
    ·exact .inr ⟨k,l,by simp,x,z3⟩
   ·exact .inr ⟨k,l',by simp [y],z2,z3⟩
 ·rcases uE.mp hr with z|z
  ·subst z;exact d.pq (M,h :: l) (by simp) v (by simp;exact .inr hv)
  ·exact d.pq r (by simp [z]) v hv
theorem DJ.ins (d:DJ n W wy S kv ((M,h :: l) :: R)) (hh:h ∉ kv.map (·.1)) (hR:∀ r∈R,M<=r.1):DJ n W (λ u=>if u=h then [] else wy u) S (kv++[(h,M)]) ((M,l) :: R):=by
 have hM:=d.rn (M,h :: l) (by simp)
 have old:∀ q∈kv,q.1≠h:=λ q hq z=>hh (by rw [<- z];exact uM.mpr ⟨q,hq,rfl⟩)
 refine ⟨?_,λ q hq=>?_,λ r hr=>?_,λ q hq r hr=>?_,λ s hs=>?_,λ q hq p hp=>?_,λ j v b e=>?_,λ r hr v hv=>?_⟩
 ·rw [uJ]
  exact uX.mpr ⟨d.nd,by simp,λ x hx y hy e=>by simp at hy;subst hy;exact hh (e ▸ hx)⟩
 ·rcases uG.mp hq with z|z
  ·exact d.nn q z
  ·simp at z;subst z;exact ⟨hM.2 h (by simp),hM.1⟩
 ·rcases uE.mp hr with z|z
  ·subst z;exact ⟨hM.1,λ v hv=>hM.2 v (by simp [hv])⟩
  ·exact d.rn r (by simp [z])
 ·have le:q.2<=M:=by
   rcases uG.mp hq with z|z
   ·exact d.mo q z (M,h :: l) (by simp)
   ·simp at z;subst z;exact vH _
  rcases uE.mp hr with z|z
  ·subst z;exact le
  ·exact wI le (hR r z)
 ·rcases d.st s hs with z|⟨l',z1,z2⟩
  ·exact .inl (by simp [z])
  ·rcases uE.mp z1 with y|y
   ·injection y with y1 y2
    subst y1 y2
    rcases uE.mp z2 with x|x
    ·subst x;exact .inl (by simp)
    ·exact .inr ⟨l,by simp,x⟩
   ·exact .inr ⟨l',by simp [y],z2⟩
 ·rcases uG.mp hq with z|z
  ·simp only [if_neg (old q z)] at hp
   rcases d.cl q z p hp with y|⟨k,l',y1,y2,y3⟩
   ·obtain ⟨b,b1,b2⟩:=y
    exact .inl ⟨b,by simp [b1],b2⟩
   ·rcases uE.mp y1 with x|x
    ·injection x with x1 x2
     subst x1 x2
     rcases uE.mp y2 with w|w
     ·exact .inl ⟨k,by simp [w],y3⟩
     ·exact .inr ⟨k,l,by simp,w,y3⟩
    ·exact .inr ⟨k,l',by simp [x],y2,y3⟩
  ·simp at z;subst z
   simp at hp
 ·by_cases hj:j < kv.length
  ·rw [u5 hj] at e
   rcases d.pr j v b e with z|⟨i,u,a,s,i1,i2,i3,i4⟩
   ·exact .inl z
   ·exact .inr ⟨i,u,a,s,i1,by rw [u5 (by lia)];exact i2,i3,i4⟩
  ·rw [u9 (by lia)] at e
   have e0:j - kv.length=0:=by have:=(uZ.mp e).1;simp at this;lia
   rw [e0] at e
   simp at e
   obtain ⟨rfl,rfl⟩:=e
   rcases d.pq (M,h :: l) (by simp) h (by simp) with z|⟨u,a,s,z1,z2,z3⟩
   ·exact .inl z
   ·obtain ⟨i,hi,ei⟩:=vQ.mp z1
    exact .inr ⟨i,u,a,s,by lia,by rw [u5 hi,uB hi,ei],z2,z3⟩
 ·have lift:(v∈S/\r.1=0) \/ (∃ u a s,(u,a)∈kv/\(v,s)∈wAt W u/\r.1=a+s)->(v∈S/\r.1=0) \/ ∃ u a s,(u,a)∈kv++[(h,M)]/\(v,s)∈wAt W u/\r.1=a+s:=λ z=>z.imp id λ ⟨u,a,s,z1,z2⟩=>⟨u,a,s,by simp [z1],z2⟩
  rcases uE.mp hr with z|z
  ·subst z;exact lift (d.pq (M,h :: l) (by simp) v (by simp;exact .inr hv))
  ·exact lift (d.pq r (by simp [z]) v hv)
theorem DJ.seen {wy':Nat->List Wy} {p:Wy} {b:Int} (d:DJ n W wy S kv ((M,l) :: R)) (hM:(h,M)∈kv) (hp:0<=p.2) (hb:(p.1,b)∈kv) (e:∀ u,∀ y∈wy' u,y∈wy u \/ (u=h/\y=p)):DJ n W wy' S kv ((M,l) :: R):=by
 have bM:b<=M:=d.mo _ hb (M,l) (by simp)
 refine ⟨d.nd,d.nn,d.rn,d.mo,d.st,λ q hq y hy=>?_,d.pr,d.pq⟩
 rcases e _ y hy with z|⟨z1,z2⟩
 ·exact d.cl q hq y z
 ·subst z2
  have:q=(h,M):=by
   obtain ⟨q1,q2⟩:=q
   simp only at z1
   subst z1
   obtain ⟨i,hi,ei⟩:=vQ.mp hq
   obtain ⟨j,hj,ej⟩:=vQ.mp hM
   have:=(xT (i:=i) (j:=j) (h₀:=by simpa using hi) (h₁:=by simpa using hj) d.nd).mp (by simp [ei,ej])
   subst this
   rw [ei] at ej;exact ej
  subst this
  exact .inl ⟨b,hb,by show b<=M+y.2;lia⟩
theorem DJ.push {wy':Nat->List Wy} {p:Wy} {R':Rw} (d:DJ n W wy S kv ((M,l) :: R)) (hM:(h,M)∈kv) (hw:p∈wAt W h) (hp:0<=p.2) (hn:p.1 < n) (e:∀ u,∀ y∈wy' u,y∈wy u \/ (u=h/\y=p))
  (r1:∀ k x,(k,x)∈R->∃ x',(k,x')∈R'/\∀ v∈x,v∈x') (r2:∃ x,(M+p.2,x)∈R'/\p.1∈x) (r3:∀ r∈R',((∃ r0∈R,r0.1=r.1) \/ r.1=M+p.2)/\∀ v∈r.2,(∃ r0∈R,r0.1=r.1/\v∈r0.2) \/ (r.1=M+p.2/\v=p.1)):DJ n W wy' S kv ((M,l) :: R'):=by
 have m0:=d.rn (M,l) (by simp)
 have keyOk:∀ r∈R',(∃ r0∈R,r0.1=r.1) \/ r.1=M+p.2:=λ r hr=>(r3 r hr).1
 have row:∀ k x v,(k,x)∈(M,l) :: R->v∈x->∃ x',(k,x')∈(M,l) :: R'/\v∈x':=λ k x v hx hv=>by
  rcases uE.mp hx with z|z
  ·injection z with z1 z2
   subst z1 z2
   exact ⟨x,by simp,hv⟩
  ·obtain ⟨x',a,b⟩:=r1 k x z
   exact ⟨x',by simp [a],b v hv⟩
 refine ⟨d.nd,d.nn,λ r hr=>?_,λ q hq r hr=>?_,λ s hs=>?_,λ q hq y hy=>?_,d.pr,λ r hr v hv=>?_⟩
 ·rcases uE.mp hr with z|z
  ·subst z;exact m0
  ·refine ⟨?_,λ v hv=>?_⟩
   ·rcases keyOk r z with ⟨r0,y1,y2⟩|y
    ·rw [<- y2];exact (d.rn r0 (by simp [y1])).1
    ·rw [y];have:=m0.1;simp only at this;lia
   ·rcases (r3 r z).2 v hv with ⟨r0,y1,y2,y3⟩|⟨_,y⟩
    ·exact (d.rn r0 (by simp [y1])).2 v y3
    ·rw [y];exact hn
 ·rcases uE.mp hr with z|z
  ·subst z;exact d.mo q hq (M,l) (by simp)
  ·rcases keyOk r z with ⟨r0,y1,y2⟩|y
   ·rw [<- y2];exact d.mo q hq r0 (by simp [y1])
   ·have:=d.mo q hq (M,l) (by simp)
    rw [y];simp only at this;lia
 ·rcases d.st s hs with z|⟨x,z1,z2⟩
  ·exact .inl z
  ·exact .inr (row 0 x s z1 z2)
 ·rcases e _ y hy with z|⟨z1,z2⟩
  ·rcases d.cl q hq y z with a|⟨k,x,a1,a2,a3⟩
   ·exact .inl a
   ·obtain ⟨x',b1,b2⟩:=row k x y.1 a1 a2
    exact .inr ⟨k,x',b1,b2,a3⟩
  ·subst z2
   have:q=(h,M):=by
    obtain ⟨q1,q2⟩:=q
    simp only at z1
    subst z1
    obtain ⟨i,hi,ei⟩:=vQ.mp hq
    obtain ⟨j,hj,ej⟩:=vQ.mp hM
    have:=(xT (i:=i) (j:=j) (h₀:=by simpa using hi) (h₁:=by simpa using hj) d.nd).mp (by simp [ei,ej])
    subst this
    rw [ei] at ej;exact ej
   subst this
   obtain ⟨x,x1,x2⟩:=r2
   exact .inr ⟨M+y.2,x,by simp [x1],x2,vH _⟩
 ·rcases uE.mp hr with z|z
  ·subst z;exact d.pq (M,l) (by simp) v hv
  ·rcases (r3 r z).2 v hv with ⟨r0,y1,y2,y3⟩|⟨y1,y2⟩
   ·rw [<- y2];exact d.pq r0 (by simp [y1]) v y3
   ·exact .inr ⟨h,M,p.2,hM,by rw [y2];exact hw,y1⟩
theorem DJ.drop (d:DJ n W wy S kv ((M,[]) :: R)):DJ n W wy S kv R:=by
 have nh:∀ k x v,(k,x)∈(M,([]:List Nat)) :: R->v∈x->(k,x)∈R:=λ k x v hx hv=>by
  rcases uE.mp hx with z|z
  ·injection z with z1 z2
   subst z2;simp at hv
  ·exact z
 exact ⟨d.nd,d.nn,λ r hr=>d.rn r (by simp [hr]),λ q hq r hr=>d.mo q hq r (by simp [hr]),λ s hs=>(d.st s hs).imp id λ ⟨x,a,b⟩=>⟨x,nh _ _ _ a b,b⟩,λ q hq p hp=>(d.cl q hq p hp).imp id λ ⟨k,x,a,b,c⟩=>⟨k,x,nh _ _ _ a b,b,c⟩,d.pr,λ r hr=>d.pq r (by simp [hr])⟩
end
theorem zr9 (g:Nat->Int) (a b c:Nat):sm (a+b+c) g=sm a g+sm b (λ i=>g (a+i))+sm c λ i=>g (a+b+i):=by
 have sp:∀ (g:Nat->Int) (a b:Nat),sm (a+b) g=sm a g+sm b λ j=>g (a+j):=λ g a b=>by
  induction b with
 |zero=>simp [sm]
 |succ b ih=>rw [show a+(b+1)=(a+b)+1 by lia,zv1,ih,zv1];lia
 rw [sp g (a+b) c,sp g a b]
theorem zp31 {S:List Nat} (g:Nat->Int) {n:Nat} (nd:S.Nodup) (hb:∀ v∈S,v < n):sm n (λ i=>if i∈S then g i else 0)=(S.map g).sum:=by
 induction S with
|nil=>simp [zi3]
|cons v r ih =>
  obtain ⟨h1,h2⟩:=uU.mp nd
  rw [uK,wT,<- ih h2 λ u hu=>hb u (by simp [hu]),<- zrj (j:=v) (g v) (hb v (by simp)),<- zpo]
  refine zb1 λ i hi=>?_
  by_cases e:i=v
  ·subst e;simp [h1]
  ·simp [e]
theorem zjx {g:Nat->Int} {m:Nat} (h:∀ k,k < m->0<=g k):0<=sm m g:=by
 have:=zif (g:=λ _=>0) h
 rwa [zi3] at this
theorem zuv (g:Nat->Int) (m:Nat):sm m (λ k=>-g k)=-sm m g:=by
 have:=zdk (λ _=>0) g m
 rw [zi3] at this
 rw [show (λ k=>-g k)=λ k=>(0:Int) - g k from funext λ k=>by lia,this];lia
theorem zqq (l:List Nat) (g:Nat->Int):(l.map g).sum=sm l.length λ j=>g (l.getD j 0):=by
 unfold sm
 congr 1
 refine yA (by simp) λ i h1 h2=>?_
 rw [uA] at h1
 rw [yB,yB,wU,uQ,uB h1];rfl
theorem zm4 {l:List Nat} {i:Nat} (h:i < l.length):l.getD i 0∈l:=by
 rw [uQ,uB h];exact vW h
theorem sel {l:List Nat} {n v:Nat} (nd:l.Nodup) (hb:∀ w∈l,w < n) (hv:v < n) {z c:Nat->Int} (h:∀ i,i < l.length->0<=z i/\z i<=c (l.getD i 0)) :
  0<=sm l.length (λ i=>if l.getD i 0=v then z i else 0)/\sm l.length (λ i=>if l.getD i 0=v then z i else 0)<=(if v∈l then c v else 0)/\∀ i,i < l.length->l.getD i 0=v->z i<=sm l.length (λ i=>if l.getD i 0=v then z i else 0):=by
 have nn:∀ i,i < l.length->0<=if l.getD i 0=v then z i else 0:=λ i hi=>by split;exact (h i hi).1;exact vH 0
 refine ⟨?_,?_,λ i hi e=>?_⟩
 ·exact zjx nn
 ·refine wI (zif (h:=λ i=>if l.getD i 0=v then c (l.getD i 0) else 0) λ i hi=>?_) ?_
  ·by_cases e:l.getD i 0=v
   ·rw [if_pos e,if_pos e];exact (h i hi).2
   ·rw [if_neg e,if_neg e];exact vH 0
  ·rw [<- zqq l λ w=>if w=v then c w else 0,<- zp31 _ nd hb,<- zrj (j:=v) (if v∈l then c v else 0) hv]
   refine zif λ i hi=>?_
   by_cases e:i=v
   ·subst e;simp
   ·simp [e]
 ·rw [<- zrj (j:=i) (z i) hi]
  refine zif λ k hk=>?_
  by_cases e2:k=i
  ·subst e2;rw [if_pos rfl,if_pos e];exact vH _
  ·rw [if_neg e2];exact nn k hk
theorem a_of {A:List Ar} {k u v:Nat} {c:Int} (h:A[k]?=some (u,v,c)):aU A k=u/\aV A k=v/\zf1 A k=c:=by
 unfold aU aV zf1;rw [h];exact ⟨rfl,rfl,rfl⟩
def eA (n:Nat) (A:List Ar) (lv st dn:List Nat) (o:List Int):List Ar:=lv.map (λ k=>(aU A k,aV A k,zf1 A k))++(st.map (λ v=>(n,v,fx o v))++dn.map λ v=>(v,n+1,-fx o v))
def eF (x:List Int) (lv:List Nat) (c:Nat):List Int:=lv.map (fx x)++uP c 0
theorem zo61 {n:Nat} {A:List Ar} {lv st dn:List Nat} {o:List Int} (hlv:∀ k∈lv,k < A.length) (hst:∀ v∈st,v < n) (hdn:∀ v∈dn,v < n) (ok:∀ k,k < A.length->aU A k < n/\aV A k < n):∀ a∈eA n A lv st dn o,a.1 < n+2/\a.2.1 < n+2:=λ a ha=>by
 unfold eA at ha
 rcases uG.mp ha with z|z
 ·obtain ⟨k,k1,rfl⟩:=uM.mp z
  have:=ok k (hlv k k1)
  exact ⟨by show aU A k < _;lia,by show aV A k < _;lia⟩
 ·rcases uG.mp z with z|z
  ·obtain ⟨k,k1,rfl⟩:=uM.mp z
   have:=hst k k1
   exact ⟨by show n < _;lia,by show k < _;lia⟩
  ·obtain ⟨k,k1,rfl⟩:=uM.mp z
   have:=hdn k k1
   exact ⟨by show k < _;lia,by show n+1 < _;lia⟩
theorem zq61 {n:Nat} {A:List Ar} {lv st dn:List Nat} {x o:List Int} {c:Nat} (hlv:∀ k∈lv,k < A.length) (hst:∀ v∈st,0 < fx o v) (hdn:∀ v∈dn,fx o v < 0) (wx:within A.length (zf1 A) (fx x)):∀ (k:Nat) a y,(eA n A lv st dn o)[k]?=some a->(eF x lv c)[k]?=some y->0<=y/\y<=a.2.2:=λ k a y h1 h2=>by
 unfold eA at h1
 unfold eF at h2
 by_cases e:k < lv.length
 ·rw [u5 (by rw [uA];exact e),uI,uB e] at h1 h2
  injection h1 with h1
  injection h2 with h2
  subst h1 h2
  exact wx _ (hlv _ (vW e))
 ·rw [u9 (by rw [uA];lia)] at h1 h2
  rw [vT] at h2
  split at h2
  ·injection h2 with h2
   subst h2
   refine ⟨vH 0,?_⟩
   rcases uG.mp (vI h1) with z|z
   ·obtain ⟨v,v1,rfl⟩:=uM.mp z
    have:=hst v v1
    show 0<=fx o v;lia
   ·obtain ⟨v,v1,rfl⟩:=uM.mp z
    have:=hdn v v1
    show 0<=-fx o v;lia
  ·cases h2
structure Ev (n:Nat) (A:List Ar) (s x o x':List Int):Prop where
 len:x'.length=A.length
 wi:within A.length (zf1 A) (fx x')
 eq:∀ k,k < A.length->fx s k≠0->fx x' k=fx x k
 ov:∀ v,v < n->∃ E T:Int,0<=E/\0<=T/\(E=0 \/ (0 < fx o v/\E<=fx o v))/\(T=0 \/ (fx o v < 0/\T<=-fx o v))/\bl A.length (aU A) (aV A) (fx x') v=bl A.length (aU A) (aV A) (fx x) v - E+T
 pg:(∃ v,v < n/\0 < fx o v/\bl A.length (aU A) (aV A) (fx x') v < bl A.length (aU A) (aV A) (fx x) v) \/ ∃ side:List Nat,(∀ v,v < n->0 < fx o v->v∈side)/\(∀ v,v < n->fx o v < 0->v ∉ side)/\∀ k,k < A.length->fx s k=0->(aU A k∈side->fx x k < zf1 A k->aV A k∈side)/\(aV A k∈side->0 < fx x k->aU A k∈side)
theorem zj51 {n:Nat} {A:List Ar} {s x o x' L:List Int} {lv st dn side:List Nat} (hlv:∀ k,k∈lv ↔ k < A.length/\fx s k=0) (nlv:lv.Nodup) (hst:∀ v,v∈st ↔ v < n/\0 < fx o v) (nst:st.Nodup) (hdn:∀ v,v∈dn ↔ v < n/\fx o v < 0) (ndn:dn.Nodup)
  (ok:∀ k,k < A.length->aU A k < n/\aV A k < n) (wx:within A.length (zf1 A) (fx x)) (b:Best (n+2) (eA n A lv st dn o) (eF x lv (st.length+dn.length)) n (n+1) L side) (hl:x'.length=A.length) (h1:∀ j,j < lv.length->fx x' (lv.getD j 0)=lf L (2 * j+1)) (h2:∀ k,k ∉ lv->fx x' k=fx x k):Ev n A s x o x':=by
 have e1:∀ j,j < lv.length->aU (eA n A lv st dn o) j=aU A (lv.getD j 0)/\aV (eA n A lv st dn o) j=aV A (lv.getD j 0)/\zf1 (eA n A lv st dn o) j=zf1 A (lv.getD j 0):=λ j hj=>a_of (by
  unfold eA
  rw [u5 (by rw [uA];exact hj),uI,uQ,uB hj];rfl)
 have e2:∀ i,i < st.length->aU (eA n A lv st dn o) (lv.length+i)=n/\aV (eA n A lv st dn o) (lv.length+i)=st.getD i 0/\zf1 (eA n A lv st dn o) (lv.length+i)=fx o (st.getD i 0):=λ i hi=>a_of (by
  unfold eA
  rw [u9 (by rw [uA];lia),uA,Nat.add_sub_cancel_left,u5 (by rw [uA];exact hi),uI,uQ,uB hi];rfl)
 have e3:∀ i,i < dn.length->aU (eA n A lv st dn o) (lv.length+st.length+i)=dn.getD i 0/\aV (eA n A lv st dn o) (lv.length+st.length+i)=n+1/\zf1 (eA n A lv st dn o) (lv.length+st.length+i)=-fx o (dn.getD i 0):=λ i hi=>a_of (by
  unfold eA
  rw [u9 (by rw [uA];lia),uA,u9 (by rw [uA];lia),uA,show lv.length+st.length+i - lv.length - st.length=i by lia,uI,uQ,uB hi];rfl)
 have f1:∀ j,j < lv.length->fx (eF x lv (st.length+dn.length)) j=fx x (lv.getD j 0):=λ j hj=>by
  unfold eF
  rw [fx,u5 (by rw [uA];exact hj),uI,uQ,uB hj];rfl
 have f2:∀ k,lv.length<=k->fx (eF x lv (st.length+dn.length)) k=0:=λ k hk=>by
  unfold eF
  rw [fx,u9 (by rw [uA];exact hk),vT]
  split <;> rfl
 have eN:(eA n A lv st dn o).length=lv.length+st.length+dn.length:=by unfold eA;simp;lia
 have eF':(eF x lv (st.length+dn.length)).length=(eA n A lv st dn o).length:=by rw [eN];unfold eF;simp;lia
 have lm:∀ j,j < lv.length->lv.getD j 0 < A.length/\fx s (lv.getD j 0)=0:=λ j hj=>(hlv _).mp (zm4 hj)
 have sm':∀ i,i < st.length->st.getD i 0 < n/\0 < fx o (st.getD i 0):=λ i hi=>(hst _).mp (zm4 hi)
 have dm:∀ i,i < dn.length->dn.getD i 0 < n/\fx o (dn.getD i 0) < 0:=λ i hi=>(hdn _).mp (zm4 hi)
 have wy:=b.within
 have y1:∀ j,j < lv.length->0<=lf L (2 * j+1)/\lf L (2 * j+1)<=zf1 A (lv.getD j 0):=λ j hj=>by
  have:=wy j (by lia);rw [(e1 j hj).2.2] at this;exact this
 have y2:∀ i,i < st.length->0<=lf L (2 * (lv.length+i)+1)/\lf L (2 * (lv.length+i)+1)<=fx o (st.getD i 0):=λ i hi=>by
  have:=wy (lv.length+i) (by lia);rw [(e2 i hi).2.2] at this;exact this
 have y3:∀ i,i < dn.length->0<=lf L (2 * (lv.length+st.length+i)+1)/\lf L (2 * (lv.length+st.length+i)+1)<=-fx o (dn.getD i 0):=λ i hi=>by
  have:=wy (lv.length+st.length+i) (by lia);rw [(e3 i hi).2.2] at this;exact this
 have eq:∀ v,v≠n->v≠n+1->bl (eA n A lv st dn o).length (aU (eA n A lv st dn o)) (aV (eA n A lv st dn o)) (λ k=>lf L (2 * k+1)) v=bl (eA n A lv st dn o).length (aU (eA n A lv st dn o)) (aV (eA n A lv st dn o)) (fx (eF x lv (st.length+dn.length))) v:=λ v a1 a2=>by
  rw [<- zoo,b.up.eqb v a1 a2,zoo]
  refine zb1 λ k hk=>?_
  show trm _ _ (lf (zi6 _ _) (2 * k+1)) v=_
  rw [zbu eF' hk]
 have selS:=λ {v:Nat} (hv:v < n)=>sel (v:=v) (n:=n) nst (λ w hw=>((hst w).mp hw).1) hv (z:=λ i=>lf L (2 * (lv.length+i)+1)) (c:=fx o) y2
 have selD:=λ {v:Nat} (hv:v < n)=>sel (v:=v) (n:=n) ndn (λ w hw=>((hdn w).mp hw).1) hv (z:=λ i=>lf L (2 * (lv.length+st.length+i)+1)) (c:=λ w=>-fx o w) y3
 have key:∀ v,v < n->bl A.length (aU A) (aV A) (fx x') v=bl A.length (aU A) (aV A) (fx x) v - sm st.length (λ i=>if st.getD i 0=v then lf L (2 * (lv.length+i)+1) else 0)+sm dn.length (λ i=>if dn.getD i 0=v then lf L (2 * (lv.length+st.length+i)+1) else 0):=λ v hv=>by
  have E:=eq v (by lia) (by lia)
  unfold bl at E ⊢
  rw [eN,zr9,zr9] at E
  have g1:sm lv.length (λ k=>trm (aU (eA n A lv st dn o) k) (aV (eA n A lv st dn o) k) (lf L (2 * k+1)) v)=sm lv.length λ j=>trm (aU A (lv.getD j 0)) (aV A (lv.getD j 0)) (fx x' (lv.getD j 0)) v:=zb1 λ j hj=>by rw [(e1 j hj).1,(e1 j hj).2.1,h1 j hj]
  have g2:sm lv.length (λ k=>trm (aU (eA n A lv st dn o) k) (aV (eA n A lv st dn o) k) (fx (eF x lv (st.length+dn.length)) k) v)=sm lv.length λ j=>trm (aU A (lv.getD j 0)) (aV A (lv.getD j 0)) (fx x (lv.getD j 0)) v:=zb1 λ j hj=>by rw [(e1 j hj).1,(e1 j hj).2.1,f1 j hj]
  have g3:sm st.length (λ i=>trm (aU (eA n A lv st dn o) (lv.length+i)) (aV (eA n A lv st dn o) (lv.length+i)) (lf L (2 * (lv.length+i)+1)) v)=sm st.length λ i=>if st.getD i 0=v then lf L (2 * (lv.length+i)+1) else 0:=zb1 λ i hi=>by
   rw [(e2 i hi).1,(e2 i hi).2.1];unfold trm;rw [if_neg (by lia:¬n=v)];lia
  have g4:sm dn.length (λ i=>trm (aU (eA n A lv st dn o) (lv.length+st.length+i)) (aV (eA n A lv st dn o) (lv.length+st.length+i)) (lf L (2 * (lv.length+st.length+i)+1)) v)=- sm dn.length λ i=>if dn.getD i 0=v then lf L (2 * (lv.length+st.length+i)+1) else 0:=by
   rw [<- zuv]
   refine zb1 λ i hi=>?_
   rw [(e3 i hi).1,(e3 i hi).2.1];unfold trm;rw [if_neg (by lia:¬n+1=v)];lia
  have z2:sm st.length (λ i=>trm (aU (eA n A lv st dn o) (lv.length+i)) (aV (eA n A lv st dn o) (lv.length+i)) (fx (eF x lv (st.length+dn.length)) (lv.length+i)) v)=0:=by
   rw [<- zi3 st.length];exact zb1 λ i hi=>by rw [f2 _ (by lia),zmc]
  have z3:sm dn.length (λ i=>trm (aU (eA n A lv st dn o) (lv.length+st.length+i)) (aV (eA n A lv st dn o) (lv.length+st.length+i)) (fx (eF x lv (st.length+dn.length)) (lv.length+st.length+i)) v)=0:=by
   rw [<- zi3 dn.length];exact zb1 λ i hi=>by rw [f2 _ (by lia),zmc]
  rw [g1,g2,g3,g4,z2,z3] at E
  have D:sm A.length (λ k=>trm (aU A k) (aV A k) (fx x' k) v) - sm A.length (λ k=>trm (aU A k) (aV A k) (fx x k) v)=sm lv.length (λ j=>trm (aU A (lv.getD j 0)) (aV A (lv.getD j 0)) (fx x' (lv.getD j 0)) v) - sm lv.length λ j=>trm (aU A (lv.getD j 0)) (aV A (lv.getD j 0)) (fx x (lv.getD j 0)) v:=by
   rw [<- zdk,<- zdk,<- zqq lv λ k=>trm (aU A k) (aV A k) (fx x' k) v - trm (aU A k) (aV A k) (fx x k) v,<- zp31 _ nlv λ k hk=>((hlv k).mp hk).1]
   refine zb1 λ k hk=>?_
   by_cases e:k∈lv
   ·rw [if_pos e]
   ·rw [if_neg e,h2 k e];lia
  lia
 refine ⟨hl,λ k hk=>?_,λ k hk hs=>h2 k λ z=>hs ((hlv k).mp z).2,λ v hv=>?_,?_⟩
 ·by_cases e:k∈lv
  ·obtain ⟨j,hj,ej⟩:=vQ.mp e
   have e':lv.getD j 0=k:=by rw [uQ,uB hj,ej];rfl
   have:=y1 j hj
   rw [<- h1 j hj,e'] at this;exact this
  ·rw [h2 k e];exact wx k hk
 ·obtain ⟨s1,s2,_⟩:=selS hv
  obtain ⟨d1,d2,_⟩:=selD hv
  refine ⟨_,_,s1,d1,?_,?_,key v hv⟩
  ·by_cases c:v∈st
   ·rw [if_pos c] at s2;exact .inr ⟨((hst v).mp c).2,s2⟩
   ·rw [if_neg c] at s2;exact .inl (by lia)
  ·by_cases c:v∈dn
   ·rw [if_pos c] at d2;exact .inr ⟨((hdn v).mp c).2,d2⟩
   ·rw [if_neg c] at d2;exact .inl (by lia)
 ·by_cases c:∃ v,v < n/\0 < fx o v/\bl A.length (aU A) (aV A) (fx x') v < bl A.length (aU A) (aV A) (fx x) v
  ·exact .inl c
  refine .inr ⟨side,?_⟩
  have zer:∀ i,i < st.length->lf L (2 * (lv.length+i)+1)=0:=λ i hi=>by
   obtain ⟨v1,v2⟩:=sm' i hi
   obtain ⟨s1,s2,s3⟩:=selS v1
   obtain ⟨d1,d2,_⟩:=selD v1
   have k:=key _ v1
   have dz:st.getD i 0 ∉ dn:=λ z=>by have:=((hdn _).mp z).2;lia
   rw [if_neg dz] at d2
   have s3:=s3 i hi rfl
   have y:=(y2 i hi).1
   have nc:¬ bl A.length (aU A) (aV A) (fx x') (st.getD i 0) < bl A.length (aU A) (aV A) (fx x) (st.getD i 0):=λ z=>c ⟨_,v1,v2,z⟩
   lia
  have b0:∀ y:Nat->Int,(∀ i,i < st.length->y (lv.length+i)=0)->bl (eA n A lv st dn o).length (aU (eA n A lv st dn o)) (aV (eA n A lv st dn o)) y n=0:=λ y hy=>by
   unfold bl
   rw [eN,zr9]
   have a1:sm lv.length (λ k=>trm (aU (eA n A lv st dn o) k) (aV (eA n A lv st dn o) k) (y k) n)=0:=by
    rw [<- zi3 lv.length]
    refine zb1 λ j hj=>?_
    have:=ok _ (lm j hj).1
    rw [(e1 j hj).1,(e1 j hj).2.1];exact zcm _ (by lia) (by lia)
   have a2:sm st.length (λ i=>trm (aU (eA n A lv st dn o) (lv.length+i)) (aV (eA n A lv st dn o) (lv.length+i)) (y (lv.length+i)) n)=0:=by
    rw [<- zi3 st.length]
    exact zb1 λ i hi=>by rw [hy i hi,zmc]
   have a3:sm dn.length (λ i=>trm (aU (eA n A lv st dn o) (lv.length+st.length+i)) (aV (eA n A lv st dn o) (lv.length+st.length+i)) (y (lv.length+st.length+i)) n)=0:=by
    rw [<- zi3 dn.length]
    refine zb1 λ i hi=>?_
    have:=(dm i hi).1
    rw [(e3 i hi).1,(e3 i hi).2.1];exact zcm _ (by lia) (by lia)
   rw [a1,a2,a3];rfl
  have wF:within (eA n A lv st dn o).length (zf1 (eA n A lv st dn o)) (fx (eF x lv (st.length+dn.length))):=λ k hk=>by
   by_cases c1:k < lv.length
   ·rw [f1 k c1,(e1 k c1).2.2];exact wx _ (lm k c1).1
   ·rw [f2 k (by lia)]
    have:=wy k hk
    simp only at this
    lia
  have fe:flux (eA n A lv st dn o).length (aU (eA n A lv st dn o)) (aV (eA n A lv st dn o)) (λ k=>lf L (2 * k+1)) side=flux (eA n A lv st dn o).length (aU (eA n A lv st dn o)) (aV (eA n A lv st dn o)) (fx (eF x lv (st.length+dn.length))) side:=by
   rw [zm5 _ _ _ _ (zdd b.ris),zm5 _ _ _ _ (zdd b.ris)]
   congr 1
   refine xP λ w hw=>?_
   by_cases e:w=n
   ·rw [e,b0 _ zer,b0 _ λ i hi=>f2 _ (by lia)]
   ·exact eq w e λ z=>b.out (z ▸ hw)
  have tg:=zrg b.tight wF fe
  refine ⟨λ v hv ho=>?_,λ v hv ho hs=>?_,λ k hk hs=>?_⟩
  ·obtain ⟨i,hi,ei⟩:=vQ.mp ((hst v).mpr ⟨hv,ho⟩)
   have e':st.getD i 0=v:=by rw [uQ,uB hi,ei];rfl
   have:=(tg (lv.length+i) (by lia)).1
   rw [(e2 i hi).1,(e2 i hi).2.1,(e2 i hi).2.2,f2 _ (by lia),e'] at this
   exact Classical.byContradiction λ z=>by have:=this b.inn z;lia
  ·obtain ⟨i,hi,ei⟩:=vQ.mp ((hdn v).mpr ⟨hv,ho⟩)
   have e':dn.getD i 0=v:=by rw [uQ,uB hi,ei];rfl
   have:=(tg (lv.length+st.length+i) (by lia)).1
   rw [(e3 i hi).1,(e3 i hi).2.1,(e3 i hi).2.2,f2 _ (by lia),e'] at this
   have:=this hs b.out;lia
  ·obtain ⟨j,hj,ej⟩:=vQ.mp ((hlv k).mpr ⟨hk,hs⟩)
   have e':lv.getD j 0=k:=by rw [uQ,uB hj,ej];rfl
   have:=tg j (by lia)
   rw [(e1 j hj).1,(e1 j hj).2.1,(e1 j hj).2.2,f1 j hj,e'] at this
   exact ⟨λ z1 z2=>Classical.byContradiction λ z=>by have:=this.1 z1 z;lia,λ z1 z2=>Classical.byContradiction λ z=>by have:=this.2 z1 z;lia⟩
end _5
open PySem PySem.Spec PyProof.Rows _2 _3 _4 _5
local macro_rules|`(tactic| walk_at "sc")=>`(tactic| exact ⟨rfl,rfl,rfl,by decide +kernel,rfl,by decide +kernel,by decide +kernel⟩)
local macro_rules|`(tactic| walk_at "csc")=>`(tactic| exact ⟨rfl,by decide +kernel,by decide +kernel,by decide +kernel,by decide +kernel⟩)
local macro_rules|`(tactic| walk_at "ds")=>do `(tactic| simp only [$(<- ("zda zye zx11 List.map_cons List.map_nil List.length_cons List.length_nil Nat.reduceAdd Nat.reduceSub List.replicate List.cons_append List.nil_append".splitOn " ").toArray.mapM λ s=>`(Lean.Parser.Tactic.simpLemma| $(Lean.mkIdent s.toName):ident)),*])
local macro_rules|`(tactic| walk_at "cs")=>do `(tactic| simp only [$(<- ("cST List.map_cons List.map_nil List.replicate List.cons_append List.nil_append List.getD_cons_zero List.getD_cons_succ".splitOn " ").toArray.mapM λ s=>`(Lean.Parser.Tactic.simpLemma| $(Lean.mkIdent s.toName):ident)),*])
local macro_rules|`(tactic| walk_at "dd")=>do `(tactic| simp only [$(<- ("e_dF zxx znt zhr zvv zgk zbs zur zrp zoy zrk zrr fAny fShl fShr nI zvd zti zgi zr51 e_dG e_dC zx51 zu11 zd71 zwu zts zqs zlx za21 zz51 zv11 zh21 zx01 zcr zqx zv01 ziq zw51 zn71 zv61 zfj zdq zt61 zaz zu61 zkq zn01 zrq e_gN zcw zqn e_gT zlr zr01 zh51 zh61 zs51 e_cE e_cF zfu zzx zl01 zjr zd01 zvu zz61 zf61 ziy zl11 ztt zt01 zm71 zl61 e_nE e_nF e_cN znz zby zw11 e_aD e_aB e_aO zav zrv zew e_eN zlv zvr zno zdn zzi zhx zm21 zhy zmu zm11 zq11 zl21 zux zn51 zcu zls zzz zay ze21 zqy zk51 zd61 zo51 zjw zkw zfz zjq zc71 zdv za01 zpr fAdd fCat fI fI0 fMul fRep fEq fNe zfw fIsN zkz fIx fNeg fB fTru fLen fAbs zyy zi21 zmn zzo fSl fSlF zow fZip zc21 zwz zd21 zsx zjy zj21 zoq zg21 zp01 zx61 zky fzT vwT slT slot Sl.wth mApp mExt zny mPop fPut fGet fHas fII keyD nFld nCls noM nSet nIx noO noS zwl oneO zwp ArgP.arg toD zhw zs31 exA oIx List.getElem?_cons_zero List.getElem?_cons_succ List.set_cons_zero List.set_cons_succ List.length_cons List.length_nil List.map_cons List.map_nil List.nil_append List.cons_append List.lookup putA setP getP beq_self_eq_true Nat.reduceAdd Nat.reduceSub Nat.reduceMul Int.reduceAdd Int.reduceSub Int.reduceMul Int.reduceNeg Int.reduceLT Int.reduceLE Int.reducePow Int.reduceToNat Nat.reducePow Nat.reduceLT Nat.reduceLeDiff Nat.reduceEqDiff Int.reduceEq Int.reduceMod Int.reduceDiv Int.reduceBEq Int.reduceBNe Int.reduceGT Int.reduceGE zix CPow sizeLine_eq decide_eq_true_eq decide_true decide_false Bool.not_true Bool.not_false Bool.not_eq_true' Bool.not_eq_eq_eq_not Bool.not_not decide_eq_false_iff_not decide_not true_and and_true if_true if_false Bool.false_eq_true reduceCtorEq ite_true ite_false not_false_eq_true not_true_eq_false ne_eq Option.some.injEq exists_eq_left' exists_eq_left Option.map_some Option.map_none Option.bind_some zs7 za6 zp7 zd6 zy5 zv5 zh8 zv7 zb7 zia zz9 zi8 zs5 zu5 zj5 zw7 zf8 zf7 zaa zx9 ze8 zz7 zc8 zc7 zsb zza zp9 zzc zra zkc zbb zpb zdb".splitOn " ").toArray.mapM λ s=>`(Lean.Parser.Tactic.simpLemma| $(Lean.mkIdent s.toName):ident)),*])
local macro_rules|`(tactic| walk_at "dn")=>`(tactic| (refine ze0 λ J hJ=>?_;walk_at "dd";refine hJ _ ?_;clear hJ))
local macro_rules|`(tactic| walk_at "dns")=>`(tactic| repeat walk_at "dn")
namespace _40
open PySem PySem.Spec PyProof.Rows _2 _3 _4 _5
def top (i:Nat):Stmt:=PySem.Challenge.pw_vatyard_k40_heights_fit.main.body.getD i (.Pass ⟨0,0,0,0⟩)
abbrev zg1:Stmt:=zx5 (top 1) 0
abbrev za2:Stmt:=zx5 (top 1) 1
abbrev zp2:Stmt:=zx5 (top 1) 2
abbrev zm1:Stmt:=zx5 (top 1) 3
abbrev zl1:Stmt:=zx5 (top 1) 4
abbrev zo2:Stmt:=zx5 (top 1) 5
abbrev zg2:Stmt:=zx5 (top 1) 6
abbrev zx1:Stmt:=zx5 (top 1) 7
abbrev zk6:Stmt:=top 2
abbrev zz6:Stmt:=top 5
abbrev zh9:Stmt:=top 6
abbrev zb4:Stmt:=top 7
abbrev zyc:Stmt:=top 8
abbrev za5:Stmt:=top 9
abbrev zk5:Stmt:=top 10
abbrev zea:Stmt:=top 11
abbrev zl3:Stmt:=top 12
abbrev zy4:Stmt:=top 13
abbrev za3:Stmt:=top 14
abbrev zb3:Stmt:=top 16
abbrev zt4:Stmt:=top 17
abbrev zr5:Stmt:=top 18
abbrev zn3:Stmt:=top 19
abbrev zis:Stmt:=top 20
section
variable {P:Program} {w:World} {K:Fg} {mg:Str->Option Value} {base:Heap} {jA:Addr}
def zm3 (C:Addr):DSpT:=λ as Q=>∃ (m:Nat) (E:List Nat) (L:List Int) (S:List (List Nat)) (lv:List (Nat×Nat)) (tr:List Nat) (lev:Nat),as=[.b (oS C E L S),.b (.dk (kN lv)),.o (.li (tr.map nI)),.d (nI lev)]/\E.length=2 * m/\L.length=2 * m /\
 (∀ s∈tr,s < 2 * m/\(0 < lf L s->(lkp lv (hd E s)).isSome=true))/\∀ j,j<=tr.length->(∀ (i:Nat) s,j<=i->tr[i]?=some s->¬(0 < lf L s/\lkp lv (hd E s)=some lev))->(j=0->Q (.fz .none) (.li []))/\∀ s,0 < j->tr[j - 1]?=some s->0 < lf L s->lkp lv (hd E s)=some lev->Q (.fz (nI s)) (.li ((tr.take j).map nI))
theorem zf3:FnScope ["self", "levels", "steps", "level", "step"] ["self", "levels", "steps", "level"] (zf0 zg2):=by walk_at "sc"
theorem zf6 (jB:Cls K jA) (T:TopMeth K jA "step_up" "Stream.step_up" zg2) (jJ:mg "len"=none) (jC:NoAttr K jA "left") (jD:NoAttr K jA "ends"):zcb P w K mg base jA "step_up" 1 ["self", "levels", "steps", "level"] (spT K (zm3 jA)):=by
 refine zm7 jB T zf3 (λ _ _ _ _ _ _ us hl=>by obtain ⟨_,_,_,_,rfl⟩:=ar4 hl;rfl) (zci λ as Qd h=>by obtain ⟨_,_,_,_,_,_,_,rfl,_⟩:=h;rfl) (zx7 ?_)
 intro f cdv A outer s H E hr
 have nd:=zf3.nd
 refine ⟨_,_,(zd0 (zo4 PassesOwn.never (zq3 (K:=K) rfl (pv 2) (λ _=>rfl)) (zd0 (pset 4 nd (pix w K hr (pv 2) (zo1 zt9 (zz0 (zy1 (K:=K) rfl) rfl jJ zs9 (za0 (pv 2) zh0)) zl0)))
   (zd0 (zsa (PW.pt (zbj (zy0 zbp (pix w K hr (zu1 (K:=K) rfl (pv 0) rfl) (pv 4)) zl0 (zi2 _)) (zqd (zy0 (zfv (K:=K) rfl (Room.units hr)) (pix w K hr (pv 1) (pix w K hr (zu1 (K:=K) rfl (pv 0) rfl) (pv 4))) (pv 3) (zi2 _))))) (zj0 (zi1 (pv 4))) zn2)
   (zj0 (zr1 (zkb (K:=K) rfl PySem.F.plainAttrs_list PySem.F.slot_list_pop PySem.F.type_list_pop zeo (pv 2)))))))
   (zj0 (zi1 zjp))),(zk0 (zn4 (zb8 (zb0 2)) (zk0 (zd1 (zr0 r_ix (zb0 2) (RfE.v (zr0 zjj (RfE.v (zjf zkk (zv0 (zb0 2) zt1))) rvi))) (rgn 4))
   (zk0 (zmb (zlj (zx0 (zr0 r_gt (RfE.v (zr0 r_ix (RfP.v (zd4 jB jC (zq0 0))) (zb0 4))) rvi)) (zx0 (zle q_eq (RfV.h (RfE.v (zjh (zq0 1) (zr0 r_ix (RfP.v (zd4 jB jD (zq0 0))) (zb0 4))))) (RfV.h (zb0 3))))) (zr2 (RfE.c (zg0 4))) zj2)
   (zs1 (zlo zep (zq0 2))))))
   (zr2 (RfE.c zun))),?_⟩
 rintro as Qd a ⟨m,E,L,S,lv,tr,lev,rfl,hE,hL,hb,q⟩
 walk_at "ds"
 refine zfh ?_
 refine ⟨λ μ U=>∃ s4,μ<=tr.length/\(∀ (i:Nat) s,μ<=i->tr[i]?=some s->¬(0 < lf L s/\lkp lv (hd E s)=some lev))/\U=[.bo (oS jA E L S),.bo (.dk (kN lv)),.io a (.li ((tr.take μ).map nI)),.sh (nI lev),s4],⟨tr.length,.un,uF _,λ i s hi e=>?_,?_⟩,?_⟩
 ·rw [vF hi] at e;cases e
 ·rw [wN]
 rintro μ U ⟨s4,hμ,bad,rfl⟩
 obtain ⟨q0,q1⟩:=q μ hμ bad
 walk_at "dd"
 cases μ with
|zero =>
  simp only [List.take_zero,wZ,List.isEmpty_nil]
  walk_at "dd"
  exact ⟨_,rfl,q0 rfl⟩
|succ μ =>
  obtain ⟨s,hs⟩:∃ s,tr[μ]?=some s:=⟨tr[μ]'(by lia),uB _⟩
  have hsm:=hb s (vI hs)
  have el:((tr.take (μ+1)).map nI).length=μ+1:=by rw [uA,vS];lia
  have e1:((tr.take (μ+1)).map nI).isEmpty=false:=by
   rw [List.isEmpty_eq_false_iff]
   intro z
   rw [z] at el;simp at el
  have es:(tr.take (μ+1))[μ]?=some s:=by rw [zF (by lia)];exact hs
  rw [e1]
  walk_at "dd"
  refine ze0 λ J hJ=>?_
  walk_at "dd"
  rw [el,show ((μ+1:Nat):Int) - 1=(μ:Int) by lia]
  refine ⟨_,zx21 es,?_⟩
  walk_at "dd"
  refine hJ _ ?_
  clear hJ
  have next:¬(0 < lf L s/\lkp lv (hd E s)=some lev)->∃ m',m' < μ+1/\∃ s4,m'<=tr.length/\(∀ (i:Nat) s,m'<=i->tr[i]?=some s->¬(0 < lf L s/\lkp lv (hd E s)=some lev))/\([Sl.bo (oS jA E L S),Sl.bo (.dk (kN lv)),Sl.io a (.li ((tr.take (μ+1)).map nI).dropLast),Sl.sh (nI lev),Sl.sh (nI s)]:DSt)=[.bo (oS jA E L S),.bo (.dk (kN lv)),.io a (.li ((tr.take m').map nI)),.sh (nI lev),s4]:=λ hn=>by
   refine ⟨μ,by lia,.sh (nI s),by lia,λ i s' hi e=>?_,?_⟩
   ·rcases vN μ i with z|z
    ·exact bad i s' (by lia) e
    ·have:i=μ:=by lia
     subst this
     rw [hs] at e;cases e;exact hn
   ·rw [yR,el,xQ,<- List.map_take,List.take_take,yP (by lia)]
  have pop:¬(0 < lf L s/\lkp lv (hd E s)=some lev)->∃ d,((tr.take (μ+1)).map nI)[((tr.take (μ+1)).map nI).length - 1]?=some d/\∃ m',m' < μ+1/\∃ s4,m'<=tr.length/\(∀ (i:Nat) s,m'<=i->tr[i]?=some s->¬(0 < lf L s/\lkp lv (hd E s)=some lev))/\([Sl.bo (oS jA E L S),Sl.bo (.dk (kN lv)),Sl.io a (.li ((tr.take (μ+1)).map nI).dropLast),Sl.sh (nI lev),Sl.sh (nI s)]:DSt)=[.bo (oS jA E L S),.bo (.dk (kN lv)),.io a (.li ((tr.take m').map nI)),.sh (nI lev),s4]:=λ hn =>
   ⟨nI s,by rw [el,xQ,uI,es];rfl,next hn⟩
  refine ze0 λ J hJ=>?_
  walk_at "dd"
  refine ⟨_,zxy hL hsm.1,?_⟩
  walk_at "dd"
  refine two (λ hp=>?_) λ hp=>hJ _ ?_
  ·obtain ⟨b,hbb⟩:=v7.mp (hsm.2 hp)
   refine ⟨_,zex hE hsm.1,?_⟩
   walk_at "dd"
   refine ⟨_,nI b,rfl,by rw [zvd,hbb];rfl,?_⟩
   walk_at "dd"
   refine two (λ he=>?_) λ he=>hJ _ ?_
   ·have:b=lev:=by lia
    subst this
    exact ⟨_,rfl,q1 s (by lia) (by rw [xQ];exact hs) hp hbb⟩
   ·walk_at "dd"
    exact pop λ z=>by rw [hbb] at z;exact he (by have:=z.2;injection this with this;rw [this])
  ·walk_at "dd"
   exact pop λ z=>hp z.1
def ze5 (C:Addr):DSpT:=λ as Q=>∃ (m:Nat) (E:List Nat) (L:List Int) (S:List (List Nat)) (p:List Nat),as=[.o (oS C E L S),.d (.list (p.map nI))]/\E.length=2 * m/\L.length=2 * m/\p≠[]/\p.length<=1000000/\(∀ s∈p,s < 2 * m) /\
 ∀ a,(∃ s∈p,a=lf L s)->(∀ s∈p,a<=lf L s)->Q (.fz .none) (oS C E (zh2 L p a) S)
theorem zxe (L:List Int) (p:List Nat) (s:Nat) (a:Int):zh2 L (p++[s]) a=zpc (zh2 L p a) s a:=by unfold zh2;rw [List.foldl_append];rfl
theorem zj4:FnScope ["self", "path", "amount", "step"] ["self", "path"] (zf0 zx1):=by walk_at "sc"
theorem zg8 (jB:Cls K jA) (T:TopMeth K jA "carry" "Stream.carry" zx1) (qD:mg "min"=none) (jC:NoAttr K jA "left"):zcb P w K mg base jA "carry" 1 ["self", "path"] (spT K (ze5 jA)):=by
 refine zm7 jB T zj4 (λ _ _ _ _ _ _ us hl=>by obtain ⟨_,_,rfl⟩:=ar2 hl;rfl) (zci λ as Qd h=>by obtain ⟨_,_,_,_,_,rfl,_⟩:=h;rfl) (zx7 ?_)
 intro f cdv A outer s H E hr
 have nd:=zj4.nd
 refine ⟨_,_,(zd0 (pset 2 nd (zz0 (zwj (K:=K) rfl rfl) rfl qD zes (za0 (zi4 (sc:=zf0 zx1) (N:=["self", "path", "amount", "step"]) (own:=["step"]) (ix:=[0]) rfl rfl rfl (by walk_at "csc") (pi_W (K:=K) rfl (pv 1)) (λ _ _ _ _=>⟨(pgn 0 (nds ["step", "self"])),zg3,(pix w K hr (zu1 (K:=K) rfl (pv 1) rfl) (pv 0))⟩)) zh0)))
   (zj0 (zw4 PassesOwn.never rfl (pi_W (K:=K) rfl (pv 1)) (pgn 3 nd) (zd0 (zbe (zu1 (K:=K) rfl (pv 0) rfl) (pv 3) (zcx (K:=K) (Room.units hr) rfl) (pv 2) zjs (zml (Room.units hr)))
   (zj0 (zbe (zu1 (K:=K) rfl (pv 0) rfl) (zo1 zgq (pv 3) zl0) (zcx (K:=K) (Room.units hr) rfl) (pv 2) zmw (zml (Room.units hr)))))))),(zk0 (zd1 (zjf zf21 (zv0 (RfE.v (RfF.e (zu2 (ztm (zb0 1)) (zc1 (i:=0) (n:=1) (by decide)) zf5 (zr0 r_ix (RfP.v (zd4 jB jC (zq0 1))) (zb0 0))))) zt1)) (rgn 2))
   (zz4 (zvo (zg0 1)) (rgn 3) (zk0 (zod (zd4 jB jC (zq0 0)) (zg0 3) (zg0 2))
   (zod (zd4 jB jC (zq0 0)) (zr0 zp21 (zb0 3) rvi) (zg0 2))))),?_⟩
 rintro as Qd a ⟨m,E,L,S,p,rfl,hE,hL,hne,hz,hb,q⟩
 walk_at "ds"
 refine ze0 λ J hJ=>?_
 walk_at "dd"
 refine ztj (λ s=>.int (lf L s)) (by rw [sizeLine_eq];lia) (λ s hs=>?_) ?_
 ·walk_at "cs"
  walk_at "dd"
  exact ⟨_,zxy hL (hb s hs),rfl⟩
 refine ⟨p.map (lf L),?_,by simpa using hne,λ M hM hx=>hJ _ ?_⟩
 ·rw [<- _4.ints_map (p.map (lf L)),vC];rfl
 clear hJ
 walk_at "dd"
 refine zz2 (λ i U=>∃ s3,U=[.io a (oS jA E (zh2 L (p.take i) M) S),.sh (.list (p.map nI)),.sh (.int M),s3]) ⟨.un,rfl⟩ ?_ ?_
 ·rintro i s U' hs ⟨s3,rfl⟩
  have hsm:=hb s (vI hs)
  have hl:(zh2 L (p.take i) M).length=2 * m:=by rw [zm6];exact hL
  rw [show p.take (i+1)=p.take i++[s] by rw [wM,hs];rfl,zxe]
  generalize zh2 L (p.take i) M=L1 at hl ⊢
  walk_at "dd"
  refine ze0 λ J hJ=>?_
  walk_at "dd"
  have get:∀ {LL:List Int} {j:Nat},j < LL.length->(LL.map uC)[((j:Nat):Int).toNat]?=some (.int (lf LL j)):=λ {LL j} h=>by
   rw [u4,uI]
   unfold lf
   rw [uQ,uB h];rfl
  have ixn:∀ {LL:List Int} {j:Nat},j < LL.length->ixN (LL.map uC).length ((j:Nat):Int)=some j:=λ {LL j} h=>by
   unfold ixN
   rw [if_pos (by lia),if_pos (by rw [uA];lia),u4]
  refine ⟨by lia,_,get (by lia),?_⟩
  walk_at "dd"
  refine ⟨s,ixn (by lia),hJ _ ?_⟩
  clear hJ
  rw [show (L1.map uC).set s (.int (lf L1 s - M))=(L1.set s (lf L1 s - M)).map .int from (xB ..).symm]
  walk_at "dd"
  rw [zor]
  have hx:xr s < 2 * m:=ztw hsm
  refine ⟨by lia,_,get (by rw [uW];lia),?_⟩
  walk_at "dd"
  refine ⟨xr s,ixn (by rw [uW];lia),.sh (nI s),?_⟩
  rw [show ((L1.set s (lf L1 s - M)).map uC).set (xr s) (.int (lf (L1.set s (lf L1 s - M)) (xr s)+M))=((L1.set s (lf L1 s - M)).set (xr s) (lf (L1.set s (lf L1 s - M)) (xr s)+M)).map .int from (xB ..).symm]
  rw [zyn (by lia),if_neg (λ z=>zwy s z.symm)]
  rfl
 ·rintro U' ⟨s3,rfl⟩
  rw [wN]
  obtain ⟨s0,hs0,e0⟩:=uM.mp hM
  walk_at "dd"
  exact ⟨_,rfl,q M ⟨s0,hs0,e0.symm⟩ λ s hs=>hx _ (x9 hs)⟩
end
section
variable {P:Program} {w:World} {K:Fg} {mg:Str->Option Value} {base:Heap} {jA:Addr}
def zk2 (C:Addr):DSpT:=λ as Q=>∃ (n m:Nat) (E:List Nat) (L:List Int) (S:List (List Nat)) (src:Nat) (lv:List (Nat×Nat)) (row:List Nat) (lev:Nat),as=[.b (oS C E L S),.d (.list (row.map nI)),.o (.dk (kN lv))]/\n<=100000/\Net n m E S/\L.length=2 * m/\Bfs n m E L src lv row lev /\
 ∀ lv' row',Bfs n m E L src lv' row' (lev+1)->lv'.length=lv.length+row'.length->Q (.fz (.list (row'.map nI))) (.dk (kN lv'))
theorem zf2:FnScope ["self", "row", "told", "behind", "here", "step", "goal"] ["self", "row", "told"] (zf0 zm1):=by walk_at "sc"
theorem zs4 (jB:Cls K jA) (T:TopMeth K jA "row_behind" "Stream.row_behind" zm1) (jF:NoAttr K jA "steps") (jD:NoAttr K jA "ends") (jC:NoAttr K jA "left"):zcb P w K mg base jA "row_behind" 1 ["self", "row", "told"] (spT K (zk2 jA)):=by
 refine zm7 jB T zf2 (λ _ _ _ _ _ _ us hl=>by obtain ⟨_,_,_,rfl⟩:=ar3 hl;rfl) (zci λ as Qd h=>by obtain ⟨_,_,_,_,_,_,_,_,_,rfl,_⟩:=h;rfl) (zx7 ?_)
 intro f cdv A outer s H E hr
 have nd:=zf2.nd
 refine ⟨_,_,(zd0 (pset 3 nd (zn1 zh0))
   (zd0 (zw4 PassesOwn.never rfl (pi_W (K:=K) rfl (pv 1)) (pgn 4 nd) (zj0 (zw4 PassesOwn.never rfl (pi_W (K:=K) rfl (pix w K hr (zu1 (K:=K) rfl (pv 0) rfl) (pv 4))) (pgn 5 nd) (zd0 (pset 6 nd (pix w K hr (zu1 (K:=K) rfl (pv 0) rfl) (pv 5)))
   (zj0 (zsa (PW.pt (zbj (zy0 zbp (pix w K hr (zu1 (K:=K) rfl (pv 0) rfl) (pv 5)) zl0 (zi2 _)) (zqd (zy0 (zv9 (w:=w) (K:=K) (Room.units hr) rfl rfl) (pv 6) (pv 2) (by with_unfolding_all rfl))))) (zd0 (zcf (zo1 (zq1 (K:=K) rfl) (pix w K hr (pv 2) (pv 4)) zl0) (zak (pv 2) (pv 6) (zml (Room.units hr))))
   (zj0 (zr1 (zt3 (K:=K) rfl PySem.F.plainAttrs_list PySem.F.slot_list_append PySem.F.type_list_append zh1 (pv 3) (za0 (pv 6) zh0))))) zn2))))))
   (zj0 (zi1 (pv 3))))),(zk0 (zz1 (RfF.c (zk3 zn0)))
   (zk0 (zz4 (zvo (zg0 1)) (rgn 4) (zz4 (zvo (zr0 r_ix (RfP.v (zd4 jB jF (zq0 0))) (zb0 4))) (rgn 5) (zk0 (zd1 (zr0 r_ix (RfP.v (zd4 jB jD (zq0 0))) (zb0 5)) (rgn 6))
   (zmb (zlj (zx0 (zr0 r_gt (RfE.v (zr0 r_ix (RfP.v (zd4 jB jC (zq0 0))) (zb0 5))) rvi)) (zx0 (zkf (zg0 6) (zq0 2)))) (zk0 (zwi (zr0 zla (RfE.v (zjh (zq0 2) (zg0 4))) rvi) (zq0 2) (zg0 6))
   (zs1 (zue zj8 (zq0 3) (zc0 (zg0 6) zn0)))) zj2))))
   (za8 3 [] (zi5 (i:=3))))),?_⟩
 rintro as Qd a ⟨n,m,E,L,S,src,lv,row,lev,rfl,hn,N,hL,B,q⟩
 walk_at "ds"
 refine ze0 λ J hJ=>?_
 walk_at "dd"
 refine hJ _ ?_
 clear hJ
 refine ze0 λ J hJ=>?_
 walk_at "dd"
 refine zz2 (λ i U=>∃ lv1 beh s4 s5 s6,Mid n m E L lv lev lv1 beh/\(∀ v∈row.take i,∀ l,S[v]?=some l->∀ s∈l,0 < lf L s->(lkp lv1 (hd E s)).isSome=true) /\
  U=[.bo (oS jA E L S),.sh (.list (row.map nI)),.io a (.dk (kN lv1)),.ow (.li (beh.map nI)),s4,s5,s6]) ⟨lv,[],.un,.un,.un,Mid.start B,λ v hv=>by simp at hv,rfl⟩ ?_ ?_
 ·rintro i v U hv ⟨lv1,beh,s4,s5,s6,M,cl,rfl⟩
  have hvr:=vI hv
  have hvl:=M.old _ _ (B.ro v hvr)
  have hvn:=B.bd _ (zfg (B.ro v hvr))
  obtain ⟨l,hl⟩:∃ l,S[v]?=some l:=⟨S[v]'(by rw [N.lS];exact hvn),uB _⟩
  walk_at "dd"
  refine ⟨_,zs61 hl,?_⟩
  walk_at "dd"
  refine zz2 (λ j U=>∃ lv1 beh s5 s6,Mid n m E L lv lev lv1 beh/\(∀ v∈row.take i,∀ l,S[v]?=some l->∀ s∈l,0 < lf L s->(lkp lv1 (hd E s)).isSome=true)/\(∀ s∈l.take j,0 < lf L s->(lkp lv1 (hd E s)).isSome=true) /\
   U=[.bo (oS jA E L S),.sh (.list (row.map nI)),.io a (.dk (kN lv1)),.ow (.li (beh.map nI)),.sh (nI v),s5,s6]) ⟨lv1,beh,s5,s6,M,cl,λ s hs=>by simp at hs,rfl⟩ ?_ ?_
  ·clear M hvl cl lv1 beh s4 s5 s6
   rintro j s U hs ⟨lv1,beh,s5,s6,M,cl,cj,rfl⟩
   have hvl:=M.old _ _ (B.ro v hvr)
   have hsl:=vI hs
   obtain ⟨hsm,hst⟩:=N.s1 v l hl s hsl
   have hz:lv1.length<=n:=by
    have:=zs0 n (lv1.map (·.1)) M.nd (λ x hx=>by obtain ⟨p,hp,rfl⟩:=uM.mp hx;exact M.bd p hp)
    rwa [uA] at this
   have hz2:=M.len
   have tk:∀ x∈l.take (j+1),x∈l.take j \/ x=s:=λ x hx=>by
    rw [wM,hs] at hx
    rcases uG.mp hx with z|z
    ·exact .inl z
    ·simp at z;exact .inr z
   walk_at "dd"
   refine ze0 λ J2 hJ2=>?_
   walk_at "dd"
   refine ⟨_,zex N.lE hsm,?_⟩
   walk_at "dd"
   refine hJ2 _ ?_
   clear hJ2
   walk_at "dd"
   refine ⟨_,zxy hL hsm,?_⟩
   walk_at "dd"
   refine two (λ hp=>?_) λ hp=>?_
   ·rw [xN]
    refine two (λ hg=>?_) λ hg=>?_
    ·have hg:lkp lv1 (hd E s)=none:=by simpa using hg
     refine ze0 λ J2 hJ2=>?_
     walk_at "dd"
     refine ⟨_,nI lev,rfl,by rw [zvd,hvl];rfl,?_⟩
     walk_at "dd"
     refine ⟨by rw [kN,uA];lia,hJ2 _ ?_⟩
     clear hJ2
     rw [show (uC ((lev:Int)+1))=nI (lev+1) from rfl,zmt hg]
     walk_at "dd"
     refine ⟨by rw [uA];lia,lv1++[(hd E s,lev+1)],beh++[hd E s],_,_,M.put hsm hp (by rw [hst];exact hvl) (N.bE s hsm) hg,λ u hu k hk x hx hp'=>?_,λ x hx hx0=>?_,by rw [uJ];rfl⟩
     ·obtain ⟨b,hb⟩:=v7.mp (cl u hu k hk x hx hp')
      rw [zs8,hb];rfl
     ·rcases tk x hx with z|z
      ·obtain ⟨b,hb⟩:=v7.mp (cj x z hx0)
       rw [zs8,hb];rfl
      ·rw [z,zs8,hg];simp
    ·exact ⟨lv1,beh,_,_,M,cl,λ x hx hx0=>(tk x hx).elim (λ z=>cj x z hx0) λ z=>by rw [z];cases q:lkp lv1 (hd E s) with|none=>exact absurd (by rw [q];rfl) hg|some b=>rfl,rfl⟩
   ·exact ⟨lv1,beh,_,_,M,cl,λ x hx hx0=>(tk x hx).elim (λ z=>cj x z hx0) λ z=>absurd (z ▸ hx0) hp,rfl⟩
  ·rintro U ⟨lv1,beh,s5,s6,M,cl,cj,rfl⟩
   refine ⟨lv1,beh,_,_,_,M,λ u hu k hk s hs hp=>?_,rfl⟩
   rw [wM,hv] at hu
   rcases uG.mp hu with z|z
   ·exact cl u z k hk s hs hp
   ·simp at z;subst z
    rw [hl] at hk;cases hk
    rw [wN] at cj
    exact cj s hs hp
 ·rintro U ⟨lv1,beh,s4,s5,s6,M,cl,rfl⟩
  rw [wN] at cl
  refine hJ _ ?_
  walk_at "dd"
  refine ⟨_,_,rfl,rfl,?_⟩
  exact ⟨_,rfl,q _ _ (Mid.bfs N B M cl) M.len⟩
def zf4 (C:Addr):DSpT:=λ as Q=>∃ (n m:Nat) (E:List Nat) (L:List Int) (S:List (List Nat)) (src:Nat),as=[.b (oS C E L S),.d (nI src)]/\n<=100000/\Net n m E S/\L.length=2 * m/\src < n /\
 ∀ lv,Lev n m E L src lv->∀ t,Q (.dk (kN lv)) t
theorem zx3:FnScope ["self", "source", "told", "row"] ["self", "source"] (zf0 zp2):=by walk_at "sc"
theorem zy6 (jB:Cls K jA) (T:TopMeth K jA "levels" "Stream.levels" zp2) (jL:zcb P w K mg base jA "row_behind" 1 ["self", "row", "told"] (spT K (zk2 jA))):zcb P w K mg base jA "levels" 2 ["self", "source"] (spT K (zf4 jA)):=by
 refine zm7 jB T zx3 (λ _ _ _ _ _ _ us hl=>by obtain ⟨_,_,rfl⟩:=ar2 hl;rfl) (zci λ as Qd h=>by obtain ⟨_,_,_,_,_,_,rfl,_⟩:=h;rfl) (zx7 ?_)
 intro f cdv A outer s H E hr
 have nd:=zx3.nd
 refine ⟨_,_,(zd0 (pset 2 nd (zem (zqf (pv 1) zl0 zim) rfl rfl (by simp) (by decide)))
   (zd0 (pset 3 nd (zn1 (za0 (pv 1) zh0)))
   (zd0 (zo4 PassesOwn.never (zq3 (K:=K) rfl (pv 3) (λ _=>rfl)) (zj0 (pset 3 nd (zr3 jL (rmn hr) (pv 0) (za0 (pv 3) (za0 (pv 2) zh0))))))
   (zj0 (zi1 (pv 2)))))),(zk0 (zz1 (zn11 (zg0 1) zp1))
   (zk0 (zd1 (RfF.e (zk3 (zc0 (zg0 1) zn0))) (rgn 3))
   (zk0 (zn4 (zb8 (zb0 3)) (zz1 (zc6 false (zq0 0) (at_d (zg0 3) (at_o (zq0 2) zo6)))))
   (zi5 (i:=2))))),?_⟩
 rintro as Qd a ⟨n,m,E,L,S,src,rfl,hn,N,hL,hs,q⟩
 walk_at "ds"
 refine ze0 λ J hJ=>?_
 walk_at "dd"
 refine hJ _ ?_
 clear hJ
 refine ze0 λ J hJ=>?_
 walk_at "dd"
 refine hJ _ ?_
 clear hJ
 refine zfh ?_
 refine ⟨λ μ U=>∃ lv row lev,Bfs n m E L src lv row lev/\μ=2 * (n - lv.length)+(if row=[] then 0 else 1)/\U=[.bo (oS jA E L S),.sh (nI src),.ow (.dk (kN lv)),.sh (.list (row.map nI))],⟨_,[(src,0)],[src],0,Bfs.start hs,rfl,rfl⟩,?_⟩
 rintro μ U ⟨lv,row,lev,B,rfl,rfl⟩
 walk_at "dd"
 refine two (λ hr0=>?_) λ hr0=>?_
 ·refine ⟨n,m,E,L,S,src,lv,row,lev,rfl,hn,N,hL,B,λ lv' row' B' e=>⟨_,?_,lv',row',lev+1,B',rfl,rfl⟩⟩
  have hz:=zs0 n (lv'.map (·.1)) B'.nd (λ x hx=>by obtain ⟨p,hp,rfl⟩:=uM.mp hx;exact B'.bd p hp)
  rw [uA] at hz
  have hr1:row≠[]:=λ z=>by rw [z] at hr0;cases hr0
  rw [if_neg hr1]
  by_cases z:row'=[]
  ·subst z;rw [if_pos rfl];simp at e;lia
  ·have:=yX.mpr z
   rw [if_neg z];lia
 ·have hr1:row=[]:=by
   cases row with
  |nil=>rfl
  |cons x r=>exact absurd rfl hr0
  subst hr1
  exact q lv B.lev _
end
section
variable {P:Program} {w:World} {K:Fg} {mg:Str->Option Value} {base:Heap} {jA:Addr}
abbrev tT (TT:List (List Nat)):_4.T:=.ls (TT.map λ l=>.li (l.map nI))
theorem setT {TU:List (List Nat)} {v:Nat} (x:List Nat):(TU.map λ l=>_4.T.li (l.map nI)).set v (.li (x.map nI))=(TU.set v x).map λ l=>_4.T.li (l.map nI):=by rw [xB]
def zh4 (C:Addr):DSpT:=λ as Q=>∃ (n m:Nat) (E:List Nat) (L:List Int) (S:List (List Nat)) (lv:List (Nat×Nat)) (TT:List (List Nat)) (src snk:Nat),as=[.b (oS C E L S),.b (.dk (kN lv)),.o (tT TT),.d (nI src),.d (nI snk)]/\m<=400000/\Net n m E S/\L.length=2 * m/\src < n/\src≠snk/\lkp lv src=some 0 /\
 (∀ s,s < 2 * m->0 < lf L s->(lkp lv (tl E s)).isSome=true->(lkp lv (hd E s)).isSome=true)/\Tri m E S L lv snk TT /\
 (∀ TT',¬ Rch m E L lv snk src->Q (.fz (.list [])) (tT TT'))/\∀ p TT',Tri m E S L lv snk TT'->Way m E L lv src p snk->Q (.fz (.list (p.map nI))) (tT TT')
theorem zw3:FnScope ["self", "levels", "tries", "source", "sink", "path", "here", "step"] ["self", "levels", "tries", "source", "sink"] (zf0 zo2):=by walk_at "sc"
theorem za7 (jB:Cls K jA) (T:TopMeth K jA "way_up" "Stream.way_up" zo2) (jD:NoAttr K jA "ends") (jQ:zcb P w K mg base jA "step_up" 1 ["self", "levels", "steps", "level"] (spT K (zm3 jA))):zcb P w K mg base jA "way_up" 2 ["self", "levels", "tries", "source", "sink"] (spT K (zh4 jA)):=by
 refine zm7 jB T zw3 (λ _ _ _ _ _ _ us hl=>by obtain ⟨_,_,_,_,_,rfl⟩:=ar5 hl;rfl) (zci λ as Qd h=>by obtain ⟨_,_,_,_,_,_,_,_,_,rfl,_⟩:=h;rfl) (zx7 ?_)
 intro f cdv A outer s H E hr
 have nd:=zw3.nd
 refine ⟨_,_,(zd0 (pset 5 nd (zn1 zh0))
   (zd0 (pset 6 nd (pv 3))
   (zd0 (zo4 PassesOwn.never (zy0 (zpi (K:=K) rfl (Room.units hr)) (pv 6) (pv 4) (zi2 _)) (zd0 (pset 7 nd (zr3 jQ (rmn hr) (pv 0) (za0 (pv 1) (za0 (pix w K hr (pv 2) (pv 6)) (za0 (zo1 (zq1 (K:=K) rfl) (pix w K hr (pv 1) (pv 6)) zl0) zh0)))))
   (zj0 (zsa (zy0 zxu (pv 7) zjp (zi2 _)) (zd0 (zr1 (zt3 (K:=K) rfl PySem.F.plainAttrs_list PySem.F.slot_list_append PySem.F.type_list_append zh1 (pv 5) (za0 (pv 7) zh0)))
   (zj0 (pset 6 nd (pix w K hr (zu1 (K:=K) rfl (pv 0) rfl) (pv 7))))) (zj0 (zsa (zq3 (K:=K) rfl (pv 5) (λ _=>rfl)) (zd0 (pset 6 nd (pix w K hr (zu1 (K:=K) rfl (pv 0) rfl) (zo1 zgq (zkb (K:=K) rfl PySem.F.plainAttrs_list PySem.F.slot_list_pop PySem.F.type_list_pop zeo (pv 5)) zl0)))
   (zj0 (zr1 (zkb (K:=K) rfl PySem.F.plainAttrs_list PySem.F.slot_list_pop PySem.F.type_list_pop zeo (pix w K hr (pv 2) (pv 6)))))) (zj0 (zi1 (pv 5)))))))))
   (zj0 (zi1 (pv 5)))))),(zk0 (zz1 (RfF.c (zk3 zn0)))
   (zk0 (zd1 (zg0 3) (rgn 6))
   (zk0 (zn4 (zx0 (zle q_ne (RfV.h (zb0 6)) (RfV.h (zb0 4)))) (zk0 (zz1 (zc6 false (zq0 0) (at_b (zq0 1) (at_o (zvp (zq0 2) (zg0 6)) (at_d (zr0 zla (RfE.v (zjh (zq0 1) (zg0 6))) rvi) zo6)))))
   (zmb (zx0 (zr0 zmz (zb0 7) (RfE.v zun))) (zk0 (zs1 (zue zj8 (zq0 5) (zc0 (zg0 7) zn0)))
   (zd1 (zr0 r_ix (RfP.v (zd4 jB jD (zq0 0))) (zb0 7)) (rgn 6))) (zmb (zb8 (zb0 5)) (zk0 (zz1 (zau (RfP.e (zd4 jB jD (zq0 0))) zp21 (zlo zep (zq0 5)) zp1))
   (zs1 (zlo zep (zvp (zq0 2) (zg0 6))))) (za8 5 [] (zi5 (i:=5)))))))
   (za8 5 [] (zi5 (i:=5)))))),?_⟩
 rintro as Qd a ⟨n,m,E,L,S,lv,TT,src,snk,rfl,hm,N,hL,hsn,hss,l0,cl,tri,q0,q1⟩
 walk_at "ds"
 refine ze0 λ J hJ=>?_
 walk_at "dd"
 refine hJ _ ?_
 clear hJ
 refine ze0 λ J hJ=>?_
 walk_at "dd"
 refine hJ _ ?_
 clear hJ
 refine zfh ?_
 refine ⟨λ μ U=>∃ p here TT s7,Go m E S L lv snk src p here TT/\μ=szT TT * (2 * m+2)+(2 * m+1 - p.length)/\U=[.bo (oS jA E L S),.bo (.dk (kN lv)),.io a (tT TT),.sh (nI src),.sh (nI snk),.ow (.li (p.map nI)),.sh (nI here),s7],
  ⟨_,[],src,TT,.un,⟨tri,rfl,l0,λ s hs=>by simp at hs⟩,rfl,rfl⟩,?_⟩
 rintro μ U ⟨p,here,TU,s7,g,rfl,rfl⟩
 have hpl:=g.short g.way.lt
 have hln:p.length=p.length:=rfl
 walk_at "dd"
 refine two (λ hne=>?_) λ hne=>?_
 ·have hne:here≠snk:=λ z=>hne (by rw [z])
  obtain ⟨k,hk⟩:∃ k,TU[here]?=some k:=by
   have:here < n:=by
    cases p with
   |nil=>have e:src=here:=g.way;rw [<- e];exact hsn
   |cons x r =>
     obtain ⟨y,hy⟩:∃ y,(x :: r).getLast?=some y:=⟨_,zR⟩
     obtain ⟨r0,e⟩:=zS.mp hy
     have gw:=g.way
     rw [e] at gw
     obtain ⟨_,w2,w3,_⟩:=gw.unsnoc
     rw [<- w2];exact N.bE y w3
   exact ⟨TU[here]'(by rw [g.tri.len,N.lS];exact this),uB _⟩
  have hkl:=zrb hk
  have gT:(TU.map λ l=>_4.T.li (l.map nI))[here]?=some (_4.T.li (k.map nI)):=by rw [uI,hk];rfl
  refine ze0 λ J hJ=>?_
  walk_at "dd"
  refine ⟨here,.li (k.map nI),by rw [uA];exact zzd hkl,by rw [uI,hk];rfl,_,nI p.length,rfl,by rw [zvd,g.lev];rfl,?_⟩
  walk_at "dd"
  refine ⟨m,E,L,S,lv,k,p.length+1,rfl,N.lE,hL,λ s hs=>?_,λ j hj bad=>⟨λ h0=>hJ _ ?_,λ s h0 hs hp hlv=>hJ _ ?_⟩⟩
  ·obtain ⟨k2,h1,h2⟩:=g.tri.pre here k hk
   obtain ⟨hsm,hst⟩:=N.s1 here k2 h1 s (h2.subset hs)
   exact ⟨hsm,λ hp=>cl s hsm hp (by rw [hst,g.lev];rfl)⟩
  ·subst h0
   have eT:(TU.map λ l=>_4.T.li (l.map nI)).set here (.li [])=(TU.set here []).map λ l=>_4.T.li (l.map nI):=setT []
   rw [gT]
   simp only []
   rw [eT]
   walk_at "dd"
   refine two (λ hp=>?_) λ hp=>?_
   ·obtain ⟨y,hy⟩:∃ y,p.getLast?=some y:=by
     cases p with
    |nil=>cases hp
    |cons x r=>exact ⟨_,zR⟩
    obtain ⟨p0,rfl⟩:=zS.mp hy
    obtain ⟨hym,k2,hk2,g2,hsz⟩:=g.back N hk hne bad
    refine ze0 λ J hJ=>?_
    walk_at "dd"
    refine ⟨nI y,by simp,?_⟩
    walk_at "dd"
    rw [zor]
    refine ⟨_,zex N.lE (ztw hym),hJ _ ?_⟩
    clear hJ
    rw [show (yC nI (p0++[y])).dropLast=p0.map nI by rw [uJ];exact zT,zus]
    have hz2:=zrb hk2
    have gT2:((TU.set here []).map λ l=>_4.T.li (l.map nI))[tl E y]?=some (_4.T.li ((k2++[y]).map nI)):=by rw [uI,hk2];rfl
    walk_at "dd"
    refine ⟨tl E y,_,by rw [uA];exact zzd hz2,gT2,?_⟩
    walk_at "dd"
    refine ⟨nI y,by simp,_,?_,p0,tl E y,_,.sh .none,g2,rfl,?_⟩
    ·have:=yY (2 * m+2) hsz
     rw [Nat.add_mul] at this
     rw [vA]
     simp only [xI]
     lia
    ·rw [gT2,show (yC nI (k2++[y])).dropLast=k2.map nI by rw [uJ];exact zT]
     simp only []
     rw [setT]
   ·have hp:p=[]:=by
     cases p with
    |nil=>rfl
    |cons x r=>exact absurd rfl hp
    subst hp
    exact ⟨_,_,rfl,rfl,_,rfl,q0 _ (g.dead N hk hne bad)⟩
  ·rw [gT]
   simp only []
   rw [setT]
   obtain ⟨g2,hsz,hsm⟩:=g.fwd N hk h0 hj bad hs hp hlv
   walk_at "dd"
   refine ze0 λ J hJ=>?_
   walk_at "dd"
   refine ⟨by rw [uA];lia,hJ _ ?_⟩
   clear hJ
   walk_at "dd"
   refine ⟨_,zex N.lE hsm,?_⟩
   walk_at "dd"
   refine ⟨_,?_,p++[s],hd E s,TU.set here (k.take j),_,g2,rfl,by rw [uJ];rfl⟩
   rw [vA]
   have:=yY (2 * m+2) hsz
   simp only [xI]
   lia
 ·have hne:here=snk:=by lia
  subst hne
  exact ⟨_,_,rfl,rfl,_,rfl,q1 p TU g.tri g.way⟩
end
section
variable {P:Program} {w:World} {K:Fg} {mg:Str->Option Value} {base:Heap} {jA:Addr}
def zs3 (C:Addr):DSpT:=λ as Q=>∃ (n m:Nat) (most:Nat->Int) (E:List Nat) (L:List Int) (S:List (List Nat)) (lv:List (Nat×Nat)) (src snk:Nat),as=[.o (oS C E L S),.b (.dk (kN lv)),.d (nI src),.d (nI snk)]/\n<=100000/\m<=400000/\Net n m E S/\Cap m most L/\src < n/\src≠snk/\Lev n m E L src lv/\(lkp lv snk).isSome=true /\
 ∀ L',Up m most E L L' src snk->bal m E L snk < bal m E L' snk->Q (.fz .none) (oS C E L' S)
theorem zj3:FnScope ["self", "levels", "source", "sink", "tries", "path"] ["self", "levels", "source", "sink"] (zf0 zl1):=by walk_at "sc"
theorem ze6 (jB:Cls K jA) (T:TopMeth K jA "push_up" "Stream.push_up" zl1) (jI:mg "list"=none) (jF:NoAttr K jA "steps") (jN:zcb P w K mg base jA "way_up" 2 ["self", "levels", "tries", "source", "sink"] (spT K (zh4 jA))) (kB:zcb P w K mg base jA "carry" 1 ["self", "path"] (spT K (ze5 jA))):zcb P w K mg base jA "push_up" 3 ["self", "levels", "source", "sink"] (spT K (zs3 jA)):=by
 refine zm7 jB T zj3 (λ _ _ _ _ _ _ us hl=>by obtain ⟨_,_,_,_,rfl⟩:=ar4 hl;rfl) (zci λ as Qd h=>by obtain ⟨_,_,_,_,_,_,_,_,_,rfl,_⟩:=h;rfl) (zx7 ?_)
 intro f cdv A outer s H E hr
 have nd:=zj3.nd
 refine ⟨_,_,(zd0 (zs2 (i:=4) (sc:=zf0 zl1) (N:=["self", "levels", "source", "sink", "tries", "path"]) (own:=["steps"]) (ix:=[]) rfl rfl rfl (by walk_at "csc") nd rfl rfl (pi_W (K:=K) rfl (zu1 (K:=K) rfl (pv 0) rfl)) (λ _ _ _ _=>⟨(pgn 0 (nds ["steps"])),zg3,(zl2 (zv2 (K:=K) rfl) rfl jI zw5 (za0 (pv 0) zh0))⟩))
   (zd0 (pset 5 nd (zr3 jN (rmn hr) (pv 0) (za0 (pv 1) (za0 (pv 4) (za0 (pv 2) (za0 (pv 3) zh0))))))
   (zj0 (zo4 PassesOwn.never (zq3 (K:=K) rfl (pv 5) (λ _=>rfl)) (zd0 (zr1 (zr3 kB (rmn hr) (pv 0) (za0 (pv 5) zh0)))
   (zj0 (pset 5 nd (zr3 jN (rmn hr) (pv 0) (za0 (pv 1) (za0 (pv 4) (za0 (pv 2) (za0 (pv 3) zh0)))))))))))),(zk0 (zz1 (RfN.c (zkg (ztm (RfP.v (zd4 jB jF (zq0 0)))) (zc1 (i:=0) (n:=1) (by decide)) (RfF.new (zyp zme (zv0 (zb0 0) zt1))))))
   (zk0 (zz1 (zc6 false (zq0 0) (at_b (zq0 1) (at_o (zq0 4) (at_d (zg0 2) (at_d (zg0 3) zo6))))))
   (zn4 (zb8 (zb0 5)) (zk0 (zs1 (zc6 true (zq0 0) (at_d (zg0 5) zo6)))
   (zz1 (zc6 false (zq0 0) (at_b (zq0 1) (at_o (zq0 4) (at_d (zg0 2) (at_d (zg0 3) zo6)))))))))),?_⟩
 rintro as Qd a ⟨n,m,most,E,L,S,lv,src,snk,rfl,hn,hm,N,c,hsn,hss,hv,ht,q⟩
 walk_at "ds"
 refine ze0 λ J hJ=>?_
 walk_at "dd"
 refine zym (λ l=>.li (l.map nI)) (by rw [sizeLine_eq,N.lS];lia) (λ l hl=>?_) (hJ _ ?_)
 ·walk_at "cs"
  walk_at "dd"
 clear hJ
 obtain ⟨b0,hb0⟩:=v7.mp ht
 have rch:Rch m E L lv snk src:=zeb hv b0 snk hb0 .here
 refine ze0 λ J hJ=>?_
 walk_at "dd"
 refine ⟨n,m,E,L,S,lv,S,src,snk,rfl,hm,N,c.len,hsn,hss,hv.l0,hv.cl,Tri.all,λ TT' h=>absurd rch h,λ p TT' tri hw=>hJ _ ?_⟩
 clear hJ
 refine ⟨λ μ U=>∃ L' p TT,Up m most E L L' src snk/\(p≠[]->Tri m E S L' lv snk TT)/\(∀ s,s < 2 * m->0 < lf L' s->(lkp lv (tl E s)).isSome=true->(lkp lv (hd E s)).isSome=true) /\
   bal m E L snk<=bal m E L' snk/\(p=[]->bal m E L snk < bal m E L' snk)/\(p≠[]->Way m E L' lv src p snk)/\μ=(tot m most - bal m E L' snk).toNat/\U=[.io a (oS jA E L' S),.bo (.dk (kN lv)),.sh (nI src),.sh (nI snk),.ow (tT TT),.sh (.list (p.map nI))],
  ⟨_,L,p,TT',Up.refl c,λ _=>tri,hv.cl,vH _,λ z=>?_,λ _=>hw,rfl,rfl⟩,?_⟩
 ·subst z;exact absurd hw hss
 clear tri hw TT' p
 rintro μ U ⟨L',p,TT,up,tri,cl,le,hlt,hw,rfl,rfl⟩
 walk_at "dd"
 refine two (λ hp=>?_) λ hp=>?_
 ·have hp:p≠[]:=λ z=>by rw [z] at hp;cases hp
  have hw:=hw hp
  refine ze0 λ J hJ=>?_
  walk_at "dd"
  have hpl:p.length<=2 * m:=zs0 _ p (hw.nodup hv.l0).1 hw.lt
  refine ⟨m,E,L',S,p,rfl,N.lE,up.cap.len,hp,by lia,hw.lt,λ am ham hmin=>hJ _ ?_⟩
  clear hJ
  obtain ⟨s0,hs0,e0⟩:=ham
  have pos:0 < am:=by
   rw [e0]
   obtain ⟨_,hadm⟩:True/\∀ {v:Nat} {p:List Nat} {t:Nat},Way m E L' lv v p t->∀ s∈p,0 < lf L' s:=⟨trivial,by
    intro v p
    induction p generalizing v with
   |nil=>intro t _ s hs;simp at hs
   |cons x r ih =>
     intro t h s hs
     rcases uE.mp hs with z|z
     ·rw [z];exact h.2.2.1.1
     ·exact ih h.2.2.2 s z⟩
   exact hadm hw s0 hs0
  have up2:=up.trans (Up.carry up.cap hw hv.l0 (by lia) hmin)
  have hb:bal m E (zh2 L' p am) snk=bal m E L' snk+am:=by
   rw [zb5 up.cap.len hw,if_pos rfl,if_neg hss];lia
  have hle:=zgs (E:=E) up2.cap snk
  have cl2:=zxj up.cap.len hw hv.l0 cl (a:=am) (by lia)
  have tri2:Tri m E S (zh2 L' p am) lv snk TT:=(tri hp).mono (zfi up.cap.len hw hv.l0 (by lia)) λ v k h s hs=>(N.s1 v k h s hs).1
  generalize zh2 L' p am=_2 at *
  walk_at "dd"
  refine ⟨n,m,E,_2,S,lv,TT,src,snk,rfl,hm,N,up2.cap.len,hsn,hss,hv.l0,cl2,tri2,λ TT' h=>?_,λ p' TT' tri' hw'=>?_⟩
  ·exact ⟨_,by lia,_2,[],TT',up2,λ z=>absurd rfl z,cl2,by lia,λ _=>by lia,λ z=>absurd rfl z,rfl,rfl⟩
  ·exact ⟨_,by lia,_2,p',TT',up2,λ _=>tri',cl2,by lia,λ _=>by lia,λ _=>hw',rfl,rfl⟩
 ·have hp:p=[]:=by
   cases p with
  |nil=>rfl
  |cons x r=>exact absurd rfl hp
  exact ⟨_,rfl,q L' up (hlt hp)⟩
end
section
variable {P:Program} {w:World} {K:Fg} {mg:Str->Option Value} {base:Heap} {jA:Addr}
def zv3 (C:Addr):DSpT:=λ as Q=>∃ (m:Nat) (E:List Nat) (L:List Int) (S:List (List Nat)),as=[.b (oS C E L S)]/\L.length=2 * m/\m<=400000/\∀ t,Q (.fz (.list ((uL m).map λ k=>.int (lf L (2 * k+1))))) t
theorem ze3:FnScope ["self"] ["self"] (zf0 za2):=by walk_at "sc"
theorem zg6 (jB:Cls K jA) (T:TopMeth K jA "amounts" "Stream.amounts" za2) (jC:NoAttr K jA "left"):zcb P w K mg base jA "amounts" 1 ["self"] (spT K (zv3 jA)):=by
 refine zm7 jB T ze3 (λ _ _ _ _ _ _ us hl=>by obtain ⟨_,rfl⟩:=ar1 hl;rfl) (zci λ as Qd h=>by obtain ⟨_,_,_,_,rfl,_⟩:=h;rfl) (zx7 ?_)
 intro f cdv A outer s H E hr
 have nd:=ze3.nd
 refine ⟨_,_,(zj0 (zi1 (zri (K:=K) rfl (zu1 (K:=K) rfl (pv 0) rfl) (zk9 zl0) ztr (zk9 zl0)))),(zr2 (RfE.c (RfF.e (zk21 (RfP.v (zd4 jB jC (zq0 0))) (zjd zp1) zyr (zjd zp1))))),?_⟩
 rintro as Qd a ⟨m,E,L,S,rfl,hL,hm,q⟩
 walk_at "ds"
 walk_at "dd"
 rw [zrm hL]
 exact q _
def zh3 (C:Addr):DSpT:=λ as Q=>∃ (n:Nat) (A:List Ar) (f:List Int),as=[.o (.ob C []),.d (nI n),.d (.list (A.map dAr)),.d (.list (f.map .int))]/\f.length=A.length/\n<=100000/\A.length<=400000/\(∀ a∈A,a.1 < n/\a.2.1 < n) /\
 ∀ S,Net n A.length (zl4 A) S->Q (.fz .none) (.ob C [("ends",.li ((zl4 A).map nI)),("left",.li ((zi6 A f).map .int)),("steps",tT S)])
theorem zx2:FnScope ["self", "count", "arcs", "flow", "number", "arc"] ["self", "count", "arcs", "flow"] (zf0 zg1):=by walk_at "sc"
theorem zt5 (M:Md K mg) (cT:TopCls K "Stream" jA) (T:TopMeth K jA "__init__" "Stream.__init__" zg1) (jE:mg "enumerate"=none) (jK:mg "range"=none) (jD:NoAttr K jA "ends") (jC:NoAttr K jA "left") (jF:NoAttr K jA "steps"):zax P w K mg base "Stream" jA 1 ["self", "count", "arcs", "flow"] (spT K (zh3 jA)):=by
 have jB:=cT.cls
 refine zzr M cT T zx2 (λ _ _ _ _ _ _ us hl=>by obtain ⟨_,_,_,_,rfl⟩:=ar4 hl;rfl) (zci λ as Qd h=>by obtain ⟨_,_,_,rfl,_⟩:=h;rfl) (zx7 ?_)
 intro f cdv A outer s H E hr
 have nd:=zx2.nd
 refine ⟨_,_,(zd0 (zpm (pv 0) (zn1 zh0) rfl)
   (zd0 (zpm (pv 0) (zn1 zh0) rfl)
   (zd0 (zpm (pv 0) (zi4 (sc:=zf0 zg1) (N:=["self", "count", "arcs", "flow", "number", "arc"]) (own:=["number"]) (ix:=[]) rfl rfl rfl (by walk_at "csc") (zca rfl jK (za0 (pv 1) zh0)) (λ _ _ _ _=>⟨(pgn 0 (nds ["number"])),zg3,(zn1 zh0)⟩)) rfl)
   (zj0 (zw4 PassesOwn.never rfl (zh7 (K:=K) rfl rfl jE (za0 (pv 2) zh0)) (zd2 (K:=K) (n:=2) rfl rfl (zo0 (pgn 4 nd) (zo0 (pgn 5 nd) zb2))) (zd0 (zr1 (zt3 (K:=K) rfl PySem.F.plainAttrs_list PySem.F.slot_list_extend PySem.F.type_list_extend (zg7 (K:=K) rfl) (zu1 (K:=K) rfl (pv 0) rfl) (za0 (zn1 (za0 (pix w K hr (pv 5) zl0) (za0 (pix w K hr (pv 5) zl0) zh0))) zh0)))
   (zd0 (zr1 (zt3 (K:=K) rfl PySem.F.plainAttrs_list PySem.F.slot_list_extend PySem.F.type_list_extend (zg7 (K:=K) rfl) (zu1 (K:=K) rfl (pv 0) rfl) (za0 (zn1 (za0 (zo1 zt9 (pix w K hr (pv 5) zl0) (pix w K hr (pv 3) (pv 4))) (za0 (pix w K hr (pv 3) (pv 4)) zh0))) zh0)))
   (zd0 (zr1 (zt3 (K:=K) rfl PySem.F.plainAttrs_list PySem.F.slot_list_append PySem.F.type_list_append zh1 (pix w K hr (zu1 (K:=K) rfl (pv 0) rfl) (pix w K hr (pv 5) zl0)) (za0 (zo1 zg5 zl0 (pv 4)) zh0)))
   (zj0 (zr1 (zt3 (K:=K) rfl PySem.F.plainAttrs_list PySem.F.slot_list_append PySem.F.type_list_append zh1 (pix w K hr (zu1 (K:=K) rfl (pv 0) rfl) (pix w K hr (pv 5) zl0)) (za0 (zo1 (zq1 (K:=K) rfl) (zo1 zg5 zl0 (pv 4)) zl0) zh0)))))))))))),(zk0 (zin jB jD (RfF.c (zk3 zn0)) (zq0 0))
   (zk0 (zin jB jC (RfF.c (zk3 zn0)) (zq0 0))
   (zk0 (zin jB jF (RfN.c (zkg (RfI.j (zuf (zc0 (zg0 1) zn0))) (zc1 (i:=0) (n:=1) (by decide)) (RfF.new (zk3 zn0)))) (zq0 0))
   (zz4 (znl (zc0 (zg0 2) zn0)) (zq4 (zp0 (rgn 4) (zp0 (rgn 5) ze2))) (zk0 (zs1 (zue zqo (zd4 jB jD (zq0 0)) (zc0 (RfF.e (zk3 (zc0 (zr0 r_ix (zb0 5) rvi) (zc0 (zr0 r_ix (zb0 5) rvi) zn0)))) zn0)))
   (zk0 (zs1 (zue zqo (zd4 jB jC (zq0 0)) (zc0 (RfF.e (zk3 (zc0 (zr0 zjj (RfE.v (zr0 r_ix (zb0 5) rvi)) (RfE.v (zr0 r_ix (zb0 3) (zb0 4)))) (zc0 (zr0 r_ix (zb0 3) (zb0 4)) zn0)))) zn0)))
   (zk0 (zs1 (zue zj8 (zvp (zd4 jB jF (zq0 0)) (zr0 r_ix (zb0 5) rvi)) (zc0 (zr0 zsq rvi (zb0 4)) zn0)))
   (zs1 (zue zj8 (zvp (zd4 jB jF (zq0 0)) (zr0 r_ix (zb0 5) rvi)) (zc0 (zr0 zla (RfE.v (zr0 zsq rvi (zb0 4))) rvi) zn0)))))))))),?_⟩
 rintro as Qd a ⟨n,A,f,rfl,hf,hn,hA,hb,q⟩
 walk_at "ds"
 walk_at "dn"
 walk_at "dn"
 refine ze0 λ J hJ=>?_
 walk_at "dd"
 refine ⟨by lia,by lia,?_⟩
 rw [u4]
 refine zym (λ _=>.li []) (by rw [vV,sizeLine_eq];lia) (λ i hi=>?_) (hJ _ ?_)
 ·walk_at "cs"
 clear hJ
 have e0:(uL n).map (λ _=>(_4.T.li []:_4.T))=(uP n []).map λ l=>.li (l.map nI):=by simp [List.map_const']
 rw [e0]
 walk_at "dd"
 refine ⟨λ i U=>∃ S s4 s5,i<=A.length/\szT S=2 * i/\Net n i (zl4 (A.take i)) S/\U=[.io a (.ob jA [("ends",.li ((zl4 (A.take i)).map nI)),("left",.li ((zi6 (A.take i) (f.take i)).map .int)),("steps",tT S)]),.sh (nI n),.sh (.list (A.map dAr)),.sh (.list (f.map .int)),s4,s5],⟨uP n [],.un,.un,vZ _,by simp [szT],Net.nil n,rfl⟩,?_,?_⟩
 ·rintro i d U hd ⟨S,s4,s5,hi,hsz,N,rfl⟩
  obtain ⟨x,hx,rfl⟩:=znd hd
  rw [uI] at hx
  obtain ⟨u,hu,rfl⟩:=u6.mp hx
  have hil:i < A.length:=by
   rcases vN i A.length with z|z
   ·exact z
   ·rw [vF z] at hu;cases hu
  obtain ⟨y,hy⟩:∃ y,f[i]?=some y:=⟨f[i]'(by lia),uB _⟩
  obtain ⟨b1,b2⟩:=hb u (vI hu)
  have tA:A.take (i+1)=A.take i++[u]:=by rw [wM,hu];rfl
  have tF:f.take (i+1)=f.take i++[y]:=by rw [wM,hy];rfl
  have lE:(zl4 (A.take i)).length=2 * i:=N.lE
  have lL:(zi6 (A.take i) (f.take i)).length=2 * i:=by
   rw [zu9 (by rw [vS,vS];lia),vS];lia
  have eF:=zvf (A:=A.take i) (f:=f.take i) (a:=u) (x:=y) (by rw [vS,vS];lia)
  dsimp only
  rw [tA,tF,zxf,eF]
  generalize zl4 (A.take i)=E at lE N ⊢
  generalize zi6 (A.take i) (f.take i)=L at lL ⊢
  rw [show dAr u=.tuple [nI u.1,nI u.2.1,.int u.2.2] from rfl]
  have hfi:atI (f.map uC) (i:Int)=some (.int y):=zze (by lia) (by rw [u4,uI,hy];rfl)
  have a0:atI [nI u.1,nI u.2.1,uC u.2.2] 0=some (nI u.1):=rfl
  have a1:atI [nI u.1,nI u.2.1,uC u.2.2] 1=some (nI u.2.1):=rfl
  have a2:atI [nI u.1,nI u.2.1,uC u.2.2] 2=some (.int u.2.2):=rfl
  walk_at "dd"
  refine ze0 λ J hJ=>?_
  walk_at "dd"
  refine ⟨nI u.2.1,rfl,nI u.1,rfl,by rw [uA];lia,hJ _ ?_⟩
  clear hJ
  rw [show E.map nI++[nI u.2.1,nI u.1]=(E++[u.2.1,u.1]).map nI by rw [uJ];rfl]
  refine ze0 λ J hJ=>?_
  walk_at "dd"
  refine ⟨_,rfl,_,hfi,?_⟩
  walk_at "dd"
  refine ⟨_,hfi,by rw [uA];lia,hJ _ ?_⟩
  clear hJ
  rw [show L.map uC++[.int (u.2.2 - y),.int y]=(L++[u.2.2 - y,y]).map .int by rw [uJ];rfl]
  obtain ⟨l1,hl1⟩:∃ l1,S[u.1]?=some l1:=⟨S[u.1]'(by rw [N.lS];exact b1),uB _⟩
  obtain ⟨l2,hl2⟩:∃ l2,(S.set u.1 (l1++[2 * i]))[u.2.1]?=some l2:=⟨(S.set u.1 (l1++[2 * i]))[u.2.1]'(by rw [uW,N.lS];exact b2),uB _⟩
  have N2:=N.push b1 b2 hl1 hl2
  have z1:=zhu hl1
  have z2:=zhu hl2
  have z3:=zi7 (l1++[2 * i]) hl1
  have z4:=zi7 (l2++[2 * i+1]) hl2
  rw [vA,xI] at z3 z4
  have g1:(S.map λ l=>_4.T.li (l.map nI))[u.1]?=some (_4.T.li (l1.map nI)):=by rw [uI,hl1];rfl
  have g2:((S.set u.1 (l1++[2 * i])).map λ l=>_4.T.li (l.map nI))[u.2.1]?=some (_4.T.li (l2.map nI)):=by rw [uI,hl2];rfl
  have i1:ixN (S.map λ l=>_4.T.li (l.map nI)).length ((u.1:Nat):Int)=some u.1:=by rw [uA];exact zzd (by rw [N.lS];exact b1)
  have i2:ixN ((S.set u.1 (l1++[2 * i])).map λ l=>_4.T.li (l.map nI)).length ((u.2.1:Nat):Int)=some u.2.1:=by rw [uA,uW];exact zzd (by rw [N.lS];exact b2)
  refine ze0 λ J hJ=>?_
  walk_at "dd"
  refine ⟨nI u.1,rfl,u.1,_,i1,g1,rfl,zos i,?_⟩
  walk_at "dd"
  refine ⟨by rw [uA];lia,hJ _ ?_⟩
  clear hJ
  rw [g1]
  dsimp only
  rw [show l1.map nI++[uC (2 * (i:Int))]=(l1++[2 * i]).map nI by rw [uJ];rfl,setT]
  walk_at "dd"
  refine ⟨nI u.2.1,rfl,u.2.1,_,i2,g2,rfl,zos i,?_⟩
  walk_at "dd"
  refine ⟨by rw [uA];lia,_,.sh (nI i),.sh (.tuple [nI u.1,nI u.2.1,.int u.2.2]),by lia,by lia,N2,?_⟩
  rw [g2]
  dsimp only
  rw [show l2.map nI++[uC (2 * (i:Int)+1)]=(l2++[2 * i+1]).map nI by rw [uJ];rfl,setT]
  rfl
 ·rintro U ⟨S,s4,s5,hi,hsz,N,rfl⟩
  rw [zy9,uA,wN] at N
  rw [zy9,uA,wN,List.take_of_length_le (by lia)]
  exact ⟨_,rfl,q S N⟩
end
section
variable {P:Program} {w:World} {K:Fg} {mg:Str->Option Value} {base:Heap} {jA:Addr}
theorem frzT (S:List (List Nat)):(zei (S.map λ l=>_4.T.li (l.map nI))).map (λ dss=>vG (dss.map .list))=some (dSt S):=by
 have:∀ S:List (List Nat),zei (S.map λ l=>_4.T.li (l.map nI))=some (S.map λ l=>l.map nI):=by
  intro S
  induction S with
 |nil=>rfl
 |cons l r ih=>simp only [uK,zei,ih];rfl
 rw [this]
 simp only [Option.map_some,vC]
 rfl
def zxa:DSp:=λ ds Q=>∃ (n:Nat) (A:List Ar) (src snk:Nat) (fl:D) (f:List Int),ds=[nI n,.list (A.map dAr),nI src,nI snk,fl]/\((fl=.none/\f=uP A.length 0) \/ fl=.list (f.map .int))/\f.length=A.length/\n < 64/\A.length<=400000/\(∀ a∈A,a.1 < n/\a.2.1 < n) /\
 (∀ (k:Nat) a x,A[k]?=some a->f[k]?=some x->0<=x/\x<=a.2.2)/\src < n/\snk < n/\src≠snk /\
 ∀ (L:List Int) (side:List Nat),Best n A f src snk L side->Q (.tuple [.list ((uL A.length).map λ k=>.int (lf L (2 * k+1))),.list (side.map nI)])
theorem zo8:FnScope ["count", "arcs", "source", "sink", "flow", "stream", "levels"] ["count", "arcs", "source", "sink", "flow"] (zf0 zk6):=by walk_at "sc"
theorem zje (M:Md K mg) (T:TopDefN K "greatest" zk6) (jJ:mg "len"=none) (kJ:mg "sorted"=none) (jB:Cls K jA) (jO:zcb P w K mg base jA "levels" 2 ["self", "source"] (spT K (zf4 jA))) (jR:zcb P w K mg base jA "push_up" 3 ["self", "levels", "source", "sink"] (spT K (zs3 jA))) (jS:zcb P w K mg base jA "amounts" 1 ["self"] (spT K (zv3 jA))) (qF:zax P w K mg base "Stream" jA 1 ["self", "count", "arcs", "flow"] (spT K (zh3 jA))):DefN P w K mg base "greatest" 4 ["count", "arcs", "source", "sink", "flow"] (spD K zxa):=by
 refine zru M T zo8 (qs:=["count", "arcs", "source", "sink"]) rfl (λ _ _ _ _ _ _ _ us hl=>match us,hl with|[_,_,_,_,_],_=>⟨_,rfl,rfl⟩) (λ _ _ _ _ _ _ _ us hl=>match us,hl with|[_,_,_,_],_=>⟨_,rfl,rfl⟩) (zef λ ds Qd h=>by obtain ⟨_,_,_,_,_,_,rfl,_⟩:=h;rfl) (zp5 ?_)
 intro f cdv A outer s H E hr
 have nd:=zo8.nd
 refine ⟨_,_,(zd0 (pset 5 nd (zdp qF (rmn hr) rfl (za0 (pv 0) (za0 (pv 1) (za0 (zqh (zy0 zd11 (pv 4) zjp (zi2 _)) (zo1 zg5 (zn1 (za0 zl0 zh0)) (zz0 (zy1 (K:=K) rfl) rfl jJ zs9 (za0 (pv 1) zh0))) (pv 4)) zh0)))))
   (zd0 (pset 6 nd (zr3 jO (rmn hr) (pv 5) (za0 (pv 2) zh0)))
   (zd0 (zo4 PassesOwn.never (zy0 (zdy (w:=w) (K:=K) (Room.units hr) rfl rfl) (pv 3) (pv 6) (by with_unfolding_all rfl)) (zd0 (zr1 (zr3 jR (rmn hr) (pv 5) (za0 (pv 6) (za0 (pv 2) (za0 (pv 3) zh0)))))
   (zj0 (pset 6 nd (zr3 jO (rmn hr) (pv 5) (za0 (pv 2) zh0))))))
   (zj0 (zi1 (zd5 (za0 (zvj jS (rmn hr) (pv 5)) (za0 (zz0 (zcd (K:=K) rfl rfl) rfl kJ zfk (za0 (pv 6) zh0)) zh0)))))))),(zk0 (zz1 (RfN.c (zat (at_d (zg0 0) (at_d (zg0 1) (at_d (zks (zx0 (zr0 zp51 (zb0 4) (RfE.v zun))) (RfF.e (zaj (zk3 (zc0 zp1 zn0)) (zjf zkk (zv0 (zb0 1) zt1)))) (zg0 4)) zo6))))))
   (zk0 (za8 5 [.fl "steps"] (za8 5 [.fl "ends"] (zz1 (zc6 false (zq0 5) (at_d (zg0 2) zo6)))))
   (zk0 (zn4 (zx0 (ze11 (zg0 3) (zq0 6))) (zk0 (zs1 (zc6 true (zq0 5) (at_b (zq0 6) (at_d (zg0 2) (at_d (zg0 3) zo6)))))
   (zz1 (zc6 false (zq0 5) (at_d (zg0 2) zo6)))))
   (zr2 (RfE.c (zn9 (zc0 (RfN.ex (zbq (zq0 5) zo6)) (zc0 (RfF.e (znp (zq0 6))) zn0)))))))),?_⟩
 rintro ds Qd ⟨n,A,src,snk,fl,f,rfl,hfl,hf,hn,hA,hb,hc,hs1,hs2,hss,q⟩
 walk_at "ds"
 refine ze0 λ J hJ=>?_
 have start:∀ S,Net n A.length (zl4 A) S->J [.sh (nI n),.sh (.list (A.map dAr)),.sh (nI src),.sh (nI snk),.sh fl,.ow (.ob jA [("ends",.li ((zl4 A).map nI)),("left",.li ((zi6 A f).map .int)),("steps",tT S)]),.un]:=λ S N=>by
  refine hJ _ ?_
  clear hJ
  have cap:=zui hf hc
  refine ze0 λ J hJ=>?_
  walk_at "dd"
  refine ⟨_,dSt S,rfl,frzT S,_,_,rfl,rfl,?_⟩
  refine ⟨n,A.length,zl4 A,zi6 A f,S,src,rfl,by lia,N,cap.len,hs1,λ lv hv t=>hJ _ ?_⟩
  clear hJ
  refine zfh ?_
  refine ⟨λ μ U=>∃ L lv,Up A.length (zf1 A) (zl4 A) (zi6 A f) L src snk/\Lev n A.length (zl4 A) L src lv/\μ=(tot A.length (zf1 A) - bal A.length (zl4 A) L snk).toNat/\U=[.sh (nI n),.sh (.list (A.map dAr)),.sh (nI src),.sh (nI snk),.sh fl,.ow (oS jA (zl4 A) L S),.ow (.dk (kN lv))],
   ⟨_,zi6 A f,lv,Up.refl cap,hv,rfl,rfl⟩,?_⟩
  clear hv lv
  rintro μ U ⟨L,lv,up,hv,rfl,rfl⟩
  walk_at "dd"
  rw [xN]
  refine two (λ ht=>?_) λ ht=>?_
  ·refine ze0 λ J hJ=>?_
   walk_at "dd"
   refine ⟨n,A.length,zf1 A,zl4 A,L,S,lv,src,snk,rfl,by lia,by lia,N,up.cap,hs1,hss,hv,ht,λ L' up' hlt=>hJ _ ?_⟩
   clear hJ
   walk_at "dd"
   have up2:=up.trans up'
   have hle:=zgs (E:=zl4 A) up2.cap snk
   refine ⟨n,A.length,zl4 A,L',S,src,rfl,by lia,N,up2.cap.len,hs1,λ lv' hv' t=>⟨_,by lia,L',lv',up2,hv',rfl,rfl⟩⟩
  ·refine ⟨A.length,zl4 A,L,S,rfl,up.cap.len,hA,λ t=>?_⟩
   have hz:=zs0 n (lv.map (·.1)) hv.nd (λ x hx=>by obtain ⟨p,hp,rfl⟩:=uM.mp hx;exact hv.bd p hp)
   rw [uA] at hz
   refine ⟨lv.map λ p=>((p.1:Nat):Int),?_,by rw [uA];lia,λ ns' hp hs=>?_⟩
   ·unfold kN;rw [vC,vC];rfl
   ·obtain ⟨side,e,b⟩:=zkr up hv (by simpa using ht) hp hs
    rw [e]
    exact q L side b
 clear hJ
 rcases hfl with ⟨rfl,rfl⟩|rfl
 ·walk_at "dd"
  refine ⟨by rw [uA];lia,by rw [uA];lia,by rw [uA];lia,n,A,uP A.length 0,by rw [uA,u4,show (uP A.length [uC 0]).flatten=(uP A.length 0).map .int by rw [zU,zV]];rfl,hf,by lia,hA,hb,λ S N=>⟨trivial,start S N⟩⟩
 ·walk_at "dd"
  exact ⟨n,A,f,rfl,hf,by lia,hA,hb,λ S N=>⟨trivial,start S N⟩⟩
end
def ArOk (n:Nat) (a:Ar):Prop:=a.1 < n/\a.2.1 < n/\0<=a.2.2
def tab (n:Nat) (f:Nat->Int):List Int:=(uL n).map f
theorem zc2 (n:Nat) (f:Nat->Int):(tab n f).length=n:=by simp [tab]
theorem zan {n i:Nat} {f:Nat->Int} (h:i < n):(tab n f)[i]?=some (f i):=by
 unfold tab;rw [uI,List.getElem?_range h];rfl
theorem zq5 {n i:Nat} {f:Nat->Int} (h:i < n):fx (tab n f) i=f i:=by unfold fx;rw [zan h];rfl
def slk (A:List Ar) (p h:List Int) (i:Nat):Int:=fx h (aU A i)+fx p i - fx h (aV A i)
def fitX (A:List Ar) (s x:List Int) (i:Nat):Int:=if fx s i=0 then fx x i else if fx s i < 0 then zf1 A i else 0
abbrev iL (l:List Int):D:=.list (l.map .int)
abbrev zr8 (A:List Ar):D:=.list (A.map dAr)
def zs6:DSp:=λ ds Q=>∃ (n:Nat) (A:List Ar) (x:List Int),ds=[nI n,zr8 A,iL x]/\n<=100/\A.length=x.length/\A.length<=1000/\(∀ a∈A,ArOk n a)/\Q (iL (tab n (bl A.length (aU A) (aV A) (fx x))))
def zsh:DSp:=λ ds Q=>∃ (n:Nat) (A:List Ar) (x b:List Int),ds=[nI n,zr8 A,iL x,iL b]/\n<=100/\A.length=x.length/\A.length<=1000/\(∀ a∈A,ArOk n a)/\b.length=n/\Q (iL (tab n λ v=>bl A.length (aU A) (aV A) (fx x) v - fx b v))
def zq8:DSp:=λ ds Q=>∃ (n:Nat) (A:List Ar) (p h:List Int),ds=[zr8 A,iL p,iL h]/\A.length=p.length/\A.length<=1000/\(∀ a∈A,ArOk n a)/\h.length=n/\Q (iL (tab A.length (slk A p h)))
def zzf:DSp:=λ ds Q=>∃ (A:List Ar) (s x:List Int),ds=[zr8 A,iL s,iL x]/\A.length=s.length/\A.length=x.length/\A.length<=1000/\Q (iL (tab A.length (fitX A s x)))
theorem zse {l:List Int} {i k:Nat} {x:Int} (h:i < l.length):fx (l.set i x) k=if k=i then x else fx l k:=by
 unfold fx
 by_cases e:k=i
 ·subst e;rw [vL h,if_pos rfl];rfl
 ·rw [vO (λ z=>e z.symm),if_neg e]
theorem zvw {l:List Int} {i:Nat} (h:i < l.length):(l.map uC)[i]?=some (.int (fx l i)):=by
 unfold fx;rw [uI,uB h];rfl
theorem zfb (l:List Int) (i:Nat) (x:Int):(l.map uC).set i (.int x)=(l.set i x).map uC:=by rw [xB]
theorem rep0 (n:Nat):(uP n [uC 0]).flatten=(uP n (0:Int)).map uC:=by rw [zV,zU]
theorem zhv (n k:Nat):fx (uP n 0) k=0:=by unfold fx;rw [vT];split <;> rfl
theorem zao {l:List Int} {n:Nat} {f:Nat->Int} (h:l.length=n) (e:∀ i,i < n->fx l i=f i):l=tab n f:=by
 refine yA (by rw [zc2];exact h) λ i h1 h2=>?_
 have e1:=e i (by lia)
 unfold fx at e1
 rw [uB h1] at e1
 have e2:(tab n f)[i]?=some (f i):=zan (by lia)
 rw [uB h2] at e2
 rw [u7.inj e2];exact e1
theorem zkh {α:Type} {xs:List α} {n:Nat} {f:Nat->Int} {g:α->Int} (h:xs.length=n) (e:∀ (i:Nat) q,xs[i]?=some q->g q=f i):(xs.map λ q=>uC (g q))=(tab n f).map uC:=by
 rw [show (xs.map λ q=>uC (g q))=(xs.map g).map uC by rw [vC];rfl]
 congr 1
 refine zao (by rw [uA];exact h) λ i hi=>?_
 have:xs[i]?=some (xs[i]'(by lia)):=uB (by lia)
 unfold fx
 rw [uI,this]
 exact e i _ this
theorem zzb {n k:Nat} (h:k < n):ixN n ((k:Nat):Int)=some k:=by
 unfold ixN
 rw [if_pos (by lia),if_pos (by lia)];simp
theorem zj9 {l:List Int} {i:Nat} (h:i < l.length):atI (l.map uC) (i:Int)=some (.int (fx l i)):=zv8 (zvw h)
theorem zcq {A:List Ar} {x:List Int} {i:Nat} {q:Ar×Int} (h:(A.zip x)[i]?=some q):i < A.length/\A[i]?=some q.1/\aU A i=q.1.1/\aV A i=q.1.2.1/\zf1 A i=q.1.2.2/\fx x i=q.2/\q.1∈A:=by
 obtain ⟨h1,h2⟩:=uZ.mp h
 rw [wO] at h1
 rw [yZ] at h2
 have e1:A[i]?=some q.1:=by rw [uB (by lia),<- h2]
 have e2:x[i]?=some q.2:=by rw [uB (by lia),<- h2]
 refine ⟨by lia,e1,?_,?_,?_,?_,vI e1⟩
 ·unfold aU;rw [e1];rfl
 ·unfold aV;rw [e1];rfl
 ·unfold zf1;rw [e1];rfl
 ·unfold fx;rw [e2];rfl
section
variable {P:Program} {w:World} {K:Fg} {mg:Str->Option Value} {base:Heap}
theorem zy8:FnScope ["count", "arcs", "amounts", "told", "arc", "amount"] ["count", "arcs", "amounts"] (zf0 zz6):=by walk_at "sc"
theorem zne (M:Md K mg) (T:TopDef K "balances" zz6) (jY:mg "zip"=none):Def P w K mg base "balances" 1 ["count", "arcs", "amounts"] (spD K zs6):=by
 refine zc5 M T zy8 (λ _ _ _ _ _ _ us hl=>by obtain ⟨_,_,_,rfl⟩:=ar3 hl;rfl) (zef λ ds Qd h=>by obtain ⟨_,_,_,rfl,_⟩:=h;rfl) (zp5 ?_)
 intro f cdv A outer s H E hr
 have nd:=zy8.nd
 refine ⟨_,_,(zd0 (pset 3 nd (zo1 zg5 (zn1 (za0 zl0 zh0)) (pv 0)))
   (zd0 (zw4 PassesOwn.never rfl (zoj (K:=K) rfl rfl jY (za0 (pv 1) (za0 (pv 2) zh0))) (zd2 (K:=K) (n:=2) rfl rfl (zo0 (pgn 4 nd) (zo0 (pgn 5 nd) zb2))) (zd0 (zbe (pv 3) (pix w K hr (pv 4) zl0) (zcx (K:=K) (Room.units hr) rfl) (pv 5) zjs (zml (Room.units hr)))
   (zj0 (zbe (pv 3) (pix w K hr (pv 4) zl0) (zcx (K:=K) (Room.units hr) rfl) (pv 5) zmw (zml (Room.units hr))))))
   (zj0 (zi1 (pv 3))))),(zk0 (zz1 (RfF.c (zaj (zk3 (zc0 zp1 zn0)) (zg0 0))))
   (zk0 (zz4 (zeu (zc0 (zg0 1) (zc0 (zg0 2) zn0))) (zq4 (zp0 (rgn 4) (zp0 (rgn 5) ze2))) (zk0 (zod (zq0 3) (zr0 r_ix (zb0 4) rvi) (zg0 5))
   (zod (zq0 3) (zr0 r_ix (zb0 4) rvi) (zg0 5))))
   (zi5 (i:=3)))),?_⟩
 rintro ds Qd ⟨n,A,x,rfl,hn,hx,hA,ok,q⟩
 walk_at "ds"
 refine ze0 λ J hJ=>?_
 walk_at "dd"
 refine ⟨by lia,by lia,by lia,hJ _ ?_⟩
 clear hJ
 rw [u4,rep0]
 refine ze0 λ J hJ=>?_
 refine zq2 λ B hB=>?_
 walk_at "dd"
 rw [zl9]
 refine zz2 (λ i U=>∃ (T:List Int) (s4 s5:Sl),U=[Sl.sh (.int (n:Int)),.sh (zr8 A),.sh (iL x),.ow (.li (T.map .int)),s4,s5]/\T.length=n/\∀ v,fx T v=if v < n then sm i (λ k=>trm (aU A k) (aV A k) (fx x k) v) else 0) ⟨uP n 0,_,_,rfl,wP ..,λ v=>by rw [zhv];split <;> rfl⟩ (λ i p U hi hp=>?_) λ U hp=>?_
 ·obtain ⟨T,s4,s5,rfl,hT,hv⟩:=hp
  obtain ⟨a1,a2,a3,a4,a5,a6,a7⟩:=zcq hi
  obtain ⟨⟨u,v,c⟩,y⟩:=p
  have o:=ok _ a7
  obtain ⟨o1,o2,_⟩:=o
  simp only at a3 a4 a6 o1 o2
  walk_at "dd"
  unfold dAr nI
  walk_at "dd"
  refine hB _ _ ?_
  clear hB
  refine ze0 λ J2 hJ2=>?_
  walk_at "dd"
  refine ⟨_,rfl,?_⟩
  walk_at "dd"
  refine ⟨by lia,_,zvw (by rw [u4];lia),?_⟩
  rw [u4]
  walk_at "dd"
  refine ⟨u,zzb (by rw [uA];lia),?_⟩
  rw [zfb]
  refine hJ2 _ ?_
  clear hJ2
  walk_at "dd"
  refine ⟨_,rfl,?_⟩
  walk_at "dd"
  refine ⟨by lia,_,zvw (by rw [u4,uW];lia),?_⟩
  rw [u4]
  walk_at "dd"
  refine ⟨v,zzb (by rw [uA,uW];lia),(T.set u (fx T u - y)).set v (fx (T.set u (fx T u - y)) v+y),_,_,by rw [zfb],by rw [uW,uW];exact hT,λ z=>?_⟩
  rw [zse (by rw [uW];lia),zse (by lia),zse (by lia)]
  by_cases hz:z < n
  ·have hvz:=hv z
   rw [if_pos hz] at hvz ⊢
   rw [zv1,a3,a4,a6,<- hvz]
   unfold trm
   by_cases e1:z=v
   ·subst e1
    rw [if_pos rfl]
    by_cases e2:z=u
    ·rw [if_pos e2,if_pos rfl,if_pos e2.symm,<- e2];lia
    ·rw [if_neg e2,if_pos rfl,if_neg (λ k=>e2 k.symm)];lia
   ·rw [if_neg e1]
    by_cases e2:z=u
    ·rw [if_pos e2,if_neg (λ k=>e1 k.symm),if_pos e2.symm,<- e2];lia
    ·rw [if_neg e2,if_neg (λ k=>e1 k.symm),if_neg (λ k=>e2 k.symm)];lia
  ·rw [if_neg hz,if_neg (by lia),if_neg (by lia),hv z,if_neg hz]
 ·obtain ⟨T,s4,s5,rfl,hT,hv⟩:=hp
  refine hJ _ ?_
  clear hJ hB
  walk_at "dd"
  rw [wO,<- hx,y0] at hv
  rw [zao hT λ v h=>(hv v).trans (if_pos h)]
  exact q
theorem zsd:FnScope ["count", "arcs", "amounts", "wanted"] ["count", "arcs", "amounts", "wanted"] (zf0 zh9):=by walk_at "sc"
theorem zck (M:Md K mg) (T:TopDef K "beyond" zh9) (jY:mg "zip"=none) (jT:Def P w K mg base "balances" 1 ["count", "arcs", "amounts"] (spD K zs6)):Def P w K mg base "beyond" 2 ["count", "arcs", "amounts", "wanted"] (spD K zsh):=by
 refine zc5 M T zsd (λ _ _ _ _ _ _ us hl=>by obtain ⟨_,_,_,_,rfl⟩:=ar4 hl;rfl) (zef λ ds Qd h=>by obtain ⟨_,_,_,_,rfl,_⟩:=h;rfl) (zp5 ?_)
 intro f cdv A outer s H E hr
 have nd:=zsd.nd
 refine ⟨_,_,(zj0 (zi1 (zi4 (sc:=zf0 zh9) (N:=["count", "arcs", "amounts", "wanted"]) (own:=["told", "want"]) (ix:=[]) rfl rfl rfl (by walk_at "csc") (zoj (K:=K) rfl rfl jY (za0 (zt0 jT (rmn hr) rfl (za0 (pv 0) (za0 (pv 1) (za0 (pv 2) zh0)))) (za0 (pv 3) zh0))) (λ _ _ _ _=>⟨(zd2 (K:=K) (n:=2) rfl rfl (zo0 (pgn 0 (nds ["told", "want"])) (zo0 (pgn 1 (nds ["told", "want"])) zb2))),zg3,(zo1 zt9 (pv 0) (pv 1))⟩)))),(zr2 (RfF.c (zu2 (znv (zv0 (RfE.v (zk1 (zc0 (zg0 0) (zc0 (zg0 1) (zc0 (zg0 2) zn0))))) (zv0 (zb0 3) zt1))) (zq4 (zp0 (zc1 (i:=0) (n:=2) (by decide)) (zp0 (zc1 (i:=1) (n:=2) (by decide)) ze2))) zf5 (zr0 zjj (zb0 0) (zb0 1))))),?_⟩
 rintro ds Qd ⟨n,A,x,b,rfl,hn,hx,hA,ok,hb,q⟩
 walk_at "ds"
 walk_at "dd"
 refine ⟨n,A,x,rfl,hn,hx,hA,ok,?_⟩
 walk_at "dd"
 rw [zl9]
 refine ztj (λ p:Int×Int=>.int (p.1 - p.2)) (by rw [sizeLine_eq,wO,zc2];lia) (λ p hp=>?_) ?_
 ·walk_at "cs"
  walk_at "dd"
 ·rw [zkh (n:=n) (f:=λ v=>bl A.length (aU A) (aV A) (fx x) v - fx b v) (by rw [wO,zc2,hb,y0]) λ i p h=>?_]
  ·exact q
  obtain ⟨h1,h2⟩:=uZ.mp h
  rw [wO,zc2] at h1
  rw [yZ] at h2
  have e1:(tab n (bl A.length (aU A) (aV A) (fx x)))[i]?=some p.1:=by rw [uB (by rw [zc2];lia),<- h2]
  rw [zan (by lia)] at e1
  have e2:b[i]?=some p.2:=by rw [uB (by lia),<- h2]
  unfold fx
  rw [e2,<- u7.inj e1];rfl
theorem zw6:FnScope ["arcs", "prices", "heights"] ["arcs", "prices", "heights"] (zf0 zb4):=by walk_at "sc"
theorem zqc (M:Md K mg) (T:TopDef K "slacks_of" zb4) (jY:mg "zip"=none):Def P w K mg base "slacks_of" 1 ["arcs", "prices", "heights"] (spD K zq8):=by
 refine zc5 M T zw6 (λ _ _ _ _ _ _ us hl=>by obtain ⟨_,_,_,rfl⟩:=ar3 hl;rfl) (zef λ ds Qd h=>by obtain ⟨_,_,_,_,rfl,_⟩:=h;rfl) (zp5 ?_)
 intro f cdv A outer s H E hr
 have nd:=zw6.nd
 refine ⟨_,_,(zj0 (zi1 (zi4 (sc:=zf0 zb4) (N:=["arcs", "prices", "heights"]) (own:=["arc", "price"]) (ix:=[2]) rfl rfl rfl (by walk_at "csc") (zoj (K:=K) rfl rfl jY (za0 (pv 0) (za0 (pv 1) zh0))) (λ _ _ _ _=>⟨(zd2 (K:=K) (n:=2) rfl rfl (zo0 (pgn 0 (nds ["arc", "price", "heights"])) (zo0 (pgn 1 (nds ["arc", "price", "heights"])) zb2))),zg3,(zo1 zt9 (zo1 (zq1 (K:=K) rfl) (pix w K hr (pv 2) (pix w K hr (pv 0) zl0)) (pv 1)) (pix w K hr (pv 2) (pix w K hr (pv 0) zl0)))⟩)))),(zr2 (RfF.c (zu2 (znv (zv0 (zb0 0) (zv0 (zb0 1) zt1))) (zq4 (zp0 (zc1 (i:=0) (n:=2) (by decide)) (zp0 (zc1 (i:=1) (n:=2) (by decide)) ze2))) zf5 (zr0 zjj (RfE.v (zr0 zla (RfE.v (zr0 r_ix (zb0 2) (RfE.v (zr0 r_ix (zb0 0) rvi)))) (zb0 1))) (RfE.v (zr0 r_ix (zb0 2) (RfE.v (zr0 r_ix (zb0 0) rvi)))))))),?_⟩
 rintro ds Qd ⟨n,A,p,h,rfl,hp,hA,ok,hh,q⟩
 walk_at "ds"
 walk_at "dd"
 rw [zl9]
 refine ztj (λ y:Ar×Int=>.int (fx h y.1.1+y.2 - fx h y.1.2.1)) (by rw [sizeLine_eq,wO];lia) (λ y hy=>?_) ?_
 ·obtain ⟨⟨u,v,c⟩,z⟩:=y
  obtain ⟨o1,o2,_⟩:=ok _ (xW hy).1
  simp only at o1 o2
  unfold dAr nI
  walk_at "cs"
  walk_at "dd"
  refine ⟨_,rfl,?_⟩
  walk_at "dd"
  refine ⟨_,zj9 (by lia),?_⟩
  walk_at "dd"
  refine ⟨_,rfl,?_⟩
  walk_at "dd"
  exact ⟨_,zj9 (by lia),rfl⟩
 ·rw [zkh (n:=A.length) (f:=slk A p h) (by rw [wO,hp,y0]) λ i y e=>?_]
  ·exact q
  obtain ⟨a1,a2,a3,a4,a5,a6,a7⟩:=zcq e
  unfold slk
  rw [a3,a4,a6]
theorem zee:FnScope ["arcs", "slacks", "amounts", "told", "number", "slack"] ["arcs", "slacks", "amounts"] (zf0 zyc):=by walk_at "sc"
theorem zhi (M:Md K mg) (T:TopDef K "fitted" zyc) (jE:mg "enumerate"=none) (jI:mg "list"=none):Def P w K mg base "fitted" 1 ["arcs", "slacks", "amounts"] (spD K zzf):=by
 refine zc5 M T zee (λ _ _ _ _ _ _ us hl=>by obtain ⟨_,_,_,rfl⟩:=ar3 hl;rfl) (zef λ ds Qd h=>by obtain ⟨_,_,_,rfl,_⟩:=h;rfl) (zp5 ?_)
 intro f cdv A outer s H E hr
 have nd:=zee.nd
 refine ⟨_,_,(zd0 (pset 3 nd (zl2 (zv2 (K:=K) rfl) rfl jI zw5 (za0 (pv 2) zh0)))
   (zd0 (zw4 PassesOwn.never rfl (zh7 (K:=K) rfl rfl jE (za0 (pv 1) zh0)) (zd2 (K:=K) (n:=2) rfl rfl (zo0 (pgn 4 nd) (zo0 (pgn 5 nd) zb2))) (zj0 (zsa (zy0 (zpi (K:=K) rfl (Room.units hr)) (pv 5) zl0 (zi2 _)) (zj0 (zcf (zqh (zy0 zmp (pv 5) zl0 (zi2 _)) (pix w K hr (pix w K hr (pv 0) (pv 4)) zl0) zl0) (zak (pv 3) (pv 4) (zml (Room.units hr))))) zn2)))
   (zj0 (zi1 (pv 3))))),(zk0 (zz1 (RfF.c (zyp zme (zv0 (zb0 2) zt1))))
   (zk0 (zz4 (znl (zc0 (zg0 1) zn0)) (zq4 (zp0 (rgn 4) (zp0 (rgn 5) ze2))) (zmb (zx0 (zle q_ne (RfV.h (zb0 5)) (RfV.h rvi))) (zwi (zks (zx0 (zr0 r_lt (zb0 5) rvi)) (zr0 r_ix (RfE.v (zr0 r_ix (zb0 0) (zb0 4))) rvi) zp1) (zq0 3) (zg0 4)) zj2))
   (zi5 (i:=3)))),?_⟩
 rintro ds Qd ⟨A,s,x,rfl,hs,hx,hA,q⟩
 walk_at "ds"
 refine ze0 λ J hJ=>?_
 walk_at "dd"
 refine hJ _ ?_
 clear hJ
 refine ze0 λ J hJ=>?_
 refine zq2 λ B hB=>?_
 walk_at "dd"
 rw [za4]
 refine zz2 (λ i U=>∃ (T:List Int) (s4 s5:Sl),U=[Sl.sh (zr8 A),.sh (iL s),.sh (iL x),.ow (.li (T.map .int)),s4,s5]/\T.length=A.length/\∀ v,fx T v=if v < i then fitX A s x v else fx x v) ⟨x,_,_,rfl,hx.symm,λ v=>by rw [if_neg (by lia)]⟩ (λ i p U hi hp=>?_) λ U hp=>?_
 ·obtain ⟨T,s4,s5,rfl,hT,hv⟩:=hp
  rw [xO] at hi
  obtain ⟨y,hy,rfl⟩:=u6.mp hi
  have hil:i < A.length:=by have:=(uZ.mp hy).1;lia
  have es:fx s i=y:=by unfold fx;rw [hy];rfl
  walk_at "dd"
  refine hB _ _ ?_
  clear hB
  have ea:A[i]?=some A[i]:=uB hil
  have em:zf1 A i=A[i].2.2:=by unfold zf1;rw [ea];rfl
  have gr:∀ z,z=fitX A s x i->∀ v,fx (T.set i z) v=if v < i+1 then fitX A s x v else fx x v:=λ z hz v=>by
   rw [zse (by lia)]
   by_cases e:v=i
   ·rw [if_pos e,if_pos (by lia),e];exact hz
   ·rw [if_neg e,hv v]
    by_cases e2:v < i
    ·rw [if_pos e2,if_pos (by lia)]
    ·rw [if_neg e2,if_neg (by lia)]
  walk_at "dd"
  refine two (λ h1=>two (λ h2=>⟨_,zv8 (by rw [uI,ea];rfl),?_⟩) λ h2=>⟨i,zzb (by rw [uA];lia),T.set i 0,_,_,by rw [zfb],by rw [uW];exact hT,gr 0 ?_⟩) λ h1=>⟨T,_,_,rfl,hT,λ v=>?_⟩
  ·unfold dAr
   walk_at "dd"
   refine ⟨_,rfl,i,zzb (by rw [uA];lia),T.set i A[i].2.2,_,_,by rw [zfb],by rw [uW];exact hT,gr _ ?_⟩
   unfold fitX
   rw [es,if_neg h1,if_pos h2,em]
  ·unfold fitX
   rw [es,if_neg h1,if_neg h2]
  ·have h1:y=0:=Classical.not_not.mp h1
   rw [hv v]
   by_cases e:v=i
   ·rw [if_neg (by lia),if_pos (by lia),e]
    unfold fitX
    rw [es,if_pos h1]
   ·by_cases e2:v < i
    ·rw [if_pos e2,if_pos (by lia)]
    ·rw [if_neg e2,if_neg (by lia)]
 ·obtain ⟨T,s4,s5,rfl,hT,hv⟩:=hp
  refine hJ _ ?_
  clear hJ hB
  walk_at "dd"
  rw [wV,<- hs] at hv
  rw [zao hT λ v h=>(hv v).trans (if_pos h)]
  exact q
end
def wyD (p:Wy):D:=.tuple [nI p.1,.int p.2]
def wysD (W:List (List Wy)):D:=.list (W.map λ l=>.list (l.map wyD))
def Stp (A:List Ar) (s x:List Int) (k u:Nat) (p:Wy):Prop:=(aU A k=u/\p=(aV A k,fx s k)/\fx x k < zf1 A k) \/ (aV A k=u/\p=(aU A k,-fx s k)/\0 < fx x k)
structure Wok (n i:Nat) (A:List Ar) (s x:List Int) (W:List (List Wy)):Prop where
 len:W.length=n
 iff:∀ u p,p∈wAt W u ↔ ∃ k,k < i/\Stp A s x k u p
 tot:(W.map u8).sum<=2 * i
theorem zsv {W:List (List Wy)} {u v:Nat} {l:List Wy} (h:u < W.length):wAt (W.set u l) v=if v=u then l else wAt W v:=by
 unfold wAt
 by_cases e:v=u
 ·subst e;rw [vL h,if_pos rfl];rfl
 ·rw [vO (λ z=>e z.symm),if_neg e]
theorem zxr:∀ {l:List Nat} {i x:Nat},(hi:i < l.length)->(l.set i (l[i]+x)).sum=l.sum+x
|a :: r,0,x,_=>by simp;lia
|a :: r,i+1,x,h=>by
  have:=zxr (l:=r) (i:=i) (x:=x) (by simpa using h)
  simp only [List.set_cons_succ,wT,List.getElem_cons_succ,this];lia
theorem zel {W:List (List Wy)} {u:Nat} {p:Wy} (h:u < W.length):((W.set u (wAt W u++[p])).map u8).sum=(W.map u8).sum+1:=by
 rw [xB,vA]
 have:=zxr (l:=W.map u8) (i:=u) (x:=1) (by rw [uA];exact h)
 rw [yB] at this
 have e:wAt W u=W[u]:=by unfold wAt;rw [uB h];rfl
 rw [e];exact this
theorem zzl {W:List (List Wy)} {u v:Nat} {p y:Wy} (h:u < W.length):y∈wAt (W.set u (wAt W u++[p])) v ↔ y∈wAt W v \/ (v=u/\y=p):=by
 rw [zsv h]
 by_cases e:v=u
 ·subst e;rw [if_pos rfl];simp
 ·rw [if_neg e];simp [e]
theorem zd31 {W:List (List Wy)} {u:Nat} {p:Wy}:(W.map λ l=>_4.T.li (l.map wyD)).set u (.li ((wAt W u).map wyD++[wyD p]))=(W.set u (wAt W u++[p])).map λ l=>_4.T.li (l.map wyD):=by
 rw [xB,uJ];rfl
theorem at_W {W:List (List Wy)} {u:Nat} (h:u < W.length):(W.map λ l=>_4.T.li (l.map wyD))[u]?=some (.li ((wAt W u).map wyD)):=by
 unfold wAt
 rw [uI,uB h];rfl
theorem zjm {W:List (List Wy)} (u:Nat):(wAt W u).length<=(W.map u8).sum:=by
 unfold wAt
 induction W generalizing u with
|nil=>simp
|cons a r ih =>
  cases u with
 |zero=>simp
 |succ u=>have:=ih u;simp only [List.getElem?_cons_succ,uK,wT];lia
theorem frzW (W:List (List Wy)):(zei (W.map λ l=>_4.T.li (l.map wyD))).map (λ dss=>vG (dss.map .list))=some (wysD W):=by
 have:∀ W:List (List Wy),zei (W.map λ l=>_4.T.li (l.map wyD))=some (W.map λ l=>l.map wyD):=by
  intro W
  induction W with
 |nil=>rfl
 |cons l r ih=>simp only [uK,zei,ih];rfl
 rw [this]
 simp only [Option.map_some,vC]
 rfl
def zta:DSp:=λ ds Q=>∃ (n:Nat) (A:List Ar) (s x:List Int),ds=[nI n,zr8 A,iL s,iL x]/\n<=100/\A.length=s.length/\A.length=x.length/\A.length<=1000/\(∀ a∈A,ArOk n a)/\∀ W,Wok n A.length A s x W->Q (wysD W)
def kvD (kv:Kv):List (Key×D):=kv.map λ q=>(uO (q.1:Int),.int q.2)
def lk (kv:Kv) (v:Nat):Option Int:=(kv.find? λ q=>decide (q.1=v)).map (·.2)
theorem znu:∀ (kv:Kv) (v:Nat) (x:Int),(getA (kvD kv) (uO (v:Int))).getD (.int x)=.int ((lk kv v).getD x)
|[],v,x=>rfl
|q :: r,v,x=>by
  have ih:=znu r v x
  unfold getA kvD lk at ih ⊢
  rw [uK]
  by_cases c:q.1=v
  ·rw [yD (by simp [c]),yD (by simp [c])];rfl
  ·rw [xA (by simp;lia),xA (by simp [c])];exact ih
theorem zev (kv:Kv) (v:Nat):(getA (kvD kv) (uO (v:Int))).isSome=decide (v∈kv.map (·.1)):=by
 induction kv with
|nil=>rfl
|cons q r ih =>
  unfold getA kvD at ih ⊢
  rw [uK]
  by_cases c:q.1=v
  ·rw [yD (by simp [c])];simp [c]
  ·rw [xA (by simp;lia),ih]
   have c2:¬ v=q.1:=λ z=>c z.symm
   simp [c2]
theorem ziz {kv:Kv} {h:Nat} {M:Int} (hh:h ∉ kv.map (·.1)):putD (kvD kv) (uO (h:Int)) (uC M)=kvD (kv++[(h,M)]):=by
 unfold putD
 rw [if_neg λ z=>?_]
 ·unfold kvD;rw [uJ];rfl
 obtain ⟨x,x1,x2⟩:=y9.mp z
 obtain ⟨y,y1,rfl⟩:=uM.mp x1
 have:(uO (y.1:Int):Key)=uO (h:Int):=of_decide_eq_true x2
 have:=uO.inj this
 exact hh (uM.mpr ⟨y,y1,by lia⟩)
def rwT (R:Rw):List (Key×_4.T):=R.map λ q=>(uO q.1,.li (q.2.map nI))
def lft (W:List (List Wy)) (ks:List Nat):Nat->Nat
|0=>0
|n+1=>lft W ks n+if n∈ks then 0 else (wAt W n).length
theorem zfl (W:List (List Wy)) {ks:List Nat} {h:Nat} (hh:h ∉ ks):∀ n,lft W (ks++[h]) n+(if h < n then (wAt W h).length else 0)=lft W ks n
|0=>by simp [lft]
|n+1=>by
  have ih:=zfl W hh n
  unfold lft
  by_cases e:n=h
  ·subst e
   rw [if_neg (by lia)] at ih
   rw [if_pos (by simp),if_pos (by lia),if_neg hh];lia
  ·have e2:(n∈ks++[h]) ↔ n∈ks:=by simp [e]
   simp only [e2]
   by_cases c:h < n
   ·rw [if_pos c] at ih;rw [if_pos (show h < n+1 by lia)];lia
   ·rw [if_neg c] at ih;rw [if_neg (show ¬h < n+1 by lia)];lia
def rsm (R:Rw):Nat:=(R.map λ q=>q.2.length).sum
theorem zjb (A B:Rw):rsm (A++B)=rsm A+rsm B:=by unfold rsm;rw [uJ,wS]
theorem ze9 (q:Int×List Nat) (B:Rw):rsm (q :: B)=q.2.length+rsm B:=by unfold rsm;rw [uK,wT]
theorem zhm {dt:DT} {db:DS} {E:DEnds} {U:DSt} (h:∀ B:DS,(∀ E U,db E U->B E U)->zxo dt B E U):zxo dt db E U:=h db λ _ _ z=>z
theorem zpl {dt:DT} {a b:DS} {E:DEnds} {U:DSt} (h:∀ X:DS,(∀ E U,a E U->X E U)->dIf dt X b E U):dIf dt a b E U:=h a λ _ _ z=>z
theorem zvq {i:Nat} {F:DS} {E:DEnds} {U:DSt} {ds:List D} (h:U[i]?=some (.ow (.li ds)) \/ U[i]?=some (.sh (.list ds))) (g:F E (U.set i (.sh (.list ds)))):dFrz i [] F E U:=by
 unfold dFrz fzS
 rcases h with h|h
 ·rw [h];exact ⟨_,_,rfl,rfl,g⟩
 ·rw [h]
  obtain ⟨h1,h2⟩:=uZ.mp h
  rwa [<- h2,List.set_getElem_self] at g
theorem zvh (A B:Rw):rwT (A++B)=rwT A++rwT B:=by unfold rwT;rw [uJ]
theorem zyw {X:Rw} {M:Int} (hX:M ∉ X.map (·.1)):(uO M:Key) ∉ (rwT X).map (·.1):=λ z=>by
 unfold rwT at z
 rw [vC] at z
 obtain ⟨y,y1,y2⟩:=uM.mp z
 have:=uO.inj y2
 exact hX (this ▸ uM.mpr ⟨y,y1,rfl⟩)
theorem zsy {R:Rw} {ts:List (Key×_4.T)} {S:List Nat} {M:Int} (h:ts=rwT R \/ (R=[(0,S)]/\ts=[(uO 0,.fz (.list (S.map nI)))])) (nd:(R.map (·.1)).Nodup) (hM:M∈R.map (·.1)) :
  ∃ R1 l0 R2 t1 t t2,R=R1++(M,l0) :: R2/\ts=t1++(uO M,t) :: t2/\t1++t2=rwT (R1++R2)/\(uO M:Key) ∉ t1.map (·.1)/\(uO M:Key) ∉ t2.map (·.1)/\(t=.li (l0.map nI) \/ t=.fz (.list (l0.map nI))):=by
 obtain ⟨⟨M',l0⟩,q1,q2⟩:=uM.mp hM
 simp only at q2
 subst q2
 rcases h with h|⟨h1,h2⟩
 ·obtain ⟨R1,R2,e⟩:=zW q1
  subst e
  rw [uJ,uK] at nd
  obtain ⟨_,n2,n3⟩:=uX.mp nd
  have n2:=(uU.mp n2).1
  exact ⟨R1,l0,R2,rwT R1,_,rwT R2,rfl,by rw [h];unfold rwT;rw [uJ,uK],by unfold rwT;rw [uJ],zyw (λ z=>n3 _ z _ (by simp) rfl),zyw n2,.inl rfl⟩
 ·subst h1
  simp at q1
  obtain ⟨rfl,rfl⟩:=q1
  exact ⟨[],l0,[],[],_,[],rfl,h2,rfl,by simp,by simp,.inr rfl⟩
theorem zhz {R:Rw} {ts:List (Key×_4.T)} {S:List Nat} (h:ts=rwT R \/ (R=[(0,S)]/\ts=[(uO 0,.fz (.list (S.map nI)))])):ts.map (·.1)=(R.map (·.1)).map uO:=by
 rcases h with h|⟨h1,h2⟩
 ·rw [h];unfold rwT;rw [vC,vC];rfl
 ·rw [h1,h2];rfl
def zt8:DSpT:=λ as Q=>∃ (W:List (List Wy)) (S:List Nat),as=[.d (wysD W),.d (.list (S.map nI))]/\W.length<=100/\(∀ s∈S,s < W.length)/\(∀ u,∀ p∈wAt W u,p.1 < W.length/\0<=p.2)/\S.length+lft W [] W.length<=10000/\∀ kv,DJ W.length W (wAt W) S kv []->Q (.dk (kvD kv)) (.fz .none)
def zig:DSpT:=λ as Q=>∃ (h:List Int) (kv:Kv),as=[.d (iL h),.b (.dk (kvD kv))]/\h.length<=100/\kv≠[]/\∀ M,M∈kv.map (·.2)->(∀ q∈kv,q.2<=M)->Q (.fz (iL (tab h.length λ v=>fx h v+(lk kv v).getD M))) (.fz .none)
section
variable {P:Program} {w:World} {K:Fg} {mg:Str->Option Value} {base:Heap}
theorem zk8:FnScope ["count", "arcs", "slacks", "amounts", "told", "arc", "slack", "amount"] ["count", "arcs", "slacks", "amounts"] (zf0 za5):=by walk_at "sc"
theorem zff (M:Md K mg) (T:TopDef K "ways_out" za5) (jK:mg "range"=none) (jY:mg "zip"=none):Def P w K mg base "ways_out" 1 ["count", "arcs", "slacks", "amounts"] (spD K zta):=by
 refine zc5 M T zk8 (λ _ _ _ _ _ _ us hl=>by obtain ⟨_,_,_,_,rfl⟩:=ar4 hl;rfl) (zef λ ds Qd h=>by obtain ⟨_,_,_,_,rfl,_⟩:=h;rfl) (zp5 ?_)
 intro f cdv A outer s H E hr
 have nd:=zk8.nd
 refine ⟨_,_,(zd0 (zs2 (i:=4) (sc:=zf0 za5) (N:=["count", "arcs", "slacks", "amounts", "told", "arc", "slack", "amount"]) (own:=["number"]) (ix:=[]) rfl rfl rfl (by walk_at "csc") nd rfl rfl (zca rfl jK (za0 (pv 0) zh0)) (λ _ _ _ _=>⟨(pgn 0 (nds ["number"])),zg3,(zn1 zh0)⟩))
   (zd0 (zw4 PassesOwn.never rfl (zgw (K:=K) rfl rfl jY (za0 (pv 1) (za0 (pv 2) (za0 (pv 3) zh0)))) (zd2 (K:=K) (n:=3) rfl rfl (zo0 (pgn 5 nd) (zo0 (pgn 6 nd) (zo0 (pgn 7 nd) zb2)))) (zd0 (zsa (zy0 zmp (pv 7) (pix w K hr (pv 5) zl0) (zi2 _)) (zj0 (zr1 (zt3 (K:=K) rfl PySem.F.plainAttrs_list PySem.F.slot_list_append PySem.F.type_list_append zh1 (pix w K hr (pv 4) (pix w K hr (pv 5) zl0)) (za0 (zd5 (za0 (pix w K hr (pv 5) zl0) (za0 (pv 6) zh0))) zh0)))) zn2)
   (zj0 (zsa (zy0 zbp (pv 7) zl0 (zi2 _)) (zj0 (zr1 (zt3 (K:=K) rfl PySem.F.plainAttrs_list PySem.F.slot_list_append PySem.F.type_list_append zh1 (pix w K hr (pv 4) (pix w K hr (pv 5) zl0)) (za0 (zd5 (za0 (pix w K hr (pv 5) zl0) (za0 (zx31 zvt (pv 6)) zh0))) zh0)))) zn2))))
   (zj0 (zi1 (pv 4))))),(zk0 (zz1 (RfN.c (zkg (RfI.j (zuf (zc0 (zg0 0) zn0))) (zc1 (i:=0) (n:=1) (by decide)) (RfF.new (zk3 zn0)))))
   (zk0 (zz4 (zps (zc0 (zg0 1) (zc0 (zg0 2) (zc0 (zg0 3) zn0)))) (zq4 (zp0 (rgn 5) (zp0 (rgn 6) (zp0 (rgn 7) ze2)))) (zk0 (zmb (zx0 (zr0 r_lt (zb0 7) (RfE.v (zr0 r_ix (zb0 5) rvi)))) (zs1 (zue zj8 (zvp (zq0 4) (zr0 r_ix (zb0 5) rvi)) (zc0 (zn9 (zc0 (zr0 r_ix (zb0 5) rvi) (zc0 (zg0 6) zn0))) zn0))) zj2)
   (zmb (zx0 (zr0 r_gt (zb0 7) rvi)) (zs1 (zue zj8 (zvp (zq0 4) (zr0 r_ix (zb0 5) rvi)) (zc0 (zn9 (zc0 (zr0 r_ix (zb0 5) rvi) (zc0 (ziw (zg0 6)) zn0))) zn0))) zj2)))
   (za8 4 [] (zi5 (i:=4))))),?_⟩
 rintro ds Qd ⟨n,A,s,x,rfl,hn,hs,hx,hA,ok,q⟩
 walk_at "ds"
 refine ze0 λ J hJ=>?_
 walk_at "dd"
 refine ⟨by lia,by lia,?_⟩
 rw [u4]
 refine zym (λ _=>.li []) (by rw [vV,sizeLine_eq];lia) (λ i hi=>?_) (hJ _ ?_)
 ·walk_at "cs"
 clear hJ
 have e0:(uL n).map (λ _=>(_4.T.li []:_4.T))=(uP n ([]:List Wy)).map λ l=>.li (l.map wyD):=by simp [List.map_const']
 rw [e0]
 refine ze0 λ J hJ=>?_
 refine zq2 λ B hB=>?_
 walk_at "dd"
 refine ⟨_,_,_,rfl,by rw [uA,uA];exact hs,by rw [uA,uA];exact hx,?_⟩
 unfold zpn
 rw [uA]
 refine zz2 (λ i U=>∃ (W:List (List Wy)) (s5 s6 s7:Sl),U=[Sl.sh (.int (n:Int)),.sh (zr8 A),.sh (iL s),.sh (iL x),.ow (.ls (W.map λ l=>.li (l.map wyD))),s5,s6,s7]/\Wok n i A s x W) ⟨_,_,_,_,rfl,wP ..,λ u p=>?_,by simp⟩ (λ i k U hi hp=>?_) λ U hp=>?_
 ·refine ⟨λ z=>?_,λ ⟨k,z,_⟩=>by lia⟩
  unfold wAt at z
  rw [vT] at z
  split at z <;> simp at z
 ·obtain ⟨W,s5,s6,s7,rfl,ok2⟩:=hp
  obtain ⟨hi1,hi2⟩:=uZ.mp hi
  rw [vV] at hi1
  rw [wU] at hi2
  subst hi2
  have ea:A[i]?=some A[i]:=uB hi1
  have g1:(A.map dAr).getD i .none=dAr A[i]:=by rw [uQ,uI,ea];rfl
  have gi:∀ {l:List Int},i < l.length->(l.map uC).getD i .none=.int (fx l i):=λ {l} h=>by rw [uQ,zvw h];rfl
  rw [g1,gi (by lia),gi (by lia)]
  have u1:aU A i=A[i].1:=by unfold aU;rw [ea];rfl
  have v1:aV A i=A[i].2.1:=by unfold aV;rw [ea];rfl
  have m1:zf1 A i=A[i].2.2:=by unfold zf1;rw [ea];rfl
  obtain ⟨o1,o2,_⟩:=ok _ (vW hi1)
  unfold dAr nI
  walk_at "dd"
  refine hB _ _ ?_
  clear hB
  refine ze0 λ J2 hJ2=>?_
  walk_at "dd"
  refine ⟨_,rfl,?_⟩
  walk_at "dd"
  have rest:∀ W1:List (List Wy),W1.length=n->(∀ u p,p∈wAt W1 u ↔ (∃ k,k < i/\Stp A s x k u p) \/ (aU A i=u/\p=(aV A i,fx s i)/\fx x i < zf1 A i))->(W1.map u8).sum<=2 * i+1->J2 [Sl.sh (uC (n:Int)),Sl.sh (zr8 A),Sl.sh (iL s),Sl.sh (iL x),Sl.ow (_4.T.ls (W1.map λ l=>_4.T.li (l.map wyD))),Sl.sh (vU [uC (A[i].1:Int),uC (A[i].2.1:Int),uC A[i].2.2]),Sl.sh (uC (fx s i)),Sl.sh (uC (fx x i))]:=λ W1 l1 iff1 t1=>by
   refine hJ2 _ ?_
   clear hJ2
   walk_at "dd"
   refine two (λ h=>⟨_,rfl,A[i].2.1,_,zzb (by rw [uA];lia),at_W (by lia),rfl,_,rfl,?_⟩) λ h=>⟨W1,_,_,_,rfl,l1,λ u p=>?_,by lia⟩
   ·have:=zjm (W:=W1) A[i].2.1
    refine ⟨by rw [uA];lia,?_⟩
    rw [at_W (by lia)]
    dsimp only
    rw [show vU [uC (A[i].1:Int),uC (-fx s i)]=wyD (A[i].1,-fx s i) from rfl,zd31]
    refine ⟨W1.set A[i].2.1 (wAt W1 A[i].2.1++[(A[i].1,-fx s i)]),_,_,_,rfl,by rw [uW];exact l1,λ u p=>?_,by rw [zel (by lia)];lia⟩
    ·rw [zzl (by lia),iff1]
     constructor
     ·rintro ((⟨k,k1,k2⟩|z)|⟨z1,z2⟩)
      ·exact ⟨k,by lia,k2⟩
      ·exact ⟨i,by lia,.inl z⟩
      ·exact ⟨i,by lia,.inr ⟨by rw [v1];exact z1.symm,by rw [u1];exact z2,h⟩⟩
     ·rintro ⟨k,k1,k2⟩
      by_cases e:k=i
      ·subst e
       rcases k2 with z|⟨z1,z2,_⟩
       ·exact .inl (.inr z)
       ·exact .inr ⟨by rw [<- v1];exact z1.symm,by rw [<- u1];exact z2⟩
      ·exact .inl (.inl ⟨k,by lia,k2⟩)
   ·rw [iff1]
    constructor
    ·rintro (⟨k,k1,k2⟩|z)
     ·exact ⟨k,by lia,k2⟩
     ·exact ⟨i,by lia,.inl z⟩
    ·rintro ⟨k,k1,k2⟩
     by_cases e:k=i
     ·subst e
      rcases k2 with z|⟨_,_,z⟩
      ·exact .inr z
      ·exact absurd z h
     ·exact .inl ⟨k,by lia,k2⟩
  refine two (λ h=>⟨_,rfl,A[i].1,_,zzb (by rw [uA,ok2.len];exact o1),at_W (by rw [ok2.len];exact o1),rfl,_,rfl,?_⟩) λ h=>rest W ok2.len (λ u p=>?_) (by have:=ok2.tot;lia)
  ·have:=zjm (W:=W) A[i].1
   have:=ok2.tot
   refine ⟨by rw [uA];lia,?_⟩
   rw [at_W (by rw [ok2.len];exact o1)]
   dsimp only
   rw [show vU [uC (A[i].2.1:Int),uC (fx s i)]=wyD (A[i].2.1,fx s i) from rfl,zd31]
   refine rest _ (by rw [uW];exact ok2.len) (λ u p=>?_) (by rw [zel (by rw [ok2.len];exact o1)];lia)
   rw [zzl (by rw [ok2.len];exact o1),ok2.iff,u1,v1,m1]
   constructor
   ·rintro (z|⟨z1,z2⟩)
    ·exact .inl z
    ·exact .inr ⟨z1.symm,z2,h⟩
   ·rintro (z|⟨z1,z2,_⟩)
    ·exact .inl z
    ·exact .inr ⟨z1.symm,z2⟩
  ·rw [ok2.iff,m1]
   exact ⟨.inl,λ z=>z.elim id λ y=>absurd y.2.2 h⟩
 ·obtain ⟨W,s5,s6,s7,rfl,ok2⟩:=hp
  rw [vV] at ok2
  refine hJ _ ?_
  clear hJ hB
  walk_at "dd"
  exact ⟨_,_,rfl,frzW W,q W ok2⟩
theorem zu6:FnScope ["ways", "starts", "told", "rows", "far", "row", "here", "goal", "slack"] ["ways", "starts"] (zf0 zk5):=by walk_at "sc"
theorem znc (M:Md K mg) (T:TopDef K "distances" zk5) (qD:mg "min"=none):Def P w K mg base "distances" 1 ["ways", "starts"] (spT K zt8):=by
 refine zc5 M T zu6 (λ _ _ _ _ _ _ us hl=>by obtain ⟨_,_,rfl⟩:=ar2 hl;rfl) (zci λ as Qd h=>by obtain ⟨_,_,rfl,_⟩:=h;rfl) (zx7 ?_)
 intro f cdv A outer s H E hr
 have nd:=zu6.nd
 refine ⟨_,_,(zd0 (pset 2 nd zon)
   (zd0 (pset 3 nd (zem (zqf zl0 (pv 1) zim) rfl rfl (by simp) (by decide)))
   (zd0 (zo4 PassesOwn.never (zq3 (K:=K) rfl (pv 3) (λ _=>rfl)) (zd0 (pset 4 nd (zz0 (zvi rfl) rfl qD zes (za0 (pv 3) zh0)))
   (zd0 (pset 5 nd (zt3 (K:=K) rfl PySem.F.plainAttrs_dict PySem.F.slot_dict_pop PySem.F.type_dict_pop zsu (pv 3) (za0 (pv 4) zh0)))
   (zj0 (zw4 PassesOwn.never rfl (pi_W (K:=K) rfl (pv 5)) (pgn 6 nd) (zj0 (zsa (zy0 (zv9 (w:=w) (K:=K) (Room.units hr) rfl rfl) (pv 6) (pv 2) (by with_unfolding_all rfl)) (zd0 (zcf (pv 4) (zak (pv 2) (pv 6) (zml (Room.units hr))))
   (zj0 (zw4 PassesOwn.never rfl (pi_W (K:=K) rfl (pix w K hr (pv 0) (pv 6))) (zd2 (K:=K) (n:=2) rfl rfl (zo0 (pgn 7 nd) (zo0 (pgn 8 nd) zb2))) (zj0 (zsa (zy0 (zv9 (w:=w) (K:=K) (Room.units hr) rfl rfl) (pv 7) (pv 2) (by with_unfolding_all rfl)) (zj0 (zr1 (zt3 (K:=K) rfl PySem.F.plainAttrs_list PySem.F.slot_list_append PySem.F.type_list_append zh1 (zt3 (K:=K) rfl PySem.F.plainAttrs_dict PySem.F.slot_dict_setdefault PySem.F.type_dict_setdefault ztk (pv 3) (za0 (zo1 (zq1 (K:=K) rfl) (pv 4) (pv 8)) (za0 (zn1 zh0) zh0))) (za0 (pv 7) zh0)))) zn2))))) zn2)))))))
   (zj0 (zi1 (pv 2)))))),(zk0 (zz1 zm51)
   (zk0 (zz1 (zu01 zp1 (zg0 1)))
   (zk0 (zn4 (zws 3) (zk0 (zd1 (ziu 3) (rgn 4))
   (zk0 (zz1 (zxt (i:=3) (zg0 4)))
   (za8 5 [] (zz4 (zvo (zg0 5)) (rgn 6) (zmb (zx0 (zkf (zg0 6) (zq0 2))) (zk0 (zwi (zg0 4) (zq0 2) (zg0 6))
   (zz4 (zvo (zr0 r_ix (zb0 0) (zb0 6))) (zq4 (zp0 (rgn 7) (zp0 (rgn 8) ze2))) (zmb (zx0 (zkf (zg0 7) (zq0 2))) (zpj (i:=3) (zr0 zla (zb0 4) (zb0 8)) (zg0 7)) zj2))) zj2))))))
   (zi5 (i:=2))))),?_⟩
 rintro as Qd a ⟨W,S,rfl,hn,hS,hW,hB,q⟩
 walk_at "ds"
 refine ze0 λ J hJ=>?_
 walk_at "dd"
 refine hJ _ ?_
 clear hJ
 refine ze0 λ J hJ=>?_
 walk_at "dd"
 refine hJ _ ?_
 clear hJ
 refine ze0 λ J hJ=>?_
 refine zhm λ C hC=>?_
 refine ⟨λ m U=>∃ (kv:Kv) (R:Rw) (ts:List (Key×_4.T)) (s4 s5 s6 s7 s8:Sl),U=[Sl.sh (wysD W),.sh (.list (S.map nI)),.ow (.dk (kvD kv)),.ow (.dd ts),s4,s5,s6,s7,s8]/\DJ W.length W (wAt W) S kv R/\(R.map (·.1)).Nodup/\R.length+lft W (kv.map (·.1)) W.length<=m/\m<=10001/\rsm R+lft W (kv.map (·.1)) W.length<=10000/\(ts=rwT R \/ (R=[(0,S)]/\ts=[(uO 0,.fz (.list (S.map nI)))])),⟨1+lft W [] W.length,[],[(0,S)],_,_,_,_,_,_,rfl,.init hS,by simp,uF _,by lia,by simpa [rsm] using hB,.inr ⟨rfl,rfl⟩⟩,λ m U hw=>?_⟩
 obtain ⟨kv,R,ts,s4,s5,s6,s7,s8,rfl,dj,nd',hm,m1,hr',ht⟩:=hw
 have ek:=zhz ht
 walk_at "dd"
 refine ⟨_,rfl,two (λ h=>hC _ _ ?_) λ h=>hJ _ ?_⟩
 ·clear hC hJ
  have hR:R.map (·.1)≠[]:=λ z=>by rw [z] at ek;rw [x6.mp ek] at h;cases h
  refine ze0 λ J hJ=>?_
  walk_at "dd"
  refine ⟨_,_,rfl,ek,hR,λ M hM hmin=>hJ _ ?_⟩
  clear hJ
  obtain ⟨R1,l0,R2,t1,t,t2,e1,e2,e3,e4,e5,e6⟩:=zsy ht nd' hM
  refine ⟨λ U=>∃ s5,U=[Sl.sh (wysD W),.sh (.list (S.map nI)),.ow (.dk (kvD kv)),.ow (.dd (rwT (R1++R2))),.sh (.int M),s5,s6,s7,s8]/\(s5=.ow (.li (l0.map nI)) \/ s5=.sh (.list (l0.map nI))),?_,?_⟩
  ·walk_at "dd"
   refine ⟨_,rfl,_,_,_,_,e2,rfl,e4,e5,_,by rw [e3],?_⟩
   rcases e6 with rfl|rfl
   ·exact .inl rfl
   ·exact .inr rfl
  rintro U ⟨s5,rfl,h5⟩
  refine zvq (ds:=l0.map nI) (by rcases h5 with rfl|rfl;exact .inl rfl;exact .inr rfl) ?_
  have pe:∀ r,r∈(M,l0) :: (R1++R2) ↔ r∈R:=λ r=>by rw [e1];simp only [uE,uG];exact or_left_comm
  have dj:=dj.perm pe
  have M1:∀ r∈R1++R2,M<=r.1:=λ r hr=>hmin _ (uM.mpr ⟨r,(pe r).mp (vB _ hr),rfl⟩)
  have nd2:((R1++R2).map (·.1)).Nodup:=by
   rw [e1,uJ,uK] at nd'
   rw [uJ]
   exact nd'.sublist (List.Sublist.append_left (List.sublist_cons_self ..) _)
  have hm2:(R1++R2).length+lft W (kv.map (·.1)) W.length+1<=m:=by rw [e1] at hm;simp at hm ⊢;lia
  have hr2:rsm (R1++R2)+lft W (kv.map (·.1)) W.length<=10000:=by rw [e1] at hr';rw [zjb,ze9] at hr';rw [zjb];lia
  generalize R1++R2=R0 at dj M1 nd2 hm2 hr2 ⊢
  clear e1 e2 e3 e4 e5 e6 ht ek pe hmin hM h hR h5 nd' hm hr'
  refine zq2 λ B hB=>?_
  walk_at "dd"
  refine zz2 (λ i U=>∃ (kv:Kv) (R:Rw) (s6 s7 s8:Sl),U=[Sl.sh (wysD W),.sh (.list (S.map nI)),.ow (.dk (kvD kv)),.ow (.dd (rwT R)),.sh (.int M),.sh (.list (l0.map nI)),s6,s7,s8]/\DJ W.length W (wAt W) S kv ((M,l0.drop i) :: R)/\(∀ r∈R,M<=r.1)/\(R.map (·.1)).Nodup/\R.length+lft W (kv.map (·.1)) W.length+1<=m/\rsm R+lft W (kv.map (·.1)) W.length<=10000) ⟨kv,R0,_,_,_,rfl,dj,M1,nd2,hm2,hr2⟩ (λ i h U hi hp=>?_) λ U hp=>?_
  ·clear dj M1 nd2 hm2 hr2
   obtain ⟨kv,R,s6,s7,s8,rfl,dj,M1,nd2,hm2,hr2⟩:=hp
   obtain ⟨hi1,hi2⟩:=uZ.mp hi
   rw [List.drop_eq_getElem_cons hi1,hi2] at dj
   walk_at "dd"
   refine hB _ _ ?_
   clear hB
   refine zpl λ X hX=>?_
   walk_at "dd"
   rw [zev]
   refine two (λ h1=>hX _ _ ?_) λ h1=>?_
   ·clear hX
    have h1:h ∉ kv.map (·.1):=of_decide_eq_false h1
    refine ze0 λ J hJ=>?_
    walk_at "dd"
    have hl:=zs0 W.length (kv.map (·.1)) dj.nd λ x hx=>by obtain ⟨y,y1,rfl⟩:=uM.mp hx;exact (dj.nn y y1).1
    rw [uA] at hl
    refine ⟨by unfold kvD;rw [uA];lia,hJ _ ?_⟩
    clear hJ
    rw [ziz h1]
    have hh:h < W.length:=(dj.rn (M,h :: l0.drop (i+1)) (by simp)).2 h (by simp)
    have dj:=dj.ins h1 M1
    have lf:=zfl W h1 W.length
    rw [if_pos hh] at lf
    have hM:(h,M)∈kv++[(h,M)]:=by simp
    have em:kv.map (·.1)++[h]=(kv++[(h,M)]).map (·.1):=by simp
    rw [em] at lf
    generalize kv++[(h,M)]=kv at dj lf hM ⊢
    have ew:wysD W=vG (W.map λ l=>.list (l.map wyD)):=rfl
    have ea:atI (W.map λ l=>vG (l.map wyD)) (h:Int)=some (.list ((wAt W h).map wyD)):=zv8 (by unfold wAt;rw [uI,uB hh];rfl)
    refine zq2 λ B hB=>?_
    rw [ew]
    walk_at "dd"
    refine ⟨_,ea,?_⟩
    walk_at "dd"
    refine zz2 (λ j U=>∃ (R:Rw) (s7 s8:Sl),U=[Sl.sh (wysD W),.sh (.list (S.map nI)),.ow (.dk (kvD kv)),.ow (.dd (rwT R)),.sh (.int M),.sh (.list (l0.map nI)),.sh (.int (h:Int)),s7,s8]/\DJ W.length W (λ u=>if u=h then (wAt W h).take j else wAt W u) S kv ((M,l0.drop (i+1)) :: R)/\(∀ r∈R,M<=r.1)/\(R.map (·.1)).Nodup/\R.length+lft W (kv.map (·.1)) W.length+1+(wAt W h).length<=m+j/\rsm R+lft W (kv.map (·.1)) W.length+(wAt W h).length<=10000+j) ⟨R,_,_,rfl,by simpa using dj,M1,nd2,by lia,by lia⟩ (λ j p U hj hp=>?_) λ U hp=>?_
    ·obtain ⟨R,s7,s8,rfl,dj,M1,nd2,hm2,hr2⟩:=hp
     obtain ⟨hj1,hj2⟩:=uZ.mp hj
     have hpm:p∈wAt W h:=hj2 ▸ vW hj1
     have hp0:=hW h p hpm
     unfold wyD nI
     walk_at "dd"
     refine hB _ _ ?_
     clear hB
     walk_at "dd"
     have et:∀ u,∀ y∈(if u=h then (wAt W h).take (j+1) else wAt W u),y∈(if u=h then (wAt W h).take j else wAt W u) \/ (u=h/\y=p):=λ u y hy=>by
      by_cases e:u=h
      ·rw [if_pos e] at hy ⊢
       rw [wM,hj] at hy
       simp at hy
       exact hy.imp id λ z=>⟨e,z⟩
      ·rw [if_neg e] at hy ⊢;exact .inl hy
     rw [zev]
     refine two (λ h2=>⟨_,rfl,by unfold rwT;rw [uA];lia,?_⟩) λ h2=>?_
     ·by_cases c:M+p.2∈R.map (·.1)
      ·obtain ⟨⟨k,x⟩,k1,k2⟩:=uM.mp c
       simp only at k2
       subst k2
       obtain ⟨R1,R2,rfl⟩:=zW k1
       rw [zjb,ze9] at hr2
       simp only at hr2
       have nd3:=nd2
       rw [uJ,uK] at nd3
       have n3:=(uX.mp nd3).2.2
       refine .inr ⟨rwT R1,x.map nI,rwT R2,by rw [zvh];rfl,zyw λ z=>n3 _ z _ (by simp) rfl,by rw [uA];lia,R1++(M+p.2,x++[p.1]) :: R2,.sh (.int p.1),.sh (.int p.2),?_,dj.push hM hpm hp0.2 hp0.1 et ?_ ?_ ?_,?_,?_,?_,?_⟩
       ·rw [zvh R1 ((M+p.2,x++[p.1]) :: R2),show rwT ((M+p.2,x++[p.1]) :: R2)=(uO (M+p.2),.li (x.map nI++[.int p.1])) :: rwT R2 by unfold rwT;rw [uK,uJ];rfl]
       ·intro k y hy
        rcases uG.mp hy with z|z
        ·exact ⟨y,by simp [z],λ _ v=>v⟩
        ·rcases uE.mp z with z|z
         ·injection z with z1 z2
          subst z1 z2
          exact ⟨y++[p.1],by simp,λ v hv=>by simp [hv]⟩
         ·exact ⟨y,by simp [z],λ _ v=>v⟩
       ·exact ⟨x++[p.1],by simp,by simp⟩
       ·intro r hr
        have:r=(M+p.2,x++[p.1]) \/ r∈R1++(M+p.2,x) :: R2:=by
         rcases uG.mp hr with z|z
         ·exact .inr (by simp [z])
         ·rcases uE.mp z with z|z
          ·exact .inl z
          ·exact .inr (by simp [z])
        rcases this with z|z
        ·subst z
         refine ⟨.inr rfl,λ v hv=>?_⟩
         rcases uG.mp hv with w|w
         ·exact .inl ⟨(M+p.2,x),by simp,rfl,w⟩
         ·exact .inr ⟨rfl,by simpa using w⟩
        ·exact ⟨.inl ⟨r,z,rfl⟩,λ v hv=>.inl ⟨r,z,rfl,hv⟩⟩
       ·intro r hr
        rcases uG.mp hr with z|z
        ·exact M1 r (by simp [z])
        ·rcases uE.mp z with z|z
         ·subst z;show M<=M+p.2;lia
         ·exact M1 r (by simp [z])
       ·rw [uJ,uK];exact nd3
       ·simp only [vA,vP] at hm2 ⊢;lia
       ·rw [zjb,ze9];simp only [vA,vP,xM];lia
      ·refine .inl ⟨zyw c,R++[(M+p.2,[p.1])],.sh (.int p.1),.sh (.int p.2),?_,dj.push hM hpm hp0.2 hp0.1 et (λ k y hy=>⟨y,by simp [hy],λ _ v=>v⟩) ⟨[p.1],by simp,by simp⟩ ?_,?_,?_,?_,?_⟩
       ·rw [zvh];rfl
       ·intro r hr
        rcases uG.mp hr with z|z
        ·exact ⟨.inl ⟨r,z,rfl⟩,λ v hv=>.inl ⟨r,z,rfl,hv⟩⟩
        ·simp at z;subst z
         exact ⟨.inr rfl,λ v hv=>.inr ⟨rfl,by simpa using hv⟩⟩
       ·intro r hr
        rcases uG.mp hr with z|z
        ·exact M1 r z
        ·simp at z;subst z;show M<=M+p.2;lia
       ·rw [uJ]
        exact uX.mpr ⟨nd2,by simp,λ a ha b hb e=>c (by simp at hb;rw [hb] at e;rw [<- e];exact ha)⟩
       ·simp only [vA,vP,xM];lia
       ·rw [zjb,ze9];simp only [rsm,vP,xM,wZ,List.sum_nil] at hr2 ⊢;lia
     ·have h1:p.1∈kv.map (·.1):=by simpa using h2
      obtain ⟨⟨_,b⟩,b1,b2⟩:=uM.mp h1
      simp only at b2
      subst b2
      exact ⟨R,_,_,rfl,dj.seen hM hp0.2 b1 et,M1,nd2,by lia,by lia⟩
    ·obtain ⟨R,s7,s8,rfl,dj,M1,nd2,hm2,hr2⟩:=hp
     rw [wN] at dj
     exact ⟨kv,R,_,_,_,rfl,dj.wy' λ q hq p hp=>by by_cases e:q.1=h;(simp only [if_pos e];rwa [e] at hp);simp only [if_neg e];exact hp,M1,nd2,by lia,by lia⟩
   ·have h1:h∈kv.map (·.1):=by simpa using h1
    obtain ⟨⟨_,b⟩,b1,b2⟩:=uM.mp h1
    simp only at b2
    subst b2
    exact ⟨kv,R,_,_,_,rfl,dj.skip b1,M1,nd2,hm2,hr2⟩
  ·obtain ⟨kv,R,s6,s7,s8,rfl,dj,M1,nd2,hm2,hr2⟩:=hp
   rw [List.drop_length] at dj
   exact ⟨m - 1,by lia,kv,R,_,_,_,_,_,_,rfl,dj.drop,nd2,by lia,by lia,hr2,.inl rfl⟩
 ·clear hC
  walk_at "dd"
  have:R=[]:=by
   cases ts with
  |nil=>cases R with
   |nil=>rfl
   |cons _ _=>cases ek
  |cons _ _=>exact absurd rfl h
  rw [this] at dj
  exact q kv dj
theorem zpd:FnScope ["heights", "far", "most"] ["heights", "far"] (zf0 zea):=by walk_at "sc"
theorem zpk (M:Md K mg) (T:TopDef K "raised" zea) (jE:mg "enumerate"=none) (qE:mg "max"=none):Def P w K mg base "raised" 1 ["heights", "far"] (spT K zig):=by
 refine zc5 M T zpd (λ _ _ _ _ _ _ us hl=>by obtain ⟨_,_,rfl⟩:=ar2 hl;rfl) (zci λ as Qd h=>by obtain ⟨_,_,rfl,_⟩:=h;rfl) (zx7 ?_)
 intro f cdv A outer s H E hr
 have nd:=zpd.nd
 refine ⟨_,_,(zd0 (pset 2 nd (zz0 (zcj rfl) rfl qE zns (za0 (zkb (K:=K) rfl PySem.F.plainAttrs_dict PySem.F.slot_dict_values PySem.F.type_dict_values znw (pv 1)) zh0)))
   (zj0 (zi1 (zi4 (sc:=zf0 zea) (N:=["heights", "far", "most"]) (own:=["number", "height"]) (ix:=[2,1]) rfl rfl rfl (by walk_at "csc") (zh7 (K:=K) rfl rfl jE (za0 (pv 0) zh0)) (λ _ _ _ _=>⟨(zd2 (K:=K) (n:=2) rfl rfl (zo0 (pgn 0 (nds ["number", "height", "most", "far"])) (zo0 (pgn 1 (nds ["number", "height", "most", "far"])) zb2))),zg3,(zo1 (zq1 (K:=K) rfl) (pv 1) (zt3 (K:=K) rfl PySem.F.plainAttrs_dict PySem.F.slot_dict_get PySem.F.type_dict_get (zir (Room.units hr)) (pv 3) (za0 (pv 0) (za0 (pv 2) zh0))))⟩))))),(zk0 (zd1 (zgv (zq0 1)) (rgn 2))
   (zr2 (RfE.c (RfF.e (zu2 (zpa (zv0 (zb0 0) zt1)) (zq4 (zp0 (zc1 (i:=0) (n:=2) (by decide)) (zp0 (zc1 (i:=1) (n:=2) (by decide)) ze2))) zf5 (zr0 zla (zb0 1) (RfE.v (zbw (zq0 3) (zg0 0) (zg0 2))))))))),?_⟩
 rintro as Qd a ⟨h,kv,rfl,hh,hk,q⟩
 walk_at "ds"
 refine ze0 λ J hJ=>?_
 walk_at "dd"
 refine ⟨_,kv.map (·.2),rfl,by unfold kvD;rw [vC,vC];rfl,λ z=>hk (x6.mp z),λ M hM hx=>hJ _ ?_⟩
 clear hJ
 have q:=q M hM λ q hq=>hx _ (uM.mpr ⟨q,hq,rfl⟩)
 walk_at "dd"
 rw [za4]
 refine ztj (λ p:Nat×Int=>.int (p.2+(lk kv p.1).getD M)) (by rw [sizeLine_eq,wV];lia) (λ p hp=>?_) ?_
 ·walk_at "cs"
  walk_at "dd"
  rw [znu]
 ·rw [zkh (n:=h.length) (f:=λ v=>fx h v+(lk kv v).getD M) (by rw [wV]) λ i y e=>?_]
  ·exact q
  rw [xO] at e
  obtain ⟨z,hz,rfl⟩:=u6.mp e
  unfold fx
  rw [hz];rfl
end
def lst (l:List Int) (p:Int->Bool):List Nat:=(uL l.length).filter λ k=>p (fx l k)
theorem zyf (l:List Int):(l.mapIdx λ i x=>(i,x))=(uL l.length).map λ k=>(k,fx l k):=by
 refine yA (by simp) λ i h1 h2=>?_
 have hi:i < l.length:=by simpa using h1
 rw [List.getElem_mapIdx,yB,wU]
 unfold fx
 rw [uB hi];rfl
theorem idxF {β:Type} (l:List Int) (p:Int->Bool) (g:Nat->Int->β):(l.mapIdx λ i x=>(i,x)).filterMap (λ q=>if p q.2=true then some (g q.1 q.2) else none)=(lst l p).map λ k=>g k (fx l k):=by
 rw [zyf,yL]
 unfold lst
 induction uL l.length with
|nil=>rfl
|cons k r ih =>
  by_cases c:p (fx l k)=true
  ·rw [List.filterMap_cons_some (b:=g k (fx l k)) (by simp [c]),yV (p:=λ k=>p (fx l k)) c,uK,ih]
  ·rw [List.filterMap_cons_none (by simp [c]),x8 (p:=λ k=>p (fx l k)) c,ih]
theorem zhd {l:List Int} {p:Int->Bool} {k:Nat}:k∈lst l p ↔ k < l.length/\p (fx l k)=true:=by unfold lst;rw [yH,wD]
theorem zfn (l:List Int) (p:Int->Bool):(lst l p).Nodup:=List.Nodup.sublist List.filter_sublist List.nodup_range
theorem zmd (l:List Int) (p:Int->Bool):(lst l p).length<=l.length:=by
 have:=zJ (λ k=>p (fx l k)) (uL l.length)
 rw [vV] at this;exact this
theorem zq31 {A:List Ar} {k:Nat} (h:k < A.length):atI (A.map dAr) (k:Int)=some (dAr (aU A k,aV A k,zf1 A k)):=zv8 (by
 unfold aU aV zf1
 rw [uI,uB h];rfl)
def zgh:DSp:=λ ds Q=>∃ (n:Nat) (A:List Ar) (s x o:List Int),ds=[nI n,zr8 A,iL s,iL x,iL o]/\n<=60/\A.length<=1000/\A.length=s.length/\A.length=x.length/\o.length=n/\(∀ a∈A,ArOk n a)/\within A.length (zf1 A) (fx x)/\∀ x',Ev n A s x o x'->Q (iL x')
section
variable {P:Program} {w:World} {K:Fg} {mg:Str->Option Value} {base:Heap} {jA:Addr}
theorem zwd:FnScope ["count", "arcs", "slacks", "amounts", "over", "level", "ends", "begun", "moved", "told", "number", "amount"] ["count", "arcs", "slacks", "amounts", "over"] (zf0 zl3):=by walk_at "sc"
theorem zqi (M:Md K mg) (T:TopDef K "evened" zl3) (jE:mg "enumerate"=none) (jJ:mg "len"=none) (jI:mg "list"=none) (jY:mg "zip"=none) (kR:DefN P w K mg base "greatest" 4 ["count", "arcs", "source", "sink", "flow"] (spD K zxa)):Def P w K mg base "evened" 5 ["count", "arcs", "slacks", "amounts", "over"] (spD K zgh):=by
 refine zc5 M T zwd (λ _ _ _ _ _ _ us hl=>by obtain ⟨_,_,_,_,_,rfl⟩:=ar5 hl;rfl) (zef λ ds Qd h=>by obtain ⟨_,_,_,_,_,rfl,_⟩:=h;rfl) (zp5 ?_)
 intro f cdv A outer s H E hr
 have nd:=zwd.nd
 refine ⟨_,_,(zd0 (zs2 (i:=5) (sc:=zf0 zl3) (N:=["count", "arcs", "slacks", "amounts", "over", "level", "ends", "begun", "moved", "told", "number", "amount"]) (own:=["number", "slack"]) (ix:=[]) rfl rfl rfl (by walk_at "csc") nd rfl rfl (zh7 (K:=K) rfl rfl jE (za0 (pv 2) zh0)) (λ _ _ _ _=>⟨(zd2 (K:=K) (n:=2) rfl rfl (zo0 (pgn 0 (nds ["number", "slack"])) (zo0 (pgn 1 (nds ["number", "slack"])) zb2))),(zrd (zy0 (zfv (K:=K) rfl (Room.units hr)) (pv 1) zl0 (zi2 _))),(pv 0)⟩))
   (zd0 (zs2 (i:=6) (sc:=zf0 zl3) (N:=["count", "arcs", "slacks", "amounts", "over", "level", "ends", "begun", "moved", "told", "number", "amount"]) (own:=["number", "extra"]) (ix:=[0]) rfl rfl rfl (by walk_at "csc") nd rfl rfl (zh7 (K:=K) rfl rfl jE (za0 (pv 4) zh0)) (λ _ _ _ _=>⟨(zd2 (K:=K) (n:=2) rfl rfl (zo0 (pgn 0 (nds ["number", "extra", "count"])) (zo0 (pgn 1 (nds ["number", "extra", "count"])) zb2))),(zrd (zy0 zbp (pv 1) zl0 (zi2 _))),(zd5 (za0 (pv 2) (za0 (pv 0) (za0 (pv 1) zh0))))⟩))
   (zd0 (zr1 (zt3 (K:=K) rfl PySem.F.plainAttrs_list PySem.F.slot_list_extend PySem.F.type_list_extend (zg7 (K:=K) rfl) (pv 6) (za0 (zi4 (sc:=zf0 zl3) (N:=["count", "arcs", "slacks", "amounts", "over", "level", "ends", "begun", "moved", "told", "number", "amount"]) (own:=["number", "extra"]) (ix:=[0]) rfl rfl rfl (by walk_at "csc") (zh7 (K:=K) rfl rfl jE (za0 (pv 4) zh0)) (λ _ _ _ _=>⟨(zd2 (K:=K) (n:=2) rfl rfl (zo0 (pgn 0 (nds ["number", "extra", "count"])) (zo0 (pgn 1 (nds ["number", "extra", "count"])) zb2))),(zrd (zy0 zmp (pv 1) zl0 (zi2 _))),(zd5 (za0 (pv 0) (za0 (zo1 (zq1 (K:=K) rfl) (pv 2) zl0) (za0 (zx31 zvt (pv 1)) zh0))))⟩)) zh0)))
   (zd0 (pset 7 nd (zo1 (zq1 (K:=K) rfl) (zi4 (sc:=zf0 zl3) (N:=["count", "arcs", "slacks", "amounts", "over", "level", "ends", "begun", "moved", "told", "number", "amount"]) (own:=["number"]) (ix:=[3]) rfl rfl rfl (by walk_at "csc") (pi_W (K:=K) rfl (pv 5)) (λ _ _ _ _=>⟨(pgn 0 (nds ["number", "amounts"])),zg3,(pix w K hr (pv 1) (pv 0))⟩)) (zo1 zg5 (zn1 (za0 zl0 zh0)) (zz0 (zy1 (K:=K) rfl) rfl jJ zs9 (za0 (pv 6) zh0)))))
   (zd0 (pset 8 nd (pix w K hr (zt0 kR.d (rmn hr) rfl (za0 (zo1 (zq1 (K:=K) rfl) (pv 0) zl0) (za0 (zo1 (zq1 (K:=K) rfl) (zi4 (sc:=zf0 zl3) (N:=["count", "arcs", "slacks", "amounts", "over", "level", "ends", "begun", "moved", "told", "number", "amount"]) (own:=["number"]) (ix:=[1]) rfl rfl rfl (by walk_at "csc") (pi_W (K:=K) rfl (pv 5)) (λ _ _ _ _=>⟨(pgn 0 (nds ["number", "arcs"])),zg3,(pix w K hr (pv 1) (pv 0))⟩)) (pv 6)) (za0 (pv 0) (za0 (zo1 (zq1 (K:=K) rfl) (pv 0) zl0) (za0 (pv 7) zh0)))))) zl0))
   (zd0 (pset 9 nd (zl2 (zv2 (K:=K) rfl) rfl jI zw5 (za0 (pv 3) zh0)))
   (zd0 (zw4 PassesOwn.never rfl (zoj (K:=K) rfl rfl jY (za0 (pv 5) (za0 (pv 8) zh0))) (zd2 (K:=K) (n:=2) rfl rfl (zo0 (pgn 10 nd) (zo0 (pgn 11 nd) zb2))) (zj0 (zcf (pv 11) (zak (pv 9) (pv 10) (zml (Room.units hr))))))
   (zj0 (zi1 (pv 9)))))))))),(zk0 (zd1 (RfF.e (zu2 (zpa (zv0 (zb0 2) zt1)) (zq4 (zp0 (zc1 (i:=0) (n:=2) (by decide)) (zp0 (zc1 (i:=1) (n:=2) (by decide)) ze2))) (zx0 (zle q_eq (RfV.h (zb0 1)) (RfV.h rvi))) (zg0 0))) (rgn 5))
   (zk0 (zz1 (RfF.c (zu2 (zpa (zv0 (zb0 4) zt1)) (zq4 (zp0 (zc1 (i:=0) (n:=2) (by decide)) (zp0 (zc1 (i:=1) (n:=2) (by decide)) ze2))) (zx0 (zr0 r_gt (zb0 1) rvi)) (zn9 (zc0 (zg0 2) (zc0 (zg0 0) (zc0 (zg0 1) zn0)))))))
   (zk0 (zs1 (zue zqo (zq0 6) (zc0 (RfF.e (zu2 (zpa (zv0 (zb0 4) zt1)) (zq4 (zp0 (zc1 (i:=0) (n:=2) (by decide)) (zp0 (zc1 (i:=1) (n:=2) (by decide)) ze2))) (zx0 (zr0 r_lt (zb0 1) rvi)) (zn9 (zc0 (zg0 0) (zc0 (zr0 zla (zb0 2) rvi) (zc0 (ziw (zg0 1)) zn0)))))) zn0)))
   (zk0 (zd1 (zr0 zla (RfE.v (RfF.e (zu2 (ztm (zb0 5)) (zc1 (i:=0) (n:=1) (by decide)) zf5 (zr0 r_ix (zb0 1) (zb0 0))))) (RfE.v (RfF.e (zaj (zk3 (zc0 zp1 zn0)) (zjf zkk (zv0 (zb0 6) zt1)))))) (rgn 7))
   (zk0 (zd1 (zr0 r_ix (RfE.v (zk1 (zc0 (zr0 zla (zb0 0) rvi) (zc0 (zr0 zla (RfE.v (RfF.e (zu2 (ztm (zb0 5)) (zc1 (i:=0) (n:=1) (by decide)) zf5 (zr0 r_ix (zb0 1) (zb0 0))))) (zb0 6)) (zc0 (zg0 0) (zc0 (zr0 zla (zb0 0) rvi) (zc0 (zg0 7) zn0))))))) rvi) (rgn 8))
   (zk0 (zz1 (RfF.c (zyp zme (zv0 (zb0 3) zt1))))
   (zk0 (zz4 (zeu (zc0 (zg0 5) (zc0 (zg0 8) zn0))) (zq4 (zp0 (rgn 10) (zp0 (rgn 11) ze2))) (zwi (zg0 11) (zq0 9) (zg0 10)))
   (zi5 (i:=9))))))))),?_⟩
 rintro ds Qd ⟨n,A,s,x,o,rfl,hn,hA,hs,hx,ho,ok,wx,q⟩
 walk_at "ds"
 refine ze0 λ J hJ=>?_
 walk_at "dd"
 rw [za4]
 refine zyu (λ q:Nat×Int=>if decide (q.2=0)=true then some (uC (q.1:Int)) else none) (by rw [sizeLine_eq,wV];lia) (λ q hq=>?_) (hJ _ ?_)
 ·walk_at "cs"
  walk_at "dd"
  exact two (λ h=>by rw [if_pos h]) λ h=>by rw [if_neg h]
 clear hJ
 rw [idxF s (λ z=>decide (z=0)) λ k _=>uC (k:Int)]
 have hlv:=λ k=>zhd (l:=s) (p:=λ z=>decide (z=0)) (k:=k)
 have nlv:=zfn s λ z=>decide (z=0)
 have llv:=zmd s λ z=>decide (z=0)
 generalize lst s (λ z=>decide (z=0))=lv at hlv nlv llv ⊢
 refine ze0 λ J hJ=>?_
 walk_at "dd"
 rw [za4]
 refine zyu (λ q:Nat×Int=>if decide (0 < q.2)=true then some (vU [.int (n:Int),.int (q.1:Int),.int q.2]) else none) (by rw [sizeLine_eq,wV];lia) (λ q hq=>?_) (hJ _ ?_)
 ·walk_at "cs"
  walk_at "dd"
  exact two (λ h=>by rw [if_pos h]) λ h=>by rw [if_neg h]
 clear hJ
 rw [idxF o (λ z=>decide (0 < z)) λ k z=>vU [.int (n:Int),.int (k:Int),.int z]]
 have hst:=λ k=>zhd (l:=o) (p:=λ z=>decide (0 < z)) (k:=k)
 have nst:=zfn o λ z=>decide (0 < z)
 have lst':=zmd o λ z=>decide (0 < z)
 generalize lst o (λ z=>decide (0 < z))=st at hst nst lst' ⊢
 refine ze0 λ J hJ=>?_
 walk_at "dd"
 rw [za4]
 refine zyu (λ q:Nat×Int=>if decide (q.2 < 0)=true then some (vU [.int (q.1:Int),.int (n+1:Nat),.int (-q.2)]) else none) (by rw [sizeLine_eq,wV];lia) (λ q hq=>?_) ?_
 ·walk_at "cs"
  walk_at "dd"
  exact two (λ h=>by rw [if_pos h];rfl) λ h=>by rw [if_neg h]
 rw [idxF o (λ z=>decide (z < 0)) λ k z=>vU [.int (k:Int),.int (n+1:Nat),.int (-z)]]
 have hdn:=λ k=>zhd (l:=o) (p:=λ z=>decide (z < 0)) (k:=k)
 have ndn:=zfn o λ z=>decide (z < 0)
 have ldn:=zmd o λ z=>decide (z < 0)
 generalize lst o (λ z=>decide (z < 0))=dn at hdn ndn ldn ⊢
 refine ⟨by rw [uA,uA];lia,hJ _ ?_⟩
 clear hJ
 have ee:st.map (λ k:Nat=>vU [uC (n:Int),uC (k:Int),uC (fx o k)])++dn.map (λ k:Nat=>vU [uC (k:Int),uC (n+1:Nat),uC (-fx o k)])=(st.map (λ v=>((n,v,fx o v):Ar))++dn.map λ v=>(v,n+1,-fx o v)).map dAr:=by rw [uJ,vC,vC];rfl
 rw [ee]
 refine ze0 λ J hJ=>?_
 walk_at "dd"
 refine ztj (λ k:Nat=>.int (fx x k)) (by rw [sizeLine_eq];lia) (λ k hk=>?_) ?_
 ·walk_at "cs"
  walk_at "dd"
  exact ⟨_,zj9 (by have:=(hlv k).mp hk;lia),rfl⟩
 have el:((st.map (λ v=>((n,v,fx o v):Ar))++dn.map λ v=>(v,n+1,-fx o v)).map dAr).length=st.length+dn.length:=by rw [uA,vA,uA,uA]
 rw [el,u4,rep0,uA,uA,wP,show lv.map (λ k=>uC (fx x k))++(uP (st.length+dn.length) (0:Int)).map uC=(eF x lv (st.length+dn.length)).map uC by unfold eF;rw [uJ,vC];rfl]
 refine ⟨by lia,by lia,by lia,by lia,hJ _ ?_⟩
 clear hJ
 refine ze0 λ J hJ=>?_
 walk_at "dd"
 refine ztj (λ k:Nat=>dAr (aU A k,aV A k,zf1 A k)) (by rw [sizeLine_eq];lia) (λ k hk=>?_) ?_
 ·walk_at "cs"
  walk_at "dd"
  exact ⟨_,zq31 (by have:=(hlv k).mp hk;lia),rfl⟩
 rw [el,uA,show lv.map (λ k=>dAr (aU A k,aV A k,zf1 A k))++(st.map (λ v=>((n,v,fx o v):Ar))++dn.map λ v=>(v,n+1,-fx o v)).map dAr=(eA n A lv st dn o).map dAr by unfold eA;rw [uJ (l₁:=lv.map _),vC];rfl]
 have ok':∀ k,k < A.length->aU A k < n/\aV A k < n:=λ k hk=>by
  have e:A[k]?=some A[k]:=uB hk
  unfold aU aV
  rw [e]
  have:=ok _ (vW hk)
  exact ⟨this.1,this.2.1⟩
 have eN:(eA n A lv st dn o).length=lv.length+(st.length+dn.length):=by unfold eA;simp
 refine ⟨by lia,n+2,eA n A lv st dn o,n,n+1,_,eF x lv (st.length+dn.length),rfl,.inr rfl,by rw [eN];unfold eF;simp,by lia,by lia,zo61 (λ k hk=>by have:=(hlv k).mp hk;lia) (λ k hk=>by have:=(hst k).mp hk;lia) (λ k hk=>by have:=(hdn k).mp hk;lia) ok',zq61 (λ k hk=>by have:=(hlv k).mp hk;lia) (λ k hk=>of_decide_eq_true ((hst k).mp hk).2) (λ k hk=>of_decide_eq_true ((hdn k).mp hk).2) wx,by lia,by lia,by lia,λ L side best=>⟨_,rfl,hJ _ ?_⟩⟩
 clear hJ
 refine ze0 λ J hJ=>?_
 walk_at "dd"
 refine hJ _ ?_
 clear hJ
 refine ze0 λ J hJ=>?_
 refine zq2 λ B hB=>?_
 walk_at "dd"
 rw [zl9]
 generalize vG ((uL (eA n A lv st dn o).length).map λ k=>uC (lf L (2 * k+1)))=d8
 generalize vG ((eF x lv (st.length+dn.length)).map uC)=d7
 generalize _4.T.li ((st.map (λ v=>((n,v,fx o v):Ar))++dn.map λ v=>(v,n+1,-fx o v)).map dAr)=t6
 have lz:(lv.zip (uL (eA n A lv st dn o).length)).length=lv.length:=by rw [wO,vV,eN];lia
 have lg:∀ j,(h:j < lv.length)->lv.getD j 0=lv[j]:=λ j h=>by rw [uQ,uB h];rfl
 refine zz2 (λ i U=>∃ (T:List Int) (s10 s11:Sl),U=[Sl.sh (.int (n:Int)),.sh (zr8 A),.sh (iL s),.sh (iL x),.sh (iL o),.sh (.list (lv.map λ k:Nat=>uC (k:Int))),.ow t6,.sh d7,.sh d8,.ow (.li (T.map .int)),s10,s11]/\T.length=A.length/\(∀ j,j < lv.length->fx T (lv.getD j 0)=if j < i then lf L (2 * j+1) else fx x (lv.getD j 0))/\∀ k,k ∉ lv->fx T k=fx x k) ⟨x,_,_,rfl,hx.symm,λ j hj=>by rw [if_neg (by lia)],λ k _=>rfl⟩ (λ i p U hi hp=>?_) λ U hp=>?_
 ·obtain ⟨T,s10,s11,rfl,hT,t1,t2⟩:=hp
  obtain ⟨i1,i2⟩:=uZ.mp hi
  rw [lz] at i1
  rw [yZ,wU] at i2
  subst i2
  have hk:=(hlv _).mp (vW i1)
  walk_at "dd"
  refine hB _ _ ?_
  clear hB
  walk_at "dd"
  refine ⟨lv[i],zzb (by rw [uA];lia),?_⟩
  rw [zfb]
  refine ⟨T.set lv[i] (lf L (2 * i+1)),_,_,rfl,by rw [uW];exact hT,λ j hj=>?_,λ k hk'=>?_⟩
  ·rw [zse (by lia)]
   by_cases e:j=i
   ·subst e;rw [lg j hj,if_pos rfl,if_pos (by lia)]
   ·have ne:¬ lv.getD j 0=lv[i]:=λ z=>by
     rw [lg j hj] at z
     exact e ((xT nlv).mp z)
    rw [if_neg ne,t1 j hj]
    by_cases c:j < i
    ·rw [if_pos c,if_pos (by lia)]
    ·rw [if_neg c,if_neg (by lia)]
  ·rw [zse (by lia),if_neg (show ¬k=lv[i] from λ z=>hk' (by rw [z];exact vW i1))];exact t2 k hk'
 ·obtain ⟨T,s10,s11,rfl,hT,t1,t2⟩:=hp
  rw [lz] at t1
  refine hJ _ ?_
  clear hJ hB
  walk_at "dd"
  refine q T (zj51 (λ k=>?_) nlv (λ v=>?_) nst (λ v=>?_) ndn ok' wx best hT (λ j hj=>(t1 j hj).trans (if_pos hj)) t2)
  ·rw [hlv,<- hs];simp
  ·rw [hst,ho];simp
  ·rw [hdn,ho];simp
end
def Fit (A:List Ar) (s x:Nat->Int):Prop:=∀ k,k < A.length->(x k < zf1 A k->0<=s k)/\(0 < x k->s k<=0)
theorem zdt:∀ {kv:Kv} {v:Nat} {b:Int},(kv.map (·.1)).Nodup->(v,b)∈kv->lk kv v=some b
|q :: r,v,b,nd,h=>by
  obtain ⟨n1,n2⟩:=uU.mp nd
  unfold lk
  rcases uE.mp h with z|z
  ·subst z;rw [yD (by simp)];rfl
  ·have ne:¬ q.1=v:=λ y=>n1 (by show q.1∈_;rw [y];exact uM.mpr ⟨_,z,rfl⟩)
   rw [xA (by simp [ne])]
   exact zdt n2 z
theorem zmg {kv:Kv} {v:Nat} {b:Int} (h:lk kv v=some b):(v,b)∈kv:=by
 unfold lk at h
 obtain ⟨q,q1,q2⟩:=u6.mp h
 have e:q.1=v:=of_decide_eq_true (p:=q.1=v) (by simpa using List.find?_some q1)
 have m:=zP q1
 obtain ⟨q1,q2'⟩:=q
 simp only at e q2
 subst e q2;exact m
def dsn (kv:Kv) (M:Int) (v:Nat):Int:=(lk kv v).getD M
section
variable {n:Nat} {A:List Ar} {s x:List Int} {W:List (List Wy)} {S:List Nat} {kv:Kv} {M:Int}
theorem zug (dj:DJ n W (wAt W) S kv []) {u:Nat} {a:Int} {p:Wy} (hu:(u,a)∈kv) (hp:p∈wAt W u):∃ b,lk kv p.1=some b/\b<=a+p.2:=by
 rcases dj.cl _ hu p hp with ⟨b,b1,b2⟩|⟨_,_,z,_⟩
 ·exact ⟨b,zdt dj.nd b1,b2⟩
 ·simp at z
theorem zq01 (dj:DJ n W (wAt W) S kv []) (hM:0<=M) (v:Nat):0<=dsn kv M v:=by
 unfold dsn
 cases e:lk kv v with
|none=>exact hM
|some b=>exact (dj.nn _ (zmg e)).2
theorem zuo (hM:∀ q∈kv,q.2<=M) (v:Nat):dsn kv M v<=M:=by
 unfold dsn
 cases e:lk kv v with
|none=>exact vH _
|some b=>exact hM _ (zmg e)
theorem zmj (hw:Wok n A.length A s x W) (dj:DJ n W (wAt W) S kv []) (hM:∀ q∈kv,q.2<=M) (ft:Fit A (fx s) (fx x)):Fit A (λ k=>fx s k+dsn kv M (aU A k) - dsn kv M (aV A k)) (fx x):=λ k hk=>by
 obtain ⟨f1,f2⟩:=ft k hk
 have lU:=zuo hM (aU A k)
 have lV:=zuo hM (aV A k)
 refine ⟨λ h=>?_,λ h=>?_⟩
 ·have f1:=f1 h
  show 0<=fx s k+dsn kv M (aU A k) - dsn kv M (aV A k)
  cases e:lk kv (aU A k) with
 |none =>
   have:dsn kv M (aU A k)=M:=by unfold dsn;rw [e];rfl
   lia
 |some a =>
   obtain ⟨b,b1,b2⟩:=zug dj (zmg e) ((hw.iff _ (aV A k,fx s k)).mpr ⟨k,hk,.inl ⟨rfl,rfl,h⟩⟩)
   have e1:dsn kv M (aU A k)=a:=by unfold dsn;rw [e];rfl
   have e2:dsn kv M (aV A k)=b:=by unfold dsn;rw [b1];rfl
   simp only at b2
   lia
 ·have f2:=f2 h
  show fx s k+dsn kv M (aU A k) - dsn kv M (aV A k)<=0
  cases e:lk kv (aV A k) with
 |none =>
   have:dsn kv M (aV A k)=M:=by unfold dsn;rw [e];rfl
   lia
 |some a =>
   obtain ⟨b,b1,b2⟩:=zug dj (zmg e) ((hw.iff _ (aU A k,-fx s k)).mpr ⟨k,hk,.inr ⟨rfl,rfl,h⟩⟩)
   have e1:dsn kv M (aV A k)=a:=by unfold dsn;rw [e];rfl
   have e2:dsn kv M (aU A k)=b:=by unfold dsn;rw [b1];rfl
   simp only at b2
   lia
theorem ze71 {g h:Nat->Int} {m:Nat} (h1:∀ k,k < m->g k<=h k) (h2:∃ k,k < m/\g k < h k):sm m g < sm m h:=by
 have le:=zif h1
 obtain ⟨k,k1,k2⟩:=h2
 rcases Int.lt_or_eq_of_le le with z|z
 ·exact z
 ·have:=zl5 h1 z k k1;lia
theorem zcv {m n:Nat} {eu ev:Nat->Nat} (x:Nat->Int) (ok:∀ k,k < m->eu k < n/\ev k < n):((uL n).map (bl m eu ev x)).sum=0:=by
 rw [<- zm5 _ _ _ _ List.nodup_range]
 unfold flux
 rw [<- zi3 m]
 refine zb1 λ k hk=>?_
 obtain ⟨a,b⟩:=ok k hk
 rw [if_pos (wD.mpr b),if_pos (wD.mpr a)];lia
theorem zar (W:List (List Wy)) (ks:List Nat):∀ n,n<=W.length->lft W ks n<=((W.take n).map u8).sum
|0,_=>by simp [lft]
|n+1,h=>by
  have ih:=zar W ks n (by lia)
  have e:W[n]?=some W[n]:=uB (by lia)
  have w:wAt W n=W[n]:=by unfold wAt;rw [e];rfl
  rw [wM,e,uJ,wS]
  unfold lft
  rw [w]
  have:(yC u8 (some W[n]).toList).sum=W[n].length:=by simp
  rw [this]
  split <;> lia
theorem zhn {f g:Nat->Int}:∀ {l:List Nat},(∀ t∈l,f t<=g t)->(∃ t∈l,f t < g t)->(l.map f).sum < (l.map g).sum
|[],_,⟨t,h,_⟩=>by simp at h
|a :: r,h1,h2=>by
  have ha:=h1 a (by simp)
  have hr:∀ t∈r,f t<=g t:=λ t ht=>h1 t (by simp [ht])
  have le:∀ l:List Nat,(∀ t∈l,f t<=g t)->(l.map f).sum<=(l.map g).sum:=λ l=>by
   induction l with
  |nil=>intro _;simp
  |cons b l ih=>intro h;have:=ih λ t ht=>h t (by simp [ht]);have:=h b (by simp);simp only [uK,wT];lia
  have hl:=le r hr
  simp only [uK,wT]
  obtain ⟨t,t1,t2⟩:=h2
  rcases uE.mp t1 with z|z
  ·subst z;lia
  ·have:=zhn hr ⟨t,z,t2⟩;lia
theorem zik {x0 o:List Int} (hw:Wok n A.length A s x W) (dj:DJ n W (wAt W) S kv []) (wx:within A.length (zf1 A) (fx x)) (w0:within A.length (zf1 A) (fx x0)) (ho:∀ v,v < n->fx o v=bl A.length (aU A) (aV A) (fx x) v - bl A.length (aU A) (aV A) (fx x0) v) (hS:∃ t∈S,0 < fx o t):∃ t,t∈kv.map (·.1)/\fx o t < 0:=by
 refine Classical.byContradiction λ no=>?_
 have way:∀ {u:Nat} {p:Wy},u∈kv.map (·.1)->p∈wAt W u->p.1∈kv.map (·.1):=λ {u p} hu hp=>by
  obtain ⟨⟨u',a⟩,a1,a2⟩:=uM.mp hu
  simp only at a2
  subst a2
  obtain ⟨b,b1,_⟩:=zug dj a1 hp
  exact uM.mpr ⟨_,zmg b1,rfl⟩
 have tg:tight A.length (aU A) (aV A) (zf1 A) (fx x) (kv.map (·.1)):=λ k hk=>by
  have:=wx k hk
  refine ⟨λ h1 h2=>Classical.byContradiction λ z=>h2 ?_,λ h1 h2=>Classical.byContradiction λ z=>h2 ?_⟩
  ·exact way h1 ((hw.iff _ (aV A k,fx s k)).mpr ⟨k,hk,.inl ⟨rfl,rfl,by lia⟩⟩)
  ·exact way h1 ((hw.iff _ (aU A k,-fx s k)).mpr ⟨k,hk,.inr ⟨rfl,rfl,by lia⟩⟩)
 have le:=zzv tg w0
 rw [zm5 _ _ _ _ dj.nd,zm5 _ _ _ _ dj.nd] at le
 have bd:∀ t∈kv.map (·.1),t < n:=λ t ht=>by obtain ⟨q,q1,rfl⟩:=uM.mp ht;exact (dj.nn q q1).1
 have:=zhn (f:=bl A.length (aU A) (aV A) (fx x0)) (g:=bl A.length (aU A) (aV A) (fx x)) (l:=kv.map (·.1)) (λ t ht=>by
  have h1:=ho t (bd t ht)
  have h2:¬ fx o t < 0:=λ z=>no ⟨t,ht,z⟩
  lia) (by
  obtain ⟨t,t1,t2⟩:=hS
  have tm:t∈kv.map (·.1):=by
   rcases dj.st t t1 with z|⟨_,z,_⟩
   ·exact uM.mpr ⟨_,z,rfl⟩
   ·simp at z
  have h1:=ho t (bd t tm)
  exact ⟨t,tm,by lia⟩)
 lia
theorem zfo {s':Nat->Int} {side:List Nat} (hw:Wok n A.length A s x W) (dj:DJ n W (wAt W) S kv []) (hs':∀ k,k < A.length->s' k=fx s k+dsn kv M (aU A k) - dsn kv M (aV A k)) (h0:∀ t∈S,t∈side)
  (cl:∀ k,k < A.length->s' k=0->(aU A k∈side->fx x k < zf1 A k->aV A k∈side)/\(aV A k∈side->0 < fx x k->aU A k∈side)):∀ (j:Nat) v b,kv[j]?=some (v,b)->v∈side:=by
 intro j
 induction j using Nat.strongRecOn with
|_ j ih =>
  intro v b e
  rcases dj.pr j v b e with ⟨z,_⟩|⟨i,u,a,t,i1,i2,i3,i4⟩
  ·exact h0 v z
  ·have hu:=ih i i1 u a i2
   have du:dsn kv M u=a:=by unfold dsn;rw [zdt dj.nd (vI i2)];rfl
   have dv:dsn kv M v=b:=by unfold dsn;rw [zdt dj.nd (vI e)];rfl
   obtain ⟨k,hk,st⟩:=(hw.iff u (v,t)).mp i3
   have hs:=hs' k hk
   rcases st with ⟨z1,z2,z3⟩|⟨z1,z2,z3⟩
   ·injection z2 with z2 z4
    subst z1 z2 z4
    exact (cl k hk (by lia)).1 hu z3
   ·injection z2 with z2 z4
    subst z1 z2 z4
    exact (cl k hk (by lia)).2 hu z3
end
theorem zey {a b:Nat} (h:a<=b):(2:Int) ^ a<=2 ^ b:=by
 have:=Nat.pow_le_pow_right (n:=2) (by lia) h
 exact_mod_cast this
theorem zgc (c:Int):∀ m:Nat,sm m (λ _=>c)=m * c
|0=>by simp [sm]
|m+1=>by rw [zv1,zgc c m,Int.natCast_add,zA];simp
theorem zrh {m:Nat} {eu ev:Nat->Nat} {cap x:Nat->Int} (w:within m cap x) (v:Nat):bl m eu ev x v<=sm m cap/\-sm m cap<=bl m eu ev x v:=by
 unfold bl
 rw [<- zuv]
 refine ⟨zif λ k hk=>?_,zif λ k hk=>?_⟩
 ·have:=w k hk
  unfold trm;split <;> split <;> lia
 ·have:=w k hk
  show -cap k<=_
  unfold trm;split <;> split <;> lia
theorem zfs {n:Nat} {A:List Ar} {s x p h:List Int} {W:List (List Wy)} {S:List Nat} {kv:Kv} {H Pb:Int} (hw:Wok n A.length A s x W) (dj:DJ n W (wAt W) S kv []) (hs:∀ k,k < A.length->fx s k=fx h (aU A k)+fx p k - fx h (aV A k)) (hP:∀ k,k < A.length->-Pb<=fx p k/\fx p k<=Pb) (P0:0<=Pb) (hS:∀ v∈S,fx h v<=H):∀ (j:Nat) v b,kv[j]?=some (v,b)->fx h v+b<=H+j * Pb:=by
 intro j
 induction j using Nat.strongRecOn with
|_ j ih =>
  intro v b e
  rcases dj.pr j v b e with ⟨z1,z⟩|⟨i,u,a,t,i1,i2,i3,i4⟩
  ·have:=hS v z1
   have:0<=(j:Int) * Pb:=zB (by lia) P0
   lia
  ·have h1:=ih i i1 u a i2
   have h3:((i:Int)+1) * Pb<=j * Pb:=wB (by lia) P0
   rw [zA,Int.one_mul] at h3
   obtain ⟨k,hk,st⟩:=(hw.iff u (v,t)).mp i3
   have h4:=hs k hk
   have h5:=hP k hk
   rcases st with ⟨z1,z2,z3⟩|⟨z1,z2,z3⟩
   ·injection z2 with z2 z4
    subst z1 z2 z4
    lia
   ·injection z2 with z2 z4
    subst z1 z2 z4
    lia
def blA (A:List Ar) (x:List Int) (v:Nat):Int:=bl A.length (aU A) (aV A) (fx x) v
def zna:DSp:=λ ds Q=>∃ (n:Nat) (A:List Ar) (p x0 h0:List Int) (T:Nat) (H Pb:Int),ds=[nI n,zr8 A,iL p,iL x0,iL h0]/\n<=60/\A.length<=1000/\A.length=p.length/\A.length=x0.length/\h0.length=n/\(∀ a∈A,ArOk n a)/\within A.length (zf1 A) (fx x0)/\(∀ k,k < A.length->-Pb<=fx p k/\fx p k<=Pb)/\0<=Pb/\0<=H/\(∀ v,v < n->0<=fx h0 v/\fx h0 v<=H)/\120 * sm A.length (zf1 A)<=(T:Int) /\
 ∀ x h,(∀ v,v < n->0<=fx h v/\fx h v<=((T:Int)+1) * (H+60 * Pb))->x.length=A.length->h.length=n->within A.length (zf1 A) (fx x)->Fit A (slk A p h) (fx x)->(∀ v,v < n->blA A x v=blA A x0 v)->Q (.tuple [iL x,iL h])
section
variable {P:Program} {w:World} {K:Fg} {mg:Str->Option Value} {base:Heap} {jA:Addr}
theorem zl8:FnScope ["count", "arcs", "prices", "amounts", "heights", "wanted", "slacks", "told", "over", "starts"] ["count", "arcs", "prices", "amounts", "heights"] (zf0 zy4):=by walk_at "sc"
theorem zbf (M:Md K mg) (T:TopDef K "repaired" zy4) (qO:mg "any"=none) (jE:mg "enumerate"=none) (jT:Def P w K mg base "balances" 1 ["count", "arcs", "amounts"] (spD K zs6)) (qB:Def P w K mg base "beyond" 2 ["count", "arcs", "amounts", "wanted"] (spD K zsh)) (kF:Def P w K mg base "slacks_of" 1 ["arcs", "prices", "heights"] (spD K zq8)) (qG:Def P w K mg base "fitted" 1 ["arcs", "slacks", "amounts"] (spD K zzf)) (kS:Def P w K mg base "ways_out" 1 ["count", "arcs", "slacks", "amounts"] (spD K zta)) (kK:Def P w K mg base "distances" 1 ["ways", "starts"] (spT K zt8)) (qH:Def P w K mg base "raised" 1 ["heights", "far"] (spT K zig)) (qI:Def P w K mg base "evened" 5 ["count", "arcs", "slacks", "amounts", "over"] (spD K zgh)):Def P w K mg base "repaired" 6 ["count", "arcs", "prices", "amounts", "heights"] (spD K zna):=by
 refine zc5 M T zl8 (λ _ _ _ _ _ _ us hl=>by obtain ⟨_,_,_,_,_,rfl⟩:=ar5 hl;rfl) (zef λ ds Qd h=>by obtain ⟨_,_,_,_,_,_,_,_,rfl,_⟩:=h;rfl) (zp5 ?_)
 intro f cdv A outer s H E hr
 have nd:=zl8.nd
 refine ⟨_,_,(zd0 (pset 5 nd (zt0 jT (rmn hr) rfl (za0 (pv 0) (za0 (pv 1) (za0 (pv 3) zh0)))))
   (zd0 (pset 6 nd (zt0 kF (rmn hr) rfl (za0 (pv 1) (za0 (pv 2) (za0 (pv 4) zh0)))))
   (zd0 (pset 7 nd (zt0 qG (rmn hr) rfl (za0 (pv 1) (za0 (pv 6) (za0 (pv 3) zh0)))))
   (zd0 (pset 8 nd (zt0 qB (rmn hr) rfl (za0 (pv 0) (za0 (pv 1) (za0 (pv 7) (za0 (pv 5) zh0))))))
   (zd0 (zo4 PassesOwn.never (zq3 (K:=K) rfl (zz0 (zso (K:=K) rfl rfl) rfl qO zyz (za0 (pv 8) zh0)) (λ _=>rfl)) (zd0 (zs2 (i:=9) (sc:=zf0 zy4) (N:=["count", "arcs", "prices", "amounts", "heights", "wanted", "slacks", "told", "over", "starts"]) (own:=["number", "extra"]) (ix:=[]) rfl rfl rfl (by walk_at "csc") nd rfl rfl (zh7 (K:=K) rfl rfl jE (za0 (pv 8) zh0)) (λ _ _ _ _=>⟨(zd2 (K:=K) (n:=2) rfl rfl (zo0 (pgn 0 (nds ["number", "extra"])) (zo0 (pgn 1 (nds ["number", "extra"])) zb2))),(zrd (zy0 zbp (pv 1) zl0 (zi2 _))),(pv 0)⟩))
   (zd0 (pset 4 nd (zt0 qH (rmn hr) rfl (za0 (pv 4) (za0 (zt0 kK (rmn hr) rfl (za0 (zt0 kS (rmn hr) rfl (za0 (pv 0) (za0 (pv 1) (za0 (pv 6) (za0 (pv 7) zh0))))) (za0 (pv 9) zh0))) zh0))))
   (zd0 (pset 6 nd (zt0 kF (rmn hr) rfl (za0 (pv 1) (za0 (pv 2) (za0 (pv 4) zh0)))))
   (zd0 (pset 7 nd (zt0 qI (rmn hr) rfl (za0 (pv 0) (za0 (pv 1) (za0 (pv 6) (za0 (pv 7) (za0 (pv 8) zh0)))))))
   (zj0 (pset 8 nd (zt0 qB (rmn hr) rfl (za0 (pv 0) (za0 (pv 1) (za0 (pv 7) (za0 (pv 5) zh0))))))))))))
   (zj0 (zi1 (zd5 (za0 (pv 7) (za0 (pv 4) zh0)))))))))),(zk0 (zd1 (zk1 (zc0 (zg0 0) (zc0 (zg0 1) (zc0 (zg0 3) zn0)))) (rgn 5))
   (zk0 (zd1 (zk1 (zc0 (zg0 1) (zc0 (zg0 2) (zc0 (zg0 4) zn0)))) (rgn 6))
   (zk0 (zd1 (zk1 (zc0 (zg0 1) (zc0 (zg0 6) (zc0 (zg0 3) zn0)))) (rgn 7))
   (zk0 (zd1 (zk1 (zc0 (zg0 0) (zc0 (zg0 1) (zc0 (zg0 7) (zc0 (zg0 5) zn0))))) (rgn 8))
   (zk0 (zn4 (zb8 (RfE.v (zjf za71 (zv0 (zb0 8) zt1)))) (zk0 (zd1 (RfF.e (zu2 (zpa (zv0 (zb0 8) zt1)) (zq4 (zp0 (zc1 (i:=0) (n:=2) (by decide)) (zp0 (zc1 (i:=1) (n:=2) (by decide)) ze2))) (zx0 (zr0 r_gt (zb0 1) rvi)) (zg0 0))) (rgn 9))
   (zk0 (zz1 (RfN.c (znk (zg0 4) (zeq (at_d (zk1 (zc0 (zg0 0) (zc0 (zg0 1) (zc0 (zg0 6) (zc0 (zg0 7) zn0))))) (at_d (zg0 9) zo6))))))
   (zk0 (zd1 (zk1 (zc0 (zg0 1) (zc0 (zg0 2) (zc0 (zg0 4) zn0)))) (rgn 6))
   (zk0 (zd1 (zk1 (zc0 (zg0 0) (zc0 (zg0 1) (zc0 (zg0 6) (zc0 (zg0 7) (zc0 (zg0 8) zn0)))))) (rgn 7))
   (zd1 (zk1 (zc0 (zg0 0) (zc0 (zg0 1) (zc0 (zg0 7) (zc0 (zg0 5) zn0))))) (rgn 8)))))))
   (zr2 (RfE.c (zn9 (zc0 (zg0 7) (zc0 (zg0 4) zn0)))))))))),?_⟩
 rintro ds Qd ⟨n,A,p,x0,h0,T,H,Pb,rfl,hn,hA,hp,hx0,hh0,ok,w0,hP,P0,H0,hb0,hT,q⟩
 walk_at "ds"
 refine ze0 λ J hJ=>?_
 walk_at "dd"
 refine ⟨n,A,x0,rfl,by lia,hx0,hA,ok,hJ _ ?_⟩
 clear hJ
 refine ze0 λ J hJ=>?_
 walk_at "dd"
 refine ⟨n,A,p,h0,rfl,hp,hA,ok,hh0,hJ _ ?_⟩
 clear hJ
 refine ze0 λ J hJ=>?_
 walk_at "dd"
 refine ⟨A,_,x0,rfl,(zc2 ..).symm,hx0,hA,hJ _ ?_⟩
 clear hJ
 refine ze0 λ J hJ=>?_
 walk_at "dd"
 refine ⟨n,A,_,_,rfl,by lia,(zc2 ..).symm,hA,ok,zc2 ..,hJ _ ?_⟩
 clear hJ
 refine ze0 λ J hJ=>?_
 refine zhm λ C hC=>?_
 have wf:within A.length (zf1 A) (fx (tab A.length (fitX A (tab A.length (slk A p h0)) x0))):=λ k hk=>by
  rw [zq5 hk]
  have:=w0 k hk
  unfold fitX
  split
  ·exact this
  ·split <;> lia
 refine ⟨λ m U=>∃ (x h:List Int) (s9:Sl),U=[Sl.sh (.int (n:Int)),.sh (zr8 A),.sh (iL p),.sh (iL x0),.sh (iL h),.sh (iL (tab n (bl A.length (aU A) (aV A) (fx x0)))),.sh (iL (tab A.length (slk A p h))),.sh (iL x),.sh (iL (tab n λ v=>bl A.length (aU A) (aV A) (fx x) v - fx (tab n (bl A.length (aU A) (aV A) (fx x0))) v)),s9]/\x.length=A.length/\h.length=n/\within A.length (zf1 A) (fx x)/\Fit A (slk A p h) (fx x)/\sm n (λ v=>if blA A x0 v < blA A x v then blA A x v - blA A x0 v else 0)<=(m:Int)/\∃ j:Nat,j+m<=T/\∀ v,v < n->0<=fx h v/\fx h v<=((j:Int)+1) * (H+60 * Pb)/\(blA A x0 v < blA A x v->fx h v<=H),⟨(sm n (λ v=>if blA A x0 v < blA A (tab A.length (fitX A (tab A.length (slk A p h0)) x0)) v then blA A (tab A.length (fitX A (tab A.length (slk A p h0)) x0)) v - blA A x0 v else 0)).toNat,_,h0,_,rfl,zc2 ..,hh0,wf,λ k hk=>?_,by lia,0,?_,λ v hv=>⟨(hb0 v hv).1,by have:=(hb0 v hv).2;show _<=(0+1) * (H+60 * Pb);lia,λ _=>(hb0 v hv).2⟩⟩,λ m U hw=>?_⟩
 ·rw [zq5 hk]
  have:=w0 k hk
  unfold fitX
  rw [zq5 hk]
  split
  ·lia
  ·split <;> lia
 ·have s1:=zjx (λ k hk=>by have:=w0 k hk;lia:∀ k,k < A.length->0<=zf1 A k)
  have s2:sm n (λ v=>if blA A x0 v < blA A (tab A.length (fitX A (tab A.length (slk A p h0)) x0)) v then blA A (tab A.length (fitX A (tab A.length (slk A p h0)) x0)) v - blA A x0 v else 0)<=sm n λ _=>2 * sm A.length (zf1 A):=zif λ v hv=>by
   have a1:=(zrh (eu:=aU A) (ev:=aV A) wf v).1
   have a2:=(zrh (eu:=aU A) (ev:=aV A) w0 v).2
   unfold blA
   split <;> lia
  rw [zgc] at s2
  have s3:(n:Int) * (2 * sm A.length (zf1 A))<=60 * (2 * sm A.length (zf1 A)):=wB (by lia) (by lia)
  lia
 obtain ⟨x,h,s9,rfl,hx,hh,wx,ft,hm,j,hj,hb⟩:=hw
 have hov:∀ v,v < n->fx (tab n λ v=>bl A.length (aU A) (aV A) (fx x) v - fx (tab n (bl A.length (aU A) (aV A) (fx x0))) v) v=blA A x v - blA A x0 v:=λ v hv=>by rw [zq5 hv,zq5 hv];rfl
 have lo:(tab n λ v=>bl A.length (aU A) (aV A) (fx x) v - fx (tab n (bl A.length (aU A) (aV A) (fx x0))) v).length=n:=zc2 ..
 generalize (tab n λ v=>bl A.length (aU A) (aV A) (fx x) v - fx (tab n (bl A.length (aU A) (aV A) (fx x0))) v)=o at hov lo ⊢
 walk_at "dd"
 refine ⟨o,ints_map o,two (λ c=>hC _ _ ?_) λ c=>hJ _ ?_⟩
 ·clear hC hJ
  refine ze0 λ J hJ=>?_
  walk_at "dd"
  rw [za4]
  refine zyu (λ q:Nat×Int=>if decide (0 < q.2)=true then some (uC (q.1:Int)) else none) (by rw [sizeLine_eq,wV];lia) (λ q hq=>?_) (hJ _ ?_)
  ·walk_at "cs"
   walk_at "dd"
   exact two (λ h=>by rw [if_pos h]) λ h=>by rw [if_neg h]
  clear hJ
  rw [idxF o (λ z=>decide (0 < z)) λ k _=>uC (k:Int)]
  have hst:=λ k=>zhd (l:=o) (p:=λ z=>decide (0 < z)) (k:=k)
  have lst':=zmd o λ z=>decide (0 < z)
  generalize lst o (λ z=>decide (0 < z))=st at hst lst' ⊢
  have ok':∀ k,k < A.length->aU A k < n/\aV A k < n:=λ k hk=>by
   have e:A[k]?=some A[k]:=uB hk
   unfold aU aV
   rw [e]
   have:=ok _ (vW hk)
   exact ⟨this.1,this.2.1⟩
  have hpos:∃ t∈st,0 < fx o t:=by
   obtain ⟨y,y1,y2⟩:=y9.mp c
   obtain ⟨i,i1,i2⟩:=vQ.mp y1
   have ei:fx o i=y:=by unfold fx;rw [uB i1,i2];rfl
   have y3:y≠0:=by simpa using y2
   refine Classical.byContradiction λ no=>?_
   have np:∀ v,v < n->¬ 0 < fx o v:=λ v hv z=>no ⟨v,(hst v).mpr ⟨by lia,decide_eq_true z⟩,z⟩
   have:=zhn (f:=blA A x) (g:=blA A x0) (l:=uL n) (λ t ht=>by
    have ht:=wD.mp ht
    have:=np t ht;have:=hov t ht;lia) ⟨i,wD.mpr (by lia),by have:=np i (by lia);have:=hov i (by lia);lia⟩
   have z1:((uL n).map (blA A x)).sum=0:=zcv (fx x) ok'
   have z2:((uL n).map (blA A x0)).sum=0:=zcv (fx x0) ok'
   lia
  have ft':Fit A (fx (tab A.length (slk A p h))) (fx x):=λ k hk=>by rw [zq5 hk];exact ft k hk
  refine ze0 λ J hJ=>?_
  walk_at "dd"
  refine ⟨n,A,_,x,rfl,by lia,(zc2 ..).symm,hx.symm,hA,ok,λ W hw=>⟨W,st,rfl,by rw [hw.len];lia,λ s hs=>by rw [hw.len];have:=(hst s).mp hs;lia,λ u y hy=>?_,?_,λ kv dj=>⟨h,kv,rfl,by lia,λ z=>?_,λ M hM hmax=>hJ _ ?_⟩⟩⟩
  ·obtain ⟨k,hk,z⟩:=(hw.iff u y).mp hy
   rw [hw.len]
   rcases z with ⟨_,rfl,z3⟩|⟨_,rfl,z3⟩
   ·exact ⟨(ok' k hk).2,(ft' k hk).1 z3⟩
   ·exact ⟨(ok' k hk).1,by have:=(ft' k hk).2 z3;show 0<=-_;lia⟩
  ·have:=zar W [] W.length (uF _)
   rw [wN] at this
   have:=hw.tot
   lia
  ·obtain ⟨t,t1,_⟩:=hpos
   rcases dj.st t t1 with y|⟨_,y,_⟩
   ·rw [z] at y;simp at y
   ·simp at y
  rw [hw.len] at dj
  clear hJ
  refine ze0 λ J hJ=>?_
  walk_at "dd"
  refine ⟨n,A,p,_,rfl,hp,hA,ok,by rw [zc2];exact hh,hJ _ ?_⟩
  clear hJ
  have hs':∀ k,k < A.length->slk A p (tab h.length λ v=>fx h v+(lk kv v).getD M) k=fx (tab A.length (slk A p h)) k+dsn kv M (aU A k) - dsn kv M (aV A k):=λ k hk=>by
   have:=ok' k hk
   unfold slk
   rw [zq5 (by lia:aU A k < h.length),zq5 (by lia:aV A k < h.length),zq5 hk]
   show _=fx h (aU A k)+fx p k - fx h (aV A k)+(lk kv (aU A k)).getD M - (lk kv (aV A k)).getD M
   lia
  have hh':∀ v,v < n->fx (tab h.length λ v=>fx h v+(lk kv v).getD M) v=fx h v+dsn kv M v:=λ v hv=>zq5 (by lia)
  obtain ⟨⟨t0,M'⟩,M1,M2⟩:=uM.mp hM
  simp only at M2
  subst M2
  have M0:0<=M':=(dj.nn _ M1).2
  have hl:=zs0 n (kv.map (·.1)) dj.nd λ x hx=>by obtain ⟨y,y1,rfl⟩:=uM.mp hx;exact (dj.nn y y1).1
  rw [uA] at hl
  have hi:∀ v b,(v,b)∈kv->fx h v+b<=H+60 * Pb:=λ v b hvb=>by
   obtain ⟨i,i1,i2⟩:=vQ.mp hvb
   have d1:=zfs hw dj (λ k hk=>zq5 hk) hP P0 (λ v hv=>by
    have v1:=(hst v).mp hv
    have v2:=of_decide_eq_true v1.2
    have v3:=hov v (by lia)
    exact (hb v (by lia)).2.2 (by lia)) i v b (by rw [uB i1,i2])
   have d2:(i:Int) * Pb<=60 * Pb:=wB (by lia) P0
   lia
  have MB:M'<=H+60 * Pb:=by
   have:=hi t0 M' M1
   have:=(hb t0 (dj.nn _ M1).1).1
   lia
  have lh:(tab h.length λ v=>fx h v+(lk kv v).getD M').length=n:=by rw [zc2];exact hh
  generalize (tab h.length λ v=>fx h v+(lk kv v).getD M')=h' at hs' lh hh' ⊢
  refine ze0 λ J hJ=>?_
  walk_at "dd"
  refine ⟨n,A,_,x,o,rfl,hn,hA,(zc2 ..).symm,hx.symm,lo,ok,wx,λ x' ev=>hJ _ ?_⟩
  clear hJ
  walk_at "dd"
  refine ⟨n,A,x',_,rfl,by lia,ev.len.symm,hA,ok,zc2 ..,?_⟩
  have rf:=zmj hw dj hmax ft'
  have neg:=zik hw dj wx w0 hov hpos
  have lt:sm n (λ v=>if blA A x0 v < blA A x' v then blA A x' v - blA A x0 v else 0) < sm n (λ v=>if blA A x0 v < blA A x v then blA A x v - blA A x0 v else 0):=by
   refine ze71 (λ v hv=>?_) ?_
   ·obtain ⟨E,T,e1,e2,e3,e4,e5⟩:=ev.ov v hv
    have e5:blA A x' v=blA A x v - E+T:=e5
    have:=hov v hv
    split <;> split <;> lia
   ·rcases ev.pg with ⟨v,v1,v2,v3⟩|⟨side,s1,s2,s3⟩
    ·have v3:blA A x' v < blA A x v:=v3
     have:=hov v v1
     refine ⟨v,v1,?_⟩
     split <;> split <;> lia
    ·obtain ⟨t,t1,t2⟩:=neg
     obtain ⟨⟨t',b⟩,b1,b2⟩:=uM.mp t1
     simp only at b2
     subst b2
     obtain ⟨j,j1,j2⟩:=vQ.mp b1
     refine absurd (zfo hw dj hs' (λ y hy=>?_) (λ k hk z=>s3 k hk (by rw [zq5 hk];exact z)) j t' b (by rw [uB j1,j2])) (s2 t' (dj.nn _ b1).1 t2)
     have:=(hst y).mp hy
     exact s1 y (by lia) (of_decide_eq_true this.2)
  have hb2:∀ v,v < n->0<=fx h' v/\fx h' v<=(((j+1:Nat):Int)+1) * (H+60 * Pb)/\(blA A x0 v < blA A x' v->fx h' v<=H):=λ v hv=>by
   have b1:=hb v hv
   have b3:=zq01 dj M0 v
   have b4:=zuo hmax v
   have b5:(((j+1:Nat):Int)+1) * (H+60 * Pb)=((j:Int)+1) * (H+60 * Pb)+(H+60 * Pb):=by rw [Int.natCast_add,zA ((j:Int)+((1:Nat):Int))];simp
   rw [hh' v hv,b5]
   refine ⟨by lia,by lia,λ c=>?_⟩
   obtain ⟨E,T,e1,e2,e3,e4,e5⟩:=ev.ov v hv
   have e5:blA A x' v=blA A x v - E+T:=e5
   have o1:=hov v hv
   have o2:0 < fx o v:=by lia
   have:dsn kv M' v=0:=by
    rcases dj.st v ((hst v).mpr ⟨by lia,decide_eq_true o2⟩) with y|⟨_,y,_⟩
    ·unfold dsn;rw [zdt dj.nd y];rfl
    ·simp at y
   have:=b1.2.2 (by lia)
   lia
  have nn:0<=sm n (λ v=>if blA A x0 v < blA A x' v then blA A x' v - blA A x0 v else 0):=zjx λ v hv=>by split <;> lia
  refine ⟨(sm n (λ v=>if blA A x0 v < blA A x' v then blA A x' v - blA A x0 v else 0)).toNat,by lia,x',h',_,rfl,ev.len,lh,ev.wi,λ k hk=>?_,by lia,j+1,by lia,hb2⟩
  by_cases z:slk A p h' k=0
  ·rw [z];exact ⟨λ _=>vH 0,λ _=>vH 0⟩
  ·rw [ev.eq k hk (by rw [zq5 hk];exact z),hs' k hk];exact rf k hk
 ·clear hC
  walk_at "dd"
  refine q x h (λ v hv=>⟨(hb v hv).1,wI (hb v hv).2.1 (wB (by lia) (by lia))⟩) hx hh wx ft λ v hv=>?_
  have e:=hov v hv
  have:fx o v=0:=Classical.byContradiction λ z=>c (y9.mpr ⟨fx o v,by unfold fx;rw [uB (by lia)];exact vW _,by simpa using z⟩)
  lia
end
def CSh (i j:Int):Prop:=0<=j/\(Builtin.Int.intBits i:Int)+j<=2 ^ 27
theorem zfr {X}:OpR X (binaryOp .LShift) (rI CSh λ i j=>.int (i * 2 ^ j.toNat)):=opI λ _ _ _ _ _ _ _ hc q=>lshift_int hc.1 hc.2 q
theorem zx41 {K:Fg}:R2E K (rI CSh λ i j=>V.int (i * 2 ^ j.toNat)) (fI CSh λ i j=>.int (i * 2 ^ j.toNat)):=r_I λ _ _ _=>.int _
theorem zzk {z:Int} {E:Nat} (h:z.natAbs < 2 ^ E):Builtin.Int.intBits z<=E:=by
 unfold Builtin.Int.intBits
 split
 ·lia
 ·rename_i c
  have:z.natAbs≠0:=by simpa using c
  exact (yO this).mpr h
theorem zhq {l:List Int} {g:Int->Int} {k:Nat} (h:k < l.length):fx (l.map g) k=g (fx l k):=by
 unfold fx;rw [uI,uB h];rfl
def zya:DSp:=λ ds Q=>∃ (n:Nat) (A:List Ar) (p x0:List Int) (e t:Nat) (Pb:Int),ds=[nI n,zr8 A,iL p,iL x0]/\n<=60/\A.length<=1000/\A.length=p.length/\A.length=x0.length/\(∀ a∈A,ArOk n a)/\within A.length (zf1 A) (fx x0)/\(∀ z∈p,-Pb<=z/\z<=Pb)/\0<=Pb/\Pb < 2 ^ e/\e<=1000/\120 * sm A.length (zf1 A) < (2:Int) ^ t/\e+(e+8) * (t+6)+8<=2 ^ 27 /\
 ∀ x h,x.length=A.length->h.length=n->within A.length (zf1 A) (fx x)->Fit A (slk A p h) (fx x)->(∀ v,v < n->blA A x v=blA A x0 v)->Q (.tuple [iL x,iL h])
section
variable {P:Program} {w:World} {K:Fg} {mg:Str->Option Value} {base:Heap} {jA:Addr}
theorem zb9:FnScope ["count", "arcs", "prices", "amounts", "told", "bits", "shifts", "shift", "rough"] ["count", "arcs", "prices", "amounts"] (zf0 za3):=by walk_at "sc"
theorem zdf (M:Md K mg) (T:TopDef K "cheapest" za3) (qP:mg "abs"=none) (jI:mg "list"=none) (qE:mg "max"=none) (jK:mg "range"=none) (kC:mg "reversed"=none) (kT:Def P w K mg base "repaired" 6 ["count", "arcs", "prices", "amounts", "heights"] (spD K zna)) {gv_BITS:Value} (g_BITS:mg "BITS"=some gv_BITS) (r_BITS:RelV (.int 4) gv_BITS):Def P w K mg base "cheapest" 7 ["count", "arcs", "prices", "amounts"] (spD K zya):=by
 refine zc5 M T zb9 (λ _ _ _ _ _ _ us hl=>by obtain ⟨_,_,_,_,rfl⟩:=ar4 hl;rfl) (zef λ ds Qd h=>by obtain ⟨_,_,_,_,_,_,_,rfl,_⟩:=h;rfl) (zp5 ?_)
 intro f cdv A outer s H E hr
 have nd:=zb9.nd
 refine ⟨_,_,(zd0 (pset 4 nd (zd5 (za0 (pv 3) (za0 (zo1 zg5 (zn1 (za0 zl0 zh0)) (pv 0)) zh0))))
   (zd0 (pset 5 nd (zkb (K:=K) rfl PySem.F.plainAttrs_int PySem.F.slot_int_bit_length PySem.F.type_int_bit_length zmq (zc01 (K:=K) rfl rfl rfl qE zns (zi4 (sc:=zf0 za3) (N:=["count", "arcs", "prices", "amounts", "told", "bits", "shifts", "shift", "rough"]) (own:=["price"]) (ix:=[]) rfl rfl rfl (by walk_at "csc") (pi_W (K:=K) rfl (pv 2)) (λ _ _ _ _=>⟨(pgn 0 (nds ["price"])),zg3,(zz0 zgn rfl qP zuz (za0 (pv 0) zh0))⟩)) zl0)))
   (zd0 (pset 6 nd (zl2 (zhg rfl) rfl jI zw5 (za0 (zl2 zjk rfl jK zyo (za0 zl0 (za0 (zo1 (zq1 (K:=K) rfl) (pv 5) (zeg rfl g_BITS r_BITS)) (za0 (zeg rfl g_BITS r_BITS) zh0)))) zh0)))
   (zd0 (zw4 PassesOwn.never rfl (zsz (K:=K) rfl rfl kC (za0 (pv 6) zh0)) (pgn 7 nd) (zd0 (zs2 (i:=8) (sc:=zf0 za3) (N:=["count", "arcs", "prices", "amounts", "told", "bits", "shifts", "shift", "rough"]) (own:=["price"]) (ix:=[7]) rfl rfl rfl (by walk_at "csc") nd rfl rfl (pi_W (K:=K) rfl (pv 2)) (λ _ _ _ _=>⟨(pgn 0 (nds ["price", "shift"])),zg3,(zo1 zvy (pv 0) (pv 1))⟩))
   (zj0 (pset 4 nd (zt0 kT (rmn hr) rfl (za0 (pv 0) (za0 (pv 1) (za0 (pv 8) (za0 (pix w K hr (pv 4) zl0) (za0 (zi4 (sc:=zf0 za3) (N:=["count", "arcs", "prices", "amounts", "told", "bits", "shifts", "shift", "rough"]) (own:=["height"]) (ix:=[]) rfl rfl rfl (by walk_at "csc") (pi_W (K:=K) rfl (pix w K hr (pv 4) zl0)) (λ _ _ _ _=>⟨(pgn 0 (nds ["height"])),zg3,(zo1 zfr (pv 0) (zeg rfl g_BITS r_BITS))⟩)) zh0))))))))))
   (zj0 (zi1 (pv 4))))))),(zk0 (zd1 (zn9 (zc0 (zg0 3) (zc0 (RfF.e (zaj (zk3 (zc0 zp1 zn0)) (zg0 0))) zn0))) (rgn 4))
   (zk0 (zd1 (zwq (zf01 (RfF.e (zu2 (ztm (zb0 2)) (zc1 (i:=0) (n:=1) (by decide)) zf5 (zjf zr61 (zv0 (zb0 0) zt1)))) zp1)) (rgn 5))
   (zk0 (zd1 (RfF.e (zop (zc0 zp1 (zc0 (zr0 zla (zb0 5) rvi) (zc0 zp1 zn0))))) (rgn 6))
   (zk0 (zz4 (zez (zc0 (zg0 6) zn0)) (rgn 7) (zk0 (zd1 (RfF.e (zu2 (ztm (zb0 2)) (zc1 (i:=0) (n:=1) (by decide)) zf5 (zr0 zt51 (zb0 0) (zb0 1)))) (rgn 8))
   (zd1 (zk1 (zc0 (zg0 0) (zc0 (zg0 1) (zc0 (zg0 8) (zc0 (zr0 r_ix (zb0 4) rvi) (zc0 (RfF.e (zu2 (ztm (RfE.v (zr0 r_ix (zb0 4) rvi))) (zc1 (i:=0) (n:=1) (by decide)) zf5 (zr0 zx41 (zb0 0) rvi))) zn0)))))) (rgn 4))))
   (zr2 (RfE.c (zg0 4))))))),?_⟩
 rintro ds Qd ⟨n,A,p,x0,e,t,Pb,rfl,hn,hA,hp,hx0,ok,w0,hP,hP0,hPe,he,hT,hE,q⟩
 walk_at "ds"
 refine ze0 λ J hJ=>?_
 walk_at "dd"
 refine ⟨by lia,by lia,by lia,hJ _ ?_⟩
 clear hJ
 rw [u4,rep0]
 refine ze0 λ J hJ=>?_
 walk_at "dd"
 refine ztj (λ z:Int=>.int z.natAbs) (by rw [sizeLine_eq];lia) (λ z hz=>?_) ?_
 ·walk_at "cs"
  walk_at "dd"
  split <;> congr 1 <;> lia
 have rest:∀ b:Nat,b<=e+1->J [Sl.sh (uC (n:Int)),Sl.sh (zr8 A),Sl.sh (iL p),Sl.sh (iL x0),Sl.sh (vU [iL x0,vG (yC uC (uP n 0))]),Sl.sh (uC (b:Int)),Sl.un,Sl.un,Sl.un]:=λ b hb=>by
  refine hJ _ ?_
  clear hJ
  refine ze0 λ J hJ=>?_
  walk_at "dd"
  refine ⟨0,_,4,rfl,by lia,by lia,(b+7) / 4,?_,by lia,hJ _ ?_⟩
  ·unfold Builtin.Range.rangeSize
   rw [if_pos (by lia),if_pos (by lia)];lia
  clear hJ
  have hb2:(b+7) / 4<=e+8:=by lia
  have hb1:1<=(b+7) / 4:=by lia
  generalize (b+7) / 4=N at hb1 hb2 ⊢
  refine ze0 λ J hJ=>?_
  refine zq2 λ B hB=>?_
  walk_at "dd"
  rw [<- List.map_reverse]
  generalize vG ((uL N).map λ k:Nat=>uC (0+(k:Int) * 4))=d6
  refine zz2 (λ i U=>∃ (x h:List Int) (s7 s8:Sl),U=[Sl.sh (uC (n:Int)),.sh (zr8 A),.sh (iL p),.sh (iL x0),.sh (.tuple [iL x,iL h]),.sh (.int (b:Int)),.sh d6,s7,s8]/\x.length=A.length/\h.length=n/\within A.length (zf1 A) (fx x)/\(∀ v,v < n->blA A x v=blA A x0 v)/\(∀ v,v < n->0<=fx h v/\fx h v+Pb<=2 ^ (e+i * (t+6)))/\(i=N->Fit A (slk A p h) (fx x))) ⟨x0,uP n 0,_,_,rfl,hx0.symm,wP ..,w0,λ _ _=>rfl,λ v hv=>?_,λ z=>by lia⟩ (λ i k U hi hp=>?_) λ U hp=>?_
  ·rw [zhv,Nat.zero_mul];exact ⟨vH 0,by rw [Nat.add_zero];lia⟩
  ·obtain ⟨x,h,s7,s8,rfl,hx,hh,wx,hbl,hbd,_⟩:=hp
   walk_at "dd"
   refine hB _ _ ?_
   clear hB
   refine ze0 λ J hJ=>?_
   walk_at "dd"
   refine ztj (λ z:Int=>.int (z / 2 ^ (0+(k:Int) * 4).toNat)) (by rw [sizeLine_eq];lia) (λ z hz=>?_) (hJ _ ?_)
   ·walk_at "cs"
    walk_at "dd"
    lia
   clear hJ
   rw [show (p.map λ z:Int=>uC (z / 2 ^ (0+(k:Int) * 4).toNat))=(p.map λ z=>z / 2 ^ (0+(k:Int) * 4).toNat).map uC by rw [vC];rfl]
   walk_at "dd"
   obtain ⟨i1,i2⟩:=uZ.mp hi
   rw [xR,vV] at i1
   rw [List.getElem_reverse,wU,vV] at i2
   have hEi:e+i * (t+6)+5<=2 ^ 27:=by
    have:i * (t+6)<=(e+8) * (t+6):=yY _ (by lia)
    lia
   have hk:((0+(k:Int) * 4).toNat)=4 * k:=by lia
   have aP:Pb < (2:Int) ^ (e+i * (t+6)):=by have:=zey (show e<=e+i * (t+6) by lia);lia
   rw [hk]
   have qd:∀ z:Int,-Pb<=z->z<=Pb->-Pb<=z / 2 ^ (4 * k)/\z / 2 ^ (4 * k)<=Pb:=λ z z1 z2=>by
    have pp:(0:Int) < 2 ^ (4 * k):=zC (by decide)
    constructor
    ·have:-Pb<=(-Pb) / 2 ^ (4 * k):=by
      refine (zI pp).mpr ?_
      have:Pb * 1<=Pb * 2 ^ (4 * k):=zX (by lia) hP0
      rw [Int.neg_mul];lia
     exact wI this (Int.ediv_le_ediv pp z1)
    ·exact wI (Int.ediv_le_ediv pp z2) (Int.ediv_le_self _ hP0)
   refine ⟨_,rfl,_,rfl,?_⟩
   refine ztj (λ z:Int=>.int (z * 2 ^ 4)) (by rw [sizeLine_eq];lia) (λ z hz=>?_) ?_
   ·walk_at "cs"
    walk_at "dd"
    refine ⟨by lia,?_⟩
    obtain ⟨v,v1,v2⟩:=vQ.mp hz
    have ev:fx h v=z:=by unfold fx;rw [uB v1,v2];rfl
    have b:=hbd v (by lia)
    rw [ev] at b
    have:Builtin.Int.intBits z<=e+i * (t+6)+1:=zzk (by
     have:=zey (show e+i * (t+6)<=e+i * (t+6)+1 by lia)
     have c:(2:Int) ^ (e+i * (t+6)+1)=2 ^ (e+i * (t+6)) * 2:=Int.pow_succ ..
     have d:(0:Int) < 2 ^ (e+i * (t+6)):=zC (by decide)
     have:(z.natAbs:Int) < 2 ^ (e+i * (t+6)+1):=by rw [c];lia
     exact_mod_cast this)
    lia
   rw [show (h.map λ z:Int=>uC (z * 2 ^ 4))=(h.map λ z=>z * 2 ^ 4).map uC by rw [vC];rfl]
   refine ⟨n,A,p.map λ z=>z / 2 ^ (4 * k),x,h.map λ z=>z * 2 ^ 4,(120 * sm A.length (zf1 A)).toNat,16 * (2 ^ (e+i * (t+6)) - Pb),Pb,rfl,hn,hA,by rw [uA];exact hp,hx.symm,by rw [uA];exact hh,ok,wx,λ j hj=>?_,hP0,by lia,λ v hv=>?_,by lia,λ x' h' b1 b2 b3 b4 b5 b6=>⟨x',h',_,_,rfl,b2,b3,b4,λ v hv=>(b6 v hv).trans (hbl v hv),λ v hv=>?_,λ hiN=>?_⟩⟩
   ·rw [zhq (by lia)]
    have:=hP (fx p j) (by unfold fx;rw [uB (by lia)];exact vW _)
    exact qd _ this.1 this.2
   ·rw [zhq (by lia)]
    have b:=hbd v hv
    have c:(2:Int) ^ 4=16:=by decide
    rw [c]
    lia
   ·have b:=b1 v hv
    refine ⟨b.1,?_⟩
    rw [show e+(i+1) * (t+6)=e+i * (t+6)+t+6 by rw [Nat.add_mul];lia,Int.pow_add,Int.pow_add,show (2:Int) ^ 6=64 by decide]
    have b2:=b.2
    have tb:(1:Int)<=2 ^ t:=by have:=zC (n:=2) (m:=t) (by decide);lia
    generalize (2:Int) ^ t=bb at hT tb ⊢
    generalize (2:Int) ^ (e+i * (t+6))=aa at aP b2 ⊢
    have sn:=zjx (λ k hk=>by have:=w0 k hk;lia:∀ k,k < A.length->0<=zf1 A k)
    have m1:(((120 * sm A.length (zf1 A)).toNat:Int)+1) * (16 * (aa - Pb)+60 * Pb)<=bb * (16 * (aa - Pb)+60 * Pb):=wB (by lia) (by lia)
    have m2:bb * (16 * (aa - Pb)+60 * Pb)<=bb * (60 * aa):=zX (by lia) (by lia)
    have m3:1 * aa<=bb * aa:=wB tb (by lia)
    have m4:bb * (60 * aa)=60 * (bb * aa):=Int.mul_left_comm ..
    rw [Int.mul_comm aa bb]
    lia
   ·have k0:k=0:=by lia
    rw [k0] at b5
    rw [show (p.map λ z=>z / 2 ^ (4 * 0))=p by rw [show (λ z:Int=>z / 2 ^ (4 * 0))=id from funext λ z=>by simp];exact List.map_id p] at b5
    exact b5
  ·obtain ⟨x,h,s7,s8,rfl,hx,hh,wx,hbl,hbd,ft⟩:=hp
   refine hJ _ ?_
   clear hJ hB
   walk_at "dd"
   exact q x h hx hh wx (ft (by rw [xR,vV])) hbl
 refine ⟨_,p.map λ z:Int=>(z.natAbs:Int),rfl,by rw [show (p.map λ z:Int=>uC (z.natAbs:Int))=(p.map λ z:Int=>(z.natAbs:Int)).map uC by rw [vC];rfl];exact ints_map _,λ _=>⟨0,rfl,rest 0 (by lia)⟩,λ _ M hM _=>⟨M,rfl,rest _ (zzk ?_)⟩⟩
 obtain ⟨z,z1,rfl⟩:=uM.mp hM
 have:=hP z z1
 have e1:((z.natAbs:Int)).natAbs=z.natAbs:=by lia
 rw [e1]
 have:(z.natAbs:Int) < 2 ^ (e+1):=by have:=zey (show e<=e+1 by lia);lia
 exact_mod_cast this
end
def zp4 (ns:List Int) (k:Int):Int:=(ns[k.toNat]?).getD 0
theorem zit {ns:List Int} {k:Int} (h0:0<=k) (h:k < (ns.length:Int)):atI (ns.map uC) k=some (.int (zp4 ns k)):=by
 obtain ⟨x,h1,h2⟩:=zmk uC h0 h
 rw [h2]
 unfold zp4
 rw [h1];rfl
theorem zsf (c:Int) {n:Nat} (h:0 < n):∃ u:Nat,c % (n:Int)=(u:Int)/\u < n:=by
 refine ⟨(c % (n:Int)).toNat,?_,?_⟩
 ·have:=Int.emod_nonneg c (b:=(n:Int)) (by lia);lia
 ·have:=zY c (b:=(n:Int)) (by lia);lia
def zp3:DSp:=λ ds Q=>∃ ns k,ds=[.list (ns.map .int),.int k]/\0<=k/\Q (.int (zp4 ns k))
def zp8:DSp:=λ ds Q=>∃ i,ds=[.int i]/\Q (.bool true)
structure Mad (n:Nat) (unit:Int) (A:List Ar) (p x:List Int):Prop where
 lp:A.length=p.length
 lx:A.length=x.length
 ok:∀ a∈A,ArOk n a/\a.2.2<=3 * unit
 pb:∀ z∈p,-1000000<=z/\z<=1000000
 wi:∀ (k:Nat) a y,A[k]?=some a->x[k]?=some y->0<=y/\y<=a.2.2
def zib:DSp:=λ ds Q=>∃ (ns:List Int) (n:Nat) (unit:Int),ds=[.list (ns.map .int),nI n,.int unit]/\ns.length<=1000000/\2<=n/\n<=6/\1<=unit/\unit<=100000000000000/\∀ A p x,A.length<=61->Mad n unit A p x->Q (.tuple [zr8 A,iL p,iL x])
def zd7:DSp:=λ ds Q=>∃ l:List Int,ds=[iL l,nI l.length]/\l.length<=1000/\Q (.bool true)
section
variable {P:Program} {w:World} {K:Fg} {mg:Str->Option Value} {base:Heap} {jA:Addr}
theorem zk4:FnScope ["script", "k"] ["script", "k"] (zf0 zb3):=by walk_at "sc"
theorem zy7 (M:Md K mg) (T:TopDef K "_law_cell_at" zb3) (jJ:mg "len"=none):Def P w K mg base "_law_cell_at" 1 ["script", "k"] (spD K zp3):=by
 refine zc5 M T zk4 (λ _ _ _ _ _ _ us hl=>by obtain ⟨_,_,rfl⟩:=ar2 hl;rfl) (zef λ ds Qd h=>by obtain ⟨_,_,rfl,_⟩:=h;rfl) (zp5 ?_)
 intro f cdv A outer s H E hr
 have nd:=zk4.nd
 refine ⟨_,_,(zd0 (zsa (zy0 zmp (pv 1) (zz0 (zy1 (K:=K) rfl) rfl jJ zs9 (za0 (pv 0) zh0)) (zi2 _)) (zj0 (zi1 (pix w K hr (pv 0) (pv 1)))) zn2)
   (zj0 (zi1 zl0))),(zk0 (zmb (zx0 (zr0 r_lt (zb0 1) (RfE.v (zjf zkk (zv0 (zb0 0) zt1))))) (zr2 (RfE.c (zr0 r_ix (zb0 0) (zb0 1)))) zj2)
   (zr2 (RfE.c zp1))),?_⟩
 rintro ds Qd ⟨ns,k,rfl,h0,q⟩
 walk_at "ds"
 refine zfh ?_
 walk_at "dd"
 rw [uA]
 refine two (λ h=>⟨_,zit h0 h,q⟩) λ h=>?_
 have e:zp4 ns k=0:=by unfold zp4;rw [vF (by lia)];rfl
 rw [e] at q;exact q
theorem zz5:FnScope ["found"] ["found"] (zf0 zt4):=by walk_at "sc"
theorem zab (M:Md K mg) (T:TopDef K "_law_whole" zt4) (kt:Kit K) (qJ:mg "bool"=none) (qQ:mg "int"=none) (jG:mg "isinstance"=none):Def P w K mg base "_law_whole" 1 ["found"] (spD K zp8):=by
 refine zc5 M T zz5 (λ _ _ _ _ _ _ us hl=>by obtain ⟨_,rfl⟩:=ar1 hl;rfl) (zef λ ds Qd h=>by obtain ⟨_,rfl,_⟩:=h;rfl) (zp5 ?_)
 intro f cdv A outer s H E hr
 have nd:=zz5.nd
 refine ⟨_,_,(zj0 (zi1 (zk01 (zz0 (zi9 (K:=K) rfl) rfl jG zm2 (za0 (pv 0) (za0 (zhe (v:=.ty "int") rfl qQ zs01 rfl) zh0))) (zuy (zvz (zz0 (zi9 (K:=K) rfl) rfl jG zm2 (za0 (pv 0) (za0 (zhe (v:=.ty "bool") rfl qJ znr rfl) zh0)))))))),(zr2 (RfE.c (zmr (zzw kt (by simp) (zb0 0)) (zsr (zzw kt (by simp) (zb0 0)))))),?_⟩
 rintro ds Qd ⟨i,rfl,q⟩
 walk_at "ds"
 walk_at "dd"
 exact ⟨λ _=>trivial,λ _=>trivial,q⟩
theorem zv4:FnScope ["found", "many", "one"] ["found", "many"] (zf0 zn3):=by walk_at "sc"
theorem zha (M:Md K mg) (T:TopDef K "_law_wholes" zn3) (kt:Kit K) (jG:mg "isinstance"=none) (jJ:mg "len"=none) (jI:mg "list"=none) (kH:Def P w K mg base "_law_whole" 1 ["found"] (spD K zp8)):Def P w K mg base "_law_wholes" 2 ["found", "many"] (spD K zd7):=by
 refine zc5 M T zv4 (λ _ _ _ _ _ _ us hl=>by obtain ⟨_,_,rfl⟩:=ar2 hl;rfl) (zef λ ds Qd h=>by obtain ⟨_,rfl,_⟩:=h;rfl) (zp5 ?_)
 intro f cdv A outer s H E hr
 have nd:=zv4.nd
 refine ⟨_,_,(zd0 (zsa (PW.pt (zg11 (zoh (zq3 (K:=K) rfl (zz0 (zi9 (K:=K) rfl) rfl jG zm2 (za0 (pv 0) (za0 (zhe (v:=.ty "list") rfl jI zw5 rfl) zh0))) (λ _=>rfl))) (znm (zy0 (zpi (K:=K) rfl (Room.units hr)) (zz0 (zy1 (K:=K) rfl) rfl jJ zs9 (za0 (pv 0) zh0)) (pv 1) (zi2 _))))) (zj0 (zi1 zll)) zn2)
   (zd0 (zw4 PassesOwn.never rfl (pi_W (K:=K) rfl (pv 0)) (pgn 2 nd) (zj0 (zsa (zoh (zq3 (K:=K) rfl (zt0 kH (rmn hr) rfl (za0 (pv 2) zh0)) (λ _=>rfl))) (zj0 (zi1 zll)) zn2)))
   (zj0 (zi1 zll)))),(zk0 (zmb (zmx (zzg (zb8 (RfE.v (zzw kt (by simp) (zb0 0))))) (zx0 (zle q_ne (RfV.h (RfE.v (zjf zkk (zv0 (zb0 0) zt1)))) (RfV.h (zb0 1))))) (zr2 (RfE.c zbl)) zj2)
   (zk0 (zz4 (zvo (zg0 0)) (rgn 2) (zmb (zzg (zb8 (RfE.v (zk1 (zc0 (zg0 2) zn0))))) (zr2 (RfE.c zbl)) zj2))
   (zr2 (RfE.c zbl)))),?_⟩
 rintro ds Qd ⟨l,rfl,hl,q⟩
 walk_at "ds"
 refine ze0 λ J hJ=>?_
 walk_at "dd"
 refine ⟨λ _=>trivial,two (λ z=>absurd (by rw [uA]) z) λ _=>hJ _ ?_⟩
 clear hJ
 refine ze0 λ J hJ=>?_
 refine zq2 λ B hB=>?_
 walk_at "dd"
 refine zz2 (λ i U=>∃ s2,U=[Sl.sh (iL l),.sh (.int (l.length:Int)),s2]) ⟨_,rfl⟩ (λ i z U hi hp=>?_) λ U hp=>?_
 ·obtain ⟨s2,rfl⟩:=hp
  walk_at "dd"
  refine hB _ _ ?_
  clear hB
  walk_at "dd"
  exact ⟨z,rfl,⟨_,rfl⟩⟩
 ·obtain ⟨s2,rfl⟩:=hp
  refine hJ _ ?_
  clear hJ hB
  walk_at "dd"
  exact q
theorem zt6:FnScope ["script", "count", "unit", "arcs", "prices", "amounts", "factor", "cell", "start", "goal", "rest", "units"] ["script", "count", "unit"] (zf0 zr5):=by walk_at "sc"
theorem zoc (M:Md K mg) (T:TopDef K "_law_made" zr5) (jJ:mg "len"=none) (jH:Def P w K mg base "_law_cell_at" 1 ["script", "k"] (spD K zp3)):Def P w K mg base "_law_made" 2 ["script", "count", "unit"] (spD K zib):=by
 refine zc5 M T zt6 (λ _ _ _ _ _ _ us hl=>by obtain ⟨_,_,_,rfl⟩:=ar3 hl;rfl) (zef λ ds Qd h=>by obtain ⟨_,_,_,rfl,_⟩:=h;rfl) (zp5 ?_)
 intro f cdv A outer s H E hr
 have nd:=zt6.nd
 refine ⟨_,_,(zd0 (pset 3 nd (zn1 zh0))
   (zd0 (pset 4 nd (zn1 zh0))
   (zd0 (pset 5 nd (zn1 zh0))
   (zd0 (pset 6 nd (pix w K hr (zn1 (za0 zl0 (za0 zl0 (za0 zl0 (za0 zl0 zh0))))) (zo1 zd8 (zo1 zr4 (zt0 jH (rmn hr) rfl (za0 (pv 0) (za0 zl0 zh0))) zl0) zl0)))
   (zd0 (zw4 PassesOwn.never rfl (pi_W (K:=K) rfl (zgp (sl_W (K:=K) rfl) (pv 0) (zk9 zl0) (zk9 zl0))) (pgn 7 nd) (zd0 (pset 8 nd (zo1 zd8 (pv 7) (pv 1)))
   (zd0 (pset 9 nd (zo1 zd8 (zo1 (zq1 (K:=K) rfl) (zo1 (zq1 (K:=K) rfl) (pv 8) zl0) (zo1 zd8 (zo1 zr4 (pv 7) (pv 1)) (zo1 zt9 (pv 1) zl0))) (pv 1)))
   (zd0 (pset 10 nd (zo1 zr4 (zo1 zr4 (pv 7) (pv 1)) (zo1 zt9 (pv 1) zl0)))
   (zd0 (pset 11 nd (pix w K hr (zn1 (za0 zl0 (za0 zl0 (za0 zl0 (za0 zl0 zh0))))) (zo1 zd8 (pv 10) zl0)))
   (zd0 (zr1 (zt3 (K:=K) rfl PySem.F.plainAttrs_list PySem.F.slot_list_append PySem.F.type_list_append zh1 (pv 3) (za0 (zd5 (za0 (pv 8) (za0 (pv 9) (za0 (zo1 zg5 (pv 11) (pv 2)) zh0)))) zh0)))
   (zd0 (zr1 (zt3 (K:=K) rfl PySem.F.plainAttrs_list PySem.F.slot_list_append PySem.F.type_list_append zh1 (pv 5) (za0 (zo1 zg5 (zo1 zd8 (zo1 zr4 (pv 10) zl0) (zo1 (zq1 (K:=K) rfl) (pv 11) zl0)) (pv 2)) zh0)))
   (zd0 (pset 10 nd (zo1 zr4 (zo1 zr4 (pv 10) zl0) (zo1 (zq1 (K:=K) rfl) (pv 11) zl0)))
   (zj0 (zsa (zy0 zmp (zz0 (zy1 (K:=K) rfl) rfl jJ zs9 (za0 (pv 0) zh0)) zl0 (zi2 _)) (zj0 (zr1 (zt3 (K:=K) rfl PySem.F.plainAttrs_list PySem.F.slot_list_append PySem.F.type_list_append zh1 (pv 4) (za0 (zo1 zt9 (zo1 zd8 (pv 10) zl0) zl0) zh0)))) (zj0 (zr1 (zt3 (K:=K) rfl PySem.F.plainAttrs_list PySem.F.slot_list_append PySem.F.type_list_append zh1 (pv 4) (za0 (zo1 zg5 (zo1 zt9 (zo1 zd8 (pv 10) zl0) zl0) (pv 6)) zh0))))))))))))))
   (zj0 (zi1 (zd5 (za0 (pv 3) (za0 (pv 4) (za0 (pv 5) zh0))))))))))),(zk0 (zz1 (RfF.c (zk3 zn0)))
   (zk0 (zz1 (RfF.c (zk3 zn0)))
   (zk0 (zz1 (RfF.c (zk3 zn0)))
   (zk0 (zd1 (zr0 r_ix (RfE.v (RfF.e (zk3 (zc0 zp1 (zc0 zp1 (zc0 zp1 (zc0 zp1 zn0))))))) (RfE.v (zr0 zai (RfE.v (zr0 zho (RfE.v (zk1 (zc0 (zg0 0) (zc0 zp1 zn0)))) rvi)) rvi))) (rgn 6))
   (zk0 (zz4 (zvo (zy51 (zb0 0) (zjd zp1) (zjd zp1))) (rgn 7) (zk0 (zd1 (zr0 zai (zb0 7) (zb0 1)) (rgn 8))
   (zk0 (zd1 (zr0 zai (RfE.v (zr0 zla (RfE.v (zr0 zla (zb0 8) rvi)) (RfE.v (zr0 zai (RfE.v (zr0 zho (zb0 7) (zb0 1))) (RfE.v (zr0 zjj (zb0 1) rvi)))))) (zb0 1)) (rgn 9))
   (zk0 (zd1 (zr0 zho (RfE.v (zr0 zho (zb0 7) (zb0 1))) (RfE.v (zr0 zjj (zb0 1) rvi))) (rgn 10))
   (zk0 (zd1 (zr0 r_ix (RfE.v (RfF.e (zk3 (zc0 zp1 (zc0 zp1 (zc0 zp1 (zc0 zp1 zn0))))))) (RfE.v (zr0 zai (zb0 10) rvi))) (rgn 11))
   (zk0 (zs1 (zue zj8 (zq0 3) (zc0 (zn9 (zc0 (zg0 8) (zc0 (zg0 9) (zc0 (zr0 zsq (zb0 11) (zb0 2)) zn0)))) zn0)))
   (zk0 (zs1 (zue zj8 (zq0 5) (zc0 (zr0 zsq (RfE.v (zr0 zai (RfE.v (zr0 zho (zb0 10) rvi)) (RfE.v (zr0 zla (zb0 11) rvi)))) (zb0 2)) zn0)))
   (zk0 (zd1 (zr0 zho (RfE.v (zr0 zho (zb0 10) rvi)) (RfE.v (zr0 zla (zb0 11) rvi))) (rgn 10))
   (zmb (zx0 (zr0 r_lt (RfE.v (zjf zkk (zv0 (zb0 0) zt1))) rvi)) (zs1 (zue zj8 (zq0 4) (zc0 (zr0 zjj (RfE.v (zr0 zai (zb0 10) rvi)) rvi) zn0))) (zs1 (zue zj8 (zq0 4) (zc0 (zr0 zsq (RfE.v (zr0 zjj (RfE.v (zr0 zai (zb0 10) rvi)) rvi)) (zb0 6)) zn0))))))))))))
   (za8 4 [] (za8 3 [] (za8 5 [] (zr2 (RfE.c (zn9 (zc0 (zg0 3) (zc0 (zg0 4) (zc0 (zg0 5) zn0)))))))))))))),?_⟩
 rintro ds Qd ⟨ns,n,unit,rfl,hl,h2,h6,u1,u2,q⟩
 walk_at "ds"
 refine ze0 λ J hJ=>?_
 walk_at "dd"
 refine hJ _ ?_
 clear hJ
 refine ze0 λ J hJ=>?_
 walk_at "dd"
 refine hJ _ ?_
 clear hJ
 refine ze0 λ J hJ=>?_
 walk_at "dd"
 refine hJ _ ?_
 clear hJ
 refine ze0 λ J hJ=>?_
 walk_at "dd"
 refine ⟨ns,0,rfl,by lia,?_⟩
 walk_at "dd"
 obtain ⟨fa,f1,f2⟩:∃ f:Int,atI [uC 1,.int 7,.int 333333,.int 500000] (zp4 ns 0 / 5 % 4)=some (.int f)/\0<=f/\f<=500000:=by
  have:zp4 ns 0 / 5 % 4=0 \/ zp4 ns 0 / 5 % 4=1 \/ zp4 ns 0 / 5 % 4=2 \/ zp4 ns 0 / 5 % 4=3:=by lia
  rcases this with h|h|h|h
  all_goals rw [h]
  ·exact ⟨1,rfl,by decide,by decide⟩
  ·exact ⟨7,rfl,by decide,by decide⟩
  ·exact ⟨333333,rfl,by decide,by decide⟩
  ·exact ⟨500000,rfl,by decide,by decide⟩
 refine ⟨_,f1,hJ _ ?_⟩
 clear hJ
 refine ze0 λ J hJ=>?_
 refine zq2 λ B hB=>?_
 walk_at "dd"
 rw [zkn]
 have lc:(cutG ns (some 2) (some 63)).length<=61:=by
  unfold cutG
  rw [vS]
  have a:HT.sIx ns.length 0 (some 2)=xC 2 ns.length:=HT.sIx_nat ..
  have b:HT.sIx ns.length ns.length (some 63)=xC 63 ns.length:=HT.sIx_nat ..
  rw [a,b]
  have:xC 63 ns.length<=63:=Nat.min_le_left ..
  have:xC 2 ns.length=2 \/ xC 2 ns.length=ns.length:=by rcases Nat.le_total 2 ns.length with z|z;exact .inl (yP z);exact .inr (Nat.min_eq_right z)
  have:xC 63 ns.length<=ns.length:=Nat.min_le_right ..
  lia
 generalize cutG ns (some 2) (some 63)=cs at lc ⊢
 refine zz2 (λ i U=>∃ (A:List Ar) (p x:List Int) (s7 s8 s9 s10 s11:Sl),U=[Sl.sh (vG (ns.map uC)),.sh (.int (n:Int)),.sh (.int unit),.ow (.li (A.map dAr)),.ow (.li (p.map .int)),.ow (.li (x.map .int)),.sh (.int fa),s7,s8,s9,s10,s11]/\A.length=i/\Mad n unit A p x) ⟨[],[],[],_,_,_,_,_,rfl,rfl,rfl,rfl,λ a ha=>by simp at ha,λ z hz=>by simp at hz,λ k a y h=>by simp at h⟩ (λ i c U hi hp=>?_) λ U hp=>?_
 ·obtain ⟨A,p,x,s7,s8,s9,s10,s11,rfl,hAi,md⟩:=hp
  have hi1:=(uZ.mp hi).1
  have l1:=md.lp
  have l2:=md.lx
  walk_at "dd"
  refine hB _ _ ?_
  clear hB
  refine ze0 λ J hJ=>?_
  obtain ⟨u,eu,hu⟩:=zsf c (n:=n) (by lia)
  walk_at "dd"
  rw [eu]
  refine ⟨by lia,hJ _ ?_⟩
  clear hJ
  refine ze0 λ J hJ=>?_
  walk_at "dd"
  obtain ⟨v,ev,hv⟩:=zsf ((u:Int)+1+c / (n:Int) % ((n:Int) - 1)) (n:=n) (by lia)
  rw [ev]
  refine ⟨by lia,by lia,by lia,hJ _ ?_⟩
  clear hJ
  refine ze0 λ J hJ=>?_
  walk_at "dd"
  refine ⟨by lia,by lia,hJ _ ?_⟩
  clear hJ
  generalize c / (n:Int) / ((n:Int) - 1)=rest
  refine ze0 λ J hJ=>?_
  walk_at "dd"
  obtain ⟨un,n1,n2⟩:∃ f:Int,atI [uC 1,.int 2,.int 3,.int 0] (rest % 4)=some (.int f)/\0<=f/\f<=3:=by
   have:rest % 4=0 \/ rest % 4=1 \/ rest % 4=2 \/ rest % 4=3:=by lia
   rcases this with h|h|h|h
   all_goals rw [h]
   ·exact ⟨1,rfl,by decide,by decide⟩
   ·exact ⟨2,rfl,by decide,by decide⟩
   ·exact ⟨3,rfl,by decide,by decide⟩
   ·exact ⟨0,rfl,by decide,by decide⟩
  refine ⟨_,n1,hJ _ ?_⟩
  clear hJ
  refine ze0 λ J hJ=>?_
  walk_at "dd"
  refine ⟨.inl ⟨by lia,by lia⟩,by rw [uA];lia,hJ _ ?_⟩
  clear hJ
  refine ze0 λ J hJ=>?_
  walk_at "dd"
  have am0:=Int.emod_nonneg (rest / 4) (b:=un+1) (by lia)
  have am1:=zY (rest / 4) (b:=un+1) (by lia)
  refine ⟨by lia,.inl ⟨by lia,by lia⟩,by rw [uA];lia,hJ _ ?_⟩
  clear hJ
  generalize rest / 4 % (un+1)=am at am0 am1 ⊢
  refine ze0 λ J hJ=>?_
  walk_at "dd"
  refine ⟨by lia,hJ _ ?_⟩
  clear hJ
  generalize rest / 4 / (un+1)=rest2
  have m1:0<=un * unit:=zB n2.1 (by lia)
  have m2:un * unit<=3 * unit:=wB n2.2 (by lia)
  have m3:0<=am * unit:=zB am0 (by lia)
  have m4:am * unit<=un * unit:=wB (by lia) (by lia)
  have rst:∀ pr:Int,-1000000<=pr->pr<=1000000->∃ (A':List Ar) (p' x':List Int) (s7 s8 s9 s10 s11:Sl),[Sl.sh (vG (ns.map uC)),.sh (.int (n:Int)),.sh (.int unit),.ow (.li (A.map dAr++[vU [.int (u:Int),.int (v:Int),.int (un * unit)]])),.ow (.li (p.map .int++[.int pr])),.ow (.li (x.map .int++[.int (am * unit)])),.sh (.int fa),.sh (.int c),.sh (.int (u:Int)),.sh (.int (v:Int)),.sh (.int rest2),.sh (.int un)]=[Sl.sh (vG (ns.map uC)),.sh (.int (n:Int)),.sh (.int unit),.ow (.li (A'.map dAr)),.ow (.li (p'.map .int)),.ow (.li (x'.map .int)),.sh (.int fa),s7,s8,s9,s10,s11]/\A'.length=i+1/\Mad n unit A' p' x':=λ pr p1 p2=>by
   refine ⟨A++[(u,v,un * unit)],p++[pr],x++[am * unit],_,_,_,_,_,by rw [uJ,uJ,uJ];rfl,by simp [hAi],by simp [l1],by simp [l2],λ a ha=>?_,λ z hz=>?_,λ k a y h1 h2=>?_⟩
   ·rcases uG.mp ha with z|z
    ·exact md.ok a z
    ·simp at z;subst z;exact ⟨⟨hu,hv,m1⟩,m2⟩
   ·rcases uG.mp hz with y|y
    ·exact md.pb z y
    ·simp at y;subst y;exact ⟨p1,p2⟩
   ·by_cases e:k < A.length
    ·rw [u5 e] at h1
     rw [u5 (by lia)] at h2
     exact md.wi k a y h1 h2
    ·rw [u9 (by lia)] at h1 h2
     have e0:k - A.length=0:=by have:=(uZ.mp h1).1;simp at this;lia
     rw [e0] at h1
     rw [<- l2,e0] at h2
     simp at h1 h2
     subst h1 h2
     exact ⟨m3,m4⟩
  walk_at "dd"
  rw [uA,uA]
  have g1:(rest2 % 5 - 2) * fa<=2 * fa:=wB (by lia) f2.1
  have g2:-2 * fa<=(rest2 % 5 - 2) * fa:=wB (by lia) f2.1
  exact two (λ _=>⟨by lia,rst _ (by lia) (by lia)⟩) λ _=>⟨.inl ⟨by lia,by lia⟩,by lia,rst _ (by lia) (by lia)⟩
 ·obtain ⟨A,p,x,s7,s8,s9,s10,s11,rfl,hAi,md⟩:=hp
  refine hJ _ ?_
  clear hJ hB
  walk_at "dd"
  exact ⟨_,_,rfl,rfl,_,_,rfl,rfl,_,_,rfl,rfl,q A p x (by lia) md⟩
end
section
variable {P:Program} {w:World} {K:Fg} {mg:Str->Option Value} {base:Heap} {jA:Addr}
theorem zkv:FnScope ["script", "count", "unit", "arcs", "prices", "amounts", "found", "k", "start", "goal", "high", "rise"] ["script"] (zf0 zis):=by walk_at "sc"
theorem zkp (kt:Kit K) (jG:mg "isinstance"=none) (jJ:mg "len"=none) (jI:mg "list"=none) (jK:mg "range"=none) (qC:mg "tuple"=none) (kU:Def P w K mg base "cheapest" 7 ["count", "arcs", "prices", "amounts"] (spD K zya)) (jH:Def P w K mg base "_law_cell_at" 1 ["script", "k"] (spD K zp3)) (kL:Def P w K mg base "_law_made" 2 ["script", "count", "unit"] (spD K zib)) (jX:Def P w K mg base "_law_wholes" 2 ["found", "many"] (spD K zd7)) :
  ∀ (f:Addr) (cdv:Value) (A:Around) (outer:List Env) (s:Shared) (H:Hp) (E:XK),Room 7 (A.deeper (envOfC "law" (zf0 zis) s.heap.objs.size f cdv)) ->
   ∃ t d,PSs (cxOf CX0 P w K mg base ["script", "count", "unit", "arcs", "prices", "amounts", "found", "k", "start", "goal", "high", "rise"] "law" (zf0 zis) f cdv A outer s H E).nox (zw1 zis) t/\RfS K t d/\∀ (ns:List Int) (Qd:D->Prop),ns.length<=63->Qd (.bool true)->d { nx:=λ _=>Qd .none,rt:=rD Qd } (zda ["script", "count", "unit", "arcs", "prices", "amounts", "found", "k", "start", "goal", "high", "rise"] [.list (ns.map .int)]):=by
 intro f cdv A outer s H E hr
 have nd:=zkv.nd
 refine ⟨_,_,(zd0 (pset 1 nd (zo1 (zq1 (K:=K) rfl) zl0 (zo1 zd8 (zt0 jH (rmn hr) rfl (za0 (pv 0) (za0 zl0 zh0))) zl0)))
   (zd0 (pset 2 nd (zo1 (zq1 (K:=K) rfl) zl0 (zo1 zd8 (zt0 jH (rmn hr) rfl (za0 (pv 0) (za0 zl0 zh0))) (zo1 zc11 zl0 zl0))))
   (zd0 (zcf (zt0 kL (rmn hr) rfl (za0 (pv 0) (za0 (pv 1) (za0 (pv 2) zh0)))) (zd2 (K:=K) (n:=3) rfl rfl (zo0 (pgn 3 nd) (zo0 (pgn 4 nd) (zo0 (pgn 5 nd) zb2)))))
   (zd0 (pset 6 nd (zt0 kU (rmn hr) rfl (za0 (pv 1) (za0 (zl2 (zv2 (K:=K) rfl) rfl jI zw5 (za0 (pv 3) zh0)) (za0 (zl2 (zv2 (K:=K) rfl) rfl jI zw5 (za0 (pv 4) zh0)) (za0 (zl2 (zv2 (K:=K) rfl) rfl jI zw5 (za0 (pv 5) zh0)) zh0))))))
   (zd0 (zsa (PW.pt (zg11 (zoh (zq3 (K:=K) rfl (zz0 (zi9 (K:=K) rfl) rfl jG zm2 (za0 (pv 6) (za0 (zhe (v:=.ty "tuple") rfl qC zen rfl) zh0))) (λ _=>rfl))) (znm (zy0 (zpi (K:=K) rfl (Room.units hr)) (zz0 (zy1 (K:=K) rfl) rfl jJ zs9 (za0 (pv 6) zh0)) zl0 (zi2 _))))) (zj0 (zi1 zll)) zn2)
   (zd0 (zsa (PW.pt (zg11 (zoh (zq3 (K:=K) rfl (zt0 jX (rmn hr) rfl (za0 (pix w K hr (pv 6) zl0) (za0 (zz0 (zy1 (K:=K) rfl) rfl jJ zs9 (za0 (pv 3) zh0)) zh0))) (λ _=>rfl))) (znm (zoh (zq3 (K:=K) rfl (zt0 jX (rmn hr) rfl (za0 (pix w K hr (pv 6) zl0) (za0 (pv 1) zh0))) (λ _=>rfl)))))) (zj0 (zi1 zll)) zn2)
   (zd0 (zw4 PassesOwn.never rfl (zca rfl jK (za0 (zz0 (zy1 (K:=K) rfl) rfl jJ zs9 (za0 (pv 3) zh0)) zh0)) (pgn 7 nd) (zd0 (zcf (pix w K hr (pv 3) (pv 7)) (zd2 (K:=K) (n:=3) rfl rfl (zo0 (pgn 8 nd) (zo0 (pgn 9 nd) (zo0 (pgn 10 nd) zb2)))))
   (zd0 (pset 11 nd (zo1 zt9 (pix w K hr (pix w K hr (pv 6) zl0) (pv 9)) (pix w K hr (pix w K hr (pv 6) zl0) (pv 8))))
   (zd0 (zsa (PW.pt (zbj (zy0 zmp (pix w K hr (pix w K hr (pv 6) zl0) (pv 7)) (pv 10) (zi2 _)) (zqd (zy0 zbp (pv 11) (pix w K hr (pv 4) (pv 7)) (zi2 _))))) (zj0 (zi1 zll)) zn2)
   (zj0 (zsa (PW.pt (zbj (zy0 zbp (pix w K hr (pix w K hr (pv 6) zl0) (pv 7)) zl0 (zi2 _)) (zqd (zy0 zmp (pv 11) (pix w K hr (pv 4) (pv 7)) (zi2 _))))) (zj0 (zi1 zll)) zn2))))))
   (zj0 (zi1 zll))))))))),(zk0 (zd1 (zr0 zla rvi (RfE.v (zr0 zai (RfE.v (zk1 (zc0 (zg0 0) (zc0 zp1 zn0)))) rvi))) (rgn 1))
   (zk0 (zd1 (zr0 zla rvi (RfE.v (zr0 zai (RfE.v (zk1 (zc0 (zg0 0) (zc0 zp1 zn0)))) (RfE.v (zr0 zj71 rvi rvi))))) (rgn 2))
   (zk0 (zd1 (zk1 (zc0 (zg0 0) (zc0 (zg0 1) (zc0 (zg0 2) zn0)))) (zq4 (zp0 (rgn 3) (zp0 (rgn 4) (zp0 (rgn 5) ze2)))))
   (zk0 (zd1 (zk1 (zc0 (zg0 1) (zc0 (RfF.e (zyp zme (zv0 (zb0 3) zt1))) (zc0 (RfF.e (zyp zme (zv0 (zb0 4) zt1))) (zc0 (RfF.e (zyp zme (zv0 (zb0 5) zt1))) zn0))))) (rgn 6))
   (zk0 (zmb (zmx (zzg (zb8 (RfE.v (zzw kt (by simp) (zb0 6))))) (zx0 (zle q_ne (RfV.h (RfE.v (zjf zkk (zv0 (zb0 6) zt1)))) (RfV.h rvi)))) (zr2 (RfE.c zbl)) zj2)
   (zk0 (zmb (zmx (zzg (zb8 (RfE.v (zk1 (zc0 (zr0 r_ix (zb0 6) rvi) (zc0 (zjf zkk (zv0 (zb0 3) zt1)) zn0)))))) (zzg (zb8 (RfE.v (zk1 (zc0 (zr0 r_ix (zb0 6) rvi) (zc0 (zg0 1) zn0))))))) (zr2 (RfE.c zbl)) zj2)
   (zk0 (zz4 (zuf (zc0 (zjf zkk (zv0 (zb0 3) zt1)) zn0)) (rgn 7) (zk0 (zd1 (zr0 r_ix (zb0 3) (zb0 7)) (zq4 (zp0 (rgn 8) (zp0 (rgn 9) (zp0 (rgn 10) ze2)))))
   (zk0 (zd1 (zr0 zjj (RfE.v (zr0 r_ix (RfE.v (zr0 r_ix (zb0 6) rvi)) (zb0 9))) (RfE.v (zr0 r_ix (RfE.v (zr0 r_ix (zb0 6) rvi)) (zb0 8)))) (rgn 11))
   (zk0 (zmb (zlj (zx0 (zr0 r_lt (RfE.v (zr0 r_ix (RfE.v (zr0 r_ix (zb0 6) rvi)) (zb0 7))) (zb0 10))) (zx0 (zr0 r_gt (zb0 11) (RfE.v (zr0 r_ix (zb0 4) (zb0 7)))))) (zr2 (RfE.c zbl)) zj2)
   (zmb (zlj (zx0 (zr0 r_gt (RfE.v (zr0 r_ix (RfE.v (zr0 r_ix (zb0 6) rvi)) (zb0 7))) rvi)) (zx0 (zr0 r_lt (zb0 11) (RfE.v (zr0 r_ix (zb0 4) (zb0 7)))))) (zr2 (RfE.c zbl)) zj2)))))
   (zr2 (RfE.c zbl))))))))),?_⟩
 intro ns Qd hl q
 walk_at "ds"
 refine ze0 λ J hJ=>?_
 walk_at "dd"
 refine ⟨ns,0,rfl,by lia,?_⟩
 walk_at "dd"
 obtain ⟨u,eu,hu⟩:=zsf (zp4 ns 0) (n:=5) (by lia)
 rw [show zp4 ns 0 % 5=(u:Int) from eu,show (2:Int)+(u:Int)=((2+u:Nat):Int) by lia]
 refine hJ _ ?_
 clear hJ
 generalize hn:2+u=n
 refine ze0 λ J hJ=>?_
 walk_at "dd"
 refine ⟨ns,1,rfl,by lia,?_⟩
 walk_at "dd"
 refine ⟨by decide,hJ _ ?_⟩
 clear hJ
 have u1:1<=1+zp4 ns 1 % 100000000000000:=by lia
 have u2:1+zp4 ns 1 % 100000000000000<=100000000000000:=by lia
 generalize 1+zp4 ns 1 % 100000000000000=unit at u1 u2 ⊢
 refine ze0 λ J hJ=>?_
 walk_at "dd"
 refine ⟨ns,n,unit,rfl,by lia,by lia,by lia,u1,u2,λ A p x hA md=>?_⟩
 walk_at "dd"
 refine hJ _ ?_
 clear hJ
 have l1:=md.lp
 have l2:=md.lx
 have wx:within A.length (zf1 A) (fx x):=λ k hk=>by
  have e1:A[k]?=some A[k]:=uB hk
  have e2:x[k]?=some (x[k]'(by lia)):=uB (by lia)
  have:=md.wi k _ _ e1 e2
  unfold zf1 fx
  rw [e1,e2];exact this
 have sb:sm A.length (zf1 A)<=61 * 300000000000000:=by
  have:sm A.length (zf1 A)<=sm A.length λ _=>300000000000000:=zif λ k hk=>by
   have e1:A[k]?=some A[k]:=uB hk
   have:=(md.ok _ (vW hk)).2
   unfold zf1
   rw [e1]
   show A[k].2.2<=_
   lia
  rw [zgc] at this
  lia
 have p62:120 * sm A.length (zf1 A) < (2:Int) ^ 62:=by
  rw [show (2:Int) ^ 62=4611686018427387904 by decide]
  lia
 refine ze0 λ J hJ=>?_
 walk_at "dd"
 refine ⟨n,A,p,x,20,62,1000000,rfl,by lia,by lia,l1,l2,λ a ha=>(md.ok a ha).1,wx,md.pb,by decide,by decide,by decide,p62,by decide,λ x' h b1 b2 b3 b4 b5=>hJ _ ?_⟩
 clear hJ
 refine ze0 λ J hJ=>?_
 walk_at "dd"
 refine ⟨λ _=>trivial,two (λ z=>absurd rfl z) λ _=>hJ _ ?_⟩
 clear hJ
 refine ze0 λ J hJ=>?_
 walk_at "dd"
 refine ⟨_,rfl,x',by rw [uA,<- b1];rfl,by lia,?_⟩
 refine ⟨_,rfl,h,by rw [b2];rfl,by lia,hJ _ ?_⟩
 clear hJ
 refine ze0 λ J hJ=>?_
 refine zq2 λ B hB=>?_
 walk_at "dd"
 rw [uA]
 unfold rngD
 refine ⟨by lia,by lia,zz2 (λ i U=>∃ s7 s8 s9 s10 s11,U=[Sl.sh (vG (ns.map uC)),.sh (.int (n:Int)),.sh (.int unit),.sh (zr8 A),.sh (iL p),.sh (iL x),.sh (.tuple [iL x',iL h]),s7,s8,s9,s10,s11]) ⟨_,_,_,_,_,rfl⟩ (λ i k U hi hp=>?_) λ U hp=>?_⟩
 ·obtain ⟨s7,s8,s9,s10,s11,rfl⟩:=hp
  obtain ⟨i1,i2⟩:=uZ.mp hi
  simp at i1 i2
  subst i2
  rw [show (0:Int)+(i:Int)=(i:Int) by lia]
  walk_at "dd"
  refine hB _ _ ?_
  clear hB
  refine ze0 λ J hJ=>?_
  walk_at "dd"
  refine ⟨_,zq31 i1,?_⟩
  unfold dAr nI
  walk_at "dd"
  refine hJ _ ?_
  clear hJ
  have ok':aU A i < n/\aV A i < n:=by
   have e:A[i]?=some A[i]:=uB i1
   unfold aU aV
   rw [e]
   have:=(md.ok _ (vW i1)).1
   exact ⟨this.1,this.2.1⟩
  obtain ⟨f1,f2⟩:=b4 i i1
  unfold slk at f1 f2
  refine ze0 λ J hJ=>?_
  walk_at "dd"
  refine ⟨_,rfl,?_⟩
  walk_at "dd"
  refine ⟨_,zj9 (by lia),_,rfl,?_⟩
  walk_at "dd"
  refine ⟨_,zj9 (by lia),hJ _ ?_⟩
  clear hJ
  refine ze0 λ J hJ=>?_
  walk_at "dd"
  refine ⟨_,rfl,?_⟩
  walk_at "dd"
  refine ⟨_,zj9 (by lia),?_⟩
  walk_at "dd"
  have nx:J [Sl.sh (vG (ns.map uC)),.sh (.int (n:Int)),.sh (.int unit),.sh (zr8 A),.sh (iL p),.sh (iL x),.sh (.tuple [iL x',iL h]),.sh (.int (i:Int)),.sh (.int (aU A i:Int)),.sh (.int (aV A i:Int)),.sh (.int (zf1 A i)),.sh (.int (fx h (aV A i) - fx h (aU A i)))]:=by
   refine hJ _ ?_
   clear hJ
   walk_at "dd"
   refine ⟨_,rfl,?_⟩
   walk_at "dd"
   refine ⟨_,zj9 (by lia),?_⟩
   walk_at "dd"
   refine two (λ z=>⟨_,zj9 (by lia),?_⟩) λ _=>⟨_,_,_,_,_,rfl⟩
   walk_at "dd"
   exact two (λ y=>by have:=f2 z;lia) λ _=>⟨_,_,_,_,_,rfl⟩
  refine two (λ z=>⟨_,zj9 (by lia),?_⟩) λ _=>nx
  walk_at "dd"
  exact two (λ y=>by have:=f1 z;lia) λ _=>nx
 ·obtain ⟨s7,s8,s9,s10,s11,rfl⟩:=hp
  refine hJ _ ?_
  clear hJ hB
  walk_at "dd"
  exact q
end
theorem all_mk {l:PySem.W.OpenLaw} {w:World} {K:Fg} {h:Heap} {mg:Str->Option Value} {fa:Addr} {jA:Addr} (X:K.In h) (G:h.Ns mainGlobals mg) (hfa:mg "law"=some (.ref fa))
  (jB:TopCls K "Stream" jA)
  (jF:PySem.W.findIn K (.ref jA) "steps"=some none)
  (jD:PySem.W.findIn K (.ref jA) "ends"=some none)
  (jC:PySem.W.findIn K (.ref jA) "left"=some none)
  (kW:TopDef K "balances" zz6)
  (qK:TopDef K "beyond" zh9)
  (kM:TopDef K "slacks_of" zb4)
  (qL:TopDef K "fitted" zyc)
  (kX:TopDef K "ways_out" za5)
  (kO:TopDef K "distances" zk5)
  (qM:TopDef K "raised" zea)
  (jM:TopMeth K jA "row_behind" "Stream.row_behind" zm1)
  (jZ:TopMeth K jA "levels" "Stream.levels" zp2)
  (jU:TopMeth K jA "step_up" "Stream.step_up" zg2)
  (kA:TopMeth K jA "way_up" "Stream.way_up" zo2)
  (kD:TopMeth K jA "carry" "Stream.carry" zx1)
  (jV:TopMeth K jA "push_up" "Stream.push_up" zl1)
  (jW:TopMeth K jA "amounts" "Stream.amounts" za2)
  (jP:TopMeth K jA "__init__" "Stream.__init__" zg1)
  (kY:TopDefN K "greatest" zk6)
  (qN:TopDef K "evened" zl3)
  (kZ:TopDef K "repaired" zy4)
  (qA:TopDef K "cheapest" za3)
  (kE:TopDef K "_law_cell_at" zb3)
  (kQ:TopDef K "_law_made" zr5)
  (kI:TopDef K "_law_whole" zt4)
  (kG:TopDef K "_law_wholes" zn3)
  (qR:TopDef K "law" zis)
  {t_BITS:Tok} (g_BITS:PySem.W.nsIn K mainGlobals "BITS"=some (some (.int 4 t_BITS)))
  (qP:PySem.W.nsIn K mainGlobals "abs"=some none)
  (qO:PySem.W.nsIn K mainGlobals "any"=some none)
  (qJ:PySem.W.nsIn K mainGlobals "bool"=some none)
  (jE:PySem.W.nsIn K mainGlobals "enumerate"=some none)
  (qQ:PySem.W.nsIn K mainGlobals "int"=some none)
  (jG:PySem.W.nsIn K mainGlobals "isinstance"=some none)
  (jJ:PySem.W.nsIn K mainGlobals "len"=some none)
  (jI:PySem.W.nsIn K mainGlobals "list"=some none)
  (qE:PySem.W.nsIn K mainGlobals "max"=some none)
  (qD:PySem.W.nsIn K mainGlobals "min"=some none)
  (jK:PySem.W.nsIn K mainGlobals "range"=some none)
  (kC:PySem.W.nsIn K mainGlobals "reversed"=some none)
  (kJ:PySem.W.nsIn K mainGlobals "sorted"=some none)
  (qC:PySem.W.nsIn K mainGlobals "tuple"=some none)
  (jY:PySem.W.nsIn K mainGlobals "zip"=some none) (kt:Kit K)
 :∃ fd:FuncData,(∀ (s:Shared) (v:Value),BindsTo s fd ⟨[v],[]⟩ [("script",v)])/\∀ base:Heap,K.In base->base.Ns mainGlobals mg->FnOk l.prog w K mg base CX0 8 fa fd ["script"] (zsw K):=by
 have M:Md K mg:=⟨⟨h,X,G⟩⟩
 refine zp61 M qR hfa zkv (λ _ _ _ _ _ _ us hl=>by obtain ⟨_,rfl⟩:=ar1 hl;rfl) λ base kb nb=>?_
 have jT:=zne (P:=l.prog) (w:=w) (K:=K) (mg:=mg) (base:=base) M kW (M.not jY)
 have qB:=zck (P:=l.prog) (w:=w) (K:=K) (mg:=mg) (base:=base) M qK (M.not jY) jT
 have kF:=zqc (P:=l.prog) (w:=w) (K:=K) (mg:=mg) (base:=base) M kM (M.not jY)
 have qG:=zhi (P:=l.prog) (w:=w) (K:=K) (mg:=mg) (base:=base) M qL (M.not jE) (M.not jI)
 have kS:=zff (P:=l.prog) (w:=w) (K:=K) (mg:=mg) (base:=base) M kX (M.not jK) (M.not jY)
 have kK:=znc (P:=l.prog) (w:=w) (K:=K) (mg:=mg) (base:=base) M kO (M.not qD)
 have qH:=zpk (P:=l.prog) (w:=w) (K:=K) (mg:=mg) (base:=base) M qM (M.not jE) (M.not qE)
 have jL:=zs4 (P:=l.prog) (w:=w) (K:=K) (mg:=mg) (base:=base) jB.cls jM jF jD jC
 have jO:=zy6 (P:=l.prog) (w:=w) (K:=K) (mg:=mg) (base:=base) jB.cls jZ jL
 have jQ:=zf6 (P:=l.prog) (w:=w) (K:=K) (mg:=mg) (base:=base) jB.cls jU (M.not jJ) jC jD
 have jN:=za7 (P:=l.prog) (w:=w) (K:=K) (mg:=mg) (base:=base) jB.cls kA jD jQ
 have kB:=zg8 (P:=l.prog) (w:=w) (K:=K) (mg:=mg) (base:=base) jB.cls kD (M.not qD) jC
 have jR:=ze6 (P:=l.prog) (w:=w) (K:=K) (mg:=mg) (base:=base) jB.cls jV (M.not jI) jF jN kB
 have jS:=zg6 (P:=l.prog) (w:=w) (K:=K) (mg:=mg) (base:=base) jB.cls jW jC
 have qF:=zt5 (P:=l.prog) (w:=w) (K:=K) (mg:=mg) (base:=base) M jB jP (M.not jE) (M.not jK) jD jC jF
 have kR:=zje (P:=l.prog) (w:=w) (K:=K) (mg:=mg) (base:=base) M kY (M.not jJ) (M.not kJ) jB.cls jO jR jS qF
 have qI:=zqi (P:=l.prog) (w:=w) (K:=K) (mg:=mg) (base:=base) M qN (M.not jE) (M.not jJ) (M.not jI) (M.not jY) kR
 have kT:=zbf (P:=l.prog) (w:=w) (K:=K) (mg:=mg) (base:=base) M kZ (M.not qO) (M.not jE) jT qB kF qG kS kK qH qI
 have kU:=zdf (P:=l.prog) (w:=w) (K:=K) (mg:=mg) (base:=base) M qA (M.not qP) (M.not jI) (M.not qE) (M.not jK) (M.not kC) kT (M.got g_BITS) ⟨_,rfl⟩
 have jH:=zy7 (P:=l.prog) (w:=w) (K:=K) (mg:=mg) (base:=base) M kE (M.not jJ)
 have kL:=zoc (P:=l.prog) (w:=w) (K:=K) (mg:=mg) (base:=base) M kQ (M.not jJ) jH
 have kH:=zab (P:=l.prog) (w:=w) (K:=K) (mg:=mg) (base:=base) M kI kt (M.not qJ) (M.not qQ) (M.not jG)
 have jX:=zha (P:=l.prog) (w:=w) (K:=K) (mg:=mg) (base:=base) M kG kt (M.not jG) (M.not jJ) (M.not jI) kH
 exact zkp kt (M.not jG) (M.not jJ) (M.not jI) (M.not jK) (M.not qC) kU jH kL jX
end _40
local macro_rules|`(tactic| walk_at "top")=>`(tactic| (refine' zij ?a ?l ?c ?k;(case a=>k_is);(case l=>k_is);(case c=>k_is);(case k=>k_is)))
local macro_rules|`(tactic| walk_at "topn")=>`(tactic| (refine' zlg ?a ?l ?c ?k ?t ?d;(case a=>k_is);(case l=>k_is);(case c=>k_is);(case k=>k_is);(case t=>k_is);(case d=>rfl)))
local macro_rules|`(tactic| walk_at "meth")=>`(tactic| (refine' zrf ?a ?i ?l ?c ?k;(case a=>k_is);(case i=>k_is);(case l=>k_is);(case c=>k_is);(case k=>k_is)))
local macro_rules|`(tactic| walk_at "cls")=>`(tactic| (refine' zsi ?a ?pg ?hd ?po ?sa ?mk ?kc;(case a=>k_is);(case pg=>k_is);(case hd=>k_is);(case po=>k_is);(case sa=>k_is);(case mk=>k_is);(case kc=>k_is)))
namespace PySem.W.Fast
def tw8193688065063530400:=0
def tw410194650583758340:=0
def tw12107207128685054181:=0
def tw4926475910360901801:=0
def tw225095570909804878:=0
def tw10858674521996575506:=0
def tw5799308850182258267:=0
def tw3472878137640658411:=0
def tw6245674851378821870:=0
def tw8328707657407816400:=0
def tw12072465763646041286:=0
def tw12489377753221723683:=0
def tw17055361933081160738:=0
def tw12478567701848894003:=0
def tw9379212813790692634:=0
def tw4983096559547175259:=0
def tw17052917705926052866:=0
def tw13262924729940167650:=0
def tw2619745836320109758:=0
def tw14297664296412104191:=0
def tw9985835928271565919:=0
def tw8528816775198879427:=0
def tw6120388016272622098:=0
def tw5589866444810561182:=0
def tw18149681329143882003:=0
def tw1902757086580369053:=0
def tw5444021439308461542:=0
def tw479381193372024429:=0
def tw16918379748212810280:=0
def tw1510738495148538883:=0
def tw8880430500285893955:=0
def tw14616023065686772508:=0
def tw12874764780384693977:=0
def tw6103692222555656237:=0
def tw4387097530432430965:=0
def tw930558903240582286:=0
def tw8318638989029546395:=0
def tw8452639535550586658:=0
def tw6923762333236321698:=0
def tw5056482545402335098:=0
def tw1300087707217590908:=0
def tw12512629485469080407:=0
def tw6115166724039280853:=0
def tw15927522375438481877:=0
def tw16043291114443569871:=0
def tw9151059743451581900:=0
def tw11930465343437184001:=0
def tw16482238759243007468:=0
def tw1415146798548450991:=0
def tw2582671190284912326:=0
def tw13621790564924633854:=0
def tw7678409121889535112:=0
def tw5125138814650328189:=0
def tw6404947247522138279:=0
end PySem.W.Fast
open PySem PySem.W PyProof.Rows _3 _4
set_option maxRecDepth 100000 in
set_option maxHeartbeats 0 in
theorem PySem.Challenge.cw_vatyard_k40_heights_fit_holds : PySem.Challenge.rw_vatyard_k40_heights_fit.Holds := by
  w_on; o_law; k_head; (case hw => w_witness2)
  k_fill
  refine _3.law_walk (k := 8) (l := PySem.Challenge.rw_vatyard_k40_heights_fit) ⟨rfl, by decide, rfl, by decide⟩ rfl rfl (fun w h Yv => PySem.W.kIn_of Yv) ?F
  case F =>
    intro w mg fa h KX G hmg
    refine' _40.all_mk KX G hmg ?jB ?jF ?jD ?jC ?kW ?qK ?kM ?qL ?kX ?kO ?qM ?jM ?jZ ?jU ?kA ?kD ?jV ?jW ?jP ?kY ?qN ?kZ ?qA ?kE ?kQ ?kI ?kG ?qR ?g_BITS ?qP ?qO ?qJ ?jE ?qQ ?jG ?jJ ?jI ?qE ?qD ?jK ?kC ?kJ ?qC ?jY ?kt
    (case jB => walk_at "cls")
    (case jF => k_is)
    (case jD => k_is)
    (case jC => k_is)
    (case kW => walk_at "top")
    (case qK => walk_at "top")
    (case kM => walk_at "top")
    (case qL => walk_at "top")
    (case kX => walk_at "top")
    (case kO => walk_at "top")
    (case qM => walk_at "top")
    (case jM => walk_at "meth")
    (case jZ => walk_at "meth")
    (case jU => walk_at "meth")
    (case kA => walk_at "meth")
    (case kD => walk_at "meth")
    (case jV => walk_at "meth")
    (case jW => walk_at "meth")
    (case jP => walk_at "meth")
    (case kY => walk_at "topn")
    (case qN => walk_at "top")
    (case kZ => walk_at "top")
    (case qA => walk_at "top")
    (case kE => walk_at "top")
    (case kQ => walk_at "top")
    (case kI => walk_at "top")
    (case kG => walk_at "top")
    (case qR => walk_at "top")
    (case g_BITS => k_is)
    (case qP => k_is)
    (case qO => k_is)
    (case qJ => k_is)
    (case jE => k_is)
    (case qQ => k_is)
    (case jG => k_is)
    (case jJ => k_is)
    (case jI => k_is)
    (case qE => k_is)
    (case qD => k_is)
    (case jK => k_is)
    (case kC => k_is)
    (case kJ => k_is)
    (case qC => k_is)
    (case jY => k_is)
    (case kt => exact ⟨fun t ht T hT => by simp only [List.mem_cons, List.not_mem_nil, or_false] at ht hT; rcases ht with rfl | rfl | rfl | rfl | rfl | rfl <;> rcases hT with rfl | rfl | rfl | rfl | rfl <;> rfl⟩)
