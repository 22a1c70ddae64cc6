import PyProof.Rows.All
import Wide.All
import OpenK.AllK
import Wide.FinOn
import Lean
import PyProof.EqAt
import PyProof.EqKinds
import PyProof.TupleCall
import PyProof.StrLawsIn
import PyProof.StrLawsJoin
import PyProof.ZipIter
import PyProof.EnumFor
import PyProof.EnumMake
import PyProof.EnumStmt
import PyProof.DictItems
import KE.KPairComp
import KE.KSortTup
import PyProof.DictWalks
import PyProof.Rows.SortWalk
import PyProof.ReprRoads
import PyProof.ReprLen
import PyProof.NsDelKeeps
import PyProof.RulesAs
import PyProof.AttrMissHeap
import KE.KDictOf
import PyProof.MinMaxWalk
import PyProof.ConsumeWalk
import PyProof.ListRange
import KE.KDictLaws
import KE.KRevIter
import PyProof.Rows.RuleM_int
import PyProof.SetKind
import PyProof.Rows.SetFrom
import PyProof.SetRoads
import PySem.Challenge.RW_vatyard_k32_cut_off_and_short
set_option Elab.async false
set_option genSizeOf false
set_option linter.all false
set_option maxRecDepth 100000
set_option maxHeartbeats 4000000
abbrev Fg:=PySem.W.Frag
namespace L2
open PySem PySem.Spec PyProof.Rows
abbrev Key:=Sum Int Str
def zio:Key->Value->Bool
|.inl k,v=>Value.isInt k v
|.inr x,v=>Value.isStrOf x v
def keyH (w:World):Key->Int
|.inl k=>hashInt k
|.inr x=>hashStr w x
theorem za1:∀ {k:Key} {v:Value},zio k v=true->(∃ i t,k=Sum.inl i/\v=Value.int i t) \/ (∃ x t,k=Sum.inr x/\v=Value.str x t)
|.inl i,v,h=>by
  obtain ⟨t,e⟩:=Value.isInt_shape (k:=i) (v:=v) h
  exact .inl ⟨i,t,rfl,e⟩
|.inr x,v,h=>by
  obtain ⟨t,e⟩:=Value.isStrOf_shape (x:=x) (v:=v) h
  exact .inr ⟨x,t,rfl,e⟩
theorem zm8 (i:Int) (t:Tok):zio (.inl i) (.int i t)=true:=by simp [zio,Value.isInt]
theorem zkh (x:Str) (t:Tok):zio (.inr x) (.str x t)=true:=by simp [zio,Value.isStrOf]
theorem zfw (a b:Int):decide ((Sum.inl a:Key)=Sum.inl b)=(a == b):=by
 by_cases e:a=b
 ·subst e;simp
 ·have h:¬ (Sum.inl a:Key)=Sum.inl b:=λ q=>e (Sum.inl.inj q)
  rw [decide_eq_false h]
  exact (beq_eq_false_iff_ne.mpr e).symm
theorem zoz (a b:Str):decide ((Sum.inr a:Key)=Sum.inr b)=decide (a=b):=by
 by_cases e:a=b
 ·subst e;simp
 ·have h:¬ (Sum.inr a:Key)=Sum.inr b:=λ q=>e (Sum.inr.inj q)
  rw [decide_eq_false h,decide_eq_false e]
theorem zqw (a:Int) (b:Str):decide ((Sum.inl a:Key)=Sum.inr b)=false:=decide_eq_false (λ q=>nomatch q)
theorem ztx (a:Str) (b:Int):decide ((Sum.inr a:Key)=Sum.inl b)=false:=decide_eq_false (λ q=>nomatch q)
def zi1 (prog:Program) (w:World):PySem.KeyKind prog w Key where
 is:=zio
 hash:=keyH w
 inj:=λ v a b ha hb=>by
  rcases za1 ha with ⟨i,t,rfl,rfl⟩|⟨x,t,rfl,rfl⟩
  ·rcases za1 hb with ⟨j,u,rfl,e⟩|⟨y,u,rfl,e⟩
   ·injection e with e1 _;rw [e1]
   ·exact nomatch e
  ·rcases za1 hb with ⟨j,u,rfl,e⟩|⟨y,u,rfl,e⟩
   ·exact nomatch e
   ·injection e with e1 _;rw [e1]
 byValue:=λ k v h=>by
  rcases za1 h with ⟨i,t,rfl,rfl⟩|⟨x,t,rfl,rfl⟩ <;> rfl
 pyHash:=λ hv h=>by
  rcases za1 hv with ⟨i,t,rfl,rfl⟩|⟨x,t,rfl,rfl⟩
  ·exact wpAny_pyHash_int h
  ·exact wpAny_pyHash_str h
 eqBool:=λ hu hv h=>by
  rcases za1 hu with ⟨i,t,rfl,rfl⟩|⟨x,t,rfl,rfl⟩
  ·rcases za1 hv with ⟨j,u,rfl,rfl⟩|⟨y,u,rfl,rfl⟩
   ·rw [zfw] at h;exact wpAny_eqBool_int h
   ·rw [zqw] at h;exact SeqAt.EqAt.int_str i t y u _ _ _ _ h
  ·rcases za1 hv with ⟨j,u,rfl,rfl⟩|⟨y,u,rfl,rfl⟩
   ·rw [ztx] at h;exact SeqAt.EqAt.str_int x t j u _ _ _ _ h
   ·rw [zoz] at h;exact wpAny_eqBool_str h
 «strs»:=λ k x t v h=>by
  rcases za1 h with ⟨i,u,rfl,e⟩|⟨y,u,rfl,e⟩
  ·exact nomatch e
  ·injection e with e1 _
   subst e1
   cases v <;> rfl
theorem zrd (prog:Program) (w:World) (i:Int) (t:Tok):(zi1 prog w).is (.inl i) (.int i t)=true:=zm8 i t
theorem ztd (prog:Program) (w:World) (x:Str) (t:Tok):(zi1 prog w).is (.inr x) (.str x t)=true:=zkh x t
inductive V where
|non|bl (b:Bool)|int (i:Int)|str (x:Str)|byt (b:Array UInt8)|flt (b:UInt64)|ref (a:Addr)|ty (n:String)
 deriving DecidableEq
def RelV:V->Value->Prop
|.non,u=>u=Value.none
|.bl b,u=>u=Value.bool b
|.int i,u=>∃ t,u=Value.int i t
|.str x,u=>∃ t,u=Value.str x t
|.byt b,u=>∃ t,u=Value.bytes b t
|.flt b,u=>∃ t,u=Value.float b t
|.ref a,u=>u=Value.ref a
|.ty n,u=>u=Value.type n
abbrev Vals:List V->List Value->Prop:=Paired RelV
theorem Vals.length {xs:List V} {us:List Value} (r:Vals xs us):xs.length=us.length:=Paired.length r
theorem Vals.get:∀ {xs:List V} {us:List Value} {i:Nat} {x:V},Vals xs us->xs[i]?=some x->∃ u,us[i]?=some u/\RelV x u
|_,_,_,_,.nil,e=>by simp at e
|_,_,0,_,.cons r _,e=>by simp at e;subst e;exact ⟨_,rfl,r⟩
|_,_,i+1,x,.cons _ t,e=>by
  obtain ⟨u,h1,h2⟩:=Vals.get (i:=i) (x:=x) t (by simpa using e)
  exact ⟨u,by simpa using h1,h2⟩
theorem Vals.set {x:V} {u:Value} (r:RelV x u):∀ {xs:List V} {us:List Value} (i:Nat),Vals xs us->Vals (xs.set i x) (us.set i u)
|_,_,_,.nil=>.nil
|_,_,0,.cons _ t=>.cons r t
|_,_,i+1,.cons q t=>.cons q (Vals.set r i t)
theorem Vals.append:∀ {xs ys:List V} {us ws:List Value},Vals xs us->Vals ys ws->Vals (xs++ys) (us++ws)
|_,_,_,_,.nil,s=>s
|_,_,_,_,.cons r t,s=>.cons r (Vals.append t s)
theorem Vals.take:∀ {xs:List V} {us:List Value} (n:Nat),Vals xs us->Vals (xs.take n) (us.take n)
|_,_,0,_=>.nil
|_,_,_+1,.nil=>.nil
|_,_,n+1,.cons r t=>.cons r (Vals.take n t)
theorem Vals.drop:∀ {xs:List V} {us:List Value} (n:Nat),Vals xs us->Vals (xs.drop n) (us.drop n)
|_,_,0,r=>r
|_,_,_+1,.nil=>.nil
|_,_,n+1,.cons _ t=>Vals.drop n t
theorem Vals.none_of:∀ {xs:List V} {us:List Value} {i:Nat},Vals xs us->xs[i]?=none->us[i]?=none:=λ {xs us i} r e=>by
 have h1:=r.length
 have h2:xs.length<=i:=List.getElem?_eq_none_iff.mp e
 exact List.getElem?_eq_none_iff.mpr (by lia)
def RelO:Option V->Option Value->Prop
|some v,some u=>RelV v u
|none,none=>True
|_,_=>False
def KV {κ:Type}:List (κ×V)->List (κ×Value)->Prop:=Paired λ (p:κ×V) (q:κ×Value)=>p.1=q.1/\RelV p.2 q.2
def kV:Key->V
|.inl i=>.int i
|.inr x=>.str x
inductive HO where
 /-- a list -/
|lst (xs:List V)
 /-- a tuple (never changes) -/
|tup (xs:List V)
 /-- a dict whose keys are ints and texts;one whose keys are tuples of ints and texts (the empty one is both) -/
|dK (kvs:List (Key×V))|dT (kvs:List (List Key×V))
 /-- a set of ints: its members,its size -/
|set (S:Int->Bool) (n:Nat)
 /-- an instance of the class at C,its dict at dx,its attributes -/
|ins (C dx:Addr) (fs:List (Str×V))
 /-- the dict of the instance at x -/
|own (x:Addr)
 /-- the dict of an exception -/
|xd (fs:List (Str×V))
 /-- a bound method,f of x -/
|met (f x:Addr)
 /-- a range object lo,lo+1,.. below hi -/
|rng (lo hi:Int)
 /-- a thing that is known to the object (the script;a dict while a loop walks it): read,never written while it is so -/
|frz (o:Obj) (u:HO)
 /-- a code object's table -/
|tbl (ps:Array Value)
 /-- any other thing,by what is true of its one object (a def of one's own: SetO a S n:=HO.ext λ h=>..) -/
|ext (φ:Heap->Prop)
abbrev Hp:=Addr->Option HO
def upd (H:Hp) (a:Addr) (o:HO):Hp:=λ b=>if b=a then some o else H b
theorem zi0 {H:Hp} {a:Addr} {o:HO}:upd H a o a=some o:=by unfold upd;rw [if_pos rfl]
theorem zp0 {H:Hp} {a b:Addr} {o:HO} (h:b≠a):upd H a o b=H b:=by unfold upd;rw [if_neg h]
theorem zx21 {H:Hp} {a b:Addr} {o u:HO} (h:H a=some o) (h':H b=some u) (d:o≠u):a≠b:=by
 intro e;subst e;rw [h] at h';exact d (Option.some.inj h')
theorem zn2 {H:Hp} {a b:Addr} {o:HO} (h:H a=some o) (h':H b=none):a≠b:=by
 intro e;subst e;rw [h] at h';cases h'
section
variable (P:Program) (w:World)
def ObjOk (H:Hp) (h:Heap) (a:Addr):HO->Prop
|.lst xs=>xs.length<=sizeLine/\∃ (its:List Value) (n:Nat),Vals xs its/\h.get? a=some { cls:=.type "list",data:=.seq its.toArray n }
|.tup xs=>xs.length<=sizeLine/\∃ its:List Value,Vals xs its/\IsTup h a its.toArray
|.dK kvs=>kvs.length<=sizeLine/\(a == sysModules)=false/\∃ vs,KV kvs vs/\h.DictOf (zi1 P w) a vs
|.dT kvs=>kvs.length<=sizeLine/\(a == sysModules)=false/\∃ xs:List (List Key×Addr×Value),
   Paired (λ (p:List Key×V) (q:List Key×Addr×Value)=>p.1=q.1/\H q.2.1=some (.tup (p.1.map kV))/\RelV p.2 q.2.2) kvs xs /\
   ∃ o es ep,h.get? a=some o/\o.ExactDict/\o.data=.dict es ep/\es.toList=xs.map (entryOfKey (tupleKind (zi1 P w)))/\(xs.map (·.1)).Nodup
|.set S n=>h.SetOf (intKind P w) a S n
|.ins C dx fs=>H dx=some (.own a)/\fs.length<=1000/\dx≠a/\h.get? a=some (PySem.W.instObj C dx) /\
   ∃ mA,h.Ns1 dx mA/\(∀ f,RelO (fs.lookup f) (mA f))/\PySem.Within mA (fs.map (·.1))
|.own _=>∃ o,h.get? a=some o
|.xd fs=>∃ mA,h.Ns1 a mA/\∀ f,RelO (fs.lookup f) (mA f)
|.rng lo hi=>∃ t u v,h.get? a=some { cls:=.type "range",data:=.fields #[.int lo t,.int hi u,.int 1 v] }
|.frz o u=>h.get? a=some o/\ObjOk H h a u
|.tbl ps=>h.get? a=some { cls:=.none,data:=.fields ps }
|.met f x=>h.get? a=some (PySem.W.methodObj (.ref f) (.ref x))
|.ext φ=>φ h/\(∃ o,h.get? a=some o)/\∀ h1 h2:Heap,φ h1->(∀ o,h1.get? a=some o->h2.get? a=some o)->φ h2
def HOk (H:Hp) (h:Heap):Prop:=∀ a o,H a=some o->ObjOk P w H h a o
end
section
variable {P:Program} {w:World} {H H':Hp} {h h':Heap} {a:Addr} {o:HO}
theorem ObjOk.lt (x:ObjOk P w H h a o):a < h.objs.size:=by
 cases o with
|lst xs=>obtain ⟨_,_,_,_,e⟩:=x;exact Heap.lt_size e
|tup xs=>obtain ⟨_,_,_,p⟩:=x;exact p.lt
|dK kvs=>obtain ⟨_,_,_,_,o,_,_,e,_⟩:=x;exact Heap.lt_size e
|dT kvs=>obtain ⟨_,_,_,_,o,_,_,e,_⟩:=x;exact Heap.lt_size e
|set S n=>obtain ⟨o,_,_,_,e,_⟩:=x;exact Heap.lt_size e
|ins C dx fs=>obtain ⟨_,_,_,e,_⟩:=x;exact Heap.lt_size e
|own y=>obtain ⟨_,e⟩:=x;exact Heap.lt_size e
|xd fs=>obtain ⟨_,⟨_,_,_,e,_⟩,_⟩:=x;exact Heap.lt_size e
|rng lo hi=>obtain ⟨_,_,_,e⟩:=x;exact Heap.lt_size e
|frz ob u=>obtain ⟨e,_⟩:=x;exact Heap.lt_size e
|tbl ps=>exact Heap.lt_size (show h.get? a=some _ from x)
|met f y=>exact Heap.lt_size (show h.get? a=some _ from x)
|ext φ=>obtain ⟨_,⟨_,e⟩,_⟩:=x;exact Heap.lt_size e
theorem Paired.mapP {α β:Type} {F G:α->β->Prop}:∀ {l₁:List α} {l₂:List β},Paired F l₁ l₂->(∀ a b,F a b->G a b)->Paired G l₁ l₂
|_,_,.nil,_=>.nil
|_,_,.cons r t,f=>.cons (f _ _ r) (Paired.mapP t f)
theorem ObjOk.stay (x:ObjOk P w H h a o) (k:∀ b u,(b=a \/ H b=some (.own a))->h.get? b=some u->h'.get? b=some u)
  (ho:∀ b,H b=some (.own a)->H' b=some (.own a)) (ht:∀ b xs,H b=some (.tup xs)->H' b=some (.tup xs)):ObjOk P w H' h' a o:=by
 induction o with
|lst xs=>obtain ⟨z,its,n,r,e⟩:=x;exact ⟨z,its,n,r,k _ _ (.inl rfl) e⟩
|tup xs=>obtain ⟨z,its,r,ob,e,c⟩:=x;exact ⟨z,its,r,ob,k _ _ (.inl rfl) e,c⟩
|dK kvs=>obtain ⟨z,y,vs,r,ob,es,ep,e,c⟩:=x;exact ⟨z,y,vs,r,ob,es,ep,k _ _ (.inl rfl) e,c⟩
|dT kvs =>
  obtain ⟨z,y,xs,r,ob,es,ep,e,c⟩:=x
  exact ⟨z,y,xs,Paired.mapP r λ p q z=>⟨z.1,ht _ _ z.2.1,z.2.2⟩,ob,es,ep,k _ _ (.inl rfl) e,c⟩
|set S n=>obtain ⟨ob,es,ep,t,e,c⟩:=x;exact ⟨ob,es,ep,t,k _ _ (.inl rfl) e,c⟩
|ins C dx fs =>
  obtain ⟨d,z,ne,e,mA,⟨od,es,ep,e2,c⟩,r⟩:=x
  exact ⟨ho _ d,z,ne,k _ _ (.inl rfl) e,mA,⟨od,es,ep,k _ _ (.inr d) e2,c⟩,r⟩
|own y=>obtain ⟨ob,e⟩:=x;exact ⟨ob,k _ _ (.inl rfl) e⟩
|xd fs=>obtain ⟨mA,⟨od,es,ep,e,c⟩,r⟩:=x;exact ⟨mA,⟨od,es,ep,k _ _ (.inl rfl) e,c⟩,r⟩
|rng lo hi=>obtain ⟨t,u,v,e⟩:=x;exact ⟨t,u,v,k _ _ (.inl rfl) e⟩
|frz ob u ih=>obtain ⟨e,q⟩:=x;exact ⟨k _ _ (.inl rfl) e,ih q⟩
|tbl ps =>
  have e:h.get? a=some { cls:=.none,data:=.fields ps }:=x
  show h'.get? a=some { cls:=.none,data:=.fields ps }
  exact k a _ (.inl rfl) e
|met f y =>
  have e:h.get? a=some (PySem.W.methodObj (.ref f) (.ref y)):=x
  show h'.get? a=some (PySem.W.methodObj (.ref f) (.ref y))
  exact k a _ (.inl rfl) e
|ext φ=>obtain ⟨p,⟨o,e⟩,st⟩:=x;exact ⟨st _ _ p λ o q=>k _ _ (.inl rfl) q,⟨o,k _ _ (.inl rfl) e⟩,st⟩
theorem HOk.lt (x:HOk P w H h) (e:H a=some o):a < h.objs.size:=(x a o e).lt
theorem HOk.fresh (x:HOk P w H h) (e:h.objs.size<=a):H a=none:=by
 cases q:H a with
|none=>rfl
|some u=>exact absurd (Nat.lt_of_lt_of_le (x.lt q) e) (Nat.lt_irrefl _)
theorem HOk.kept (x:HOk P w H h) (k:∀ b u,h.get? b=some u->h'.get? b=some u):HOk P w H h':=λ a o e =>
 (x a o e).stay (λ b u _ q=>k b u q) (λ _ q=>q) λ _ _ q=>q
theorem HOk.laid (x:HOk P w H h) (k:∀ b u,h.get? b=some u->h'.get? b=some u) (hp:h.objs.size<=a) (new:ObjOk P w (upd H a o) h' a o):HOk P w (upd H a o) h':=λ b u e=>by
 have hn:=x.fresh hp
 by_cases hb:b=a
 ·subst hb;rw [zi0] at e;cases e;exact new
 ·rw [zp0 hb] at e
  exact (x b u e).stay (λ c v _ q=>k c v q) (λ c q=>by rw [zp0 (zn2 q hn)];exact q) λ c xs q=>by rw [zp0 (zn2 q hn)];exact q
end
def Rd (H:Hp) (a:Addr) (u:HO):Prop:=H a=some u \/ ∃ o,H a=some (.frz o u)
theorem Rd.of {H:Hp} {a:Addr} {u:HO} (h:H a=some u):Rd H a u:=.inl h
theorem Rd.ok {P:Program} {w:World} {H:Hp} {h:Heap} {a:Addr} {u:HO} (r:Rd H a u) (x:HOk P w H h):ObjOk P w H h a u:=by
 rcases r with r|⟨o,r⟩
 ·exact x a u r
 ·obtain ⟨_,q⟩:=x a _ r
  exact q
def Mut:Option HO->Prop
|some (.lst _)=>True
|some (.dK _)=>True
|some (.dT _)=>True
|some (.set _ _)=>True
|some (.ins _ _ _)=>True
|some (.ext _)=>True
|_=>False
section
variable {P:Program} {w:World} {H:Hp} {h h':Heap} {x e:Addr} {o':HO}
theorem HOk.write (ok:HOk P w H h) (mu:Mut (H x)) (he:e=x \/ H e=some (.own x)) (k:∀ b u,b≠e->h.get? b=some u->h'.get? b=some u) (heo:∃ u,h'.get? e=some u)
  (new:ObjOk P w (upd H x o') h' x o'):HOk P w (upd H x o') h':=λ b u q=>by
 have nown:∀ c y,H c=some (.own y)->c≠x:=λ c y r z=>by subst z;rw [r] at mu;exact mu
 have ntup:∀ c xs,H c=some (.tup xs)->c≠x:=λ c xs r z=>by subst z;rw [r] at mu;exact mu
 by_cases hb:b=x
 ·subst hb;rw [zi0] at q;cases q;exact new
 ·rw [zp0 hb] at q
  by_cases hbe:b=e
  ·have q':H b=some (.own x):=by
    rcases he with z|z
    ·exact absurd (hbe.trans z) hb
    ·rw [hbe];exact z
   rw [q] at q';cases q'
   obtain ⟨v,hv⟩:=heo
   exact ⟨v,by rw [hbe];exact hv⟩
  ·refine (ok b u q).stay (λ c v hc r=>k c v ?_ r) (λ c r=>by rw [zp0 (nown c b r)];exact r) λ c xs r=>by rw [zp0 (ntup c xs r)];exact r
   rcases hc with rfl|hc
   ·exact hbe
   ·rintro rfl
    rcases he with z|z
    ·exact nown c b hc z
    ·rw [hc] at z;cases z;exact hb rfl
end
structure Un (fs ex:List Addr) (H H':Hp) (h h':Heap):Prop where
 keep:∀ b o,h.get? b=some o->H b=none->b ∉ fs->b ∉ ex->h'.get? b=some o
 slot:∀ b o,h.get? b=some o->H b=none->b∈fs->b ∉ ex->∃ sl,h'.get? b=some { o with slots:=sl }
 free:∀ b o,h.get? b=some o->H b=none->b ∉ ex->H' b=none
 there:∀ b o,h.get? b=some o->b ∉ ex->∃ o',h'.get? b=some o'
 tups:∀ b xs,H b=some (.tup xs)->H' b=some (.tup xs)
 frzs:∀ b o u,H b=some (.frz o u)->H' b=some (.frz o u)
 tbls:∀ b ps,H b=some (.tbl ps)->∃ more,H' b=some (.tbl (ps++more))
section
variable {fs fs' ex ex':List Addr} {H H1 H2:Hp} {h h1 h2 h':Heap} {a x e:Addr} {o:HO}
theorem Un.any (u:Un fs ex H H1 h h1) {b:Addr} {ob:Obj} (q:h.get? b=some ob) (n:H b=none) (hx:b ∉ ex):∃ sl,h1.get? b=some { ob with slots:=sl }:=by
 by_cases hb:b∈fs
 ·exact u.slot b ob q n hb hx
 ·exact ⟨ob.slots,u.keep b ob q n hb hx⟩
theorem Un.trans (a:Un fs ex H H1 h h1) (b:Un fs ex H1 H2 h1 h2):Un fs ex H H2 h h2 where
 keep:=λ c ob q n hc hx=>b.keep c ob (a.keep c ob q n hc hx) (a.free c ob q n hx) hc hx
 slot:=λ c ob q n hc hx=>by
  obtain ⟨sl,e1⟩:=a.slot c ob q n hc hx
  obtain ⟨sl',e2⟩:=b.slot c _ e1 (a.free c ob q n hx) hc hx
  exact ⟨sl',e2⟩
 free:=λ c ob q n hx=>by
  obtain ⟨o',e1⟩:=a.there c ob q hx
  exact b.free c o' e1 (a.free c ob q n hx) hx
 there:=λ c ob q hx=>by
  obtain ⟨o',e1⟩:=a.there c ob q hx
  exact b.there c o' e1 hx
 tups:=λ c xs q=>b.tups c xs (a.tups c xs q)
 frzs:=λ c ob xs q=>b.frzs c ob xs (a.frzs c ob xs q)
 tbls:=λ c ps q=>by
  obtain ⟨m1,e1⟩:=a.tbls c ps q
  obtain ⟨m2,e2⟩:=b.tbls c _ e1
  exact ⟨m1++m2,by rw [e2,Array.append_assoc]⟩
theorem Un.kept (k:∀ b u,h.get? b=some u->h'.get? b=some u):Un fs ex H H h h' :=
 ⟨λ b ob q _ _ _=>k b ob q,λ b ob q _ _ _=>⟨ob.slots,k b ob q⟩,λ _ _ _ n _=>n,λ b ob q _=>⟨ob,k b ob q⟩,λ _ _ q=>q,λ _ _ _ q=>q,λ _ ps q=>⟨#[],by rw [q];simp⟩⟩
theorem Un.refl:Un fs ex H H h h:=Un.kept λ _ _ q=>q
theorem Un.laid (k:∀ b u,h.get? b=some u->h'.get? b=some u) (hp:h.objs.size<=a) (hn:H a=none):Un fs ex H (upd H a o) h h' where
 keep:=λ b u q _ _ _=>k b u q
 slot:=λ b u q _ _ _=>⟨u.slots,k b u q⟩
 free:=λ b u q n _=>by rw [zp0 (Nat.ne_of_lt (Nat.lt_of_lt_of_le (Heap.lt_size q) hp))];exact n
 there:=λ b u q _=>⟨u,k b u q⟩
 tups:=λ b xs q=>by rw [zp0 (zn2 q hn)];exact q
 frzs:=λ b u xs q=>by rw [zp0 (zn2 q hn)];exact q
 tbls:=λ b ps q=>⟨#[],by rw [zp0 (zn2 q hn),q];simp⟩
theorem Un.write (mu:Mut (H x)) (he:e=x \/ H e=some (.own x)) (k:∀ b u,b≠e->h.get? b=some u->h'.get? b=some u) (heo:∃ u,h'.get? e=some u):Un fs ex H (upd H x o) h h':=by
 have hx:∀ b,H b=none->b≠x:=λ b n z=>by subst z;rw [n] at mu;exact mu
 have hb:∀ b,H b=none->b≠e:=λ b n z=>by
  subst z
  rcases he with r|r
  ·exact hx b n r
  ·rw [n] at r;cases r
 have hm:∀ b u,H b=some u->¬ Mut (some u)->b≠x:=λ b u q nm z=>by subst z;rw [q] at mu;exact nm mu
 refine ⟨λ b u q n _ _=>k b u (hb b n) q,λ b u q n _ _=>⟨u.slots,k b u (hb b n) q⟩,λ b u q n _=>by rw [zp0 (hx b n)];exact n,λ b u q _=>?_,
  λ b xs q=>by rw [zp0 (hm b _ q λ z=>z)];exact q,λ b u xs q=>by rw [zp0 (hm b _ q λ z=>z)];exact q,λ b ps q=>⟨#[],by rw [zp0 (hm b _ q λ z=>z),q];simp⟩⟩
 by_cases hbe:b=e
 ·subst hbe;exact heo
 ·exact ⟨u,k b u hbe q⟩
theorem Un.mono (u:Un fs ex H H1 h h1) (hs:∀ b∈fs,b∈fs') (hx:∀ b∈ex,b∈ex'):Un fs' ex' H H1 h h1 :=
 ⟨λ b ob q n hb he=>u.keep b ob q n (λ z=>hb (hs b z)) λ z=>he (hx b z),λ _ _ q n _ he=>u.any q n λ z=>he (hx _ z),λ b ob q n he=>u.free b ob q n λ z=>he (hx b z),λ b ob q he=>u.there b ob q λ z=>he (hx b z),u.tups,u.frzs,u.tbls⟩
end
def trk (h:Heap) (H:Hp):List Addr:=(List.range h.objs.size).filter λ a=>(H a).isSome
def hidT (h:Heap) (H:Hp):Heap:=PySem.W.hideAll h (trk h H)
theorem zej (h:Heap) (H:Hp):(hidT h H).objs.size=h.objs.size:=PySem.W.hideAll_size _ _
theorem znm {h:Heap} {H:Hp} {b:Addr} {o:Obj} (e:h.get? b=some o) (n:H b=none):(hidT h H).get? b=some o :=
 PySem.W.hideAll_get _ e λ hm=>by
  have q:(H b).isSome=true:=(List.mem_filter.mp hm).2
  rw [n] at q;simp at q
theorem zno {h:Heap} {H:Hp} {b:Addr} {o:Obj} (e:(hidT h H).get? b=some o):h.get? b=some o/\H b=none:=by
 have e':h.get? b=some o:=PySem.W.of_hideAll (trk h H) e
 refine ⟨e',?_⟩
 cases q:H b with
|none=>rfl
|some x =>
  have hm:b∈trk h H:=List.mem_filter.mpr ⟨List.mem_range.mpr (Heap.lt_size e'),by simp [q]⟩
  have z:(hidT h H).get? b=none:=PySem.W.hideAll_none (trk h H) hm
  rw [z] at e;cases e
structure Mod (K:Fg) (mg:Str->Option Value) (base:Heap):Prop where
 kin:K.In base
 glob:base.Ns mainGlobals mg
 blt:∃ mb,base.Ns builtinsNs mb/\∀ x:Str,x ≠ "__name__"->mb x=bootBuiltins x
 nolimit:base.NoLimit
structure Cx where
 prog:Program
 w:World
 K:Fg
 mg:Str->Option Value
 base:Heap
 A:Around
 N:List Str
 s₀:Shared
 H₀:Hp
 env:Env
 outer:List Env
 stack:List Env
 ex:List Addr
 fn:Str->Bool
 calm:Bool
 pn:List (Addr×Obj)
 xe:Value->Shared->Prop
def frs (l:List Env):List Addr:=l.filterMap (·.frame)
abbrev Cx.fs (X:Cx):List Addr:=frs X.outer
def Vis (sc:Scope) (x:Str):Prop:=sc.names.lookup x=some .local \/ sc.names.lookup x=some .cell \/ sc.names.lookup x=some .free
def Loc (sc:Scope) (x:Str):Prop:=sc.names.lookup x=some .local \/ sc.names.lookup x=some .cell
def Look (env:Env) (h:Heap) (m:Str->Option Value) (x:Str) (u:Value):Prop :=
 (env.kindOf x=some .local/\m x=some u) \/ ((env.kindOf x=some .cell \/ env.kindOf x=some .free)/\∃ c,env.cells.lookup x=some c/\h.IsCell c (some u))
structure Cx.Ok (X:Cx):Prop where
 mod:Mod X.K X.mg X.base
 kind:X.env.scope.kind=.function
 glob:X.env.globals=mainGlobals
 blt:X.env.builtins=builtinsNs
 above:X.s₀.heap.objs.size<=X.env.locals
 inj:∀ x y c,X.env.cells.lookup x=some c->X.env.cells.lookup y=some c->x=y
 has:∀ x,(X.env.kindOf x=some .cell \/ X.env.kindOf x=some .free)->∃ c,X.env.cells.lookup x=some c
 cab:∀ x c,X.fn x=true->X.env.cells.lookup x=some c->X.s₀.heap.objs.size<=c
 hd:X.calm=true->X.A.handled=none
 frames:X.A.frames=some X.stack
 stk:X.stack=X.outer \/ (X.stack=X.env :: X.outer/\X.env.frame=some X.env.locals)
 exf:∀ b∈X.ex,b≠X.env.locals/\∀ x c,X.env.cells.lookup x=some c->c≠b
 bs:∀ b o,X.base.get? b=some o->X.s₀.heap.get? b=some o/\X.H₀ b=none
 bsz:X.base.objs.size<=X.s₀.heap.objs.size
 noex:∀ b o,X.base.get? b=some o->b ∉ X.ex
 exfs:∀ b∈X.ex,b ∉ X.fs
 funs:X.s₀.heap.FunFrames X.base X.outer
 frf:∀ b∈X.fs,X.H₀ b=none
structure Inv (X:Cx) (pins:List (Addr×Obj)) (σ:List (Option V)) (H:Hp) (s:Shared):Prop where
 ok:X.Ok
 os:s.os=X.s₀.os
 bare:AllBare s.gens
 base:Un X.fs X.ex X.H₀ H X.s₀.heap s.heap
 loc:∃ m,s.heap.Ns X.env.locals m/\∀ (i:Nat) (x:Str) (v:V),X.N[i]?=some x->σ[i]?=some (some v)->Vis X.env.scope x->∃ u,RelV v u/\Look X.env s.heap m x u
 cell:∀ x c,X.env.cells.lookup x=some c->∃ v,s.heap.IsCell c v
 free:H X.env.locals=none
 freeC:∀ x c,X.env.cells.lookup x=some c->H c=none
 pin:∀ p∈X.pn++pins,s.heap.get? p.1=some p.2/\H p.1=none/\p.1≠X.env.locals/\p.1 ∉ X.fs/\∀ v,p.2.data≠.cell v
 hok:HOk X.prog X.w H s.heap
 len:σ.length=X.N.length
section
variable {X:Cx} {pins:List (Addr×Obj)} {σ:List (Option V)} {H H':Hp} {s:Shared} {h':Heap}
theorem Cx.Ok.nofr (ok:X.Ok) {b:Addr} {o:Obj} (e:X.base.get? b=some o):b ∉ X.fs:=λ hb=>by
 have:=(ok.funs.mem hb).1
 rw [e] at this;cases this
theorem Inv.bs (I:Inv X pins σ H s):∀ b o,X.base.get? b=some o->s.heap.get? b=some o/\H b=none:=λ b o e =>
 ⟨I.base.keep b o (I.ok.bs b o e).1 (I.ok.bs b o e).2 (I.ok.nofr e) (I.ok.noex b o e),I.base.free b o (I.ok.bs b o e).1 (I.ok.bs b o e).2 (I.ok.noex b o e)⟩
theorem Inv.bk (I:Inv X pins σ H s):∀ b o,X.base.get? b=some o->s.heap.get? b=some o:=λ b o e=>(I.bs b o e).1
theorem Inv.mod (I:Inv X pins σ H s):Mod X.K X.mg X.base:=I.ok.mod
theorem Inv.kIn (I:Inv X pins σ H s):X.K.In s.heap:=I.ok.mod.kin.keeps I.bk
theorem Inv.lt (I:Inv X pins σ H s):X.env.locals < s.heap.objs.size:=let ⟨_,hn,_⟩:=I.loc;hn.lt
theorem Inv.sz (I:Inv X pins σ H s):X.s₀.heap.objs.size<=s.heap.objs.size:=Nat.le_trans I.ok.above (Nat.le_of_lt I.lt)
theorem Inv.nofs (I:Inv X pins σ H s) {a:Addr} (h:s.heap.objs.size<=a):a ∉ X.fs:=λ hb=>by
 obtain ⟨_,o,ho,_⟩:=I.ok.funs.mem hb
 exact absurd (Nat.lt_of_lt_of_le (Heap.lt_size ho) (Nat.le_trans I.sz h)) (Nat.lt_irrefl _)
theorem Inv.cne (I:Inv X pins σ H s):∀ x c,X.env.cells.lookup x=some c->c≠X.env.locals:=λ x c e z=>by
 obtain ⟨v,o,ho,hd⟩:=I.cell x c e
 obtain ⟨m,⟨o',es,ep,ho',hd',_⟩,_⟩:=I.loc
 rw [z,ho'] at ho;cases ho;rw [hd'] at hd;cases hd
theorem Inv.funs (I:Inv X pins σ H s):s.heap.FunFrames X.base X.outer:=by
 have all:∀ (l:List Env),(∀ b∈frs l,b∈X.fs)->X.s₀.heap.FunFrames X.base l->s.heap.FunFrames X.base l:=by
  intro l
  induction l with
 |nil=>intro _ _;trivial
 |cons env r ih =>
   intro hs hl
   obtain ⟨hk,⟨L,o,hf,hn,ho,hd⟩,hr⟩:=hl
   have hL:L∈X.fs:=hs L (by unfold frs;rw [List.filterMap_cons,hf];exact List.mem_cons_self)
   obtain ⟨sl,e⟩:=I.base.slot L o ho (I.ok.frf L hL) hL λ z=>I.ok.exfs L z hL
   exact ⟨hk,⟨L,_,hf,hn,e,hd⟩,ih (λ b hb=>hs b (by unfold frs;rw [List.filterMap_cons,hf];exact List.mem_cons_of_mem _ hb)) hr⟩
 exact all X.outer (λ _ hb=>hb) I.ok.funs
theorem Inv.stack (I:Inv X pins σ H s):s.heap.FunFrames X.base X.stack:=by
 rcases I.ok.stk with e|⟨e,hf⟩
 ·rw [e];exact I.funs
 ·rw [e]
  obtain ⟨m,hn,_⟩:=I.loc
  refine .cons (by rw [I.ok.kind];decide) hf hn ?_ I.funs
  exact Heap.get?_none_of_le (Nat.le_trans I.ok.bsz I.ok.above)
theorem Inv.stkSub (I:Inv X pins σ H s):∀ b∈frs X.stack,b∈X.env.locals :: X.fs:=λ b hb=>by
 rcases I.ok.stk with e|⟨e,hf⟩
 ·rw [e] at hb;exact List.mem_cons_of_mem _ hb
 ·rw [e] at hb
  unfold frs at hb
  rw [List.filterMap_cons,hf] at hb
  exact hb
theorem Inv.stkFree (I:Inv X pins σ H s):∀ b∈frs X.stack,H b=none:=λ b hb=>by
 rcases List.mem_cons.mp (I.stkSub b hb) with e|hb
 ·rw [e];exact I.free
 ·obtain ⟨_,o,ho,_⟩:=I.ok.funs.mem hb
  exact I.base.free b o ho (I.ok.frf b hb) λ z=>I.ok.exfs b z hb
theorem Inv.step {g':Array GenState} {t':Nat} {d':Drawn} {ch:List Addr} (I:Inv X pins σ H s)
  (hch:∀ b∈ch,(b∈X.ex \/ X.s₀.heap.objs.size<=b)/\b≠X.env.locals/\(∀ x c,X.env.cells.lookup x=some c->c≠b)/\∀ p∈X.pn++pins,p.1≠b)
  (keep:∀ b o,b≠X.env.locals->b ∉ X.fs->b ∉ ch->s.heap.get? b=some o->H b=none->h'.get? b=some o)
  (slot:∀ b o,b≠X.env.locals->b∈X.fs->b ∉ ch->s.heap.get? b=some o->H b=none->∃ sl,h'.get? b=some { o with slots:=sl }) (free:∀ b o,b ∉ ch->s.heap.get? b=some o->H b=none->H' b=none)
  (there:∀ b o,b ∉ ch->s.heap.get? b=some o->∃ o',h'.get? b=some o')
  (tups:∀ b xs,H b=some (.tup xs)->H' b=some (.tup xs)) (frzs:∀ b o u,H b=some (.frz o u)->H' b=some (.frz o u)) (tbls:∀ b ps,H b=some (.tbl ps)->∃ more,H' b=some (.tbl (ps++more)))
  (ns:∀ m,s.heap.Ns X.env.locals m->h'.Ns X.env.locals m) (hok:HOk X.prog X.w H' h') (hg:AllBare g') :
  Inv X pins σ H' { s with heap:=h',gens:=g',drawn:=d',toks:=t' }:=by
 have neL:∀ b o,X.s₀.heap.get? b=some o->b≠X.env.locals:=λ b o e=>Nat.ne_of_lt (Nat.lt_of_lt_of_le (Heap.lt_size e) I.ok.above)
 have neC:∀ b o,X.s₀.heap.get? b=some o->b ∉ X.ex->b ∉ ch:=λ b o e hx hb=>by
  rcases (hch b hb).1 with z|z
  ·exact hx z
  ·exact absurd (Nat.lt_of_lt_of_le (Heap.lt_size e) z) (Nat.lt_irrefl _)
 have cellK:∀ x c,X.env.cells.lookup x=some c->∀ v,s.heap.IsCell c v->h'.IsCell c v:=λ x c e v ⟨o,ho,hd⟩=>by
  have nch:c ∉ ch:=λ z=>(hch c z).2.2.1 x c e rfl
  by_cases hc:c∈X.fs
  ·obtain ⟨sl,q⟩:=slot c o (I.cne x c e) hc nch ho (I.freeC x c e)
   exact ⟨_,q,hd⟩
  ·exact ⟨o,keep c o (I.cne x c e) hc nch ho (I.freeC x c e),hd⟩
 refine ⟨I.ok,I.os,hg,⟨λ b o e n hb hx=>?_,λ b o e n hb hx=>?_,λ b o e n hx=>?_,λ b o e hx=>?_,λ b xs e=>tups b xs (I.base.tups b xs e),λ b o xs e=>frzs b o xs (I.base.frzs b o xs e),λ b ps e=>?_⟩,?_,λ x c e=>?_,?_,λ x c e=>?_,λ p hp=>?_,hok,I.len⟩
 ·exact keep b o (neL b o e) hb (neC b o e hx) (I.base.keep b o e n hb hx) (I.base.free b o e n hx)
 ·obtain ⟨sl,e1⟩:=I.base.slot b o e n hb hx
  obtain ⟨sl',e2⟩:=slot b _ (neL b o e) hb (neC b o e hx) e1 (I.base.free b o e n hx)
  exact ⟨sl',e2⟩
 ·obtain ⟨o',e1⟩:=I.base.there b o e hx
  exact free b o' (neC b o e hx) e1 (I.base.free b o e n hx)
 ·obtain ⟨o',e1⟩:=I.base.there b o e hx
  exact there b o' (neC b o e hx) e1
 ·obtain ⟨m1,e1⟩:=I.base.tbls b ps e
  obtain ⟨m2,e2⟩:=tbls b _ e1
  exact ⟨m1++m2,by rw [e2,Array.append_assoc]⟩
 ·obtain ⟨m,hn,hl⟩:=I.loc
  refine ⟨m,ns m hn,λ i x v e1 e2 e3=>?_⟩
  obtain ⟨u,r,l⟩:=hl i x v e1 e2 e3
  refine ⟨u,r,?_⟩
  rcases l with l|⟨k,c,e,z⟩
  ·exact .inl l
  ·exact .inr ⟨k,c,e,cellK x c e _ z⟩
 ·obtain ⟨v,z⟩:=I.cell x c e
  exact ⟨v,cellK x c e v z⟩
 ·obtain ⟨m,⟨o,_,_,ho,_⟩,_⟩:=I.loc
  exact free _ o (λ z=>(hch _ z).2.1 rfl) ho I.free
 ·obtain ⟨v,o,ho,hd⟩:=I.cell x c e
  exact free c o (λ z=>(hch c z).2.2.1 x c e rfl) ho (I.freeC x c e)
 ·obtain ⟨e,n,ne,nf,d⟩:=I.pin p hp
  have nch:p.1 ∉ ch:=λ z=>(hch p.1 z).2.2.2 p hp rfl
  exact ⟨keep p.1 p.2 ne nf nch e n,free p.1 p.2 nch e n,ne,nf,d⟩
theorem Inv.un {t':Nat} (I:Inv X pins σ H s) (u:Un X.fs [] H H' s.heap h') (hok:HOk X.prog X.w H' h'):Inv X pins σ H' { s with heap:=h',toks:=t' }:=by
 obtain ⟨m,⟨o,es,ep,ho,r⟩,_⟩:=id I.loc
 obtain ⟨sl,hL⟩:=u.any ho I.free (by simp)
 exact I.step (g':=s.gens) (d':=s.drawn) (ch:=[]) (λ _ z=>nomatch z) (λ b o _ hb _ e n=>u.keep b o e n hb (by simp)) (λ b o _ hb _ e n=>u.slot b o e n hb (by simp)) (λ b o _ e n=>u.free b o e n (by simp)) (λ b o _ e=>u.there b o e (by simp)) u.tups u.frzs u.tbls (λ m' hm=>by
  obtain ⟨o',es',ep',ho',r'⟩:=hm
  rw [ho] at ho';cases ho'
  exact ⟨_,es',ep',hL,r'⟩) hok I.bare
theorem Inv.call {g':Array GenState} {t':Nat} {d':Drawn} {ch:List Addr} (I:Inv X pins σ H s) (u:Un (frs X.stack) ch H H' s.heap h') (hok:HOk X.prog X.w H' h') (hg:AllBare g')
  (hch:∀ b∈ch,(b∈X.ex \/ X.s₀.heap.objs.size<=b)/\b≠X.env.locals/\(∀ x c,X.env.cells.lookup x=some c->c≠b)/\∀ p∈X.pn++pins,p.1≠b) :
  Inv X pins σ H' { s with heap:=h',gens:=g',drawn:=d',toks:=t' }:=by
 obtain ⟨m,⟨o,es,ep,ho,r⟩,_⟩:=id I.loc
 obtain ⟨sl,hL⟩:=u.any ho I.free λ z=>(hch _ z).2.1 rfl
 exact I.step (ch:=ch) hch (λ b o hL hb hc e n=>u.keep b o e n (λ z=>(List.mem_cons.mp (I.stkSub b z)).elim hL hb) hc) (λ b o _ _ hc e n=>u.any e n hc) (λ b o hc e n=>u.free b o e n hc) (λ b o hc e=>u.there b o e hc) u.tups u.frzs u.tbls (λ m' hm=>by
  obtain ⟨o',es',ep',ho',r'⟩:=hm
  rw [ho] at ho';cases ho'
  exact ⟨_,es',ep',hL,r'⟩) hok hg
theorem Inv.turned {t':Nat} {it:Addr} (I:Inv X pins σ H s) (k:∀ b o,b≠it->s.heap.get? b=some o->h'.get? b=some o) (hn:H it=none) (hL:it≠X.env.locals)
  (h1:it∈X.ex \/ X.s₀.heap.objs.size<=it) (h2:∀ x c,X.env.cells.lookup x=some c->c≠it) (h3:∀ p∈X.pn++pins,p.1≠it):Inv X pins σ H { s with heap:=h',toks:=t' }:=by
 have nit:∀ b u,H b=some u->b≠it:=λ b u e z=>by rw [z,hn] at e;cases e
 refine I.step (g':=s.gens) (d':=s.drawn) (ch:=[it]) (λ b hb=>?_) (λ b o _ _ hc e _=>k b o (λ z=>hc (by simp [z])) e) (λ b o _ _ hc e _=>⟨o.slots,k b o (λ z=>hc (by simp [z])) e⟩) (λ _ _ _ _ n=>n)
  (λ b o hc e=>⟨o,k b o (λ z=>hc (by simp [z])) e⟩) (λ _ _ e=>e) (λ _ _ _ e=>e) (λ b ps e=>⟨#[],by rw [e];simp⟩) (λ m hm=>?_) (λ b u e=>?_) I.bare
 ·have e:b=it:=by simpa using hb
  subst e
  exact ⟨h1,hL,h2,h3⟩
 ·obtain ⟨o,es,ep,ho,r⟩:=hm
  exact ⟨o,es,ep,k _ o (Ne.symm hL) ho,r⟩
 ·refine (I.hok b u e).stay (λ c v hc q=>k c v ?_ q) (λ _ q=>q) λ _ _ q=>q
  rcases hc with z|z
  ·rw [z];exact nit b u e
  ·exact nit c _ z
theorem Inv.tok (I:Inv X pins σ H s) (t:Nat):Inv X pins σ H { s with toks:=t }:=I.un (h':=s.heap) (t':=t) Un.refl I.hok
theorem Inv.kept {t':Nat} (I:Inv X pins σ H s) (k:∀ b u,s.heap.get? b=some u->h'.get? b=some u):Inv X pins σ H { s with heap:=h',toks:=t' }:=I.un (Un.kept k) (I.hok.kept k)
theorem Inv.laid {a:Addr} {o:HO} {t':Nat} (I:Inv X pins σ H s) (k:∀ b u,s.heap.get? b=some u->h'.get? b=some u) (hp:s.heap.objs.size<=a) (new:ObjOk X.prog X.w (upd H a o) h' a o) :
  Inv X pins σ (upd H a o) { s with heap:=h',toks:=t' }:=I.un (Un.laid k hp (I.hok.fresh hp)) (I.hok.laid k hp new)
theorem Inv.write {x e:Addr} {o:HO} {t':Nat} (I:Inv X pins σ H s) (mu:Mut (H x)) (he:e=x \/ H e=some (.own x)) (k:∀ b u,b≠e->s.heap.get? b=some u->h'.get? b=some u) (heo:∃ u,h'.get? e=some u)
  (new:ObjOk X.prog X.w (upd H x o) h' x o):Inv X pins σ (upd H x o) { s with heap:=h',toks:=t' }:=I.un (Un.write mu he k heo) (I.hok.write mu he k heo new)
theorem Inv.pins_of {pins':List (Addr×Obj)} (I:Inv X pins σ H s) (h:∀ p∈pins',s.heap.get? p.1=some p.2/\H p.1=none/\p.1≠X.env.locals/\p.1 ∉ X.fs/\∀ v,p.2.data≠.cell v):Inv X pins' σ H s :=
 ⟨I.ok,I.os,I.bare,I.base,I.loc,I.cell,I.free,I.freeC,λ p hp=>(List.mem_append.mp hp).elim (λ z=>I.pin p (List.mem_append_left _ z)) (h p),I.hok,I.len⟩
theorem zdg {N:List Str} (hN:N.Nodup) {i j:Nat} {x:Str} (a:N[i]?=some x) (b:N[j]?=some x):i=j:=by
 obtain ⟨h1,e1⟩:=List.getElem?_eq_some_iff.mp a
 obtain ⟨h2,e2⟩:=List.getElem?_eq_some_iff.mp b
 exact (List.getElem_inj hN).mp (e1.trans e2.symm)
theorem zad {M:Model} {A:Around} {E:Value->Shared->Prop} {i:Nat} {x:Str} {v:V} {u:Value} {Q:Unit->Shared->Prop} (I:Inv X pins σ H s) (hN:X.N.Nodup) (hi:X.N[i]?=some x) (hx:Loc X.env.scope x) (r:RelV v u)
  (h:∀ s',Inv X pins (σ.set i (some v)) H s'->(∃ a,Heap.SameBut a s.heap s'.heap/\(a=X.env.locals \/ X.env.cells.lookup x=some a))->Q () s') (hf:X.fn x=true \/ X.env.scope.names.lookup x=some .local:=by first|exact .inl rfl|exact .inr rfl|assumption):wpAny M A (storeName X.env x u) Q E s:=by
 obtain ⟨m,hn,hl⟩:=id I.loc
 have hcls:(X.env.scope.kind == .class || (X.env.scope.kind == .module && X.env.locals != X.env.globals))=false:=by rw [I.ok.kind];rfl
 have hiσ:i < σ.length:=by rw [I.len];exact (List.getElem?_eq_some_iff.mp hi).1
 have cne:=I.cne
 have tracked:∀ {a:Addr} {h':Heap},(∃ o,s.heap.get? a=some o/\H a=none)->Heap.SameBut a s.heap h'->HOk X.prog X.w H h':=λ {a h'} ha hs b ob e=>by
  obtain ⟨_,_,hfree⟩:=ha
  refine (I.hok b ob e).stay (λ c w' hc q=>(hs.2 c ?_).trans q) (λ _ q=>q) λ _ _ q=>q
  rintro rfl
  rcases hc with rfl|hc
  ·rw [hfree] at e;cases e
  ·rw [hfree] at hc;cases hc
 rcases hx with hk|hk
 ·refine wpAny_storeName_local hk hn (λ h' hn' hs=>?_) hcls
  obtain ⟨oL,_,_,hoL,_⟩:=id hn
  refine h _ ⟨I.ok,I.os,I.bare,⟨λ b o e n hb hx=>?_,λ b o e n hb hx=>?_,I.base.free,λ b o e hx=>?_,I.base.tups,I.base.frzs,I.base.tbls⟩,⟨_,hn',λ j y v' e1 e2 e3=>?_⟩,λ y c e=>?_,I.free,I.freeC,λ p hp=>?_,tracked ⟨oL,hoL,I.free⟩ hs,by simpa using I.len⟩ ⟨_,hs,.inl rfl⟩
  ·exact (hs.2 b (Nat.ne_of_lt (Nat.lt_of_lt_of_le (Heap.lt_size e) I.ok.above))).trans (I.base.keep b o e n hb hx)
  ·obtain ⟨sl,e1⟩:=I.base.slot b o e n hb hx
   exact ⟨sl,(hs.2 b (Nat.ne_of_lt (Nat.lt_of_lt_of_le (Heap.lt_size e) I.ok.above))).trans e1⟩
  ·obtain ⟨o',e1⟩:=I.base.there b o e hx
   exact ⟨o',(hs.2 b (Nat.ne_of_lt (Nat.lt_of_lt_of_le (Heap.lt_size e) I.ok.above))).trans e1⟩
  ·by_cases hj:j=i
   ·subst hj
    rw [hi] at e1;cases e1
    rw [List.getElem?_set_self hiσ] at e2
    cases e2
    exact ⟨u,r,.inl ⟨hk,by simp⟩⟩
   ·rw [List.getElem?_set_ne (Ne.symm hj)] at e2
    obtain ⟨u',r',q⟩:=hl j y v' e1 e2 e3
    refine ⟨u',r',?_⟩
    rcases q with ⟨k,e⟩|⟨k,c,e,z⟩
    ·refine .inl ⟨k,?_⟩
     have:y≠x:=λ e=>hj (zdg hN e1 (e ▸ hi))
     simp [this,e]
    ·exact .inr ⟨k,c,e,z.sameBut hs (cne y c e)⟩
  ·obtain ⟨w',z⟩:=I.cell y c e
   exact ⟨w',z.sameBut hs (cne y c e)⟩
  ·obtain ⟨e,n,ne,nf,d⟩:=I.pin p hp
   exact ⟨(hs.2 p.1 ne).trans e,n,ne,nf,d⟩
 ·have hfn:X.fn x=true:=by
   rcases hf with z|z
   ·exact z
   ·rw [z] at hk;cases hk
  obtain ⟨c,hc⟩:=I.ok.has x (.inl hk)
  obtain ⟨w',z⟩:=I.cell x c hc
  refine wpAny_storeName_cell I.ok.kind hk hc z (λ h' hc' hs=>?_)
  obtain ⟨oc,hoc,hocd⟩:=id z
  refine h { s with heap:=h' } ⟨I.ok,I.os,I.bare,⟨λ b o e n hb hx=>?_,λ b o e n hb hx=>?_,I.base.free,λ b o e hx=>?_,I.base.tups,I.base.frzs,I.base.tbls⟩,⟨m,hn.sameBut hs (Ne.symm (cne x c hc)),λ j y v' e1 e2 e3=>?_⟩,λ y c' e=>?_,I.free,I.freeC,λ p hp=>?_,tracked ⟨oc,hoc,I.freeC x c hc⟩ hs,by simpa using I.len⟩ ⟨c,hs,.inr hc⟩
  ·exact (hs.2 b (Nat.ne_of_lt (Nat.lt_of_lt_of_le (Heap.lt_size e) (I.ok.cab x c hfn hc)))).trans (I.base.keep b o e n hb hx)
  ·obtain ⟨sl,e1⟩:=I.base.slot b o e n hb hx
   exact ⟨sl,(hs.2 b (Nat.ne_of_lt (Nat.lt_of_lt_of_le (Heap.lt_size e) (I.ok.cab x c hfn hc)))).trans e1⟩
  ·obtain ⟨o',e1⟩:=I.base.there b o e hx
   exact ⟨o',(hs.2 b (Nat.ne_of_lt (Nat.lt_of_lt_of_le (Heap.lt_size e) (I.ok.cab x c hfn hc)))).trans e1⟩
  ·by_cases hj:j=i
   ·subst hj
    rw [hi] at e1;cases e1
    rw [List.getElem?_set_self hiσ] at e2
    cases e2
    exact ⟨u,r,.inr ⟨.inl hk,c,hc,hc'⟩⟩
   ·rw [List.getElem?_set_ne (Ne.symm hj)] at e2
    obtain ⟨u',r',q⟩:=hl j y v' e1 e2 e3
    refine ⟨u',r',?_⟩
    rcases q with q|⟨k,c',e,z'⟩
    ·exact .inl q
    ·refine .inr ⟨k,c',e,z'.sameBut hs ?_⟩
     rintro rfl
     exact hj (zdg hN e1 (I.ok.inj _ _ _ e hc ▸ hi))
  ·by_cases hcc:c'=c
   ·subst hcc;exact ⟨_,hc'⟩
   ·obtain ⟨w2,z2⟩:=I.cell y c' e
    exact ⟨w2,z2.sameBut hs hcc⟩
  ·obtain ⟨e,n,ne,nf,d⟩:=I.pin p hp
   refine ⟨(hs.2 p.1 ?_).trans e,n,ne,nf,d⟩
   intro q
   rw [q,hoc] at e
   have q':oc=p.2:=Option.some.inj e
   exact d w' (by rw [<- q'];exact hocd)
theorem zpe {M:Model} {A:Around} {E:Value->Shared->Prop} {i:Nat} {x:Str} {v:V} {u:Value} {Q:Unit->Shared->Prop} (I:Inv X pins σ H s) (hN:X.N.Nodup) (hi:X.N[i]?=some x) (hx:Loc X.env.scope x) (r:RelV v u)
  (h:∀ s',Inv X pins (σ.set i (some v)) H s'->Q () s') (hf:X.fn x=true \/ X.env.scope.names.lookup x=some .local:=by first|exact .inl rfl|exact .inr rfl|assumption):wpAny M A (storeName X.env x u) Q E s :=
 zad I hN hi hx r (λ s' I' _=>h s' I') hf
theorem Inv.call' {s':Shared} {ch:List Addr} (I:Inv X pins σ H s) (ho:s'.os=s.os) (u:Un (frs X.stack) ch H H' s.heap s'.heap) (hok:HOk X.prog X.w H' s'.heap) (hg:AllBare s'.gens)
  (hch:∀ b∈ch,(b∈X.ex \/ X.s₀.heap.objs.size<=b)/\b≠X.env.locals/\(∀ x c,X.env.cells.lookup x=some c->c≠b)/\∀ p∈X.pn++pins,p.1≠b):Inv X pins σ H' s':=by
 obtain ⟨h',g',d',t',o'⟩:=s'
 have e:o'=s.os:=ho
 subst e
 exact I.call (g':=g') (t':=t') (d':=d') u hok hg hch
end
abbrev XK:=Value->Option Addr->Hp->Prop
abbrev St:=List (Option V)
abbrev VK:=V->Hp->Prop
abbrev TE:=St->Hp->VK->Prop
abbrev TT:=St->Hp->(Bool->Hp->Prop)->Prop
abbrev TA:=St->Hp->(List V->Hp->Prop)->Prop
structure Ends where
 nx:St->Hp->Prop
 rt:VK
 bk:St->Hp->Prop:=λ _ _=>False
 ct:St->Hp->Prop:=λ _ _=>False
abbrev TS:=Ends->St->Hp->Prop
def EP (X:Cx) (pins:List (Addr×Obj)) (σ:St) (Q:VK) (u:Value) (s':Shared):Prop:=∃ v H',Inv X pins σ H' s'/\RelV v u/\Q v H'
def TP (X:Cx) (pins:List (Addr×Obj)) (σ:St) (Q:Bool->Hp->Prop) (b:Bool) (s':Shared):Prop:=∃ H',Inv X pins σ H' s'/\Q b H'
def AP (X:Cx) (pins:List (Addr×Obj)) (σ:St) (Q:List V->Hp->Prop) (us:List Value) (s':Shared):Prop:=∃ vs H',Inv X pins σ H' s'/\Vals vs us/\Q vs H'
def SP (X:Cx) (pins:List (Addr×Obj)) (D:Ends) (f:Flow) (s':Shared):Prop :=
 match f with
|.next=>∃ σ' H',Inv X pins σ' H' s'/\D.nx σ' H'
|.brk=>∃ σ' H',Inv X pins σ' H' s'/\D.bk σ' H'
|.cont=>∃ σ' H',Inv X pins σ' H' s'/\D.ct σ' H'
|.ret u=>∃ v σ' H',Inv X pins σ' H' s'/\RelV v u/\D.rt v H'
def PE (X:Cx) (e:Expr) (t:TE):Prop :=
 ∀ (pins:List (Addr×Obj)) (s:Shared) (σ:St) (H:Hp) (Q:VK),Inv X pins σ H s->t σ H Q->wpAny (model X.prog X.w) X.A (eval e X.env) (EP X pins σ Q) X.xe s
def PT (X:Cx) (e:Expr) (t:TT):Prop :=
 ∀ (pins:List (Addr×Obj)) (s:Shared) (σ:St) (H:Hp) (Q:Bool->Hp->Prop),Inv X pins σ H s->t σ H Q->wpAny (model X.prog X.w) X.A (isTrue e X.env (eval e X.env)) (TP X pins σ Q) X.xe s
def PW (X:Cx) (e:Expr) (t:TT):Prop :=
 ∀ (whole:Sem Value) (pins:List (Addr×Obj)) (s:Shared) (σ:St) (H:Hp) (Q:Bool->Hp->Prop),Inv X pins σ H s->t σ H Q->wpAny (model X.prog X.w) X.A (isTrue e X.env whole) (TP X pins σ Q) X.xe s
theorem PW.pt {X:Cx} {e:Expr} {t:TT} (h:PW X e t):PT X e t:=h _
def PA (X:Cx) (es:List Expr) (t:TA):Prop :=
 ∀ (pos:Pos) (pins:List (Addr×Obj)) (s:Shared) (σ:St) (H:Hp) (Q:List V->Hp->Prop),Inv X pins σ H s->t σ H Q->wpAny (model X.prog X.w) X.A (spliced (backTo pos (starEach es X.env))) (AP X pins σ Q) X.xe s
def PS (X:Cx) (st:Stmt) (t:TS):Prop :=
 ∀ (pins:List (Addr×Obj)) (s:Shared) (σ:St) (H:Hp) (D:Ends),Inv X pins σ H s->t D σ H->wpAny (model X.prog X.w) X.A (exec st X.env) (SP X pins D) X.xe s
def PSs (X:Cx) (st:List Stmt) (t:TS):Prop :=
 ∀ (pins:List (Addr×Obj)) (s:Shared) (σ:St) (H:Hp) (D:Ends),Inv X pins σ H s->t D σ H->wpAny (model X.prog X.w) X.A (execs st X.env) (SP X pins D) X.xe s
theorem thn {α:Type} {t:Sem α} {Q Q':α->Shared->Prop} {M:Model} {A:Around} {E:Value->Shared->Prop} {s:Shared} (h:wpAny M A t Q E s) (hQ:∀ a s,Q a s->Q' a s):wpAny M A t Q' E s:=wpAny_mono h hQ λ _ _ x=>x
section
variable {X:Cx}
theorem bin {a b:Expr} {ta tb:TE} (ha:PE X a ta) (hb:PE X b tb) {pins:List (Addr×Obj)} {s:Shared} {σ:St} {H:Hp} {R:V->V->Hp->Prop} (I:Inv X pins σ H s) (h:ta σ H λ x H1=>tb σ H1 λ y H2=>R x y H2)
  {α:Type} {Q:α->Shared->Prop} {f:Value->Value->Sem α}
  (hf:∀ v u s2 x y H2,Inv X pins σ H2 s2->RelV x v->RelV y u->R x y H2->wpAny (model X.prog X.w) X.A (f v u) Q X.xe s2) :
  wpAny (model X.prog X.w) X.A (eval a X.env) (λ v s₁=>wpAny (model X.prog X.w) X.A (eval b X.env) (λ u s₂=>wpAny (model X.prog X.w) X.A (f v u) Q X.xe s₂) X.xe s₁) X.xe s:=by
 refine thn (ha pins s σ H _ I h) λ v s1 ⟨x,H1,I1,r1,q1⟩=>?_
 refine thn (hb pins s1 σ H1 _ I1 q1) λ u s2 ⟨y,H2,I2,r2,q2⟩=>?_
 exact hf v u s2 x y H2 I2 r1 r2 q2
def tVar (i:Nat):TE:=λ σ H Q=>∃ v,σ[i]?=some (some v)/\Q v H
def tC (v:V):TE:=λ _ H Q=>Q v H
theorem zzu {i:Nat} {x:Str} {pos:Pos} (hN:X.N[i]?=some x) (hv:Vis X.env.scope x) (hd:(x == ("__debug__":Str))=false:=by decide) (hcd:(x == ("__classdict__":Str))=false:=by decide):PE X (.Name x pos) (tVar i):=by
 intro pins s σ H Q I h
 obtain ⟨v,e,h⟩:=h
 obtain ⟨m,hn,hl⟩:=I.loc
 obtain ⟨u,r,l⟩:=hl i x v hN e hv
 have fin:EP X pins σ Q u s:=⟨v,H,I,r,h⟩
 rcases l with ⟨hk,hm⟩|⟨hk,c,hc,hcell⟩
 ·exact wpAny_Name (wpAny_loadName_local I.ok.kind hk hn hm fin) hd
 ·rcases hk with hk|hk
  ·exact wpAny_Name (wpAny_loadName_cell I.ok.kind hk hc hcell fin) hd
  ·exact wpAny_Name (wpAny_loadName_free I.ok.kind hk hc hcell fin hcd) hd
theorem ze0 {i j pos}:PE X (.Constant (.int i) j pos) (tC (.int i)):=λ _ _ _ H _ I h=>wpAny_Constant_int ⟨.int i,H,I.tok _,⟨_,rfl⟩,h⟩
theorem zop {b j pos}:PE X (.Constant (.bool b) j pos) (tC (.bl b)):=λ _ _ _ H _ I h=>Constant_bool ⟨.bl b,H,I,rfl,h⟩
theorem zfg {j pos}:PE X (.Constant .none j pos) (tC .non):=λ _ _ _ H _ I h=>Constant_none ⟨.non,H,I,rfl,h⟩
theorem zug {x j pos}:PE X (.Constant (.str x) j pos) (tC (.str x)):=λ _ _ _ H _ I h=>Calls.Constant_str ⟨.str x,H,I.tok _,⟨_,rfl⟩,h⟩
def Gl (X:Cx) (x:Str):Prop:=X.env.kindOf x=some .globalImplicit
theorem zle {E:Value->Shared->Prop} {pins:List (Addr×Obj)} {s:Shared} {σ:St} {H:Hp} {x:Str} {u:Value} {pos:Pos} {Q:Value->Shared->Prop} (I:Inv X pins σ H s) (hg:Gl X x) (hm:X.mg x=some u) (h:Q u s)
  (hd:(x == ("__debug__":Str))=false:=by decide):wpAny (model X.prog X.w) X.A (eval (.Name x pos) X.env) Q E s :=
 Calls.Name_function_global I.ok.kind hg (Calls.loadGlobal_global (by rw [I.ok.glob];exact I.mod.glob.keeps I.bk) hm h) hd
theorem zce {E:Value->Shared->Prop} {pins:List (Addr×Obj)} {s:Shared} {σ:St} {H:Hp} {x:Str} {u:Value} {pos:Pos} {Q:Value->Shared->Prop} (I:Inv X pins σ H s) (hg:Gl X x) (hm:X.mg x=none) (hv:bootBuiltins x=some u) (h:Q u s)
  (hn:x ≠ "__name__":=by decide) (hd:(x == ("__debug__":Str))=false:=by decide):wpAny (model X.prog X.w) X.A (eval (.Name x pos) X.env) Q E s:=by
 obtain ⟨mb,h1,h2⟩:=I.mod.blt
 exact Calls.Name_function_global I.ok.kind hg (Calls.loadGlobal_builtin (by rw [I.ok.glob];exact I.mod.glob.keeps I.bk) hm (by rw [I.ok.blt];exact h1.keeps I.bk) ((h2 x hn).trans hv) h) hd
theorem zka {x:Str} {v:V} {u:Value} {pos:Pos} (hg:Gl X x) (hm:X.mg x=some u) (r:RelV v u) (hd:(x == ("__debug__":Str))=false:=by decide):PE X (.Name x pos) (tC v) :=
 λ _ _ _ H _ I h=>zle I hg hm ⟨v,H,I,r,h⟩ hd
theorem zyf {x:Str} {v:V} {u:Value} {pos:Pos} (hg:Gl X x) (hm:X.mg x=none) (hv:bootBuiltins x=some u) (r:RelV v u) (hn:x ≠ "__name__":=by decide) (hd:(x == ("__debug__":Str))=false:=by decide):PE X (.Name x pos) (tC v) :=
 λ _ _ _ H _ I h=>zce I hg hm hv ⟨v,H,I,r,h⟩ hn hd
variable {a b:Expr} {ta tb:TE} {pos:Pos}
variable {tA tB':TT} {rest:List Expr}
def tAnd (t u:TT):TT:=λ σ H Q=>t σ H λ c H1=>if c=true then u σ H1 Q else Q false H1
def tOr (t u:TT):TT:=λ σ H Q=>t σ H λ c H1=>if c=true then Q true H1 else u σ H1 Q
def tNot (t:TT):TT:=λ σ H Q=>t σ H λ c H1=>Q (!c) H1
theorem zmd (ha:PT X a tA):PW X (.BoolOp .And [a] pos) tA:=by
 intro wh pins s σ H Q I h
 refine isTrue_and (thn (ha pins s σ H Q I h) λ c s1 e=>?_)
 cases c with
|true=>exact isTrue_and_nil e
|false=>exact e
theorem zyt (ha:PT X a tA):PW X (.BoolOp .Or [a] pos) tA:=by
 intro wh pins s σ H Q I h
 refine isTrue_or (thn (ha pins s σ H Q I h) λ c s1 e=>?_)
 cases c with
|false=>exact isTrue_or_nil e
|true=>exact e
theorem zii (ha:PT X a tA) (hb:PW X (.BoolOp .And (b :: rest) pos) tB'):PW X (.BoolOp .And (a :: b :: rest) pos) (tAnd tA tB'):=by
 intro wh pins s σ H Q I h
 refine isTrue_and (thn (ha pins s σ H _ I h) λ c s1 ⟨H1,I1,q1⟩=>?_)
 cases c with
|true=>exact hb wh pins s1 σ H1 Q I1 q1
|false=>exact ⟨H1,I1,q1⟩
theorem zqv (ha:PT X a tA) (hb:PW X (.BoolOp .Or (b :: rest) pos) tB'):PW X (.BoolOp .Or (a :: b :: rest) pos) (tOr tA tB'):=by
 intro wh pins s σ H Q I h
 refine isTrue_or (thn (ha pins s σ H _ I h) λ c s1 ⟨H1,I1,q1⟩=>?_)
 cases c with
|true=>exact ⟨H1,I1,q1⟩
|false=>exact hb wh pins s1 σ H1 Q I1 q1
theorem zkt (ha:PT X a tA):PT X (.UnaryOp .Not a pos) (tNot tA):=by
 intro pins s σ H Q I h
 exact isTrue_not (ha pins s σ H (λ c H1=>Q (!c) H1) I h)
def zb11 (ta tb:TE):TE:=λ σ H Q=>ta σ H λ x H1=>∃ c,x=.bl c/\if c=true then tb σ H1 Q else Q (.bl false) H1
def zo01 (ta:TE):TE:=λ σ H Q=>ta σ H λ x H1=>∃ c,x=.bl c/\Q (.bl (!c)) H1
theorem zcv {op} {t:TE} (h:PE X a t):PE X (.BoolOp op [a] pos) t:=λ pins s σ H Q I hw=>BoolOp_one (h pins s σ H Q I hw)
theorem zfy (ha:PE X a ta) (hb:PE X (.BoolOp .And (b :: rest) pos) tb):PE X (.BoolOp .And (a :: b :: rest) pos) (zb11 ta tb):=by
 intro pins s σ H Q I h
 refine BoolOp_and (thn (ha pins s σ H _ I h) λ v s1 ⟨x,H1,I1,r1,q1⟩=>?_)
 obtain ⟨c,rfl,q1⟩:=q1
 cases r1
 refine wpAny_truthy_bool ?_
 cases c with
|true=>exact hb pins s1 σ H1 Q I1 q1
|false=>exact ⟨.bl false,H1,I1,rfl,q1⟩
theorem zdw (ha:PE X a ta):PE X (.UnaryOp .Not a pos) (zo01 ta):=by
 intro pins s σ H Q I h
 refine UnaryOp_ (thn (ha pins s σ H _ I h) λ v s1 ⟨x,H1,I1,r1,q1⟩=>?_)
 obtain ⟨c,rfl,q1⟩:=q1
 cases r1
 exact not_of (wpAny_truthy_bool ⟨.bl (!c),H1,I1,rfl,q1⟩)
def tIf (t:TT) (ta tb:TE):TE:=λ σ H Q=>t σ H λ c H1=>if c=true then ta σ H1 Q else tb σ H1 Q
theorem zvk {c:Expr} (hc:PT X c tA) (ha:PE X a ta) (hb:PE X b tb):PE X (.IfExp c a b pos) (tIf tA ta tb):=by
 intro pins s σ H Q I h
 refine wpAny_IfExp (thn (hc pins s σ H _ I h) λ d s1 ⟨H1,I1,q1⟩=>?_)
 cases d with
|true=>exact ha pins s1 σ H1 Q I1 q1
|false=>exact hb pins s1 σ H1 Q I1 q1
end
def SqL (K:Fg) (H:Hp) (a:Addr) (xs:List V):Prop :=
 Rd H a (.lst xs) \/
  ∃ (o:Obj) (its:Array Value) (n:Nat),K.lookup a=some o/\o.cls=.type "list"/\o.dict=none/\o.data=.seq its n/\its.size<=sizeLine/\Vals xs its.toList
def SqT (K:Fg) (H:Hp) (a:Addr) (xs:List V):Prop :=
 Rd H a (.tup xs) \/
  ∃ (o:Obj) (its:Array Value) (n:Nat),K.lookup a=some o/\o.cls=.type "tuple"/\o.data=.seq its n/\its.size<=sizeLine/\Vals xs its.toList
def absV:Value->Option V
|.none=>some .non
|.bool b=>some (.bl b)
|.int i _=>some (.int i)
|.str x _=>some (.str x)
|.bytes b _=>some (.byt b)
|.float b _=>some (.flt b)
|.ref a=>some (.ref a)
|.type n=>some (.ty n)
|_=>none
theorem RelV.abs {x:V} {u:Value} (r:RelV x u):absV u=some x:=by
 cases x with
|non=>cases r;rfl
|bl _=>cases r;rfl
|int _=>obtain ⟨t,rfl⟩:=r;rfl
|str _=>obtain ⟨t,rfl⟩:=r;rfl
|byt _=>obtain ⟨t,rfl⟩:=r;rfl
|flt _=>obtain ⟨t,rfl⟩:=r;rfl
|ref _=>cases r;rfl
|ty _=>cases r;rfl
theorem RelV.inj {x y:V} {u:Value} (r:RelV x u) (q:RelV y u):x=y:=Option.some.inj (r.abs.symm.trans q.abs)
theorem Vals.inj:∀ {xs ys:List V} {us:List Value},Vals xs us->Vals ys us->xs=ys
|_,_,_,.nil,.nil=>rfl
|_,_,_,.cons r t,.cons r' t'=>by rw [r.inj r',Vals.inj t t']
section
variable {X:Cx} {pins:List (Addr×Obj)} {σ:St} {H:Hp} {s:Shared} {a:Addr} {xs ys:List V}
theorem SqL.of {K:Fg} (h:H a=some (.lst xs)):SqL K H a xs:=.inl (.inl h)
theorem SqT.of {K:Fg} (h:H a=some (.tup xs)):SqT K H a xs:=.inl (.inl h)
theorem Inv.list (I:Inv X pins σ H s) (h:SqL X.K H a xs):∃ its:List Value,Vals xs its/\PlainL s.heap a its.toArray/\xs.length<=sizeLine:=by
 rcases h with h|⟨o,its,n,hk,hc,hd,hs,hz,r⟩
 ·obtain ⟨z,its,n,r,e⟩:=h.ok I.hok
  exact ⟨its,r,⟨_,n,e,rfl,rfl,rfl⟩,z⟩
 ·refine ⟨its.toList,r,⟨o,n,I.kIn a o hk,hc,hd,by simpa using hs⟩,?_⟩
  have e:=r.length
  simp only [Array.length_toList] at e
  lia
theorem Inv.tuple (I:Inv X pins σ H s) (h:SqT X.K H a xs):∃ its:List Value,Vals xs its/\IsTup s.heap a its.toArray/\xs.length<=sizeLine:=by
 rcases h with h|⟨o,its,n,hk,hc,hs,hz,r⟩
 ·obtain ⟨z,its,r,p⟩:=h.ok I.hok
  exact ⟨its,r,p,z⟩
 ·refine ⟨its.toList,r,⟨o,I.kIn a o hk,hc,n,by simpa using hs⟩,?_⟩
  have e:=r.length
  simp only [Array.length_toList] at e
  lia
theorem Inv.list_inj (I:Inv X pins σ H s) (h:SqL X.K H a xs) (h':SqL X.K H a ys):xs=ys:=by
 obtain ⟨its,r,⟨o,n,e,_,_,d⟩,_⟩:=I.list h
 obtain ⟨its',r',⟨o',n',e',_,_,d'⟩,_⟩:=I.list h'
 rw [e] at e';cases e'
 rw [d] at d'
 injection d' with d1 _
 have:its=its':=by simpa using congrArg Array.toList d1
 subst this
 exact r.inj r'
theorem Inv.tuple_inj (I:Inv X pins σ H s) (h:SqT X.K H a xs) (h':SqT X.K H a ys):xs=ys:=by
 obtain ⟨its,r,⟨o,e,_,n,d⟩,_⟩:=I.tuple h
 obtain ⟨its',r',⟨o',e',_,n',d'⟩,_⟩:=I.tuple h'
 rw [e] at e';cases e'
 rw [d] at d'
 injection d' with d1 _
 have:its=its':=by simpa using congrArg Array.toList d1
 subst this
 exact r.inj r'
end
abbrev Cx.wish (X:Cx) (E:Value->Shared->Prop):Cx:={ X with xe:=E }
abbrev Cx.nox (X:Cx):Cx:=X.wish λ _ _=>False
theorem Cx.Ok.wish {X:Cx} (ok:X.Ok) (E:Value->Shared->Prop):(X.wish E).Ok :=
 ⟨ok.mod,ok.kind,ok.glob,ok.blt,ok.above,ok.inj,ok.has,ok.cab,ok.hd,ok.frames,ok.stk,ok.exf,ok.bs,ok.bsz,ok.noex,ok.exfs,ok.funs,ok.frf⟩
theorem Cx.Ok.unwish {X:Cx} {E:Value->Shared->Prop} (ok:(X.wish E).Ok):X.Ok :=
 ⟨ok.mod,ok.kind,ok.glob,ok.blt,ok.above,ok.inj,ok.has,ok.cab,ok.hd,ok.frames,ok.stk,ok.exf,ok.bs,ok.bsz,ok.noex,ok.exfs,ok.funs,ok.frf⟩
section
variable {X:Cx} {pins:List (Addr×Obj)} {σ:St} {H:Hp} {s:Shared} {E:Value->Shared->Prop}
theorem Inv.wish (I:Inv X pins σ H s) (E:Value->Shared->Prop):Inv (X.wish E) pins σ H s:=⟨I.ok.wish E,I.os,I.bare,I.base,I.loc,I.cell,I.free,I.freeC,I.pin,I.hok,I.len⟩
theorem Inv.unwish (I:Inv (X.wish E) pins σ H s):Inv X pins σ H s:=⟨I.ok.unwish,I.os,I.bare,I.base,I.loc,I.cell,I.free,I.freeC,I.pin,I.hok,I.len⟩
theorem SP.unwish {D:Ends} {f:Flow} {s':Shared} (h:SP (X.wish E) pins D f s'):SP X pins D f s':=by
 cases f with
|next=>obtain ⟨σ',H',I,q⟩:=h;exact ⟨σ',H',I.unwish,q⟩
|brk=>obtain ⟨σ',H',I,q⟩:=h;exact ⟨σ',H',I.unwish,q⟩
|cont=>obtain ⟨σ',H',I,q⟩:=h;exact ⟨σ',H',I.unwish,q⟩
|ret u=>obtain ⟨v,σ',H',I,r,q⟩:=h;exact ⟨v,σ',H',I.unwish,r,q⟩
theorem PE.nox {e:Expr} {t:TE} (h:PE X.nox e t):PE X e t:=λ pins s σ H Q I hw =>
 wpAny_mono (h pins s σ H Q (I.wish _) hw) (λ _ _ ⟨v,H',I',r,q⟩=>⟨v,H',I'.unwish,r,q⟩) λ _ _ z=>False.elim z
theorem PT.nox {e:Expr} {t:TT} (h:PT X.nox e t):PT X e t:=λ pins s σ H Q I hw =>
 wpAny_mono (h pins s σ H Q (I.wish _) hw) (λ _ _ ⟨H',I',q⟩=>⟨H',I'.unwish,q⟩) λ _ _ z=>False.elim z
theorem PSs.nox {st:List Stmt} {t:TS} (h:PSs X.nox st t):PSs X st t:=λ pins s σ H D I hw =>
 wpAny_mono (h pins s σ H D (I.wish _) hw) (λ _ _ q=>q.unwish) λ _ _ z=>False.elim z
end
section
variable {X:Cx} {st:Stmt} {rest:List Stmt} {t u:TS} {e:Expr} {te:TE} {pos:Pos}
def ze01:TS:=λ D σ H=>D.nx σ H
def tSeq (t u:TS):TS:=λ D σ H=>t { D with nx:=u D } σ H
theorem zm1:PSs X [] ze01:=λ _ _ σ H _ I h=>wpAny_execs_nil ⟨σ,H,I,h⟩
theorem zd0 (h1:PS X st t) (h2:PSs X rest u):PSs X (st :: rest) (tSeq t u):=by
 intro pins s σ H D I h
 refine wpAny_execs_cons (thn (h1 pins s σ H { D with nx:=u D } I h) λ f s1 q=>?_)
 cases f with
|next =>
  obtain ⟨σ',H',I',q⟩:=q
  exact h2 pins s1 σ' H' D I' q
|ret v=>exact q
|brk=>exact q
|cont=>exact q
theorem zj0 (h1:PS X st t):PSs X [st] t:=by
 intro pins s σ H D I h
 refine wpAny_execs_cons (thn (h1 pins s σ H D I h) λ f s1 q=>?_)
 cases f with
|next=>exact wpAny_execs_nil q
|ret v=>exact q
|brk=>exact q
|cont=>exact q
theorem Inv.quiet {pins:List (Addr×Obj)} {σ:St} {H:Hp} {s:Shared} (I:Inv X pins σ H s):interactive X.env=false:=by simp [interactive,I.ok.kind]
def zv01 (te:TE):TS:=λ D σ H=>te σ H λ _ H1=>D.nx σ H1
theorem zf2 (he:PE X e te) (hs:swapsWith e none pos.line X.env=pure false:=by rfl):PS X (.Expr e pos) (zv01 te):=by
 intro pins s σ H D I h
 exact wpAny_Expr_any (thn (he pins s σ H _ I h) λ v s1 ⟨x,H1,I1,r1,q1⟩=>⟨σ,H1,I1,q1⟩) I.quiet hs
def tRet (te:TE):TS:=λ D σ H=>te σ H D.rt
theorem zc1 (he:PE X e te):PS X (.Return (some e) pos) (tRet te):=by
 intro pins s σ H D I h
 exact wpAny_Return_some (thn (he pins s σ H _ I h) λ v s1 ⟨x,H1,I1,r1,q1⟩=>⟨x,σ,H1,I1,r1,q1⟩)
def tIfS (c:TT) (t u:TS):TS:=λ D σ H=>c σ H λ b H1=>if b=true then t D σ H1 else u D σ H1
theorem zo8 {c:Expr} {a b:List Stmt} {tc:TT} (hc:PT X c tc) (ha:PSs X a t) (hb:PSs X b u):PS X (.If c a b pos) (tIfS tc t u):=by
 intro pins s σ H D I h
 refine wpAny_If (thn (hc pins s σ H _ I h) λ d s1 ⟨H1,I1,q1⟩=>?_)
 cases d with
|true=>exact ha pins s1 σ H1 D I1 q1
|false=>exact hb pins s1 σ H1 D I1 q1
end
abbrev TG:=V->St->Hp->(St->Hp->Prop)->Prop
abbrev TGs:=List V->St->Hp->(St->Hp->Prop)->Prop
def PG (X:Cx) (target:Expr) (t:TG):Prop :=
 ∀ (pins:List (Addr×Obj)) (s:Shared) (σ:St) (H:Hp) (v:V) (u:Value) (Q:St->Hp->Prop),Inv X pins σ H s->RelV v u->t v σ H Q ->
  wpAny (model X.prog X.w) X.A (assign target X.env u) (λ _ s'=>∃ σ' H',Inv X pins σ' H' s'/\Q σ' H') X.xe s
def PGs (X:Cx) (ts:List Expr) (t:TGs):Prop :=
 ∀ (pins:List (Addr×Obj)) (s:Shared) (σ:St) (H:Hp) (vs:List V) (us:List Value) (Q:St->Hp->Prop),Inv X pins σ H s->Vals vs us->t vs σ H Q ->
  wpAny (model X.prog X.w) X.A (assignInOrder ((assignEach ts X.env).map (·.2)) us) (λ _ s'=>∃ σ' H',Inv X pins σ' H' s'/\Q σ' H') X.xe s
abbrev TSet:=V->V->V->Hp->(Hp->Prop)->Prop
def PSet (X:Cx) (t:TSet):Prop :=
 ∀ (pins:List (Addr×Obj)) (s:Shared) (σ:St) (H:Hp) (o i v:V) (ov iv u:Value) (Q:Hp->Prop),Inv X pins σ H s->RelV o ov->RelV i iv->RelV v u->t o i v H Q ->
  wpAny (model X.prog X.w) X.A (setItem ov iv u) (λ _ s'=>∃ H',Inv X pins σ H' s'/\Q H') X.xe s
abbrev TIp:=V->V->Hp->VK->Prop
def PIp (X:Cx) (op:Operator) (t:TIp):Prop :=
 ∀ (pins:List (Addr×Obj)) (s:Shared) (σ:St) (H:Hp) (x y:V) (v u:Value) (Q:VK),Inv X pins σ H s->RelV x v->RelV y u->t x y H Q ->
  wpAny (model X.prog X.w) X.A (inplaceOp op v u) (EP X pins σ Q) X.xe s
section
variable {X:Cx} {pos:Pos}
def zni (i:Nat):TG:=λ v σ H Q=>Q (σ.set i (some v)) H
theorem zvt {i:Nat} {x:Str} (hN:X.N.Nodup) (hi:X.N[i]?=some x) (hx:Loc X.env.scope x) (hf:X.fn x=true \/ X.env.scope.names.lookup x=some .local:=by first|exact .inl rfl|exact .inr rfl|assumption):PG X (.Name x pos) (zni i):=by
 intro pins s σ H v u Q I r h
 exact wpAny_assign_Name (zpe I hN hi hx r (λ s' I'=>⟨_,H,I',h⟩) hf)
def gNil:TGs:=λ vs σ H Q=>vs=[]/\Q σ H
def zw01 (t:TG) (u:TGs):TGs:=λ vs σ H Q=>∃ v r,vs=v :: r/\t v σ H λ σ' H'=>u r σ' H' Q
theorem zga:PGs X [] gNil:=by
 intro pins s σ H vs us Q I r h
 obtain ⟨e,h⟩:=h
 subst e
 cases r
 exact assignInOrder_nil ⟨σ,H,I,h⟩
theorem zj2 {e:Expr} {es:List Expr} {t:TG} {u:TGs} (h1:PG X e t) (h2:PGs X es u)
  (hs:(assignEach (e :: es) X.env).map (·.2)=assign e X.env :: (assignEach es X.env).map (·.2):=by rfl):PGs X (e :: es) (zw01 t u):=by
 intro pins s σ H vs us Q I r h
 obtain ⟨v,vr,e1,h⟩:=h
 subst e1
 cases r with
|cons r rr =>
  rw [hs]
  refine assignInOrder_cons (thn (h1 pins s σ H _ _ _ I r h) λ _ s1 ⟨σ1,H1,I1,q1⟩=>?_)
  exact h2 pins s1 σ1 H1 _ _ Q I1 rr q1
def gTup (K:Fg) (n:Nat) (t:TGs):TG:=λ v σ H Q=>∃ a xs,v=.ref a/\SqT K H a xs/\xs.length=n/\t xs σ H Q
theorem zgz {es:List Expr} {k:Nat} {t:TGs} {n:Nat} (hc:X.calm=true) (h:PGs X es t)
  (hn:(assignEach es X.env).length=n:=by rfl) (hst:(assignEach es X.env).findIdx? (·.1)=none:=by rfl):PG X (.Tuple es k pos) (gTup X.K n t):=by
 intro pins s σ H v u Q I r hw
 obtain ⟨a,xs,e1,hq,hl,hw⟩:=hw
 subst e1
 cases r
 obtain ⟨its,rv,ht,hz⟩:=I.tuple hq
 refine assign_Tuple_tuple (I.ok.hd hc) ht (by simp [hn,<- hl,rv.length]) hst λ h' hx=>?_
 have I1:Inv X pins σ H { s with heap:=h' }:=I.kept (t':=s.toks) λ b o e=>hx b o (Nat.ne_of_lt (Heap.lt_size e)) e
 exact h pins _ σ H xs _ Q I1 (by simpa using rv) hw
def gSub (to ti:TE) (t:TSet):TG:=λ v σ H Q=>to σ H λ o H1=>ti σ H1 λ i H2=>t o i v H2 λ H3=>Q σ H3
theorem zbx {o i:Expr} {to ti:TE} {t:TSet} (ho:PE X o to) (hi:PE X i ti) (hs:PSet X t)
  (ha:∀ v,assign (.Subscript o i pos) X.env v=(do
   let ov <- holding [v] (eval o X.env)
   let iv <- holding [v,ov] (eval i X.env)
   standAt pos
   holding [v,ov,iv] (setItem ov iv v)
   release [v,ov,iv] []):=by intro _;rfl):PG X (.Subscript o i pos) (gSub to ti t):=by
 intro pins s σ H v u Q I r h
 rw [ha]
 refine wpAny_bind (wpAny_holding (thn (ho pins s σ H _ I h) λ ov s1 ⟨x,H1,I1,r1,q1⟩=>?_))
 refine wpAny_bind (wpAny_holding (thn (hi pins s1 σ H1 _ I1 q1) λ iv s2 ⟨y,H2,I2,r2,q2⟩=>?_))
 refine wpAny_bind (wpAny_standAt (wpAny_bind (wpAny_holding (thn (hs pins s2 σ H2 x y v ov iv u _ I2 r1 r2 r q2) λ _ s3 ⟨H3,I3,q3⟩=>?_))))
 exact wpAny_release ⟨σ,H3,I3,q3⟩
def tAsg (te:TE) (g:TG):TS:=λ D σ H=>te σ H λ x H1=>g x σ H1 D.nx
theorem ztw {tg e:Expr} {te:TE} {g:TG} (he:PE X e te) (hg:PG X tg g) (hs:swapsWithSole [tg] e pos.line X.env=pure false:=by rfl) (hw:swappedStores [tg] e X.env=pure none:=by rfl)
  (h1:(assignEach [tg] X.env).map (·.2)=[assign tg X.env]:=by rfl):PS X (.Assign [tg] e pos) (tAsg te g):=by
 intro pins s σ H D I h
 refine wpAny_Assign_stores (thn (he pins s σ H _ I h) λ v s1 ⟨x,H1,I1,r1,q1⟩=>?_) hs hw
 rw [h1]
 exact thn (hg pins s1 σ H1 x v _ I1 r1 q1) λ _ s2 q=>q
theorem zbv {i:Nat} {x:Str} {e:Expr} {te:TE} {pos':Pos} (hN:X.N.Nodup) (hi:X.N[i]?=some x) (hx:Loc X.env.scope x) (he:PE X e te) (hs:swapsWith e (some (.Name x pos')) pos.line X.env=pure false:=by rfl) (hf:X.fn x=true \/ X.env.scope.names.lookup x=some .local:=by first|exact .inl rfl|exact .inr rfl|assumption) :
  PS X (.Assign [.Name x pos'] e pos) (tAsg te (zni i)):=by
 intro pins s σ H D I h
 refine wpAny_Assign_Name (thn (he pins s σ H _ I h) λ v s1 ⟨y,H1,I1,r1,q1⟩=>?_) hs
 exact zpe I1 hN hi hx r1 (λ s2 I2=>⟨_,H1,I2,q1⟩) hf
def zi01 (to ti te:TE) (tget:V->V->Hp->VK->Prop) (tip:TIp) (tset:TSet):TS:=λ D σ H=>to σ H λ o H1=>ti σ H1 λ i H2=>tget o i H2 λ x H3=>te σ H3 λ y H4=>tip x y H4 λ z H5=>tset o i z H5 λ H6=>D.nx σ H6
def PGet (X:Cx) (t:V->V->Hp->VK->Prop):Prop :=
 ∀ (pins:List (Addr×Obj)) (s:Shared) (σ:St) (H:Hp) (o i:V) (ov iv:Value) (Q:VK),Inv X pins σ H s->RelV o ov->RelV i iv->t o i H Q ->
  wpAny (model X.prog X.w) X.A (getItem ov iv) (EP X pins σ Q) X.xe s
theorem zck {o i e:Expr} {to ti te:TE} {tget:V->V->Hp->VK->Prop} {tip:TIp} {tset:TSet} {op:Operator} {tpos:Pos} (ho:PE X o to) (hi:PE X i ti) (hg:PGet X tget) (he:PE X e te) (hp:PIp X op tip) (hs:PSet X tset)
  (ha:∀ ov iv new,augStore i ov iv new=(do holding [new,ov,iv] (setItem ov iv new);release [new,ov,iv] [];pure .next):=by intros;rfl):PS X (.AugAssign (.Subscript o i tpos) op e pos) (zi01 to ti te tget tip tset):=by
 intro pins s σ H D I h
 refine wpAny_AugAssign_SubscriptAny (thn (ho pins s σ H _ I h) λ ov s1 ⟨x1,H1,I1,r1,q1⟩=>?_) ha
 refine thn (hi pins s1 σ H1 _ I1 q1) λ iv s2 ⟨x2,H2,I2,r2,q2⟩=>?_
 refine thn (hg pins s2 σ H2 x1 x2 ov iv _ I2 r1 r2 q2) λ old s3 ⟨x3,H3,I3,r3,q3⟩=>?_
 refine thn (he pins s3 σ H3 _ I3 q3) λ v s4 ⟨x4,H4,I4,r4,q4⟩=>?_
 refine thn (hp pins s4 σ H4 x3 x4 old v _ I4 r3 r4 q4) λ new s5 ⟨x5,H5,I5,r5,q5⟩=>?_
 exact thn (hs pins s5 σ H5 x1 x2 x5 ov iv new _ I5 r1 r2 r5 q5) λ _ s6 ⟨H6,I6,q6⟩=>⟨σ,H6,I6,q6⟩
def ipI (f:Int->Int->Int):TIp:=λ x y H Q=>∃ i j,x=.int i/\y=.int j/\Q (.int (f i j)) H
theorem zaz:PIp X .Add (ipI λ i j=>i+j):=by
 intro pins s σ H x y v u Q I r1 r2 h
 obtain ⟨i,j,e1,e2,q⟩:=h
 subst e1;subst e2
 obtain ⟨t,rfl⟩:=r1
 obtain ⟨t',rfl⟩:=r2
 exact iadd_int ⟨.int _,H,I.tok _,⟨_,rfl⟩,q⟩
theorem zkx:PIp X .Sub (ipI λ i j=>i - j):=by
 intro pins s σ H x y v u Q I r1 r2 h
 obtain ⟨i,j,e1,e2,q⟩:=h
 subst e1;subst e2
 obtain ⟨t,rfl⟩:=r1
 obtain ⟨t',rfl⟩:=r2
 exact isub_int ⟨.int _,H,I.tok _,⟨_,rfl⟩,q⟩
end
section
variable {X:Cx} {pos:Pos}
def zir (c:TT) (tb:TS):TS:=λ D σ H=>∃ W:Nat->St->Hp->Prop,(∃ m,W m σ H)/\∀ m σ H,W m σ H ->
 c σ H λ b H1=>if b=true then ∃ N:St->Hp->Prop,(∀ σ' H',N σ' H'->∃ m',m' < m/\W m' σ' H')/\tb { D with nx:=N,ct:=N,bk:=D.nx } σ H1 else D.nx σ H1
theorem zh6 {c:Expr} {body:List Stmt} {tc:TT} {tb:TS} (hp:PassesOwn (model X.prog X.w) X.A X.env X.xe) (hc:PT X c tc) (hb:PSs X body tb):PS X (.While c body [] pos) (zir tc tb):=by
 intro pins s σ H D I h
 obtain ⟨W,⟨m0,w0⟩,turn⟩:=h
 refine wpAny_While (codeAny_whileLoop (λ n s'=>∃ σ' H',Inv X pins σ' H' s'/\W n σ' H') ?_ m0 ⟨σ,H,I,w0⟩)
 rintro n s1 ⟨σ1,H1,I1,w1⟩
 refine wpAny_passesOwn hp (thn (hc pins s1 σ1 H1 _ I1 (turn n σ1 H1 w1)) λ b s2 ⟨H2,I2,q2⟩=>?_)
 cases b with
|true =>
  obtain ⟨N,hN,q2⟩:=q2
  rw [if_pos rfl]
  refine wpAny_passesOwn hp (thn (hb pins s2 σ1 H2 _ I2 q2) λ f s3 q3=>?_)
  cases f with
 |next =>
   obtain ⟨σ3,H3,I3,n3⟩:=q3
   obtain ⟨m',hm,w3⟩:=hN σ3 H3 n3
   exact ⟨m',hm,σ3,H3,I3,w3⟩
 |cont =>
   obtain ⟨σ3,H3,I3,n3⟩:=q3
   obtain ⟨m',hm,w3⟩:=hN σ3 H3 n3
   exact ⟨m',hm,σ3,H3,I3,w3⟩
 |brk=>exact q3
 |ret v=>exact q3
|false =>
  rw [if_neg Bool.false_ne_true]
  exact wpAny_execs_nil ⟨σ1,H2,I2,q2⟩
end
structure It where
 go:Nat->Hp->Prop
 yld:Nat->Hp->V->Hp->Prop
 stop:Nat->Hp->Prop
def FpOk (X:Cx) (pins:List (Addr×Obj)) (H:Hp) (b:Addr):Prop :=
 H b=none/\b≠X.env.locals/\b ∉ X.fs/\(b∈X.ex \/ X.s₀.heap.objs.size<=b)/\(∀ x c,X.env.cells.lookup x=some c->c≠b)/\∀ p∈X.pn++pins,p.1≠b
theorem Inv.fpOk {X:Cx} {pins:List (Addr×Obj)} {σ:St} {H H':Hp} {s:Shared} {b:Addr} (I:Inv X pins σ H s) (hb:s.heap.objs.size<=b) (hn:H' b=none):FpOk X pins H' b:=by
 refine ⟨hn,Nat.ne_of_gt (Nat.lt_of_lt_of_le I.lt hb),I.nofs hb,.inr (Nat.le_trans I.sz hb),λ x c e z=>?_,λ p hp z=>?_⟩
 ·obtain ⟨v,q⟩:=I.cell x c e
  exact absurd (Nat.lt_of_lt_of_le q.lt (by rw [z];exact hb)) (Nat.lt_irrefl _)
 ·exact absurd (Nat.lt_of_lt_of_le (Heap.lt_size (I.pin p hp).1) (by rw [z];exact hb)) (Nat.lt_irrefl _)
structure Turn (P:Program) (w:World) (K:Fg) (tg:Expr) (J:It) (fp:List Addr) (it:Addr) (tn:Nat->Heap->Prop):Prop where
 mem:it∈fp
 obj:∀ i h,tn i h->∀ b∈fp,∃ o,h.get? b=some o/\∀ v,o.data≠.cell v
 keep:∀ i h h',tn i h->(∀ b∈fp,∀ o,h.get? b=some o->h'.get? b=some o)->tn i h'
 item:∀ (X:Cx),X.prog=P->X.w=w->X.K=K->X.calm=true->∀ (i:Nat) (pins:List (Addr×Obj)) (s:Shared) (σ:St) (H:Hp) (E:Value->Shared->Prop),Inv X pins σ H s->(∀ b∈fp,FpOk X pins H b)->tn i s.heap->J.go i H ->
  wpAny (model P w) X.A (pyNext (.ref it)) (λ r s1=>∃ u,r=some u /\
   wpAny (model P w) X.A (letOwnedTupleGo tg (.ref it) u) (λ _ s2=>∃ x H',Inv X pins σ H' s2/\RelV x u/\J.yld i H x H'/\tn (i+1) s2.heap/\∀ b∈fp,H' b=none) E s1) E s
 done:∀ (X:Cx),X.prog=P->X.w=w->X.K=K->X.calm=true->∀ (i:Nat) (pins:List (Addr×Obj)) (s:Shared) (σ:St) (H:Hp) (E:Value->Shared->Prop),Inv X pins σ H s->(∀ b∈fp,FpOk X pins H b)->tn i s.heap->J.stop i H ->
  wpAny (model P w) X.A (pyNext (.ref it)) (λ r s1=>r=none/\Inv X pins σ H s1) E s
 self:∀ (A:Around) (i:Nat) (s:Shared) (Q:Value->Shared->Prop) (E:Value->Shared->Prop),tn i s.heap->Q (.ref it) s->wpAny (model P w) A (pyIter (.ref it)) Q E s
abbrev TI:=St->Hp->(It->Hp->Prop)->Prop
def PIE (X:Cx) (pins:List (Addr×Obj)) (σ:St) (tg:Expr) (R:It->Hp->Prop) (itv:Value) (s2:Shared):Prop :=
 ∃ (it:Addr) (fp:List Addr) (tn:Nat->Heap->Prop) (J:It) (H':Hp),itv=.ref it/\Inv X pins σ H' s2/\Turn X.prog X.w X.K tg J fp it tn/\tn 0 s2.heap/\(∀ b∈fp,FpOk X pins H' b)/\R J H'
def PI (X:Cx) (tg iter:Expr) (wi:TI):Prop :=
 ∀ (pins:List (Addr×Obj)) (s:Shared) (σ:St) (H:Hp) (R:It->Hp->Prop),Inv X pins σ H s->wi σ H R ->
  wpAny (model X.prog X.w) X.A (eval iter X.env) (λ v s1=>wpAny (model X.prog X.w) X.A (pyIter v) (PIE X pins σ tg R) X.xe s1) X.xe s
theorem zxu {M : Model} {A : Around} {E : Value → Shared → Prop} {s : Shared} {tg : Expr} {it : Addr} {u : Value} {o : Obj} {n : String} {vs : Array Value} {Q : Unit → Shared → Prop} (ho : s.heap.get? it = some o) (hc : o.cls = .type n) (hd : o.data = .fields vs)
    (hn : ["enumerate", "zip", "dict_itemiterator", "dict_reverseitemiterator", "odict_iterator", "itertools.zip_longest", "itertools.pairwise"].contains n = false) (hQ : Q () s) : wpAny M A (letOwnedTupleGo tg (.ref it) u) Q E s := by
  unfold letOwnedTupleGo
  cases tg <;> first
    | exact wpAny_pure hQ
    | (cases u <;> first
        | exact wpAny_pure hQ
        | (refine wpAny_bind (wpAny_load ho ?_)
           rw [hc, hd]
           show wpAny M A (if (["enumerate", "zip", "dict_itemiterator", "dict_reverseitemiterator", "odict_iterator", "itertools.zip_longest", "itertools.pairwise"].contains n && vs[0]? == some (rawInt _)) = true then _ else _) Q E s
           rw [if_neg (by intro h; rw [hn, Bool.false_and] at h; cases h)]
           exact wpAny_pure hQ))
def Itl (K:Fg) (a:Addr):It :=
 ⟨λ i H=>∃ xs x,SqL K H a xs/\xs[i]?=some x,λ i H x H'=>H'=H/\∀ xs,SqL K H a xs->xs[i]?=some x,λ i H=>∃ xs,SqL K H a xs/\xs.length<=i⟩
def Itt (K:Fg) (a:Addr):It :=
 ⟨λ i H=>∃ xs x,SqT K H a xs/\xs[i]?=some x,λ i H x H'=>H'=H/\∀ xs,SqT K H a xs->xs[i]?=some x,λ i H=>∃ xs,SqT K H a xs/\xs.length<=i⟩
def Itr (lo:Int) (n:Nat):It:=⟨λ i _=>i < n,λ i H x H'=>H'=H/\x=.int (lo+i),λ i _=>n<=i⟩
theorem zlh {P:Program} {w:World} {K:Fg} {tg:Expr} (a it:Addr):Turn P w K tg (Itl K a) [it] it (λ i h=>h.IsListIter it a i) where
 mem:=by simp
 obj:=λ i h st b hb=>by
  have e:b=it:=by simpa using hb
  subst e
  obtain ⟨o,e,c,d⟩:=st
  exact ⟨o,e,λ v z=>by rw [d] at z;cases z⟩
 keep:=λ i h h' st k=>st.at λ o e=>k it (by simp) o e
 item:=by
  intro X hP hw hK hc i pins s σ H E I hf st hg
  subst hP hw hK
  obtain ⟨xs,x,hq,hx⟩:=hg
  obtain ⟨its,rv,p,hz⟩:=I.list hq
  obtain ⟨u,hu,ru⟩:=rv.get hx
  obtain ⟨f0,f1,f2,f3,f4,f5⟩:=hf it (by simp)
  refine wpAny_pyNext_list_item st p.isList (x:=u) (by simpa using hu) λ h' st' sb=>?_
  have I1:Inv X pins σ H { s with heap:=h' }:=I.turned (t':=s.toks) (λ b o hb e=>(sb.2 b hb).trans e) f0 f1 f3 f4 f5
  obtain ⟨o,e,c,d⟩:=id st'
  exact ⟨u,rfl,zxu (s:={ s with heap:=h' }) e c d (by decide) ⟨x,H,I1,ru,⟨rfl,λ ys hy=>by rw [I.list_inj hy hq];exact hx⟩,st',λ b hb=>(hf b hb).1⟩⟩
 done:=by
  intro X hP hw hK hc i pins s σ H E I hf st hg
  subst hP hw hK
  obtain ⟨xs,hq,hx⟩:=hg
  obtain ⟨its,rv,p,hz⟩:=I.list hq
  obtain ⟨f0,f1,f2,f3,f4,f5⟩:=hf it (by simp)
  have hl:=rv.length
  exact wpAny_pyNext_list_end (I.ok.hd hc) st p.isList (by simp;lia) λ h' eb=>⟨rfl,I.turned (t':=s.toks) (λ b o hb e=>eb b o hb e) f0 f1 f3 f4 f5⟩
 self:=λ _ _ _ _ _ st h=>wpAny_pyIter_listiter st h
theorem zsg {P:Program} {w:World} {K:Fg} {tg:Expr} (a it:Addr):Turn P w K tg (Itt K a) [it] it (λ i h=>h.IsTupleIter it a i) where
 mem:=by simp
 obj:=λ i h st b hb=>by
  have e:b=it:=by simpa using hb
  subst e
  obtain ⟨o,e,c,d⟩:=st
  exact ⟨o,e,λ v z=>by rw [d] at z;cases z⟩
 keep:=λ i h h' st k=>st.at λ o e=>k it (by simp) o e
 item:=by
  intro X hP hw hK hc i pins s σ H E I hf st hg
  subst hP hw hK
  obtain ⟨xs,x,hq,hx⟩:=hg
  obtain ⟨its,rv,p,hz⟩:=I.tuple hq
  obtain ⟨u,hu,ru⟩:=rv.get hx
  obtain ⟨f0,f1,f2,f3,f4,f5⟩:=hf it (by simp)
  refine wpAny_pyNext_tuple_item st (show s.heap.IsTuple a its.toArray from p) (x:=u) (by simpa using hu) λ h' st' sb=>?_
  have I1:Inv X pins σ H { s with heap:=h' }:=I.turned (t':=s.toks) (λ b o hb e=>(sb.2 b hb).trans e) f0 f1 f3 f4 f5
  obtain ⟨o,e,c,d⟩:=id st'
  exact ⟨u,rfl,zxu (s:={ s with heap:=h' }) e c d (by decide) ⟨x,H,I1,ru,⟨rfl,λ ys hy=>by rw [I.tuple_inj hy hq];exact hx⟩,st',λ b hb=>(hf b hb).1⟩⟩
 done:=by
  intro X hP hw hK hc i pins s σ H E I hf st hg
  subst hP hw hK
  obtain ⟨xs,hq,hx⟩:=hg
  obtain ⟨its,rv,p,hz⟩:=I.tuple hq
  obtain ⟨f0,f1,f2,f3,f4,f5⟩:=hf it (by simp)
  have hl:=rv.length
  exact wpAny_pyNext_tuple_end (I.ok.hd hc) st (show s.heap.IsTuple a its.toArray from p) (by simp;lia) λ h' eb=>⟨rfl,I.turned (t':=s.toks) (λ b o hb e=>eb b o hb e) f0 f1 f3 f4 f5⟩
 self:=λ _ _ _ _ _ st h=>wpAny_pyIter_tupleiter st h
theorem zxf {P:Program} {w:World} {K:Fg} {tg:Expr} (it:Addr) (lo:Int) (n:Nat):Turn P w K tg (Itr lo n) [it] it (λ i h=>IsRangeIter h it (lo+(i:Nat) * 1) ((n:Int) - (i:Nat)) 1) where
 mem:=by simp
 obj:=λ i h st b hb=>by
  have e:b=it:=by simpa using hb
  subst e
  exact ⟨_,st,λ v z=>by
   have z':Data.fields _=Data.cell v:=z
   cases z'⟩
 keep:=λ i h h' st k=>k it (by simp) _ st
 item:=by
  intro X hP hw hK hc i pins s σ H E I hf st hg
  subst hP hw hK
  obtain ⟨f0,f1,f2,f3,f4,f5⟩:=hf it (by simp)
  have W:=Walks.range (prog:=X.prog) (w:=X.w) (I.ok.hd hc) it lo 1 n
  refine W.item i s _ _ hg st λ v h' tk hv st' kk=>?_
  obtain ⟨t,rfl⟩:=hv
  have I1:Inv X pins σ H { s with heap:=h',toks:=tk }:=I.turned (λ b o hb e=>kk b o (by simpa using hb) e) f0 f1 f3 f4 f5
  refine ⟨_,rfl,zxu (s:={ s with heap:=h',toks:=tk }) (n := "range_iterator") st' rfl rfl (by decide) ⟨.int (lo+i),H,I1,⟨t,?_⟩,⟨rfl,rfl⟩,st',λ b hb=>(hf b hb).1⟩⟩
  rw [Int.mul_one]
 done:=by
  intro X hP hw hK hc i pins s σ H E I hf st hg
  subst hP hw hK
  obtain ⟨f0,f1,f2,f3,f4,f5⟩:=hf it (by simp)
  exact wpAny_pyNext_range_end (I.ok.hd hc) st (by have:n<=i:=hg;lia) λ h' eb=>⟨rfl,I.turned (t':=s.toks) (λ b o hb e=>eb b o hb e) f0 f1 f3 f4 f5⟩
 self:=λ _ _ _ _ _ st h=>wpAny_pyIter_rangeiter st h
section
variable {X:Cx} {tg:Expr}
theorem ztl {pins:List (Addr×Obj)} {σ:St} {H:Hp} {s:Shared} {R:It->Hp->Prop} {E:Value->Shared->Prop} {lo hi:Int} {t u v:Tok} {tk:Nat} (I:Inv X pins σ H s) (h1:-(2 ^ 62)<=lo) (h2:lo < 2 ^ 62) (h3:-(2 ^ 62)<=hi) (h4:hi < 2 ^ 62)
  (q:R (Itr lo (hi - lo).toNat) H):wpAny (model X.prog X.w) X.A (pyIter (.ref s.heap.objs.size)) (PIE X pins σ tg R) E { s with heap:=s.heap.push { cls:=.type "range",data:=.fields #[.int lo t,.int hi u,.int 1 v] },toks:=tk }:=by
 refine wpAny_pyIter_range (IsRange.new ..) (small_one h1 h2 h3 h4) ?_
 have I1:Inv X pins σ H { s with heap:=s.heap.push { cls:=.type "range",data:=.fields #[.int lo t,.int hi u,.int 1 v] },toks:=tk }:=I.kept λ b o e=>Heap.get?_push_of_some _ e
 refine ⟨(s.heap.push { cls:=.type "range",data:=.fields #[.int lo t,.int hi u,.int 1 v] }).objs.size,[(s.heap.push { cls:=.type "range",data:=.fields #[.int lo t,.int hi u,.int 1 v] }).objs.size],_,_,H,rfl,
  I1.kept (t':=tk) λ b o e=>Heap.get?_push_of_some _ e,zxf _ lo (hi - lo).toNat,?_,λ b hb=>?_,q⟩
 ·have e1:lo+((0:Nat):Int) * 1=lo:=by simp
  have e2:(((hi - lo).toNat:Nat):Int) - ((0:Nat):Int)=Builtin.Range.rangeSize lo hi 1:=by rw [rangeSize_one];split <;> lia
  show IsRangeIter _ _ (lo+((0:Nat):Int) * 1) ((((hi - lo).toNat:Nat):Int) - ((0:Nat):Int)) 1
  rw [e1,e2]
  exact Heap.get?_push_size _ rfl
 ·have e:b=(s.heap.push { cls:=.type "range",data:=.fields #[.int lo t,.int hi u,.int 1 v] }).objs.size:=by simpa using hb
  subst e
  exact I1.fpOk (Nat.le_refl _) (I1.hok.fresh (Nat.le_refl _))
def zvz (ta:TA):TI:=λ σ H R=>ta σ H λ vs H1=>∃ j:Int,vs=[.int j]/\-(2 ^ 62)<=j/\j < 2 ^ 62/\R (Itr 0 j.toNat) H1
theorem zu5 {a:Expr} {ta:TA} {p pos:Pos} (hg:Gl X "range") (hm:X.mg "range"=none) (ha:PA X [a] ta) (hs:starEach [a] X.env=[(false,eval a X.env)]:=by rfl):PI X tg (.Call (.Name "range" p) [a] [] pos) (zvz ta):=by
 intro pins s σ H R I h
 refine Call_ (zce I hg hm boot_range (PyProof.Rows.callWith_type1 (thn (ha pos pins s σ H _ I h) λ us s1 ⟨vs,H1,I1,r1,q1⟩=>?_) hs rfl))
 obtain ⟨j,e,q1,q2,q⟩:=q1
 subst e
 cases r1 with
|cons r rr =>
  cases rr
  obtain ⟨t,rfl⟩:=r
  exact call_range_1 (ztl I1 (by lia) (by lia) q1 q2 (by simpa using q))
def tFor (wi:TI) (g:TG) (tb:TS):TS:=λ D σ H=>wi σ H λ J H1=>∃ W:Nat->Nat->St->Hp->Prop,(∃ m,W 0 m σ H1)/\∀ i m σ H,W i m σ H ->
 (J.stop i H/\D.nx σ H) \/ (J.go i H/\∃ N:St->Hp->Prop,(∀ σ' H',N σ' H'->∃ m',m' < m/\W (i+1) m' σ' H')/\∀ x H',J.yld i H x H'->g x σ H' λ σ2 H2=>tb { D with nx:=N,ct:=N,bk:=D.nx } σ2 H2)
def zgg (fp:List Addr) (h:Heap):List (Addr×Obj):=fp.filterMap λ b=>(h.get? b).map λ o=>(b,o)
theorem zg4 {fp:List Addr} {h:Heap} {b:Addr} {o:Obj} (hb:b∈fp) (e:h.get? b=some o):(b,o)∈zgg fp h:=List.mem_filterMap.mpr ⟨b,hb,by rw [e];rfl⟩
theorem zyh {fp:List Addr} {h:Heap} {p:Addr×Obj} (hp:p∈zgg fp h):p.1∈fp/\h.get? p.1=some p.2:=by
 obtain ⟨b,hb,e⟩:=List.mem_filterMap.mp hp
 cases q:h.get? b with
|none=>rw [q] at e;cases e
|some o =>
  rw [q] at e
  have e':(b,o)=p:=Option.some.inj e
  subst e'
  exact ⟨hb,q⟩
theorem Inv.pinned {pins:List (Addr×Obj)} {σ:St} {H:Hp} {s:Shared} {fp:List Addr} (I:Inv X pins σ H s) (hf:∀ b∈fp,FpOk X pins H b) (ho:∀ b∈fp,∃ o,s.heap.get? b=some o/\∀ v,o.data≠.cell v):Inv X (pins++zgg fp s.heap) σ H s :=
 I.pins_of λ p hp=>(List.mem_append.mp hp).elim (λ z=>I.pin p (List.mem_append_right _ z)) λ z=>by
  obtain ⟨hb,e⟩:=zyh z
  obtain ⟨f0,f1,f2,_⟩:=hf p.1 hb
  obtain ⟨o,e',d⟩:=ho p.1 hb
  rw [e] at e';cases e'
  exact ⟨e,f0,f1,f2,d⟩
theorem Inv.unpinned {pins pl:List (Addr×Obj)} {σ:St} {H:Hp} {s:Shared} (I:Inv X (pins++pl) σ H s):Inv X pins σ H s:=I.pins_of λ p hp=>I.pin p (List.mem_append_right _ (List.mem_append_left _ hp))
theorem zxa {iter:Expr} {body:List Stmt} {wi:TI} {g:TG} {tb:TS} {pos:Pos} (hp:PassesOwn (model X.prog X.w) X.A X.env X.xe) (hc:X.calm=true) (hi:PI X tg iter wi) (hg:PG X tg g) (hb:PSs X body tb)
  (hs:∀ x,foldedSetIterable iter X.env x=pure x:=by intro _;rfl):PS X (.For tg iter body [] pos) (tFor wi g tb):=by
 intro pins s σ H D I h
 refine wpAny_For (thn (hi pins s σ H _ I h) λ v s1 h1=>thn h1 λ itv s2 h2=>?_) hs
 obtain ⟨it,fp,tn,J,H2,e,I2,T,st2,f2,W,⟨m0,w0⟩,turn⟩:=h2
 subst e
 -- what stays true of the iterator's objects through the loop
 have stat:∀ {H':Hp},(∀ b∈fp,H' b=none)->∀ b∈fp,FpOk X pins H' b:=λ hn b hb=>⟨hn b hb,(f2 b hb).2⟩
 refine codeAny_forLoop_any (λ n s'=>∃ i σ' H',Inv X pins σ' H' s'/\tn i s'.heap/\(∀ b∈fp,H' b=none)/\W i n σ' H') ?_ m0 ⟨0,σ,H2,I2,st2,λ b hb=>(f2 b hb).1,w0⟩
 rintro n s3 ⟨i,σ3,H3,I3,st3,fr3,w3⟩
 rcases turn i n σ3 H3 w3 with ⟨stop,qn⟩|⟨go,N,hN,step⟩
 ·refine wpAny_passesOwn hp (thn (T.done X rfl rfl rfl hc i pins s3 σ3 H3 X.xe I3 (stat fr3) st3 stop) λ r s4 ⟨hr,I4⟩=>?_)
  subst hr
  exact wpAny_execs_nil ⟨σ3,H3,I4,qn⟩
 ·refine wpAny_passesOwn hp (thn (T.item X rfl rfl rfl hc i pins s3 σ3 H3 X.xe I3 (stat fr3) st3 go) λ r s4 ⟨u,hr,h4⟩=>?_)
  subst hr
  refine wpAny_passesOwn hp (thn h4 λ _ s5 ⟨x,H5,I5,r5,y5,st5,fr5⟩=>?_)
  have I5':=I5.pinned (stat fr5) (T.obj _ _ st5)
  refine wpAny_passesOwn hp (thn (hg _ s5 σ3 H5 x u _ I5' r5 (step x H5 y5)) λ _ s6 ⟨σ6,H6,I6,q6⟩=>?_)
  refine wpAny_passesOwn hp (thn (hb _ s6 σ6 H6 _ I6 q6) λ f s7 q7=>?_)
  have again:∀ {σ7:St} {H7:Hp},Inv X (pins++zgg fp s5.heap) σ7 H7 s7->N σ7 H7->∃ m,m < n/\∃ i σ' H',Inv X pins σ' H' s7/\tn i s7.heap/\(∀ b∈fp,H' b=none)/\W i m σ' H':=λ {σ7 H7} I7 n7=>by
   obtain ⟨m',hm,w7⟩:=hN σ7 H7 n7
   refine ⟨m',hm,i+1,σ7,H7,I7.unpinned,T.keep _ _ _ st5 λ b hb o e=>(I7.pin (b,o) (List.mem_append_right _ (List.mem_append_right _ (zg4 hb e)))).1,λ b hb=>?_,w7⟩
   obtain ⟨o,e,d⟩:=T.obj _ _ st5 b hb
   exact (I7.pin (b,o) (List.mem_append_right _ (List.mem_append_right _ (zg4 hb e)))).2.1
  cases f with
 |next=>obtain ⟨σ7,H7,I7,n7⟩:=q7;exact again I7 n7
 |cont=>obtain ⟨σ7,H7,I7,n7⟩:=q7;exact again I7 n7
 |brk=>obtain ⟨σ7,H7,I7,q7⟩:=q7;exact ⟨σ7,H7,I7.unpinned,q7⟩
 |ret v=>obtain ⟨x7,σ7,H7,I7,r7,q7⟩:=q7;exact ⟨x7,σ7,H7,I7.unpinned,r7,q7⟩
end
abbrev R2:=V->V->Hp->VK->Prop
def OpR (X:Cx) (f:Value->Value->Sem Value) (r:R2):Prop :=
 ∀ (pins:List (Addr×Obj)) (s:Shared) (σ:St) (H:Hp) (x y:V) (v u:Value) (Q:VK),Inv X pins σ H s->RelV x v->RelV y u->r x y H Q ->
  wpAny (model X.prog X.w) X.A (f v u) (EP X pins σ Q) X.xe s
def CallR (X:Cx) (f:Value) (r:List V->Hp->VK->Prop):Prop :=
 ∀ (pins:List (Addr×Obj)) (s:Shared) (σ:St) (H:Hp) (xs:List V) (us:List Value) (Q:VK),Inv X pins σ H s->Vals xs us->r xs H Q ->
  wpAny (model X.prog X.w) X.A (call f us) (EP X pins σ Q) X.xe s
def TruR (X:Cx) (r:V->Hp->(Bool->Hp->Prop)->Prop):Prop :=
 ∀ (pins:List (Addr×Obj)) (s:Shared) (σ:St) (H:Hp) (x:V) (v:Value) (Q:Bool->Hp->Prop),Inv X pins σ H s->RelV x v->r x H Q ->
  wpAny (model X.prog X.w) X.A (truthy v) (TP X pins σ Q) X.xe s
def tOp (r:R2) (ta tb:TE):TE:=λ σ H Q=>ta σ H λ x H1=>tb σ H1 λ y H2=>r x y H2 Q
def rI (C:Int->Int->Prop) (g:Int->Int->V):R2:=λ x y H Q=>∃ i j,x=.int i/\y=.int j/\C i j/\Q (g i j) H
def rI0 (g:Int->Int->V):R2:=λ x y H Q=>∃ i j,x=.int i/\y=.int j/\Q (g i j) H
section
variable {X:Cx} {a b c:Expr} {ta tb tc:TE} {pos:Pos}
theorem binT (ha:PE X a ta) (hb:PE X b tb) {pins:List (Addr×Obj)} {s:Shared} {σ:St} {H:Hp} {R:V->V->Hp->Prop} (I:Inv X pins σ H s)
  (h:ta σ H λ x H1=>tb σ H1 λ y H2=>R x y H2) {Q:Value->Shared->Prop} {f:Value->Value->Sem Value}
  (hf:∀ v u s2 x y H2,Inv X pins σ H2 s2->RelV x v->RelV y u->R x y H2->wpAny (model X.prog X.w) X.A (f v u) Q X.xe s2) :
  wpAny (model X.prog X.w) X.A (eval a X.env) (λ v s₁=>wpAny (model X.prog X.w) X.A (eval b X.env) (λ u s₂=>wpAny (model X.prog X.w) X.A (f v u) Q X.xe s₂) X.xe s₁) X.xe s:=by
 refine thn (ha pins s σ H _ I h) λ v s1 ⟨x,H1,I1,r1,q1⟩=>?_
 refine thn (hb pins s1 σ H1 _ I1 q1) λ u s2 ⟨y,H2,I2,r2,q2⟩=>?_
 exact hf v u s2 x y H2 I2 r1 r2 q2
theorem zw0 {op:Operator} {r:R2} (ho:OpR X (binaryOp op) r) (ha:PE X a ta) (hb:PE X b tb):PE X (.BinOp a op b pos) (tOp r ta tb):=by
 intro pins s σ H Q I h
 exact wpAny_BinOp (binT ha hb I h λ v u s2 x y H2 I2 rx ry q=>ho pins s2 σ H2 x y v u Q I2 rx ry q)
theorem opI {f:Value->Value->Sem Value} {C:Int->Int->Prop} {g:Int->Int->Int}
  (rule:∀ (i j:Int) (t u:Tok) (s:Shared) (Q:Value->Shared->Prop) (E:Value->Shared->Prop),C i j->Q (.int (g i j) s.toks) { s with toks:=s.toks+1 }->wpAny (model X.prog X.w) X.A (f (.int i t) (.int j u)) Q E s) :
  OpR X f (rI C λ i j=>.int (g i j)):=by
 intro pins s σ H x y v u Q I rx ry h
 obtain ⟨i,j,rfl,rfl,hc,q⟩:=h
 obtain ⟨t,rfl⟩:=rx
 obtain ⟨t',rfl⟩:=ry
 exact rule i j t t' s _ _ hc ⟨.int (g i j),H,I.tok _,⟨_,rfl⟩,q⟩
theorem opI0 {f:Value->Value->Sem Value} {g:Int->Int->Int}
  (rule:∀ (i j:Int) (t u:Tok) (s:Shared) (Q:Value->Shared->Prop) (E:Value->Shared->Prop),Q (.int (g i j) s.toks) { s with toks:=s.toks+1 }->wpAny (model X.prog X.w) X.A (f (.int i t) (.int j u)) Q E s) :
  OpR X f (rI0 λ i j=>.int (g i j)):=by
 intro pins s σ H x y v u Q I rx ry h
 obtain ⟨i,j,rfl,rfl,q⟩:=h
 obtain ⟨t,rfl⟩:=rx
 obtain ⟨t',rfl⟩:=ry
 exact rule i j t t' s _ _ ⟨.int (g i j),H,I.tok _,⟨_,rfl⟩,q⟩
theorem opB0 {f:Value->Value->Sem Value} {g:Int->Int->Bool}
  (rule:∀ (i j:Int) (t u:Tok) (s:Shared) (Q:Value->Shared->Prop) (E:Value->Shared->Prop),Q (.bool (g i j)) s->wpAny (model X.prog X.w) X.A (f (.int i t) (.int j u)) Q E s) :
  OpR X f (rI0 λ i j=>.bl (g i j)):=by
 intro pins s σ H x y v u Q I rx ry h
 obtain ⟨i,j,rfl,rfl,q⟩:=h
 obtain ⟨t,rfl⟩:=rx
 obtain ⟨t',rfl⟩:=ry
 exact rule i j t t' s _ _ ⟨.bl (g i j),H,I,rfl,q⟩
def CPow (i j:Int):Prop:=0<=j/\j<=1000000/\i.natAbs < 2 ^ 64
def CMul (i j:Int):Prop:=(-(2 ^ 64) < i/\i < 2 ^ 64) \/ (-(2 ^ 64) < j/\j < 2 ^ 64)
theorem CMul.ok {i j:Int} (h:CMul i j):IntMulOk i j:=by
 rcases h with ⟨h1,h2⟩|⟨h1,h2⟩
 ·exact .of_left (intBits_le_64 h1 h2)
 ·exact .of_right (intBits_le_64 h1 h2)
theorem zxw:OpR X (binaryOp .Add) (rI0 λ i j=>.int (i+j)):=opI0 λ _ _ _ _ _ _ _ q=>add_int q
theorem zof:OpR X (binaryOp .Sub) (rI0 λ i j=>.int (i - j)):=opI0 λ _ _ _ _ _ _ _ q=>sub_int q
theorem zbw:OpR X (binaryOp .Mult) (rI CMul λ i j=>.int (i * j)):=opI λ _ _ _ _ _ _ _ hc q=>mul_int q hc.ok
theorem zk1:OpR X (binaryOp .Mod) (rI (λ _ j=>0 < j) λ i j=>.int (i % j)):=opI λ i j _ _ _ _ _ hc q=>by
 have h1:(0:Int) < j:=hc
 exact mod_int' (by lia) (by rw [Int.fmod_eq_emod_of_nonneg i (by lia)];exact q)
theorem zmg:OpR X (binaryOp .Pow) (rI CPow λ i j=>.int (i ^ j.toNat)):=opI λ _ _ _ _ _ _ _ hc q=>pow_int_small hc.1 hc.2.1 hc.2.2 q
theorem zjr:OpR X (binaryOp .BitXor) (rI0 λ i j=>.int (Builtin.bitXor i j)):=opI0 λ _ _ _ _ _ _ _ q=>xor_int q
end
def scal:V->V->Bool
|.non,.non=>true|.non,.int _=>true|.int _,.non=>true|.non,.bl _=>true|.bl _,.non=>true|.non,.str _=>true|.str _,.non=>true
|.int _,.int _=>true|.bl _,.bl _=>true|.str _,.str _=>true|.byt _,.byt _=>true
|.int _,.str _=>true|.str _,.int _=>true|.bl _,.str _=>true|.str _,.bl _=>true
|_,_=>false
def rEq:R2:=λ x y H Q=>scal x y=true/\Q (.bl (decide (x=y))) H
def rNe:R2:=λ x y H Q=>scal x y=true/\Q (.bl (!decide (x=y))) H
theorem zaa {i j:Int}:decide (V.int i=V.int j)=(i == j):=by
 rw [Bool.eq_iff_iff]
 simp
theorem zog {i j:Bool}:decide (V.bl i=V.bl j)=(i == j):=by
 rw [Bool.eq_iff_iff]
 simp
theorem zu9 {i j:Str}:decide (V.str i=V.str j)=(i == j):=by
 rw [Bool.eq_iff_iff]
 simp
theorem zlk {i j:Array UInt8}:decide (V.byt i=V.byt j)=(i.toList == j.toList):=by
 rw [Bool.eq_iff_iff]
 cases i
 cases j
 simp
section
variable {X:Cx} {a b c:Expr} {ta tb tc:TE} {pos:Pos}
theorem zb1 {pins:List (Addr×Obj)} {σ:St} {H:Hp} {s:Shared} {Q:VK} {k k':Bool} (I:Inv X pins σ H s) (q:Q (.bl k) H) (e:k=k'):EP X pins σ Q (.bool k') s:=by
 subst e
 exact ⟨.bl k,H,I,rfl,q⟩
theorem za21:OpR X (compareOp .Eq) rEq:=by
 intro pins s σ H x y v u Q I rx ry h
 obtain ⟨hs,q⟩:=h
 cases x with
|non =>
  cases rx
  cases y with
 |non=>cases ry;exact PySem.EqNone.eq_none_none (zb1 I q (by simp))
 |bl j=>cases ry;exact PySem.EqNone.eq_none_bool (zb1 I q (by simp))
 |int j=>obtain ⟨t',rfl⟩:=ry;exact PySem.EqNone.eq_none_int (zb1 I q (by simp))
 |str j=>obtain ⟨t',rfl⟩:=ry;exact PySem.EqNone.eq_none_str (zb1 I q (by simp))
 |_=>exact absurd (show false=true from hs) Bool.false_ne_true
|bl i =>
  cases rx
  cases y with
 |non=>cases ry;exact PySem.EqNone.eq_bool_none (zb1 I q (by simp))
 |bl j=>cases ry;exact eq_bool (zb1 I q zog)
 |str j=>obtain ⟨t',rfl⟩:=ry;exact PySem.EqMixed.eq_bool_str (zb1 I q (by simp))
 |_=>exact absurd (show false=true from hs) Bool.false_ne_true
|int i =>
  obtain ⟨t,rfl⟩:=rx
  cases y with
 |non=>cases ry;exact PySem.EqNone.eq_int_none (zb1 I q (by simp))
 |int j=>obtain ⟨t',rfl⟩:=ry;exact eq_int (zb1 I q zaa)
 |str j=>obtain ⟨t',rfl⟩:=ry;exact PySem.EqMixed.eq_int_str (zb1 I q (by simp))
 |_=>exact absurd (show false=true from hs) Bool.false_ne_true
|str i =>
  obtain ⟨t,rfl⟩:=rx
  cases y with
 |non=>cases ry;exact PySem.EqNone.eq_str_none (zb1 I q (by simp))
 |bl j=>cases ry;exact PySem.EqMixed.eq_str_bool (zb1 I q (by simp))
 |int j=>obtain ⟨t',rfl⟩:=ry;exact PySem.EqMixed.eq_str_int (zb1 I q (by simp))
 |str j=>obtain ⟨t',rfl⟩:=ry;exact eq_str (zb1 I q zu9)
 |_=>exact absurd (show false=true from hs) Bool.false_ne_true
|byt i =>
  obtain ⟨t,rfl⟩:=rx
  cases y with
 |byt j=>obtain ⟨t',rfl⟩:=ry;exact PySem.W.eq_bytes (zb1 I q zlk)
 |_=>exact absurd (show false=true from hs) Bool.false_ne_true
|_=>cases y <;> exact absurd (show false=true from hs) Bool.false_ne_true
theorem zd21:OpR X (compareOp .NotEq) rNe:=by
 intro pins s σ H x y v u Q I rx ry h
 obtain ⟨hs,q⟩:=h
 cases x with
|non =>
  cases rx
  cases y with
 |non=>cases ry;exact PySem.EqNone.ne_none_none (zb1 I q (by simp))
 |bl j=>cases ry;exact PySem.EqNone.ne_none_bool (zb1 I q (by simp))
 |int j=>obtain ⟨t',rfl⟩:=ry;exact PySem.EqNone.ne_none_int (zb1 I q (by simp))
 |str j=>obtain ⟨t',rfl⟩:=ry;exact PySem.EqNone.ne_none_str (zb1 I q (by simp))
 |_=>exact absurd (show false=true from hs) Bool.false_ne_true
|bl i =>
  cases rx
  cases y with
 |non=>cases ry;exact PySem.EqNone.ne_bool_none (zb1 I q (by simp))
 |bl j=>cases ry;exact ne_bool (zb1 I q (congrArg not zog))
 |str j=>obtain ⟨t',rfl⟩:=ry;exact PySem.EqMixed.ne_bool_str (zb1 I q (by simp))
 |_=>exact absurd (show false=true from hs) Bool.false_ne_true
|int i =>
  obtain ⟨t,rfl⟩:=rx
  cases y with
 |non=>cases ry;exact PySem.EqNone.ne_int_none (zb1 I q (by simp))
 |int j=>obtain ⟨t',rfl⟩:=ry;exact ne_int (zb1 I q (congrArg not zaa))
 |str j=>obtain ⟨t',rfl⟩:=ry;exact PySem.EqMixed.ne_int_str (zb1 I q (by simp))
 |_=>exact absurd (show false=true from hs) Bool.false_ne_true
|str i =>
  obtain ⟨t,rfl⟩:=rx
  cases y with
 |non=>cases ry;exact PySem.EqNone.ne_str_none (zb1 I q (by simp))
 |bl j=>cases ry;exact PySem.EqMixed.ne_str_bool (zb1 I q (by simp))
 |int j=>obtain ⟨t',rfl⟩:=ry;exact PySem.EqMixed.ne_str_int (zb1 I q (by simp))
 |str j=>obtain ⟨t',rfl⟩:=ry;exact ne_str (zb1 I q (congrArg not zu9))
 |_=>exact absurd (show false=true from hs) Bool.false_ne_true
|byt i =>
  obtain ⟨t,rfl⟩:=rx
  cases y with
 |byt j=>obtain ⟨t',rfl⟩:=ry;exact PySem.W.ne_bytes (zb1 I q (congrArg not zlk))
 |_=>exact absurd (show false=true from hs) Bool.false_ne_true
|_=>cases y <;> exact absurd (show false=true from hs) Bool.false_ne_true
theorem zc01:OpR X (compareOp .Lt) (rI0 λ i j=>.bl (decide (i < j))):=opB0 λ _ _ _ _ _ _ _ q=>lt_int q
theorem zho:OpR X (compareOp .Gt) (rI0 λ i j=>.bl (decide (j < i))):=opB0 λ _ _ _ _ _ _ _ q=>gt_int q
theorem zn31:OpR X (compareOp .GtE) (rI0 λ i j=>.bl (decide (j<=i))):=opB0 λ _ _ _ _ _ _ _ q=>ge_int q
theorem zri:OpR X (compareOp .In) (λ x y H Q=>∃ i j,x=.str i/\y=.str j/\Q (.bl (!(Builtin.Str.occurrences j i 0 j.length 1).isEmpty)) H):=by
 intro pins s σ H x y v u Q I rx ry h
 obtain ⟨i,j,rfl,rfl,q⟩:=h
 obtain ⟨t,rfl⟩:=rx
 obtain ⟨t',rfl⟩:=ry
 exact in_str (zb1 I q rfl)
theorem zqs:OpR X (compareOp .Is) (λ x y H Q=>y=.non/\Q (.bl (decide (x=.non))) H):=by
 intro pins s σ H x y v u Q I rx ry h
 obtain ⟨rfl,q⟩:=h
 cases ry
 refine is_none_gen (zb1 I q ?_)
 cases x <;> first
 |(cases rx;rfl)
 |(obtain ⟨t,rfl⟩:=rx;rfl)
theorem zhs:OpR X (compareOp .IsNot) (λ x y H Q=>y=.non/\Q (.bl (!decide (x=.non))) H):=by
 intro pins s σ H x y v u Q I rx ry h
 obtain ⟨rfl,q⟩:=h
 cases ry
 refine isnot_none_gen (zb1 I q ?_)
 cases x <;> first
 |(cases rx;rfl)
 |(obtain ⟨t,rfl⟩:=rx;rfl)
theorem OpR.or {f:Value->Value->Sem Value} {r r':R2} (h:OpR X f r) (h':OpR X f r'):OpR X f (λ x y H Q=>r x y H Q \/ r' x y H Q):=by
 intro pins s σ H x y v u Q I rx ry q
 rcases q with q|q
 ·exact h pins s σ H x y v u Q I rx ry q
 ·exact h' pins s σ H x y v u Q I rx ry q
theorem zn1 (b:Expr) {op:CmpOp} (h:op≠.In:=by decide) (h2:op≠.NotIn:=by decide):behindInMarks op b=false:=by
 have e1:(op == CmpOp.In)=false:=by cases op <;> first|rfl|exact absurd rfl h
 have e2:(op == CmpOp.NotIn)=false:=by cases op <;> first|rfl|exact absurd rfl h2
 cases b <;> simp [behindInMarks,e1,e2]
theorem zlp {op:CmpOp} {r:R2} (ho:OpR X (compareOp op) r) (ha:PE X a ta) (hb:PE X b tb) (hm:behindInMarks op b=false):PE X (.Compare a [op] [b] pos) (tOp r ta tb):=by
 intro pins s σ H Q I h
 exact wpAny_Compare1 (binT ha hb I h λ v u s2 x y H2 I2 rx ry q=>ho pins s2 σ H2 x y v u Q I2 rx ry q) hm
def zl31 (t:TE):TT:=λ σ H Q=>t σ H λ x H'=>∃ k,x=.bl k/\Q k H'
theorem zvr {op:CmpOp} {r:R2} (ho:OpR X (compareOp op) r) (ha:PE X a ta) (hb:PE X b tb) (hm:behindInMarks op b=false):PT X (.Compare a [op] [b] pos) (zl31 (tOp r ta tb)):=by
 intro pins s σ H Q I h
 refine wpAny_isTrue_Compare1 (thn (ha pins s σ H _ I h) λ v s1 ⟨x,H1,I1,r1,q1⟩=>thn (hb pins s1 σ H1 _ I1 q1) λ u s2 ⟨y,H2,I2,r2,q2⟩ =>
  thn (ho pins s2 σ H2 x y v u _ I2 r1 r2 q2) λ c s3 ⟨z,H3,I3,r3,k,e,q3⟩=>?_) hm
 subst e
 cases r3
 exact wpAny_truthy_bool ⟨H3,I3,q3⟩
def TruV (K:Fg) (x:V) (H:Hp) (k:Bool):Prop :=
 match x with
|.non=>k=false
|.bl b=>k=b
|.int i=>k=(i != 0)
|.str y=>y.length<=sizeLine/\k=((y.length:Int) != 0)
|.byt y=>y.size<=sizeLine/\k=((y.size:Int) != 0)
|.ref p=>(∃ xs,SqL K H p xs/\k=!xs.isEmpty) \/ (∃ xs,SqT K H p xs/\k=!xs.isEmpty) \/ ∃ kvs,H p=some (.dK kvs)/\k=!kvs.isEmpty
|_=>False
theorem zhe {κ:Type} {kvs:List (κ×V)} {vs:List (κ×Value)} (r:KV kvs vs):(!vs.isEmpty)=!kvs.isEmpty:=by
 cases r <;> rfl
theorem zq9 {xs:List V} {its:List Value} (r:Vals xs its):(!its.toArray.isEmpty)=!xs.isEmpty:=by
 cases r <;> simp
theorem zpb:(sizeLine:Nat) < 2 ^ 63:=by rw [sizeLine_eq];decide
theorem zax:TruR X (λ x H Q=>∃ k,TruV X.K x H k/\Q k H):=by
 intro pins s σ H x v Q I rx h
 obtain ⟨k,e,q⟩:=h
 have hl:=zpb
 have hs:sizeLine=16777216:=sizeLine_eq
 cases x with
|non =>
  cases rx
  have e':k=false:=e
  subst e'
  exact truthy_none ⟨H,I,q⟩
|bl b =>
  cases rx
  have e':k=b:=e
  subst e'
  exact wpAny_truthy_bool ⟨H,I,q⟩
|int i =>
  obtain ⟨t,rfl⟩:=rx
  have e':k=(i != 0):=e
  subst e'
  exact PySem.P.truthy_int ⟨H,I,q⟩
|str y =>
  obtain ⟨t,rfl⟩:=rx
  obtain ⟨hy,e'⟩:y.length<=sizeLine/\k=((y.length:Int) != 0):=e
  subst e'
  exact PySem.P.truthy_str (by lia) ⟨H,I.tok _,q⟩
|byt y =>
  obtain ⟨t,rfl⟩:=rx
  obtain ⟨hy,e'⟩:y.size<=sizeLine/\k=((y.size:Int) != 0):=e
  subst e'
  exact PySem.W.truthy_bytes (by lia) ⟨H,I.tok _,q⟩
|ref p =>
  cases rx
  have e':(∃ xs,SqL X.K H p xs/\k=!xs.isEmpty) \/ (∃ xs,SqT X.K H p xs/\k=!xs.isEmpty) \/ ∃ kvs,H p=some (.dK kvs)/\k=!kvs.isEmpty:=e
  rcases e' with ⟨xs,hx,e'⟩|⟨xs,hx,e'⟩|⟨kvs,hx,e'⟩
  ·subst e'
   obtain ⟨its,r,pl,hz⟩:=I.list hx
   have hlen:=r.length
   exact wpAny_truthy_list pl.isList (by simp only [List.size_toArray];lia) ⟨H,I.tok _,by rw [zq9 r];exact q⟩
  ·subst e'
   obtain ⟨its,r,pl,hz⟩:=I.tuple hx
   have hlen:=r.length
   exact truthy_tuple pl (by simp only [List.size_toArray];lia) ⟨H,I.tok _,by rw [zq9 r];exact q⟩
  ·subst e'
   obtain ⟨hz,hS,vs,r,m⟩:kvs.length<=sizeLine/\(p == sysModules)=false/\∃ vs,KV kvs vs/\s.heap.DictOf (zi1 X.prog X.w) p vs:=I.hok p _ hx
   have hlen:kvs.length=vs.length:=Paired.length r
   exact wpAny_truthy_dict hS m (by lia) ⟨H,I.tok _,by rw [zhe r];exact q⟩
|_=>exact (show False from e).elim
theorem zkn (ha:PE X a ta) (he:∀ whole,isTrue a X.env whole=(do let v <- whole;standAt a.pos;holding [v] (truthy v))) :
  PT X a (λ σ H Q=>ta σ H λ x H'=>∃ k,TruV X.K x H' k/\Q k H'):=by
 intro pins s σ H Q I h
 exact isTrue_plain (thn (ha pins s σ H _ I h) λ v s1 ⟨x,H1,I1,r1,q1⟩=>zax pins s1 σ H1 x v Q I1 r1 q1) (he _)
theorem zjg:OpR X (binaryOp .Add) (λ x y H Q=>∃ i j,x=.str i/\y=.str j/\i.length+j.length<=sizeLine/\Q (.str (i++j)) H):=by
 intro pins s σ H x y v u Q I rx ry h
 obtain ⟨i,j,rfl,rfl,hz,q⟩:=h
 obtain ⟨t,rfl⟩:=rx
 obtain ⟨t',rfl⟩:=ry
 exact add_str (λ t' tk=>⟨.str (i++j),H,I.tok _,⟨_,rfl⟩,q⟩) hz
theorem zqk {x:V} {us:List Value} (r:Vals [x] us):∃ u,us=[u]/\RelV x u:=by
 cases r with
|cons r1 r2=>cases r2;exact ⟨_,rfl,r1⟩
theorem zz01 {x y:V} {us:List Value} (r:Vals [x,y] us):∃ u w',us=[u,w']/\RelV x u/\RelV y w':=by
 cases r with
|cons r1 r2 =>
  cases r2 with
 |cons r3 r4=>cases r4;exact ⟨_,_,rfl,r1,r3⟩
theorem zpi (hc:X.calm=true):CallR X (.builtin "min") (λ xs H Q=>∃ i j,xs=[.int i,.int j]/\Q (.int (if j < i then j else i)) H):=by
 intro pins s σ H xs us Q I r h
 obtain ⟨i,j,rfl,q⟩:=h
 obtain ⟨u,w',rfl,⟨t,rfl⟩,⟨t',rfl⟩⟩:=zz01 r
 refine min_two_ints (I.ok.hd hc) λ h' tk k=>⟨_,H,I.kept k,?_,q⟩
 by_cases hj:j < i
 ·rw [if_pos hj,if_pos hj];exact ⟨_,rfl⟩
 ·rw [if_neg hj,if_neg hj];exact ⟨_,rfl⟩
def LenV (K:Fg) (x:V) (H:Hp) (n:Nat):Prop :=
 match x with
|.str y=>y.length<=sizeLine/\n=y.length
|.byt y=>y.size<=sizeLine/\n=y.size
|.ref p=>(∃ xs,SqL K H p xs/\n=xs.length) \/ ∃ xs,SqT K H p xs/\n=xs.length
|_=>False
theorem zyn:CallR X (.builtin "len") (λ xs H Q=>∃ x n,xs=[x]/\LenV X.K x H n/\Q (.int n) H):=by
 intro pins s σ H xs us Q I r h
 obtain ⟨x,n,rfl,e,q⟩:=h
 obtain ⟨u,rfl,rx⟩:=zqk r
 have hl:=zpb
 have hs:sizeLine=16777216:=sizeLine_eq
 cases x with
|str y =>
  obtain ⟨t,rfl⟩:=rx
  obtain ⟨hy,e'⟩:y.length<=sizeLine/\n=y.length:=e
  subst e'
  exact len_str (by lia) ⟨.int _,H,I.tok _,⟨_,rfl⟩,q⟩
|byt y =>
  obtain ⟨t,rfl⟩:=rx
  obtain ⟨hy,e'⟩:y.size<=sizeLine/\n=y.size:=e
  subst e'
  exact PySem.W.len_bytes (by lia) ⟨.int _,H,I.tok _,⟨_,rfl⟩,q⟩
|ref p =>
  cases rx
  have e':(∃ xs,SqL X.K H p xs/\n=xs.length) \/ ∃ xs,SqT X.K H p xs/\n=xs.length:=e
  rcases e' with ⟨xs,hx,e'⟩|⟨xs,hx,e'⟩
  ·subst e'
   obtain ⟨its,r',pl,hz⟩:=I.list hx
   have hlen:=r'.length
   exact Calls.call_len_list pl.isList (by simp only [List.size_toArray];lia) ⟨.int xs.length,H,I.tok _,⟨_,by simp only [List.size_toArray];rw [hlen]⟩,q⟩
  ·subst e'
   obtain ⟨its,r',pl,hz⟩:=I.tuple hx
   have hlen:=r'.length
   exact len_tuple pl (by simp only [List.size_toArray];lia) ⟨.int xs.length,H,I.tok _,⟨_,by simp only [List.size_toArray];rw [hlen]⟩,q⟩
|_=>exact (show False from e).elim
end
structure ObjM (h:Heap) (x dx C:Addr) (mA:Str->Option Value):Prop where
 obj:h.get? x=some (PySem.W.instObj C dx)
 ns:h.Ns1 dx mA
 ne:dx≠x
theorem zwi {h:Heap} {dx:Addr} {mA:Str->Option Value} (n:h.Ns1 dx mA):∃ od,h.get? dx=some od/\∀ name,PySem.W.lookIn name od=some (mA name):=by
 obtain ⟨o,es,ep,ho,hd,hk,_,hm⟩:=n
 refine ⟨o,ho,λ name=>?_⟩
 have e:=hm name
 unfold nsFind findBy at e
 rw [<- Array.find?_toList] at e
 unfold PySem.W.lookIn
 rw [hd]
 dsimp only
 split
 ·rename_i y q
  rw [q] at e
  exact congrArg some e
 ·rename_i q
  rw [q] at e
  have a:es.toList.any (·.refKey)=false:=by
   rw [List.any_eq_false]
   intro y hy
   obtain ⟨z,t,hkey⟩:=hk y (Array.mem_toList_iff.mp hy)
   simp [DictEntry.refKey,hkey]
  have a':¬ es.toList.any (·.refKey)=true:=by rw [a];exact Bool.false_ne_true
  rw [if_neg a']
  exact congrArg some e
theorem ObjM.look {h:Heap} {x dx C:Addr} {mA:Str->Option Value} (I:ObjM h x dx C mA):∃ od,PySem.W.InstAt h x (PySem.W.instObj C dx) C (some od)/\∀ name,PySem.W.lookIn name od=some (mA name) :=
 let ⟨od,ho,hl⟩:=zwi I.ns
 ⟨od,⟨I.obj,rfl,rfl,ho⟩,hl⟩
section
variable {prog:Program} {w:World} {A:Around} {E:Value->Shared->Prop} {s:Shared} {K:Fg} {x dx C f:Addr} {mA:Str->Option Value} {name:Str} {v:Value}
theorem ztq {expr:Bool} {Q:Value->Shared->Prop} (X:K.In s.heap) (I:ObjM s.heap x dx C mA) (hg:PySem.W.plainGet K C name=true) (hh:PySem.W.hasDictIn K C=true)
  (ha:PySem.W.findIn K (.ref C) name=some none) (hv:mA name=some v) (hv':PySem.W.handedIn v=true) (h:Q v { s with toks:=s.toks+1 }) :
  wpAny (model prog w) A (getAttr (.ref x) name expr) Q E s:=by
 obtain ⟨od,J,hl⟩:=I.look
 exact PySem.W.get_value X J (PySem.W.plainGet_of hg).1 (PySem.W.findObj_own hh ha rfl (by rw [hl,hv])) hv' h
theorem zwl {pl:Sem Bool} {Q:Value×List Value->Shared->Prop} (X:K.In s.heap) (I:ObjM s.heap x dx C mA) (hg:PySem.W.plainGet K C name=true)
  (hf:PySem.W.findIn K (.ref C) name=some (some (.ref f))) (ht:PySem.W.isFn K (.ref f)=true) (hv:mA name=none) (h:Q (.ref f,[.ref x]) s) :
  wpAny (model prog w) A (getMethod (.ref x) name pl) Q E s:=by
 obtain ⟨od,J,hl⟩:=I.look
 exact PySem.W.method_fn X J (PySem.W.plainGet_of hg).1 (PySem.W.plainGet_of hg).2 hf (beq_iff_eq.mp ht) (by show (PySem.W.lookIn name od).map (·.isSome)=some false;rw [hl,hv];rfl) h
theorem zqr {ns:List Str} {Q:Unit->Shared->Prop} (X:K.In s.heap) (I:ObjM s.heap x dx C mA)
  (hs:PySem.W.findIn K (.ref C) "__setattr__"=some (some (.builtin "object.__setattr__"))) (hp:PySem.W.plainOver K C=true) (ht:PySem.W.takerIn K C name=some none) (hh:PySem.W.hasDictIn K C=true)
  (hw:PySem.Within mA ns) (hsz:ns.length<=sizeLine)
  (h:∀ h',ObjM h' x dx C (λ y=>if y=name then some v else mA y)->Heap.SameBut dx s.heap h'->Q () { s with heap:=h',toks:=s.toks+2 }) :
  wpAny (model prog w) A (setAttr (.ref x) name v) Q E s:=by
 obtain ⟨od,J,hl⟩:=I.look
 refine PySem.W.set_plain X J hs (PySem.W.osa_open (s:={ s with toks:=s.toks+1 }) (r:=none) X J hp ht λ b=>?_)
 obtain ⟨cd,hc,hd'⟩:=PySem.W.any_some hh
 have hx:s.heap.get? x=some ⟨.ref C,some dx,.plain,#[]⟩:=I.obj
 refine wpAny_bind (wpAny_pure (wpAny_bind (wpAny_bind (wpAny_loadPart hx (wpAny_bind (PySem.W.Looks.here (s:={ s with toks:=s.toks+1 }) (PySem.W.looks_clsIn X hc) ?_))))))
 rw [hd']
 refine wpAny_pure (a:=some dx) (wpAny_bind (wpAny_pure (wpAny_bind ?_)))
 refine wpAny_nsSet1 (s:={ s with toks:=s.toks+1 }) I.ns λ h' hn2 hs2=>?_
 obtain ⟨oD,esD,epD,hoD,hdD,hcD⟩:=hn2.count (PySem.Within.cons name v hw)
 refine wpAny_bind (wpAny_lookBehind hoD (by rw [hdD];exact pastItsLine_dict (Nat.le_trans hcD (by rw [List.length_cons];lia))) ?_)
 exact wpAny_pure (h _ ⟨(hs2.2 _ (Ne.symm I.ne)).trans I.obj,hn2,I.ne⟩ hs2)
theorem zrn {R:Result->Shared->Prop} {vs:List Value} {kw:List (Str×Value)} (X:K.In s.heap) (hm:PySem.W.makesIn K C=true)
  (hi:PySem.W.findIn K (.ref C) "__init__"=some (some (.ref f))) (hf:PySem.W.typeIn K (.ref f)=some (.type "function"))
  (h:codeAny (model prog w) (A.under (.builtin "type.__call__" ⟨.ref C :: vs,kw⟩)) (.call (.ref f) ⟨.ref (s.heap.objs.size+1) :: vs,kw⟩) (PySem.W.InitBack (s.heap.objs.size+1) R)
   { s with heap:=(s.heap.push PySem.W.emptyDict).push (PySem.W.instObj C s.heap.objs.size) }) :
  codeAny (model prog w) A (.call (.ref C) ⟨vs,kw⟩) R s:=by
 obtain ⟨hh,g,d,t,os⟩:=s
 exact PySem.W.make_core (PySem.W.makes_of X hm) (PySem.W.looks_findIn X hi) (λ self=>PySem.W.bind_fn X self hf) (.inl rfl) h
end
def putF (f:Str) (v:V):List (Str×V)->List (Str×V)
|[]=>[(f,v)]
|(g,x) :: r=>if g=f then (g,v) :: r else (g,x) :: putF f v r
theorem zu7 (f g:Str) (v:V):∀ fs:List (Str×V),(putF f v fs).lookup g=if g=f then some v else fs.lookup g
|[]=>by
  show List.lookup g [(f,v)]=_
  by_cases h:g=f
  ·have hb:(g == f)=true:=beq_iff_eq.mpr h
   simp only [List.lookup,hb,if_pos h]
  ·have hb:(g == f)=false:=beq_eq_false_iff_ne.mpr h
   simp only [List.lookup,hb,if_neg h]
|(k,x) :: r=>by
  have ih:=zu7 f g v r
  rw [show putF f v ((k,x) :: r)=(if k=f then (k,v) :: r else (k,x) :: putF f v r) from rfl]
  by_cases hk:k=f
  ·rw [if_pos hk]
   by_cases h:g=k
   ·have hb:(g == k)=true:=beq_iff_eq.mpr h
    simp only [List.lookup,hb,if_pos (h.trans hk)]
   ·have hb:(g == k)=false:=beq_eq_false_iff_ne.mpr h
    simp only [List.lookup,hb,if_neg (λ e:g=f=>h (e.trans hk.symm))]
  ·rw [if_neg hk]
   by_cases h:g=k
   ·have hb:(g == k)=true:=beq_iff_eq.mpr h
    simp only [List.lookup,hb,if_neg (λ e:g=f=>hk (h.symm.trans e))]
   ·have hb:(g == k)=false:=beq_eq_false_iff_ne.mpr h
    simp only [List.lookup,hb]
    exact ih
theorem zl8 (f:Str) (v:V):∀ fs:List (Str×V),f∈(putF f v fs).map (·.1)/\∀ g,g∈fs.map (·.1)->g∈(putF f v fs).map (·.1)
|[]=>⟨by simp [putF],λ g h=>by simp at h⟩
|(k,x) :: r=>by
  obtain ⟨i1,i2⟩:=zl8 f v r
  rw [show putF f v ((k,x) :: r)=(if k=f then (k,v) :: r else (k,x) :: putF f v r) from rfl]
  by_cases hk:k=f
  ·rw [if_pos hk]
   subst hk
   exact ⟨by simp,λ g h=>by simpa using h⟩
  ·rw [if_neg hk]
   refine ⟨?_,λ g h=>?_⟩
   ·rw [List.map_cons]
    exact List.mem_cons_of_mem _ i1
   ·rw [List.map_cons] at h ⊢
    rcases List.mem_cons.mp h with e|e
    ·exact List.mem_cons.mpr (.inl e)
    ·exact List.mem_cons_of_mem _ (i2 g e)
theorem zg8 (f:Str) (v:V):∀ fs:List (Str×V),(putF f v fs).length<=fs.length+1
|[]=>by simp [putF]
|(k,x) :: r=>by
  have ih:=zg8 f v r
  rw [show putF f v ((k,x) :: r)=(if k=f then (k,v) :: r else (k,x) :: putF f v r) from rfl]
  by_cases hk:k=f
  ·rw [if_pos hk,List.length_cons,List.length_cons];lia
  ·rw [if_neg hk,List.length_cons,List.length_cons];lia
theorem RelO.some_of {v:V} {o:Option Value} (r:RelO (some v) o):∃ u,o=some u/\RelV v u:=by
 cases o with
|none=>exact (show False from r).elim
|some u=>exact ⟨u,rfl,r⟩
theorem RelO.none_of {o:Option Value} (r:RelO none o):o=none:=by
 cases o with
|none=>rfl
|some u=>exact (show False from r).elim
theorem zwh {v:V} {u:Value} (r:RelV v u):PySem.W.handedIn u=true:=by
 cases v with
|non=>cases (show u=Value.none from r);rfl
|bl b=>cases (show u=Value.bool b from r);rfl
|int i=>obtain ⟨t,e⟩:=(show ∃ t,u=Value.int i t from r);cases e;rfl
|str x=>obtain ⟨t,e⟩:=(show ∃ t,u=Value.str x t from r);cases e;rfl
|byt b=>obtain ⟨t,e⟩:=(show ∃ t,u=Value.bytes b t from r);cases e;rfl
|flt b=>obtain ⟨t,e⟩:=(show ∃ t,u=Value.float b t from r);cases e;rfl
|ref a=>cases (show u=Value.ref a from r);rfl
|ty n=>cases (show u=Value.type n from r);rfl
section
variable {P:Program} {w:World} {H H':Hp} {h h':Heap} {a C dx:Addr} {fs fs':List (Str×V)}
theorem zqd (hok:HOk P w H h) (e:H a=some (.ins C dx fs)):∃ mA,ObjM h a dx C mA/\(∀ f,RelO (fs.lookup f) (mA f))/\PySem.Within mA (fs.map (·.1))/\fs.length<=1000/\H dx=some (.own a):=by
 obtain ⟨d,z,ne,ob,mA,n,r,q⟩:=(show ObjOk P w H h a (.ins C dx fs) from hok a _ e)
 exact ⟨mA,⟨ob,n,ne⟩,r,q,z,d⟩
end
structure Cls (K:Fg) (C:Addr):Prop where
 pg:PySem.W.plainGet K C Str.empty=true
 hd:PySem.W.hasDictIn K C=true
 po:PySem.W.plainOver K C=true
 sa:PySem.W.findIn K (.ref C) "__setattr__"=some (some (.builtin "object.__setattr__"))
theorem Cls.get {K:Fg} {C:Addr} (c:Cls K C) (f:Str):PySem.W.plainGet K C f=true:=c.pg
def NoAttr (K:Fg) (C:Addr) (f:Str):Prop:=PySem.W.findIn K (.ref C) f=some none
theorem NoAttr.taker {K:Fg} {C:Addr} {f:Str} (n:NoAttr K C f):PySem.W.takerIn K C f=some none:=by
 unfold PySem.W.takerIn
 rw [show PySem.W.findIn K (.ref C) f=some none from n]
 rfl
structure Meth (K:Fg) (C:Addr) (m:Str) (f:Addr):Prop where
 at_:PySem.W.findIn K (.ref C) m=some (some (.ref f))
 fn:PySem.W.isFn K (.ref f)=true
 kp:PySem.W.keepIn K (.ref f)=true
section
variable {X:Cx} {pins:List (Addr×Obj)} {σ:St} {H:Hp} {s:Shared} {a C dx:Addr} {fs:List (Str×V)} {f:Str} {v:V} {A:Around} {E:Value->Shared->Prop}
theorem zvg {b:Bool} {Q:Value->Shared->Prop} (I:Inv X pins σ H s) (e:H a=some (.ins C dx fs)) (c:Cls X.K C) (n:NoAttr X.K C f) (l:fs.lookup f=some v)
  (h:∀ u s',Inv X pins σ H s'->RelV v u->Q u s'):wpAny (model X.prog X.w) A (getAttr (.ref a) f b) Q E s:=by
 obtain ⟨mA,O,r,_,_,_⟩:=zqd I.hok e
 obtain ⟨u,hu,ru⟩:=RelO.some_of (v:=v) (o:=mA f) (by rw [<- l];exact r f)
 exact ztq I.kIn O (c.get f) c.hd n hu (zwh ru) (h u _ (I.tok _) ru)
theorem zn6 {m:Str} {g:Addr} {pl:Sem Bool} {Q:Value×List Value->Shared->Prop} (I:Inv X pins σ H s) (e:H a=some (.ins C dx fs)) (c:Cls X.K C) (k:Meth X.K C m g) (l:fs.lookup m=none)
  (h:Q (.ref g,[.ref a]) s):wpAny (model X.prog X.w) A (getMethod (.ref a) m pl) Q E s:=by
 obtain ⟨mA,O,r,_,_,_⟩:=zqd I.hok e
 have hn:mA m=none:=RelO.none_of (by rw [<- l];exact r m)
 exact zwl I.kIn O (c.get m) k.at_ k.fn hn h
theorem zwe {y:V} {u:Value} {Q:Unit->Shared->Prop} (I:Inv X pins σ H s) (e:H a=some (.ins C dx fs)) (c:Cls X.K C) (n:NoAttr X.K C f) (hl:fs.length < 1000) (ry:RelV y u)
  (h:∀ s',Inv X pins σ (upd H a (.ins C dx (putF f y fs))) s'->Q () s'):wpAny (model X.prog X.w) A (setAttr (.ref a) f u) Q E s:=by
 obtain ⟨mA,O,r,wi,_,ho⟩:=zqd I.hok e
 have hz:(fs.map (·.1)).length<=sizeLine:=by rw [List.length_map,sizeLine_eq];lia
 refine zqr I.kIn O c.sa c.po n.taker c.hd wi hz λ h' O' sb=>h _ ?_
 have hd:∃ o,h'.get? dx=some o:=let ⟨o,_,_,e',_⟩:=O'.ns;⟨o,e'⟩
 refine I.write (x:=a) (e:=dx) (by rw [e];exact True.intro) (.inr ho) (λ b q hb z=>(sb.2 b hb).trans z) hd ?_
 refine ⟨by rw [zp0 O.ne];exact ho,?_,O.ne,O'.obj,_,O'.ns,λ g=>?_,λ g hg=>?_⟩
 ·have:=zg8 f y fs;lia
 ·show RelO ((putF f y fs).lookup g) (if g=f then some u else mA g)
  rw [zu7]
  by_cases q:g=f
  ·rw [if_pos q,if_pos q];exact ry
  ·rw [if_neg q,if_neg q];exact r g
 ·by_cases q:g=f
  ·rw [q];exact (zl8 f y fs).1
  ·refine (zl8 f y fs).2 g (wi g λ z=>hg ?_)
   show (if g=f then some u else mA g)=none
   rw [if_neg q];exact z
theorem Inv.made (I:Inv X pins σ H s):Inv X pins σ (upd (upd H s.heap.objs.size (.own (s.heap.objs.size+1))) (s.heap.objs.size+1) (.ins C s.heap.objs.size []))
  { s with heap:=(s.heap.push PySem.W.emptyDict).push (PySem.W.instObj C s.heap.objs.size) }:=by
 have e1:(s.heap.push PySem.W.emptyDict).get? s.heap.objs.size=some PySem.W.emptyDict:=Heap.get?_push_size s.heap rfl
 have e2:((s.heap.push PySem.W.emptyDict).push (PySem.W.instObj C s.heap.objs.size)).get? (s.heap.objs.size+1)=some (PySem.W.instObj C s.heap.objs.size):=by
  have:=Heap.get?_push_size (s.heap.push PySem.W.emptyDict) (o:=PySem.W.instObj C s.heap.objs.size) rfl
  rwa [Heap.size_push] at this
 have e3:(s.heap.push PySem.W.emptyDict).Ns s.heap.objs.size (λ _=>none):=⟨PySem.W.emptyDict,#[],_,e1,rfl,(λ e he=>absurd he (by simp)),λ _=>rfl⟩
 have I1:=I.laid (a:=s.heap.objs.size) (o:=.own (s.heap.objs.size+1)) (h':=s.heap.push PySem.W.emptyDict) (t':=s.toks) (λ b u q=>Heap.get?_push_of_some _ q) (Nat.le_refl _) ⟨_,e1⟩
 refine I1.laid (a:=s.heap.objs.size+1) (o:=.ins C s.heap.objs.size []) (t':=s.toks) (λ b u q=>Heap.get?_push_of_some _ q) (Nat.le_of_eq (Heap.size_push _ _)) ?_
 have ne:s.heap.objs.size≠s.heap.objs.size+1:=Nat.ne_of_lt (Nat.lt_succ_self _)
 refine ⟨by rw [zp0 ne,zi0],Nat.zero_le _,ne,e2,λ _=>none,(Heap.Ns1.of_empty e3).at λ o q=>Heap.get?_push_of_some _ q,λ _=>True.intro,λ y hy=>absurd rfl hy⟩
theorem zut {prog:Program} {w:World} {env:Env} {e:Expr} {f:Str} {pos:Pos} {s:Shared} {Q:Value->Shared->Prop} (hb:attributeBase e f env (eval e env)=eval e env)
  (h:wpAny (model prog w) A (eval e env) (λ o s₁=>wpAny (model prog w) A (getAttr o f true) Q E s₁) E s):wpAny (model prog w) A (eval (.Attribute e f pos) env) Q E s :=
 Attribute_any_ h (by rw [arm_eval_Attribute,hb])
end
def tFld (K:Fg) (ta:TE) (f:Str):TE:=λ σ H Q=>ta σ H λ x H1=>∃ a C dx fs v,x=.ref a/\H1 a=some (.ins C dx fs)/\Cls K C/\NoAttr K C f/\fs.lookup f=some v/\Q v H1
def sFld (K:Fg) (ta tv:TE) (f:Str):TS:=λ D σ H=>tv σ H λ y H1=>ta σ H1 λ x H2=>∃ a C dx fs,x=.ref a/\H2 a=some (.ins C dx fs)/\Cls K C/\NoAttr K C f/\fs.length < 1000 /\
 D.nx σ (upd H2 a (.ins C dx (putF f y fs)))
section
variable {X:Cx} {o e value:Expr} {f:Str} {pos pos' tpos:Pos} {ta tv:TE}
theorem zuw (he:PE X e ta) (hb:attributeBase e f X.env (eval e X.env)=eval e X.env):PE X (.Attribute e f pos) (tFld X.K ta f):=by
 intro pins s σ H Q I h
 refine zut hb (thn (he pins s σ H _ I h) λ u s1 ⟨x,H1,I1,rx,a,C,dx,fs,v,ex,ea,c,n,l,q⟩=>?_)
 subst ex
 obtain rfl:u=Value.ref a:=rx
 exact zvg I1 ea c n l λ u' s2 I2 ru=>⟨v,H1,I2,ru,q⟩
theorem zxk (ha:PE X o ta) (hv:PE X value tv) (hs:swapsWith value (some (.Attribute o f pos')) pos.line X.env=pure false):PS X (.Assign [.Attribute o f pos'] value pos) (sFld X.K ta tv f):=by
 intro pins s σ H D I h
 refine plainObj_wpAny_Assign_Attribute (thn (hv pins s σ H _ I h) λ u s1 ⟨y,H1,I1,ry,q⟩=>thn (ha pins s1 σ H1 _ I1 q) λ ov s2 ⟨x,H2,I2,rx,a,C,dx,fs,ex,ea,c,n,l,q2⟩=>?_) hs
 subst ex
 obtain rfl:ov=Value.ref a:=rx
 exact zwe I2 ea c n l ry λ s3 I3=>⟨σ,_,I3,q2⟩
theorem zjo {pl:Sem Bool} {m:Str} {apos:Pos} {args:List Expr} {pins:List (Addr×Obj)} {s:Shared} {σ:St} {H:Hp} {Q:Value->Shared->Prop} {te:TE} (he:PE X e te) (I:Inv X pins σ H s)
  (h:te σ H λ x H1=>∃ a C dx fs g,x=.ref a/\H1 a=some (.ins C dx fs)/\Cls X.K C/\Meth X.K C m g/\fs.lookup m=none /\
   ∀ s1,Inv X pins σ H1 s1->wpAny (model X.prog X.w) X.A (callWith pos (.ref g) [.ref a] (backTo pos (starEach args X.env)) (backToKw pos (keywordEach [] X.env))) Q X.xe s1)
  (ht:eval (.Call (.Attribute e m apos) args [] pos) X.env=(do
   let ov <- eval e X.env
   standAt apos.atName
   let (f,first) <- holding [ov] (getMethod ov m pl)
   callWith pos f first (backTo pos (starEach args X.env)) (backToKw pos (keywordEach [] X.env)))) :
  wpAny (model X.prog X.w) X.A (eval (.Call (.Attribute e m apos) args [] pos) X.env) Q X.xe s:=by
 refine PySem.W.methodCall_KW (pl:=pl) (thn (he pins s σ H _ I h) λ u s1 ⟨x,H1,I1,rx,a,C,dx,fs,g,ex,ea,c,k,l,q⟩=>?_) ht
 subst ex
 obtain rfl:u=Value.ref a:=rx
 exact zn6 I1 ea c k l (q s1 I1)
end
section
variable {X:Cx} {pins:List (Addr×Obj)} {σ:St} {H:Hp} {s:Shared} {A:Around} {E:Value->Shared->Prop} {Q:Value->Shared->Prop} {c:Value} {b:Bool}
inductive TyOf (K:Fg) (H:Hp):V->Value->Prop where
|non:TyOf K H .non (.type "NoneType")
|bl (x:Bool):TyOf K H (.bl x) (.type "bool")
|int (i:Int):TyOf K H (.int i) (.type "int")
|str (x:Str):TyOf K H (.str x) (.type "str")
|flt (x:UInt64):TyOf K H (.flt x) (.type "float")
|lst {a:Addr} {xs:List V} (e:H a=some (.lst xs)):TyOf K H (.ref a) (.type "list")
|frz {a:Addr} {o:Obj} {xs:List V} (e:H a=some (.frz o (.lst xs))):TyOf K H (.ref a) (.type "list")
|tup {a:Addr} {xs:List V} (e:H a=some (.tup xs)):TyOf K H (.ref a) (.type "tuple")
|dK {a:Addr} {kvs:List (Key×V)} (e:H a=some (.dK kvs)):TyOf K H (.ref a) (.type "dict")
|dT {a:Addr} {kvs:List (List Key×V)} (e:H a=some (.dT kvs)):TyOf K H (.ref a) (.type "dict")
|ins {a C dx:Addr} {fs:List (Str×V)} (e:H a=some (.ins C dx fs)) (cl:Cls K C) (ha:PySem.W.findIn K (.ref C) "__class__"=some (some (.builtin "object.__class__")))
   (hn:PySem.W.specialIn K (.builtin "object.__class__") "__get__"=some (some (.builtin "getset_descriptor.__get__"))) (htk:PySem.W.takesIn K (.builtin "object.__class__")=some true)
   (hm:PySem.W.mroIn K C (.type "object")=some true):TyOf K H (.ref a) (.ref C)
theorem zjh {x:V} {u t:Value} (I:Inv X pins σ H s) (rx:RelV x u) (ty:TyOf X.K H x t) (e:PySem.W.kitOne X.K t c=some b) (h:∀ tk,Q (.bool b) { s with toks:=tk }) :
  wpAny (model X.prog X.w) A (call (.builtin "isinstance") [u,c]) Q E s:=by
 cases ty with
|non=>cases (show u=Value.none from rx);exact PySem.W.kia_one PySem.W.kitx_none I.kIn True.intro e (λ z=>nomatch z) h
|bl y=>cases (show u=Value.bool y from rx);exact PySem.W.kia_one PySem.W.kitx_bool I.kIn True.intro e (λ z=>nomatch z) h
|int i=>obtain ⟨t,q⟩:=(show ∃ t,u=Value.int i t from rx);cases q;exact PySem.W.kia_one PySem.W.kitx_int I.kIn True.intro e (λ z=>nomatch z) h
|str y=>obtain ⟨t,q⟩:=(show ∃ t,u=Value.str y t from rx);cases q;exact PySem.W.kia_one PySem.W.kitx_str I.kIn True.intro e (λ z=>nomatch z) h
|flt y=>obtain ⟨t,q⟩:=(show ∃ t,u=Value.float y t from rx);cases q;exact PySem.W.kia_one PySem.W.kitx_float I.kIn True.intro e (λ z=>nomatch z) h
|@lst a xs ea =>
  cases (show u=Value.ref a from rx)
  obtain ⟨_,_,n,_,h1⟩:=(show ObjOk X.prog X.w H s.heap a (.lst xs) from I.hok a _ ea)
  exact PySem.W.kia_one PySem.W.kitx_list I.kIn ⟨_,h1,rfl⟩ e (λ z=>nomatch z) h
|@frz a ob xs ea =>
  cases (show u=Value.ref a from rx)
  obtain ⟨_,_,_,n,_,h1⟩:=(show ObjOk X.prog X.w H s.heap a (.frz ob (.lst xs)) from I.hok a _ ea)
  exact PySem.W.kia_one PySem.W.kitx_list I.kIn ⟨_,h1,rfl⟩ e (λ z=>nomatch z) h
|@tup a xs ea =>
  cases (show u=Value.ref a from rx)
  obtain ⟨_,_,_,p⟩:=(show ObjOk X.prog X.w H s.heap a (.tup xs) from I.hok a _ ea)
  obtain ⟨o,h1,h2,_⟩:=p
  exact PySem.W.kia_one PySem.W.kitx_tuple I.kIn ⟨o,h1,h2⟩ e (λ z=>nomatch z) h
|@dK a kvs ea =>
  cases (show u=Value.ref a from rx)
  obtain ⟨_,_,vs,_,p⟩:=(show ObjOk X.prog X.w H s.heap a (.dK kvs) from I.hok a _ ea)
  obtain ⟨o,es,ep,h1,h2,_⟩:=p
  exact PySem.W.kia_one PySem.W.kitx_dict I.kIn ⟨o,h1,h2.1⟩ e (λ z=>nomatch z) h
|@dT a kvs ea =>
  cases (show u=Value.ref a from rx)
  obtain ⟨_,_,xs,_,o,es,ep,h1,h2,_⟩:=(show ObjOk X.prog X.w H s.heap a (.dT kvs) from I.hok a _ ea)
  exact PySem.W.kia_one PySem.W.kitx_dict I.kIn ⟨o,h1,h2.1⟩ e (λ z=>nomatch z) h
|@ins a C dx fs ea cl ha hn htk hm =>
  cases (show u=Value.ref a from rx)
  obtain ⟨mA,O,_⟩:=zqd I.hok ea
  obtain ⟨od,J,_⟩:=O.look
  exact PySem.W.kia_one (PySem.W.kitx_own (cl.get _) cl.hd ha hn htk hm) I.kIn J e (λ z=>nomatch z) h
end
structure Room (k:Nat) (A:Around):Prop where
 hd:A.handled=none
 dp:A.depth+3 * k+5 < recursionLimit
 gd:A.guards=some []
 un:A.units+16 * k+200 < cLine
theorem Room.mono {j k:Nat} {A:Around} (r:Room k A) (h:j<=k):Room j A:=⟨r.hd,by have:=r.dp;lia,r.gd,by have:=r.un;lia⟩
theorem Room.deeper {k:Nat} {A:Around} (r:Room (k+1) A) (env:Env):Room k (A.deeper env) :=
 ⟨r.hd,by have:=r.dp;show A.depth+1+3 * k+5 < _;lia,r.gd,by have:=r.un;show A.units+3+16 * k+200 < _;lia⟩
theorem zzf {A:Around} {C:Addr} {us:List Value} {kw:List (Str×Value)}:(A.under (.builtin "type.__call__" ⟨.ref C :: us,kw⟩)).depth=A.depth+1:=by
 first|rfl|simp [Around.under,Code.weight,Code.isCreation,Code.isGuard,Code.isCaller,Code.frames,Code.isFrame,guardIds]
theorem zmf {A:Around} {C:Addr} {us:List Value} {kw:List (Str×Value)}:(A.under (.builtin "type.__call__" ⟨.ref C :: us,kw⟩)).units=A.units+1:=by
 first|rfl|simp [Around.under,Code.cUnits,Code.frames,Code.isFrame]
theorem Room.make {k:Nat} {A:Around} (r:Room (k+1) A) (C:Addr) (us:List Value) (kw:List (Str×Value)):Room k (A.under (.builtin "type.__call__" ⟨.ref C :: us,kw⟩)) :=
 ⟨r.hd,by have:=r.dp;rw [zzf];lia,r.gd,by have:=r.un;rw [zmf];lia⟩
theorem Room.depth {k:Nat} {A:Around} (r:Room k A):A.depth < recursionLimit:=by have:=r.dp;lia
theorem Room.units {k:Nat} {A:Around} (r:Room k A):A.units+64 < cLine:=by have:=r.un;lia
def tNil:TA:=λ _ H Q=>Q [] H
def zfe (ta:TE) (tr:TA):TA:=λ σ H Q=>ta σ H λ x H1=>tr σ H1 λ xs H2=>Q (x :: xs) H2
section
variable {X:Cx} {e:Expr} {es:List Expr} {te:TE} {t:TA} {pos:Pos}
theorem zh0:PA X [] tNil:=λ _ _ _ _ H Q I h=>Calls.spliced_nil ⟨[],H,I,.nil,h⟩
theorem za0 (ha:PE X e te) (hr:PA X es t) (hs:starEach (e :: es) X.env=(false,eval e X.env) :: starEach es X.env:=by rfl):PA X (e :: es) (zfe te t):=by
 intro pos pins s σ H Q I h
 rw [hs]
 show wpAny _ _ (spliced ((false,eval e X.env) :: backTo pos (starEach es X.env))) _ _ s
 refine Calls.spliced_cons (thn (ha pins s σ H _ I h) λ u s1 ⟨x,H1,I1,r1,q1⟩=>?_)
 exact thn (hr pos pins s1 σ H1 _ I1 q1) λ us s2 ⟨xs,H2,I2,r2,q2⟩=>⟨x :: xs,H2,I2,.cons r1 r2,q2⟩
def tTup (t:TA):TE:=λ σ H Q=>t σ H λ xs H1=>xs.length<=sizeLine/\∀ p,H1 p=none->Q (.ref p) (upd H1 p (.tup xs))
def tLst (t:TA):TE:=λ σ H Q=>t σ H λ xs H1=>xs.length<=sizeLine/\∀ p,H1 p=none->Q (.ref p) (upd H1 p (.lst xs))
theorem zjx {x1} (h:PA X es t):PE X (.Tuple es x1 pos) (tTup t):=by
 intro pins s σ H Q I hq
 refine wpAny_Tuple_spliced (thn (h pos pins s σ H _ I hq) λ us s1 ⟨xs,H1,I1,r,z,q⟩=>⟨by rw [<- r.length];exact z,?_⟩)
 have hf:H1 s1.heap.objs.size=none:=I1.hok.fresh (Nat.le_refl _)
 refine ⟨.ref s1.heap.objs.size,upd H1 s1.heap.objs.size (.tup xs),I1.laid (t':=s1.toks) (λ b u e=>Heap.get?_push_of_some _ e) (Nat.le_refl _) ?_,rfl,q _ hf⟩
 exact ⟨z,us,r,⟨_,Heap.get?_push_size _ rfl,rfl,_,rfl⟩⟩
theorem zky (h:PA X es t):PE X (.List es pos) (tLst t):=by
 intro pins s σ H Q I hq
 refine wpAny_List_spliced (thn (h pos pins s σ H _ I hq) λ us s1 ⟨xs,H1,I1,r,z,q⟩=>⟨by rw [<- r.length];exact z,?_⟩)
 have hf:H1 s1.heap.objs.size=none:=I1.hok.fresh (Nat.le_refl _)
 refine ⟨.ref s1.heap.objs.size,upd H1 s1.heap.objs.size (.lst xs),I1.laid (t':=s1.toks) (λ b u e=>Heap.get?_push_of_some _ e) (Nat.le_refl _) ?_,rfl,q _ hf⟩
 exact ⟨z,us,0,r,Heap.get?_push_size _ rfl⟩
end
abbrev Sp:=List V->Hp->VK->XK->Prop
abbrev CXT:=List Env->Hp->Shared->XK->Value->Shared->Prop
structure Env0 (P:Program) (w:World) (K:Fg) (mg:Str->Option Value) (base:Heap) (A:Around) (outer:List Env) (s:Shared) (H:Hp):Prop where
 frames:A.frames=some outer
 mod:Mod K mg base
 bs:∀ b o,base.get? b=some o->s.heap.get? b=some o/\H b=none
 bsz:base.objs.size<=s.heap.objs.size
 funs:s.heap.FunFrames base outer
 frf:∀ b∈frs outer,H b=none
 hok:HOk P w H s.heap
 bare:AllBare s.gens
def CE (outer:List Env) (P:Program) (w:World) (H:Hp) (s:Shared) (Q:VK) (u:Value) (s':Shared):Prop :=
 ∃ v H',s'.os=s.os/\AllBare s'.gens/\Un (frs outer) [] H H' s.heap s'.heap/\HOk P w H' s'.heap/\RelV v u/\Q v H'
def CR (CX:CXT) (outer:List Env) (P:Program) (w:World) (H:Hp) (s:Shared) (Q:VK) (E:XK) (r:Result) (s':Shared):Prop :=
 match r with
|.ok (.ret u)=>CE outer P w H s Q u s'
|.ok _=>False
|.error e=>CX outer H s E e s'
structure FnOk (P:Program) (w:World) (K:Fg) (mg:Str->Option Value) (base:Heap) (CX:CXT) (k:Nat) (f:Addr) (fd:FuncData) (ps:List Str) (sp:Sp):Prop where
 len:∀ vs H Q E,sp vs H Q E->vs.length=ps.length
 run:∀ (A:Around) (outer:List Env) (s:Shared) (H:Hp) (args:Args) (us:List Value) (vs:List V) (Q:VK) (E:XK),Room k A->Env0 P w K mg base A outer s H->BindsTo s fd args (ps.zip us)->Vals vs us->sp vs H Q E ->
  codeAny (model P w) A (.call (.ref f) args) (CR CX outer P w H s Q E) s
theorem FnOk.mono {P:Program} {w:World} {K:Fg} {mg:Str->Option Value} {base:Heap} {CX:CXT} {j k:Nat} {f:Addr} {fd:FuncData} {ps:List Str} {sp:Sp} (F:FnOk P w K mg base CX j f fd ps sp) (h:j<=k) :
  FnOk P w K mg base CX k f fd ps sp:=⟨F.len,λ A outer s H args us vs Q E hr=>F.run A outer s H args us vs Q E (hr.mono h)⟩
theorem FnOk.imp {P:Program} {w:World} {K:Fg} {mg:Str->Option Value} {base:Heap} {CX:CXT} {k:Nat} {f:Addr} {fd:FuncData} {ps:List Str} {sp sp':Sp} (F:FnOk P w K mg base CX k f fd ps sp)
  (h:∀ vs H Q E,sp' vs H Q E->sp vs H Q E):FnOk P w K mg base CX k f fd ps sp' :=
 ⟨λ vs H Q E q=>F.len vs H Q E (h _ _ _ _ q),λ A outer s H args us vs Q E hr he hb hv hs=>F.run A outer s H args us vs Q E hr he hb hv (h _ _ _ _ hs)⟩
theorem Env0.make {P:Program} {w:World} {K:Fg} {mg:Str->Option Value} {base:Heap} {A:Around} {outer:List Env} {s:Shared} {H:Hp} (e:Env0 P w K mg base A outer s H) (C:Addr) (us:List Value) (kw:List (Str×Value)) :
  Env0 P w K mg base (A.under (.builtin "type.__call__" ⟨.ref C :: us,kw⟩)) outer s H:=⟨by first|exact e.frames|(simpa [Around.under,Code.envs,Code.isFrame,pushEnvs] using e.frames),e.mod,e.bs,e.bsz,e.funs,e.frf,e.hok,e.bare⟩
section
variable {X:Cx} {pins:List (Addr×Obj)} {σ:St} {H:Hp} {s s':Shared}
theorem Inv.env0 (I:Inv X pins σ H s):Env0 X.prog X.w X.K X.mg X.base X.A X.stack s H :=
 ⟨I.ok.frames,I.ok.mod,I.bs,Nat.le_trans I.ok.bsz I.sz,I.stack,I.stkFree,I.hok,I.bare⟩
theorem Inv.after {Q:VK} {u:Value} (I:Inv X pins σ H s) (h:CE X.stack X.prog X.w H s Q u s'):EP X pins σ Q u s':=by
 obtain ⟨v,H',os,bare,un,hok,r,q⟩:=h
 obtain ⟨hh,g,d,t,os'⟩:=s'
 obtain rfl:os'=s.os:=os
 exact ⟨v,H',I.call (h':=hh) (g':=g) (d':=d) (t':=t) (ch:=[]) un hok bare (λ b z=>absurd z (by simp)),r,q⟩
end
def zwq (sp:Sp) (dvs:List V) (E:XK) (t:TA):TE:=λ σ H Q=>t σ H λ vs H1=>sp (vs++dvs) H1 Q E
def zeo (C:Addr) (m:Str) (sp:Sp) (dvs:List V) (E:XK) (ta:TE) (t:TA):TE:=λ σ H Q=>ta σ H λ x H1=>∃ a dx fs,x=.ref a/\H1 a=some (.ins C dx fs)/\fs.lookup m=none /\
 t σ H1 λ vs H2=>sp (x :: (vs++dvs)) H2 Q E
def zdz (C:Addr) (sp:Sp) (dvs:List V) (E:XK) (t:TA):TE:=λ σ H Q=>t σ H λ vs H1=>∀ x dx,H1 x=none->H1 dx=none->dx≠x ->
 sp (.ref x :: (vs++dvs)) (upd (upd H1 dx (.own x)) x (.ins C dx [])) (λ v H2=>v=.non/\Q (.ref x) H2) E
def Binds (K:Fg) (fd:FuncData) (ps:List Str) (ds:List Value):Prop :=
 ∀ (s:Shared) (us:List Value),K.In s.heap->(us++ds).length=ps.length->BindsTo s fd ⟨us,[]⟩ (ps.zip (us++ds))
theorem Binds.all {K:Fg} {fd:FuncData} {ps:List Str} (h:∀ us:List Value,us.length=ps.length->bindArgs fd ⟨us,[]⟩=pure (ps.zip us)):Binds K fd ps []:=λ s us _ hl=>by
 rw [List.append_nil] at hl ⊢
 exact .of_eq (h us hl)
def zqb (CX:CXT) (X:Cx) (E:XK):Prop:=∀ (pins:List (Addr×Obj)) (σ:St) (H:Hp) (s:Shared) (e:Value) (s':Shared),Inv X pins σ H s->CX X.stack H s E e s'->X.xe e s'
section
variable {X:Cx} {CX:CXT} {k:Nat} {f C:Addr} {fd:FuncData} {ps:List Str} {sp:Sp} {dvs:List V} {ds:List Value} {E:XK} {x m:Str} {p pos apos:Pos} {e o:Expr} {es:List Expr} {ta:TE} {t:TA}
theorem zbo {pins:List (Addr×Obj)} {σ:St} {H:Hp} {s:Shared} {Q:VK} {us:List Value} {vs:List V} (F:FnOk X.prog X.w X.K X.mg X.base CX k f fd ps sp) (hr:Room k X.A) (hb:Binds X.K fd ps ds) (hd:Vals dvs ds) (hx:zqb CX X E)
  (I:Inv X pins σ H s) (r:Vals vs us) (h:sp (vs++dvs) H Q E):wpAny (model X.prog X.w) X.A (call (.ref f) us) (EP X pins σ Q) X.xe s:=by
 have r2:Vals (vs++dvs) (us++ds):=r.append hd
 have hl:(us++ds).length=ps.length:=by rw [<- r2.length];exact F.len _ _ _ _ h
 refine wpAny_call (codeAny_mono (F.run X.A X.stack s H ⟨us,[]⟩ (us++ds) (vs++dvs) Q E hr I.env0 (hb s us I.kIn hl) r2 h) λ r s' hq=>?_)
 cases r with
|error e=>exact hx pins σ H s e s' I hq
|ok fl =>
  cases fl with
 |ret u=>exact I.after hq
 |next=>exact False.elim hq
 |brk=>exact False.elim hq
 |cont=>exact False.elim hq
theorem zfk (F:FnOk X.prog X.w X.K X.mg X.base CX k f fd ps sp) (hr:Room k X.A) (hg:Gl X x) (hm:X.mg x=some (.ref f)) (hk:PySem.W.keepIn X.K (.ref f)=true) (hb:Binds X.K fd ps ds) (hd:Vals dvs ds) (hx:zqb CX X E)
  (ha:PA X (e :: es) t) (hdb:(x == ("__debug__":Str))=false:=by decide) (he:starEach (e :: es) X.env=(false,eval e X.env) :: starEach es X.env:=by rfl) (hpl:(backTo pos (starEach es X.env)).any (·.1)=false:=by rfl) :
  PE X (.Call (.Name x p) (e :: es) [] pos) (zwq sp dvs E t):=by
 intro pins s σ H Q I h
 refine wpAny_Call_Name_kw (zle I hg hm ?_ hdb)
 refine PySem.W.callWith_K (h₀:=X.base) I.ok.mod.kin hk (thn (ha pos pins s σ H _ I h) λ us s1 ⟨vs,H1,I1,r,q⟩=>⟨I1.kIn,?_⟩) he hpl
 exact zbo F hr hb hd hx I1 r q
theorem zcq {pl:Sem Bool} (he:PE X o ta) (c:Cls X.K C) (hm:Meth X.K C m f) (F:FnOk X.prog X.w X.K X.mg X.base CX k f fd ps sp) (hr:Room k X.A) (hb:Binds X.K fd ps ds) (hd:Vals dvs ds) (hx:zqb CX X E) (ha:PA X (e :: es) t)
  (hst:starEach (e :: es) X.env=(false,eval e X.env) :: starEach es X.env:=by rfl) (hpl:(backTo pos (starEach es X.env)).any (·.1)=false:=by rfl)
  (ht:eval (.Call (.Attribute o m apos) (e :: es) [] pos) X.env=(do
   let ov <- eval o X.env
   standAt apos.atName
   let (f,first) <- holding [ov] (getMethod ov m pl)
   callWith pos f first (backTo pos (starEach (e :: es) X.env)) (backToKw pos (keywordEach [] X.env))):=by rfl) :
  PE X (.Call (.Attribute o m apos) (e :: es) [] pos) (zeo C m sp dvs E ta t):=by
 intro pins s σ H Q I h
 refine PySem.W.methodCall_KW (pl:=pl) (thn (he pins s σ H _ I h) λ u s1 ⟨x,H1,I1,rx,a,dx,fs,ex,ea,l,q⟩=>?_) ht
 subst ex
 obtain rfl:u=Value.ref a:=rx
 refine zn6 I1 ea c hm l ?_
 refine PySem.W.callWith_K (first:=[.ref a]) (h₀:=X.base) I.ok.mod.kin hm.kp (thn (ha pos pins s1 σ H1 _ I1 q) λ us s2 ⟨vs,H2,I2,r,q2⟩=>⟨I2.kIn,?_⟩) hst hpl
 exact zbo (us:=.ref a :: us) (vs:=.ref a :: vs) F hr hb hd hx I2 (.cons rfl r) q2
theorem zil {pl:Sem Bool} (he:PE X o ta) (c:Cls X.K C) (hm:Meth X.K C m f) (F:FnOk X.prog X.w X.K X.mg X.base CX k f fd ps sp) (hr:Room k X.A) (hb:Binds X.K fd ps ds) (hd:Vals dvs ds) (hx:zqb CX X E)
  (ht:eval (.Call (.Attribute o m apos) [] [] pos) X.env=(do
   let ov <- eval o X.env
   standAt apos.atName
   let (f,first) <- holding [ov] (getMethod ov m pl)
   callWith pos f first (backTo pos (starEach [] X.env)) (backToKw pos (keywordEach [] X.env))):=by rfl) :
  PE X (.Call (.Attribute o m apos) [] [] pos) (zeo C m sp dvs E ta tNil):=by
 intro pins s σ H Q I h
 refine PySem.W.methodCall_KW (pl:=pl) (thn (he pins s σ H _ I h) λ u s1 ⟨x,H1,I1,rx,a,dx,fs,ex,ea,l,q⟩=>?_) ht
 subst ex
 obtain rfl:u=Value.ref a:=rx
 refine zn6 I1 ea c hm l ?_
 exact PySem.W.callWith_K0 (first:=[.ref a]) I1.kIn hm.kp (zbo (us:=[.ref a]) (vs:=[.ref a]) F hr hb hd hx I1 (.cons rfl .nil) q)
structure Mk (K:Fg) (C f:Addr):Prop where
 makes:PySem.W.makesIn K C=true
 init:PySem.W.findIn K (.ref C) "__init__"=some (some (.ref f))
 fn:PySem.W.isFn K (.ref f)=true
 kp:PySem.W.keepIn K (.ref C)=true
theorem zzl {pins:List (Addr×Obj)} {σ:St} {H:Hp} {s:Shared} {Q:VK} {us:List Value} {vs:List V} (M:Mk X.K C f) (F:FnOk X.prog X.w X.K X.mg X.base CX k f fd ps sp) (hr:Room (k+1) X.A) (hb:Binds X.K fd ps ds) (hd:Vals dvs ds)
  (hx:zqb CX X E) (I:Inv X pins σ H s) (r:Vals vs us)
  (h:∀ x dx,H x=none->H dx=none->dx≠x->sp (.ref x :: (vs++dvs)) (upd (upd H dx (.own x)) x (.ins C dx [])) (λ v H2=>v=.non/\Q (.ref x) H2) E) :
  wpAny (model X.prog X.w) X.A (call (.ref C) us) (EP X pins σ Q) X.xe s:=by
 have hq:=h (s.heap.objs.size+1) s.heap.objs.size (I.hok.fresh (Nat.le_succ _)) (I.hok.fresh (Nat.le_refl _)) (Nat.ne_of_lt (Nat.lt_succ_self _))
 have I2:=Inv.made (C:=C) I
 have r2:Vals (V.ref (s.heap.objs.size+1) :: (vs++dvs)) (Value.ref (s.heap.objs.size+1) :: (us++ds)):=.cons rfl (r.append hd)
 have hl:(Value.ref (s.heap.objs.size+1) :: us++ds).length=ps.length:=by
  have e:=r2.length
  rw [F.len _ _ _ _ hq] at e
  exact e.symm
 refine wpAny_call (zrn (f:=f) I.kIn M.makes M.init (beq_iff_eq.mp M.fn) (codeAny_mono (F.run _ X.stack _ _ ⟨Value.ref (s.heap.objs.size+1) :: us,[]⟩ (Value.ref (s.heap.objs.size+1) :: (us++ds)) _ _ E (hr.make C us [])
  (I2.env0.make C us []) (hb _ (Value.ref (s.heap.objs.size+1) :: us) I2.kIn hl) r2 hq) λ r s' hq'=>?_))
 cases r with
|error e=>exact hx pins σ _ _ e s' I2 hq'
|ok fl =>
  cases fl with
 |ret u =>
   obtain ⟨v,H',I3,rv,ev,q3⟩:=I2.after hq'
   subst ev
   exact ⟨rv,⟨V.ref (s.heap.objs.size+1),H',I3,rfl,q3⟩⟩
 |next=>exact False.elim hq'
 |brk=>exact False.elim hq'
 |cont=>exact False.elim hq'
theorem ztp (M:Mk X.K C f) (F:FnOk X.prog X.w X.K X.mg X.base CX k f fd ps sp) (hr:Room (k+1) X.A) (hg:Gl X x) (hm:X.mg x=some (.ref C)) (hb:Binds X.K fd ps ds) (hd:Vals dvs ds) (hx:zqb CX X E)
  (ha:PA X (e :: es) t) (hdb:(x == ("__debug__":Str))=false:=by decide) (he:starEach (e :: es) X.env=(false,eval e X.env) :: starEach es X.env:=by rfl) (hpl:(backTo pos (starEach es X.env)).any (·.1)=false:=by rfl) :
  PE X (.Call (.Name x p) (e :: es) [] pos) (zdz C sp dvs E t):=by
 intro pins s σ H Q I h
 refine wpAny_Call_Name_kw (zle I hg hm ?_ hdb)
 refine PySem.W.callWith_K (h₀:=X.base) I.ok.mod.kin M.kp (thn (ha pos pins s σ H _ I h) λ us s1 ⟨vs,H1,I1,r,q⟩=>⟨I1.kIn,?_⟩) he hpl
 exact zzl M F hr hb hd hx I1 r q
end
section
variable {X:Cx} {CX:CXT} {k:Nat} {f C:Addr} {fd:FuncData} {ps ks:List Str} {sp:Sp} {E:XK} {x m:Str} {p pos apos kpos:Pos} {e o:Expr} {es:List Expr} {kws:List Keyword} {te ta:TE} {t tk:TA} {nm:Option Str}
variable {g:List Value->List Value->List Value} {gV:List V->List V->List V}
end
structure FnScope (N P:List Str) (sc:Scope):Prop where
 kind:sc.kind=.function
 co:sc.isCoroutine=false
 gen:sc.isGenerator=false
 nd:N.Nodup
 pre:N.take P.length=P
 par:∀ x∈P,sc.names.lookup x=some .local \/ sc.names.lookup x=some .cell
 nofree:∀ y∈sc.names,y.2≠.free
theorem zsc {kindOf:Str->Option NameKind} {x:Str}:∀ {binds:List (Str×Value)} {m:Str->Option Value},(∀ v,(x,v) ∉ binds)->bindL kindOf binds m x=m x
|[],_,_=>rfl
|(n,v) :: r,m,h=>by
  unfold bindL
  rw [zsc λ w hw=>h w (List.mem_cons_of_mem _ hw)]
  split
  ·have:x≠n:=by rintro rfl;exact h v List.mem_cons_self
   simp [this]
  ·rfl
theorem zfd {kindOf:Str->Option NameKind} {x:Str}:∀ {binds:List (Str×Value)} {m:Str->Option Value},(∀ v,(x,v) ∉ binds)->bindC kindOf binds m x=m x
|[],_,_=>rfl
|(n,v) :: r,m,h=>by
  unfold bindC
  rw [zfd λ w hw=>h w (List.mem_cons_of_mem _ hw)]
  split
  ·rfl
  ·have:x≠n:=by rintro rfl;exact h v List.mem_cons_self
   simp [this]
theorem zpd {kindOf:Str->Option NameKind} {x:Str} {v:Value}:∀ {P:List Str} {vs:List Value} {i:Nat} {m:Str->Option Value},P.Nodup->P[i]?=some x->vs[i]?=some v->kindOf x=some .local ->
  bindL kindOf (P.zip vs) m x=some v
|[],_,_,_,_,h,_,_=>by simp at h
|_ :: _,[],_,_,_,_,h,_=>by simp at h
|p :: P,w :: vs,0,m,nd,h1,h2,hk=>by
  simp at h1 h2;subst h1;subst h2
  show bindL kindOf ((p,w) :: P.zip vs) m p=_
  unfold bindL
  rw [zsc λ v hv=>(List.nodup_cons.mp nd).1 (List.of_mem_zip hv).1,if_pos hk]
  simp
|p :: P,w :: vs,i+1,m,nd,h1,h2,hk=>by
  show bindL kindOf ((p,w) :: P.zip vs) m x=_
  unfold bindL
  exact zpd (i:=i) (List.nodup_cons.mp nd).2 (by simpa using h1) (by simpa using h2) hk
theorem zrc {kindOf:Str->Option NameKind} {x:Str} {v:Value}:∀ {P:List Str} {vs:List Value} {i:Nat} {m:Str->Option Value},P.Nodup->P[i]?=some x->vs[i]?=some v->kindOf x≠some .local ->
  bindC kindOf (P.zip vs) m x=some v
|[],_,_,_,_,h,_,_=>by simp at h
|_ :: _,[],_,_,_,_,h,_=>by simp at h
|p :: P,w :: vs,0,m,nd,h1,h2,hk=>by
  simp at h1 h2;subst h1;subst h2
  show bindC kindOf ((p,w) :: P.zip vs) m p=_
  unfold bindC
  rw [zfd λ v hv=>(List.nodup_cons.mp nd).1 (List.of_mem_zip hv).1,if_neg hk]
  simp
|p :: P,w :: vs,i+1,m,nd,h1,h2,hk=>by
  show bindC kindOf ((p,w) :: P.zip vs) m x=_
  unfold bindC
  exact zrc (i:=i) (List.nodup_cons.mp nd).2 (by simpa using h1) (by simpa using h2) hk
def start (N:List Str) (vs:List V):St:=vs.map some++List.replicate (N.length - vs.length) none
def cxOf (CX:CXT) (P:Program) (w:World) (K:Fg) (mg:Str->Option Value) (base:Heap) (N:List Str) (qual:Str) (scope:Scope) (f:Addr) (cd:Value) (A:Around) (outer:List Env) (s:Shared) (H:Hp) (E:XK):Cx where
 prog:=P
 w:=w
 K:=K
 mg:=mg
 base:=base
 A:=A.deeper (envOfC qual scope s.heap.objs.size f cd)
 N:=N
 s₀:=s
 H₀:=H
 env:=envOfC qual scope s.heap.objs.size f cd
 outer:=outer
 stack:=envOfC qual scope s.heap.objs.size f cd :: outer
 ex:=[]
 calm:=true
 fn:=λ _=>true
 pn:=[]
 xe:=λ e s'=>wpAny (model P w) (A.deeper (envOfC qual scope s.heap.objs.size f cd)) (leaving (envOfC qual scope s.heap.objs.size f cd) e) (λ _ s''=>CX outer H s E e s'') (λ e' s''=>CX outer H s E e' s'') s'
theorem zhg {sc:Scope} {n:Nat} {x:Str} (h:sc.names.lookup x=some .cell):∃ c,(cellsFrom n sc.names []).lookup x=some c:=by
 have q:=PySem.W.cellsFrom_some sc.names n [] (.inl h)
 exact Option.isSome_iff_exists.mp q
theorem zoh {CX:CXT} {P:Program} {w:World} {K:Fg} {mg:Str->Option Value} {base:Heap} {N ps:List Str} {qual:Str} {scope:Scope} {f:Addr} {cd:Value} {A:Around} {outer:List Env} {s s1:Shared} {H:Hp} {E:XK} {us:List Value} {vs:List V}
  (S:FnScope N ps scope) (hd:A.handled=none) (e0:Env0 P w K mg base A outer s H) (hl:vs.length=ps.length) (r:Vals vs us)
  (x:InCallC s s.heap.objs.size (bindL (envOfC qual scope s.heap.objs.size f cd).kindOf (ps.zip us) λ _=>none) (cellsFrom (s.heap.objs.size+1) scope.names []) (bindC (envOfC qual scope s.heap.objs.size f cd).kindOf (ps.zip us) λ _=>none) s1) :
  Inv (cxOf CX P w K mg base N qual scope f cd A outer s H E) [] (start N vs) H s1:=by
 have hpl:ps.length<=N.length:=by have:=congrArg List.length S.pre;rw [List.length_take] at this;lia
 obtain ⟨h1,tk,rfl,hk⟩:=x.done
 have noA:∀ b:Addr,b ∉ (cxOf CX P w K mg base N qual scope f cd A outer s H E).ex:=λ b z=>absurd (show b∈([]:List Addr) from z) (by simp)
 refine ⟨⟨e0.mod,S.kind,rfl,rfl,Nat.le_refl _,λ y z c h1 h2=>?_,λ y hy=>?_,λ y c _ h=>?_,λ _=>hd,Around.frames_deeper e0.frames,.inr ⟨rfl,rfl⟩,λ b z=>absurd z (noA b),e0.bs,e0.bsz,λ b _ _=>noA b,λ b z=>absurd z (noA b),e0.funs,e0.frf⟩,
  rfl,e0.bare,Un.kept hk,⟨_,x.toInCall.ns,λ i y v h1 h2 h3=>?_⟩,λ y c h=>⟨_,x.cell y c h⟩,e0.hok.fresh (Nat.le_refl _),λ y c h=>?_,λ p hp=>absurd (show p∈([]:List (Addr×Obj)) from hp) (by simp),e0.hok.kept hk,?_⟩
 ·exact name_of_addr x.apart (PySem.mem_of_lookup h1) (PySem.mem_of_lookup h2)
 ·have hy:scope.names.lookup y=some .cell \/ scope.names.lookup y=some .free:=hy
  rcases hy with hy|hy
  ·exact zhg hy
  ·exact absurd rfl (S.nofree _ (PySem.mem_of_lookup hy))
 ·exact Nat.le_of_lt (x.above y c (PySem.mem_of_lookup h))
 ·have hi:i < vs.length:=by
   unfold start at h2
   by_cases hi:i < vs.length
   ·exact hi
   ·rw [List.getElem?_append_right (by simpa using hi)] at h2
    rw [List.getElem?_replicate] at h2
    split at h2 <;> cases h2
  have ha:vs[i]?=some v:=by
   unfold start at h2
   rw [List.getElem?_append_left (by simpa using hi),List.getElem?_map] at h2
   cases e:vs[i]? with
  |none=>rw [e] at h2;cases h2
  |some a=>rw [e] at h2;cases h2;rfl
  obtain ⟨u,hu,rv⟩:=r.get ha
  have hp:ps[i]?=some y:=by
   rw [<- S.pre,List.getElem?_take_of_lt (by lia)];exact h1
  have ndP:ps.Nodup:=by rw [<- S.pre];exact S.nd.sublist (List.take_sublist _ _)
  refine ⟨u,rv,?_⟩
  rcases S.par y (List.mem_of_getElem? hp) with k|k
  ·exact .inl ⟨k,zpd ndP hp hu k⟩
  ·obtain ⟨c,e⟩:=zhg (n:=s.heap.objs.size+1) k
   refine .inr ⟨.inl k,c,e,?_⟩
   have q:=x.cell y c e
   rw [zrc ndP hp hu (by show scope.names.lookup y≠_;rw [k];decide)] at q
   exact q
 ·exact e0.hok.fresh (Nat.le_of_lt (x.above y c (PySem.mem_of_lookup h)))
 ·unfold start
  show _=N.length
  rw [List.length_append,List.length_map,List.length_replicate]
  lia
theorem zh11 {CX:CXT} {P:Program} {w:World} {K:Fg} {mg:Str->Option Value} {base:Heap} {k:Nat} {f:Addr} {name qual:Str} {params:Arguments} {body:List Stmt} {scope:Scope} {dV kV doc pm cdv ct oc:Value} {an od:Option Addr}
  {osl:Array (Option Value)} {N ps:List Str} {sp:Sp} (lk:K.lookup f=some ⟨oc,od,.func (PySem.W.fnOf name qual params body scope dV kV doc pm an cdv ct),osl⟩) (hcd:PySem.W.codeIn K cdv qual=true) (S:FnScope N ps scope)
  (len:∀ vs H Q E,sp vs H Q E->vs.length=ps.length)
  (hbody:∀ (A:Around) (outer:List Env) (s:Shared) (H:Hp) (vs:List V) (Q:VK) (E:XK),Room k (A.deeper (envOfC qual scope s.heap.objs.size f cdv))->sp vs H Q E ->
   ∃ t,PSs (cxOf CX P w K mg base N qual scope f cdv A outer s H E) body t/\t { nx:=λ _ H'=>Q .non H',rt:=Q } (start N vs) H) :
  FnOk P w K mg base CX (k+1) f (PySem.W.fnOf name qual params body scope dV kV doc pm an cdv ct) ps sp:=by
 refine ⟨len,λ A outer s H args us vs Q E hr e0 hb r hsp=>?_⟩
 have hl:=len _ _ _ _ hsp
 have KX:K.In s.heap:=e0.mod.kin.keeps λ b o e=>(e0.bs b o e).1
 have lim:s.heap.NoLimit:=e0.mod.nolimit.keeps λ b o e=>(e0.bs b o e).1
 have hkind:∀ y∈ps.zip us,scope.names.lookup y.1=some .local \/ (scope.names.lookup y.1=some .cell/\((cellsFrom (s.heap.objs.size+1) scope.names []).lookup y.1).isSome=true):=λ ⟨n,v⟩ hy=>by
  rcases S.par n (List.of_mem_zip hy).1 with q|q
  ·exact .inl q
  ·exact .inr ⟨q,PySem.W.cellsFrom_some _ _ _ (.inl q)⟩
 refine codeAny_call_function hr.depth (KX _ _ lk) rfl S.co S.gen rfl (PySem.W.codeRec_of KX hcd) (hb _ _ _ _ ?_)
 refine wpAny_newFunctionEnv_cells S.kind hkind λ env he s1 x=>?_
 subst he
 refine ⟨lim.keeps x.toInCall.keep,codeAny_func ?_⟩
 obtain ⟨t,ht,hq⟩:=hbody A outer s H vs Q E (hr.deeper _) hsp
 have I:Inv (cxOf CX P w K mg base N qual scope f cdv A outer s H E) [] (start N vs) H s1:=zoh S hr.hd e0 hl r x
 refine wpAny_mono (ht [] s1 (start N vs) H _ I hq) (λ fl s' hs=>?_) λ e s' hs=>hs
 have fin:∀ {σ':St} {H':Hp} {v:V} {u:Value},Inv (cxOf CX P w K mg base N qual scope f cdv A outer s H E) [] σ' H' s'->RelV v u->Q v H'->CE outer P w H s Q u s' :=
  λ {σ' H' v u} J rv q=>⟨v,H',J.os,J.bare,J.base,J.hok,rv,q⟩
 cases fl with
|ret u =>
  obtain ⟨v,σ',H',J,rv,q⟩:=hs
  exact fin J rv q
|next =>
  obtain ⟨σ',H',J,q⟩:=hs
  exact fin (v:=V.non) (u:=Value.none) J rfl q
|brk =>
  obtain ⟨_,_,_,q⟩:=hs
  exact False.elim q
|cont =>
  obtain ⟨_,_,_,q⟩:=hs
  exact False.elim q
section
variable {X:Cx} {x:Str} {p pos:Pos} {e:Expr} {es:List Expr} {t:TA} {id T:String} {r:List V->Hp->VK->Prop}
def tCB (r:List V->Hp->VK->Prop) (t:TA):TE:=λ σ H Q=>t σ H λ vs H1=>r vs H1 Q
theorem zy0 (hc:CallR X (.builtin id) r) (hg:Gl X x) (hm:X.mg x=none) (hv:bootBuiltins x=some (.builtin id)) (ha:PA X (e :: es) t) (hn:x ≠ "__name__":=by decide) (hdb:(x == ("__debug__":Str))=false:=by decide)
  (he:starEach (e :: es) X.env=(false,eval e X.env) :: starEach es X.env:=by rfl) (hpl:(backTo pos (starEach es X.env)).any (·.1)=false:=by rfl):PE X (.Call (.Name x p) (e :: es) [] pos) (tCB r t):=by
 intro pins s σ H Q I h
 refine wpAny_Call_Name_kw (zce I hg hm hv ?_ hn hdb)
 exact PyProof.Rows.callWith_builtin1 (thn (ha pos pins s σ H _ I h) λ us s1 ⟨vs,H1,I1,r1,q1⟩=>hc pins s1 σ H1 vs us Q I1 r1 q1) he hpl
theorem zf4 (hc:CallR X (.type T) r) (hg:Gl X x) (hm:X.mg x=none) (hv:bootBuiltins x=some (.type T)) (ha:PA X (e :: es) t) (hn:x ≠ "__name__":=by decide) (hdb:(x == ("__debug__":Str))=false:=by decide)
  (he:starEach (e :: es) X.env=(false,eval e X.env) :: starEach es X.env:=by rfl) (hpl:(backTo pos (starEach es X.env)).any (·.1)=false:=by rfl):PE X (.Call (.Name x p) (e :: es) [] pos) (tCB r t):=by
 intro pins s σ H Q I h
 refine wpAny_Call_Name_kw (zce I hg hm hv ?_ hn hdb)
 exact PyProof.Rows.callWith_type1 (thn (ha pos pins s σ H _ I h) λ us s1 ⟨vs,H1,I1,r1,q1⟩=>hc pins s1 σ H1 vs us Q I1 r1 q1) he hpl
end
end L2
namespace HT
open PySem PyProof.Rows
section
open PySem.SeqAt
open PySem.AutoSeq1 (wpAny_loadPart')
open PySem.MeetsSeq PySem.MeetsSeq2 PySem.MeetsSeq3
end
section
variable {prog:Program} {w:World} {A:Around} {E:Value->Shared->Prop} {s:Shared}
theorem cat_tup {t b:Addr} {vs ws:List Value} {Q:Value->Shared->Prop} (ht:IsTup s.heap t vs.toArray) (hb:IsTup s.heap b ws.toArray) (hv:vs≠[])
  (h1:ws=[]->Q (.ref t) s) (h2:ws≠[]->Q (.ref s.heap.objs.size) { s with heap:=s.heap.push { cls:=.type "tuple",data:=.seq (vs++ws).toArray } })
  (hsz:vs.length+ws.length<=sizeLine):wpAny (model prog w) A (binaryOp .Add (.ref t) (.ref b)) Q E s:=by
 obtain ⟨⟨cls,dd,data,sl⟩,ho,hc,n,hd⟩:=id ht
 obtain ⟨⟨cls2,dd2,data2,sl2⟩,ho2,hc2,n2,hd2⟩:=id hb
 simp only at hc hd hc2 hd2
 subst hc hd hc2 hd2
 have e:vs.toArray++ws.toArray=(vs++ws).toArray:=by simp
 by_cases hw:ws=[]
 ·exact concat_meets ⟨_,ho,rfl⟩ ⟨_,ho2,rfl⟩ noFill_tuple_add seq_tuple_add PySem.F.slot_tuple_add PySem.F.entry_tuple_add (PySem.F.args_tuple_add_2 _ _)
   (tuple_addW1 t b vs.toArray ws.toArray n n2 dd dd2 sl sl2 (by simpa using hv) (by simp [hw])) ⟨ho,ho2,h1 hw⟩
 ·refine concat_meets ⟨_,ho,rfl⟩ ⟨_,ho2,rfl⟩ noFill_tuple_add seq_tuple_add PySem.F.slot_tuple_add PySem.F.entry_tuple_add (PySem.F.args_tuple_add_2 _ _)
   (tuple_addW2 t b vs.toArray ws.toArray n n2 dd dd2 sl sl2 (by simpa using hv) (by simpa using hw) (by rw [List.size_toArray,List.size_toArray];exact hsz)) ⟨ho,ho2,?_⟩
  rw [e]
  exact h2 hw
def sIx (n d:Nat):Option Int->Nat
|none=>d
|some v=>if v < 0 then (v+(n:Int)).toNat else min v.toNat n
theorem sIx_nat (n d k:Nat):sIx n d (some (k:Int))=min k n:=by
 show (if (k:Int) < 0 then ((k:Int)+(n:Int)).toNat else min (k:Int).toNat n)=min k n
 rw [if_neg (by lia),Int.toNat_natCast]
theorem zgw (n d:Nat) (hd:d<=n) (o:Option Int):sIx n d o<=n:=by
 cases o with
|none=>exact hd
|some v =>
  show (if v < 0 then (v+(n:Int)).toNat else min v.toNat n)<=n
  by_cases hv:v < 0
  ·rw [if_pos hv];lia
  ·rw [if_neg hv];exact Nat.min_le_right _ _
theorem zzj (v:Int) (n d:Nat):(if v < 0 then max (v+(n:Int)) 0 else min v (n:Int))=((sIx n d (some v):Nat):Int):=by
 show (if v < 0 then max (v+(n:Int)) 0 else min v (n:Int))=(((if v < 0 then (v+(n:Int)).toNat else min v.toNat n):Nat):Int)
 by_cases hv:v < 0
 ·simp only [if_pos hv];lia
 ·simp only [if_neg hv];lia
theorem zpf (lo hi:Option Int) (n:Nat):Builtin.Slice.sliceAdjust lo hi 1 (n:Int)=(((sIx n 0 lo:Nat):Int),((sIx n n hi:Nat):Int)):=by
 have h1:¬ ((1:Int) < 0):=by lia
 unfold Builtin.Slice.sliceAdjust
 simp only [h1,if_false]
 refine Prod.ext ?_ ?_
 ·cases lo with
 |none=>rfl
 |some v=>exact zzj v n 0
 ·cases hi with
 |none=>rfl
 |some v=>exact zzj v n n
theorem zte (i j:Nat):Builtin.Slice.slicePlaces (i:Int) (j:Int) 1=j - i:=by
 unfold Builtin.Slice.slicePlaces
 have h1:(1:Int) > 0:=by lia
 simp only [h1,if_true,Int.ediv_one]
 split <;> lia
theorem zha {v:Value} {o:Option Int} {Q:Option Int->Shared->Prop} (p:IsPart v o) (h:Q o s):wpAny (model prog w) A (Builtin.Slice.slicePartIndex v) Q E s:=by
 cases p with
|none=>exact slicePart_none h
|int i t=>exact slicePart_int h
theorem zr6 {sl:Addr} {vl vu:Value} {lo hi:Option Int} {n:Nat} {Q:Int×Int×Nat->Shared->Prop} (hs:s.heap.IsSliceOf sl vl vu .none) (pl:IsPart vl lo) (pu:IsPart vu hi)
  (h:Q (((sIx n 0 lo:Nat):Int),1,sIx n n hi - sIx n 0 lo) s):wpAny (model prog w) A (Builtin.Slice.sliceApplied (.ref sl) (pure (n:Int))) Q E s:=by
 obtain ⟨os,hos,hcs,hds⟩:=id hs
 unfold Builtin.Slice.sliceApplied Builtin.Slice.sliceFields
 refine wpAny_bind (wpAny_bind (wpAny_field hos hds (x:=vl) rfl (wpAny_bind (wpAny_field hos hds (x:=vu) rfl (wpAny_bind (wpAny_field hos hds (x:=.none) rfl (wpAny_pure ?_)))))))
 refine wpAny_bind (slicePart_none ?_)
 show wpAny _ _ (if ((1:Int) == 0)=true then _ else _) _ _ s
 rw [if_neg (by decide)]
 refine wpAny_bind (zha pl (wpAny_bind (zha pu (wpAny_bind (wpAny_pure ?_)))))
 show wpAny _ _ (match Builtin.Slice.sliceAdjust lo hi 1 (n:Int) with|(lo,hi)=>pure (lo,(1:Int),Builtin.Slice.slicePlaces lo hi 1)) _ _ s
 rw [zpf lo hi n]
 show wpAny _ _ (pure (((sIx n 0 lo:Nat):Int),(1:Int),Builtin.Slice.slicePlaces ((sIx n 0 lo:Nat):Int) ((sIx n n hi:Nat):Int) 1)) _ _ s
 rw [zte]
 exact wpAny_pure h
theorem zml (xs:Array Value) (i k:Nat):((List.range k).filterMap λ (m:Nat)=>xs[((i:Int)+(m:Int) * 1).toNat]?).toArray=((xs.toList.drop i).take k).toArray:=by
 have e:(λ (m:Nat)=>xs[((i:Int)+(m:Int) * 1).toNat]?)=λ m=>xs[i+m]?:=by
  funext m
  have:((i:Int)+(m:Int) * 1).toNat=i+m:=by lia
  rw [this]
 rw [e]
 have:=pick_run xs i k
 rw [List.filterMap_map] at this
 have e2:((λ x=>xs[x]?) ∘ λ x=>i+x)=λ m=>xs[i+m]?:=rfl
 rw [e2] at this
 rw [this]
theorem getItem_tuple_cut {t sl:Addr} {items:Array Value} {vl vu:Value} {lo hi:Option Int} {Q:Value->Shared->Prop} (ht:IsTup s.heap t items) (hs:s.heap.IsSliceOf sl vl vu .none) (pl:IsPart vl lo) (pu:IsPart vu hi)
  (hw:¬ (sIx items.size 0 lo=0/\sIx items.size items.size hi=items.size))
  (h:Q (.ref s.heap.objs.size) { s with heap:=s.heap.push { cls:=.type "tuple",data:=.seq ((items.toList.drop (sIx items.size 0 lo)).take (sIx items.size items.size hi - sIx items.size 0 lo)).toArray } })
  (hsz:items.size<=sizeLine):wpAny (model prog w) A (getItem (.ref t) (.ref sl)) Q E s:=by
 have htake:sizeOk (.seq ((items.toList.drop (sIx items.size 0 lo)).take (sIx items.size items.size hi - sIx items.size 0 lo)).toArray):=by
  show ((items.toList.drop (sIx items.size 0 lo)).take (sIx items.size items.size hi - sIx items.size 0 lo)).toArray.size<=sizeLine
  rw [List.size_toArray,List.length_take,List.length_drop,Array.length_toList]
  lia
 have hj:sIx items.size items.size hi<=items.size:=zgw _ _ (Nat.le_refl _) hi
 obtain ⟨os,hos,hcs,hds⟩:=id hs
 have hTs:s.TypeIs (.ref sl) "slice":=⟨os,hos,hcs⟩
 unfold getItem
 try with_reducible refine wpAny_holding ?_
 first|refine wpAny_bind (wpAny_pure ?_)|skip
 refine wpAny_bind (wpAny_sequenceKey ht.typeIs (by decide) ?_)
 refine wpAny_bind (wpAny_callSpecial?_slot (name:=Str.ofString "__getitem__") ht.typeIs PyProof.Rows.slot_tuple_getitem
  (wpAny_call_entry PyProof.Rows.slot_tuple_getitem ht.typeIs entry_tuple_getitem ?_ (args_tuple_getitem _ _)))
 show wpAny _ _ (Builtin.Tuple.tupleItemsOf (.ref t) >>= _) _ _ s
 refine wpAny_bind (tupleItemsOf_ ht ?_)
 refine wpAny_bind (wpAny_typeOf hTs ?_)
 rw [if_pos (by decide)]
 refine wpAny_bind (zr6 hs pl pu ?_)
 have hno:¬ ((((sIx items.size 0 lo:Nat):Int) == 0 && (1:Int) == 1 && (sIx items.size items.size hi - sIx items.size 0 lo) == items.size)=true):=by
  intro q
  rw [Bool.and_eq_true,Bool.and_eq_true] at q
  have q1:((sIx items.size 0 lo:Nat):Int)=0:=eq_of_beq q.1.1
  have q2:sIx items.size items.size hi - sIx items.size 0 lo=items.size:=eq_of_beq q.2
  exact hw ⟨by lia,by lia⟩
 show wpAny _ _ (if (((sIx items.size 0 lo:Nat):Int) == 0 && (1:Int) == 1 && (sIx items.size items.size hi - sIx items.size 0 lo) == items.size)=true then _ else _) _ _ s
 rw [if_neg hno,zml]
 first
 |exact wpAny_bind (m:=Builtin.Tuple.tupleExact _) (wpAny_newObj_type (wpAny_pure ⟨_,rfl,wpAny_pure h⟩) htake)
 |exact wpAny_bind (m:=Builtin.Tuple.tupleExact _) (wpAny_newObj_type (wpAny_bind (wpAny_pure (wpAny_pure ⟨_,rfl,wpAny_pure h⟩))) htake)
 |exact wpAny_bind (wpAny_bind (m:=Builtin.Tuple.tupleExact _) (wpAny_newObj_type (wpAny_pure (wpAny_pure ⟨_,rfl,wpAny_pure h⟩)) htake))
 |exact wpAny_bind (wpAny_bind (m:=Builtin.Tuple.tupleExact _) (wpAny_newObj_type (wpAny_pure ⟨_,rfl,wpAny_pure h⟩) htake))
end
end HT
namespace L2
open PySem PySem.Spec PyProof.Rows
abbrev TO:=St->Hp->(Option Int->Hp->Prop)->Prop
def PO (X:Cx) (e:Option Expr) (t:TO):Prop :=
 ∀ (pins:List (Addr×Obj)) (s:Shared) (σ:St) (H:Hp) (Q:Option Int->Hp->Prop),Inv X pins σ H s->t σ H Q ->
  wpAny (model X.prog X.w) X.A (evalPart e X.env) (λ u s'=>∃ o H',Inv X pins σ H' s'/\IsPart u o/\Q o H') X.xe s
def zoj:TO:=λ _ H Q=>Q none H
def zn21 (t:TE):TO:=λ σ H Q=>t σ H λ x H1=>∃ i,x=.int i/\Q (some i) H1
theorem zi4 {ns:List Int}:∀ {us:List Value},Vals (ns.map V.int) us->IntsAre us ns:=by
 induction ns with
|nil=>intro us r;rw [List.map_nil] at r;cases r;exact .nil
|cons n ns ih =>
  intro us r
  rw [List.map_cons] at r
  cases r with
 |cons r1 r2 =>
   obtain ⟨t,e⟩:=r1
   subst e
   exact .cons n t (ih r2)
section
variable {X:Cx} {e:Expr} {te:TE} {lo hi:Option Expr} {tl th:TO} {pos p2:Pos}
theorem znr:PO X none zoj:=by
 intro pins s σ H Q I h
 rw [evalPart_none]
 exact wpAny_pure ⟨none,H,I,.none,h⟩
theorem zvp (h:PE X e te):PO X (some e) (zn21 te):=by
 intro pins s σ H Q I hw
 rw [evalPart_some]
 refine thn (h pins s σ H _ I hw) λ u s1 ⟨x,H1,I1,r1,q1⟩=>?_
 obtain ⟨i,rfl,q⟩:=q1
 obtain ⟨t,rfl⟩:=r1
 exact ⟨some i,H1,I1,.int i t,q⟩
def SlR (X:Cx) (r:V->Option Int->Option Int->Hp->VK->Prop):Prop :=
 ∀ (pins:List (Addr×Obj)) (s:Shared) (σ:St) (H:Hp) (x:V) (v vl vu:Value) (lo hi:Option Int) (sl:Addr) (Q:VK),Inv X pins σ H s->RelV x v->s.heap.IsSliceOf sl vl vu .none->IsPart vl lo->IsPart vu hi->r x lo hi H Q ->
  ∃ T id,typeLookup (.type T) "__getitem__"=pure (some (.builtin id))/\s.TypeIs v T/\wpAny (model X.prog X.w) X.A (getItem v (.ref sl)) (EP X pins σ Q) X.xe s
theorem SlR.or {r r':V->Option Int->Option Int->Hp->VK->Prop} (h:SlR X r) (h':SlR X r'):SlR X (λ x lo hi H Q=>r x lo hi H Q \/ r' x lo hi H Q):=by
 intro pins s σ H x v vl vu lo hi sl Q I rx hs pl pu q
 rcases q with q|q
 ·exact h pins s σ H x v vl vu lo hi sl Q I rx hs pl pu q
 ·exact h' pins s σ H x v vl vu lo hi sl Q I rx hs pl pu q
def tSl (r:V->Option Int->Option Int->Hp->VK->Prop) (te:TE) (tl th:TO):TE:=λ σ H Q=>te σ H λ x H1=>tl σ H1 λ l H2=>th σ H2 λ u H3=>r x l u H3 Q
theorem zzn {r:V->Option Int->Option Int->Hp->VK->Prop} (hr:SlR X r) (he:PE X e te) (hl:PO X lo tl) (hu:PO X hi th):PE X (.Subscript e (.Slice lo hi none p2) pos) (tSl r te tl th):=by
 intro pins s σ H Q I h
 refine Subscript_ (thn (he pins s σ H _ I h) λ v s1 ⟨x,H1,I1,r1,q1⟩=>?_)
 refine wpAny_Slice (thn (hl pins s1 σ H1 _ I1 q1) λ vl s2 ⟨l,H2,I2,pl,q2⟩=>thn (hu pins s2 σ H2 _ I2 q2) λ vu s3 ⟨u,H3,I3,pu,q3⟩=>?_)
 rw [evalPart_none]
 refine wpAny_pure ?_
 have I4:Inv X pins σ H3 { s3 with heap:=s3.heap.push { cls:=.type "slice",data:=.fields #[vl,vu,.none] } }:=I3.kept (t':=s3.toks) λ b ob q=>Heap.get?_push_of_some _ q
 obtain ⟨T,id,hT,ht,hg⟩:=hr pins { s3 with heap:=s3.heap.push { cls:=.type "slice",data:=.fields #[vl,vu,.none] } } σ H3 x v vl vu l u s3.heap.objs.size Q I4 r1 (Heap.IsSliceOf.new ..) pl pu q3
 show wpAny (model X.prog X.w) X.A (subscriptTail e (.Slice lo hi none p2) v (.ref s3.heap.objs.size)) (EP X pins σ Q) X.xe { s3 with heap:=s3.heap.push { cls:=.type "slice",data:=.fields #[vl,vu,.none] } }
 exact tail_any (ops:=[.ref s3.heap.objs.size,v]) ht hT hg (by with_unfolding_all rfl)
def cutV (xs:List V) (lo hi:Option Int):List V:=(xs.drop (HT.sIx xs.length 0 lo)).take (HT.sIx xs.length xs.length hi - HT.sIx xs.length 0 lo)
theorem zh8 (xs:List V) (lo hi:Option Int):(cutV xs lo hi).length<=xs.length:=by
 unfold cutV
 rw [List.length_take,List.length_drop]
 lia
def rSlT (K:Fg):V->Option Int->Option Int->Hp->VK->Prop:=λ x lo hi H Q=>∃ a xs,x=.ref a/\SqT K H a xs /\
 ¬ (HT.sIx xs.length 0 lo=0/\HT.sIx xs.length xs.length hi=xs.length)/\∀ p,H p=none->Q (.ref p) (upd H p (.tup (cutV xs lo hi)))
theorem zbz:SlR X (rSlT X.K):=by
 intro pins s σ H x v vl vu lo hi sl Q I rx hs pl pu h
 obtain ⟨a,xs,rfl,hx,hw,q⟩:=h
 cases rx
 obtain ⟨its,r,ht,hz⟩:=I.tuple hx
 have hlen:its.toArray.size=xs.length:=by rw [List.size_toArray];exact r.length.symm
 refine ⟨"tuple",_,PyProof.Rows.slot_tuple_getitem.lookup,ht.typeIs,?_⟩
 refine HT.getItem_tuple_cut ht hs pl pu (by rw [hlen];exact hw) ?_ (by rw [hlen];exact hz)
 rw [hlen]
 refine ⟨.ref s.heap.objs.size,_,I.laid (t':=s.toks) (o:=.tup (cutV xs lo hi)) (λ b ob q=>Heap.get?_push_of_some _ q) (Nat.le_refl _) ?_,rfl,q _ (I.hok.fresh (Nat.le_refl _))⟩
 exact ⟨Nat.le_trans (zh8 xs lo hi) hz,_,(r.drop (HT.sIx xs.length 0 lo)).take (HT.sIx xs.length xs.length hi - HT.sIx xs.length 0 lo),IsTup.new _ _⟩
def zn11 (K:Fg):R2:=λ x y H Q=>∃ a b xs ys,x=.ref a/\y=.ref b/\SqT K H a xs/\SqT K H b ys/\xs≠[]/\xs.length+ys.length<=sizeLine /\
 (ys=[]->Q (.ref a) H)/\(ys≠[]->∀ p,H p=none->Q (.ref p) (upd H p (.tup (xs++ys))))
theorem Vals.nil_iff {xs:List V} {us:List Value} (r:Vals xs us):us=[] ↔ xs=[]:=by
 cases r with
|nil=>simp
|cons _ _=>simp
theorem zmt:OpR X (binaryOp .Add) (zn11 X.K):=by
 intro pins s σ H x y v u Q I rx ry h
 obtain ⟨a,b,xs,ys,rfl,rfl,ha,hb,hx,hz,q1,q2⟩:=h
 cases rx
 cases ry
 obtain ⟨its,r1,p1,_⟩:=I.tuple ha
 obtain ⟨its2,r2,p2,_⟩:=I.tuple hb
 refine HT.cat_tup p1 p2 (λ z=>hx (r1.nil_iff.mp z)) (λ z=>⟨.ref a,H,I,rfl,q1 (r2.nil_iff.mp z)⟩) (λ z=>?_) (by rw [<- r1.length,<- r2.length];exact hz)
 refine ⟨.ref s.heap.objs.size,_,I.laid (t':=s.toks) (o:=.tup (xs++ys)) (λ b ob q=>Heap.get?_push_of_some _ q) (Nat.le_refl _) ?_,rfl,q2 (λ w=>z (r2.nil_iff.mpr w)) _ (I.hok.fresh (Nat.le_refl _))⟩
 exact ⟨by rw [List.length_append];exact hz,_,r1.append r2,IsTup.new _ _⟩
end
def ixN (n:Nat) (i:Int):Option Nat:=if 0<=i then (if i < n then some i.toNat else none) else if -(n:Int)<=i then some (i+n).toNat else none
def atI {α:Type} (xs:List α) (i:Int):Option α:=(ixN xs.length i).bind λ j=>xs[j]?
theorem znj {n:Nat} {i:Int} {j:Nat} (h:ixN n i=some j):seqIndex? i n=some j/\j < n/\-(n:Int)<=i/\i < n:=by
 unfold ixN at h
 by_cases h0:0<=i
 ·rw [if_pos h0] at h
  by_cases h1:i < n
  ·rw [if_pos h1] at h
   have e:i.toNat=j:=Option.some.inj h
   exact ⟨by rw [seqIndex_of h0 h1,e],by lia,by lia,h1⟩
  ·rw [if_neg h1] at h;cases h
 ·rw [if_neg h0] at h
  by_cases h1:-(n:Int)<=i
  ·rw [if_pos h1] at h
   have e:(i+n).toNat=j:=Option.some.inj h
   exact ⟨by rw [seqIndex_neg (by lia) h1,e],by lia,h1,by lia⟩
  ·rw [if_neg h1] at h;cases h
theorem zbg {α:Type} {xs:List α} {i:Int} {v:α} (h:atI xs i=some v):∃ j,seqIndex? i xs.length=some j/\xs[j]?=some v/\j < xs.length/\-(xs.length:Int)<=i/\i < xs.length:=by
 unfold atI at h
 cases e:ixN xs.length i with
|none=>rw [e] at h;cases h
|some j =>
  rw [e] at h
  obtain ⟨h1,h2,h3,h4⟩:=znj e
  exact ⟨j,h1,h,h2,h3,h4⟩
theorem zrk {α:Type} {xs:List α} {j:Nat} {v:α} (h:xs[j]?=some v):atI xs (j:Int)=some v:=by
 have hj:j < xs.length:=(List.getElem?_eq_some_iff.mp h).1
 have e:ixN xs.length (j:Int)=some j:=by
  unfold ixN
  rw [if_pos (by lia),if_pos (by lia)];simp
 unfold atI;rw [e];exact h
def zyj (b:Expr):Prop:=∀ o i,subscripted b false o i=operate [o,i] (getItem o i)
def IxR (X:Cx) (r:R2):Prop :=
 ∀ (value slice:Expr) (pins:List (Addr×Obj)) (s:Shared) (σ:St) (H:Hp) (x y:V) (v u:Value) (Q:VK),Inv X pins σ H s->RelV x v->RelV y u->r x y H Q ->
  subscripted slice false v u=operate [v,u] (getItem v u)->wpAny (model X.prog X.w) X.A (subscriptTail value slice v u) (EP X pins σ Q) X.xe s
def MtR (X:Cx) (id:String) (r:V->List V->Hp->VK->Prop):Prop :=
 ∀ (pins:List (Addr×Obj)) (s:Shared) (σ:St) (H:Hp) (x:V) (xs:List V) (v:Value) (us:List Value) (Q:VK),Inv X pins σ H s->RelV x v->Vals xs us->r x xs H Q ->
  wpAny (model X.prog X.w) X.A (call (.builtin id) (v :: us)) (EP X pins σ Q) X.xe s
section
variable {X:Cx} {a b:Expr} {ta tb:TE} {pos:Pos}
theorem IxR.or {r r':R2} (h:IxR X r) (h':IxR X r'):IxR X (λ x y H Q=>r x y H Q \/ r' x y H Q):=by
 intro value slice pins s σ H x y v u Q I rx ry q hs
 rcases q with q|q
 ·exact h value slice pins s σ H x y v u Q I rx ry q hs
 ·exact h' value slice pins s σ H x y v u Q I rx ry q hs
theorem zj31 {r:R2} (hr:IxR X r) (ha:PE X a ta) (hb:PE X b tb) (hs:zyj b):PE X (.Subscript a b pos) (tOp r ta tb):=by
 intro pins s σ H Q I h
 exact Subscript_ (binT ha hb I h λ v u s2 x y H2 I2 rx ry q=>hr a b pins s2 σ H2 x y v u Q I2 rx ry q (hs _ _))
def rIxL (K:Fg):R2:=λ x y H Q=>∃ p xs i v,x=.ref p/\y=.int i/\SqL K H p xs/\atI xs i=some v/\Q v H
def rIxT (K:Fg):R2:=λ x y H Q=>∃ p xs i v,x=.ref p/\y=.int i/\SqT K H p xs/\atI xs i=some v/\Q v H
def rIxS:R2:=λ x y H Q=>∃ z i c,x=.str z/\y=.int i/\z.length<=sizeLine/\atI z.cps.toList i=some c/\Q (.str ⟨#[c]⟩) H
theorem zht:IxR X (rIxL X.K):=by
 intro value slice pins s σ H x y v u Q I rx ry h hs
 obtain ⟨p,xs,i,z,rfl,rfl,hq,he,q⟩:=h
 cases rx
 obtain ⟨t,rfl⟩:=ry
 obtain ⟨its,r,pl,hz⟩:=I.list hq
 obtain ⟨j,h1,h2,h3,h4,h5⟩:=zbg he
 obtain ⟨w,ew,rw'⟩:=r.get h2
 have hl:=r.length
 have hn:=zpb
 have fin:EP X pins σ Q w s:=⟨z,H,I,rw',q⟩
 by_cases h0:0<=i
 ·have hj:i.toNat=j:=by
   rw [seqIndex_of h0 h5] at h1
   exact Option.some.inj h1
  exact item_listR pl.isList h0 (by lia) (by rw [hj];simpa using ew) fin hs
 ·have hj:(i+(its.toArray.size:Int)).toNat=j:=by
   rw [seqIndex_neg (by lia) h4] at h1
   rw [List.size_toArray,<- hl]
   exact Option.some.inj h1
  exact subscriptTail_builtinR (x:=w) pl.isList.typeIs slot_list_getitem.lookup
   (wpAny_getItem_list_neg (Q:=λ r s'=>r=w/\EP X pins σ Q r s') pl.isList (by lia) (by rw [List.size_toArray] <;> lia) (by lia) (by rw [hj];simpa using ew) ⟨rfl,fin⟩) hs
theorem zqy:IxR X (rIxT X.K):=by
 intro value slice pins s σ H x y v u Q I rx ry h hs
 obtain ⟨p,xs,i,z,rfl,rfl,hq,he,q⟩:=h
 cases rx
 obtain ⟨t,rfl⟩:=ry
 obtain ⟨its,r,pl,hz⟩:=I.tuple hq
 obtain ⟨j,h1,h2,h3,h4,h5⟩:=zbg he
 obtain ⟨w,ew,rw'⟩:=r.get h2
 have hl:=r.length
 have hn:=zpb
 have fin:EP X pins σ Q w s:=⟨z,H,I,rw',q⟩
 exact subscriptTail_builtinR (x:=w) pl.typeIs slot_tuple_getitem.lookup
  (getItem_tuple (j:=j) (Q:=λ r s'=>r=w/\EP X pins σ Q r s') pl (by lia) (by lia) (by rw [List.size_toArray,<- hl];exact h1) (by simpa using ew) ⟨rfl,fin⟩) hs
theorem ztv:IxR X rIxS:=by
 intro value slice pins s σ H x y v u Q I rx ry h hs
 obtain ⟨z,i,c,rfl,rfl,hz,he,q⟩:=h
 obtain ⟨t,rfl⟩:=rx
 obtain ⟨t',rfl⟩:=ry
 obtain ⟨j,h1,h2,h3,h4,h5⟩:=zbg he
 have hl:z.cps.toList.length=z.length:=by simp [Str.length]
 rw [hl] at h1 h4 h5
 have hn:=zpb
 exact tail_any (typeIs_str s z t) slot_str_getitem.lookup (getItem_str (c:=c) (by
  have e1:decide (i < -(2 ^ 63:Int))=false:=decide_eq_false (by lia)
  have e2:decide (i ≥ 2 ^ 63)=false:=decide_eq_false (by lia)
  rw [e1,e2,Bool.or_false]) (by rw [h1];simpa using h2) ⟨.str ⟨#[c]⟩,H,I.tok _,⟨_,rfl⟩,q⟩) hs
def rIx (K:Fg):R2:=λ x y H Q=>rIxL K x y H Q \/ rIxT K x y H Q \/ rIxS x y H Q
theorem zlx:IxR X (rIx X.K):=zht.or (zqy.or ztv)
theorem zyg (its:List Value) (n j:Nat) (u:Value):Obj.mapSeq (·.setIfInBounds j u) { cls:=.type "list",data:=.seq its.toArray n }={ cls:=.type "list",data:=.seq (its.set j u).toArray n }:=by
 simp [Obj.mapSeq]
theorem Inv.lst {pins:List (Addr×Obj)} {σ:St} {H:Hp} {s:Shared} {p:Addr} {xs:List V} (I:Inv X pins σ H s) (h:H p=some (.lst xs)) :
  ∃ (its:List Value) (n:Nat),Vals xs its/\s.heap.get? p=some { cls:=.type "list",data:=.seq its.toArray n }/\xs.length<=sizeLine:=by
 obtain ⟨z,its,n,r,e⟩:=I.hok p _ h
 exact ⟨its,n,r,e,z⟩
theorem Inv.lstUpd {pins:List (Addr×Obj)} {σ:St} {H:Hp} {s:Shared} {p:Addr} {xs ys:List V} {its its':List Value} {n n':Nat} {f:Obj->Obj} (I:Inv X pins σ H s) (h:H p=some (.lst xs))
  (ho:s.heap.get? p=some { cls:=.type "list",data:=.seq its.toArray n }) (hf:f { cls:=.type "list",data:=.seq its.toArray n }={ cls:=.type "list",data:=.seq its'.toArray n' }) (r:Vals ys its') (hz:ys.length<=sizeLine) (t:Nat) :
  Inv X pins σ (upd H p (.lst ys)) { s with heap:=s.heap.update p f,toks:=t }:=by
 have e:(s.heap.update p f).get? p=some { cls:=.type "list",data:=.seq its'.toArray n' }:=by
  rw [Heap.get?_update_self f ho (by rw [hf] <;> rfl),hf]
 refine I.write (x:=p) (e:=p) (by rw [h];trivial) (.inl rfl) (λ b u hb q=>(Heap.get?_update_other _ _ (Ne.symm hb)).trans q) ⟨_,e⟩ ?_
 exact ⟨hz,its',n',r,e⟩
def zsz:V->V->V->Hp->(Hp->Prop)->Prop:=λ o i v H Q=>∃ p xs k j,o=.ref p/\i=.int k/\H p=some (.lst xs)/\ixN xs.length k=some j/\Q (upd H p (.lst (xs.set j v)))
theorem ztn:PSet X zsz:=by
 intro pins s σ H o i v ov iv u Q I ro ri rv h
 obtain ⟨p,xs,k,j,rfl,rfl,hp,hj,q⟩:=h
 cases ro
 obtain ⟨t,rfl⟩:=ri
 obtain ⟨its,n,r,ho,hz⟩:=I.lst hp
 obtain ⟨h1,h2,h3,h4⟩:=znj hj
 have hl:=r.length
 have hn:=zpb
 have I':Inv X pins σ (upd H p (.lst (xs.set j v))) { s with heap:=s.heap.update p (Obj.mapSeq (·.setIfInBounds j u)) } :=
  I.lstUpd hp ho (zyg its n j u) (r.set rv j) (by rw [List.length_set];exact hz) s.toks
 by_cases h0:0<=k
 ·have hk:k.toNat=j:=by
   rw [seqIndex_of h0 h4] at h1
   exact Option.some.inj h1
  exact PySem.W.ki_setAt ho h0 (by lia) (by rw [List.size_toArray,<- hl];exact h4) (by rw [hk];exact ⟨_,I',q⟩)
 ·have hk:(k+(its.toArray.size:Int)).toNat=j:=by
   rw [seqIndex_neg (by lia) h3] at h1
   rw [List.size_toArray,<- hl]
   exact Option.some.inj h1
  exact PySem.W.ki_setBack ho (by lia) (by rw [List.size_toArray,<- hl];exact h3) (by lia) (by rw [hk];exact ⟨_,I',q⟩)
theorem zzb (lo hi:Option Int) (n:Nat):(sliceBounds lo hi none n).1=((HT.sIx n 0 lo:Nat):Int)/\(sliceBounds lo hi none n).2.1=((HT.sIx n n hi:Nat):Int)/\(sliceBounds lo hi none n).2.2=1:=by
 refine ⟨?_,?_,rfl⟩
 ·cases lo with
 |none=>simp [sliceBounds,HT.sIx]
 |some i =>
   simp only [sliceBounds,HT.sIx,Option.getD_none,show (1:Int) > 0 by decide,if_true]
   by_cases h:i < 0
   ·simp only [h,if_true] <;> lia
   ·simp only [h,if_false] <;> lia
 ·cases hi with
 |none=>simp [sliceBounds,HT.sIx]
 |some i =>
   simp only [sliceBounds,HT.sIx,Option.getD_none,show (1:Int) > 0 by decide,if_true]
   by_cases h:i < 0
   ·simp only [h,if_true] <;> lia
   ·simp only [h,if_false] <;> lia
theorem zo9 (its:List Value) (lo hi:Option Int):slicePick its.toArray lo hi none=((its.drop (HT.sIx its.length 0 lo)).take (HT.sIx its.length its.length hi - HT.sIx its.length 0 lo)).toArray:=by
 obtain ⟨h1,h2,h3⟩:=zzb lo hi its.toArray.size
 unfold slicePick
 rw [h1,h2,h3]
 simp only [sliceRange_one,pick_run,List.size_toArray] <;> rfl
def rSlL (K:Fg):V->Option Int->Option Int->Hp->VK->Prop:=λ x lo hi H Q=>∃ a xs,x=.ref a/\SqL K H a xs/\∀ p,H p=none->Q (.ref p) (upd H p (.lst (cutV xs lo hi)))
theorem zgp:SlR X (rSlL X.K):=by
 intro pins s σ H x v vl vu lo hi sl Q I rx hs pl pu h
 obtain ⟨a,xs,rfl,hx,q⟩:=h
 cases rx
 obtain ⟨its,r,ht,hz⟩:=I.list hx
 have hlen:=r.length
 refine ⟨"list",_,slot_list_getitem.lookup,ht.isList.typeIs,?_⟩
 refine wpAny_getItem_list_slice ht.isList hs pl pu .none (by simp) ?_ (by rw [List.size_toArray] <;> lia)
 rw [zo9,<- hlen]
 refine ⟨.ref s.heap.objs.size,_,I.laid (t':=s.toks) (o:=.lst (cutV xs lo hi)) (λ b ob q=>Heap.get?_push_of_some _ q) (Nat.le_refl _) ?_,rfl,q _ (I.hok.fresh (Nat.le_refl _))⟩
 exact ⟨Nat.le_trans (zh8 xs lo hi) hz,_,0,(r.drop (HT.sIx xs.length 0 lo)).take (HT.sIx xs.length xs.length hi - HT.sIx xs.length 0 lo),Heap.get?_push_size _ rfl⟩
def zgh:V->Bool
|.non=>true
|.bl _=>true
|.int _=>true
|.str _=>true
|_=>false
def eqV:V->V->Bool
|.non,.non=>true
|.bl a,.bl b=>a == b
|.bl a,.int b=>(if a then 1 else 0) == b
|.int a,.bl b=>a == (if b then 1 else 0)
|.int a,.int b=>a == b
|.str a,.str b=>a == b
|_,_=>false
theorem zmy {A:Around} {s:Shared} {y x:V} {u v:Value} (ry:RelV y u) (rx:RelV x v) (fy:zgh y=true) (fx:zgh x=true):SeqAt.EqAt A s u v (eqV y x):=by
 cases y with
|non =>
  cases ry
  cases x with
 |non=>cases rx;exact SeqAt.EqAt.same _
 |bl b=>cases rx;exact SeqAt.EqAt.none_bool b
 |int b=>obtain ⟨t,rfl⟩:=rx;exact SeqAt.EqAt.none_int b t
 |str b=>obtain ⟨t,rfl⟩:=rx;exact SeqAt.EqAt.none_str b t
 |_=>exact absurd (show false=true from fx) Bool.false_ne_true
|bl a =>
  cases ry
  cases x with
 |non=>cases rx;exact SeqAt.EqAt.bool_none a
 |bl b=>cases rx;exact SeqAt.EqAt.bool_bool a b
 |int b=>obtain ⟨t,rfl⟩:=rx;exact SeqAt.EqAt.bool_int a b t
 |str b=>obtain ⟨t,rfl⟩:=rx;exact SeqAt.EqAt.bool_str a b t
 |_=>exact absurd (show false=true from fx) Bool.false_ne_true
|int a =>
  obtain ⟨t',rfl⟩:=ry
  cases x with
 |non=>cases rx;exact SeqAt.EqAt.int_none a t'
 |bl b=>cases rx;exact SeqAt.EqAt.int_bool a t' b
 |int b=>obtain ⟨t,rfl⟩:=rx;exact SeqAt.EqAt.int_int a t' b t
 |str b=>obtain ⟨t,rfl⟩:=rx;exact SeqAt.EqAt.int_str a t' b t
 |_=>exact absurd (show false=true from fx) Bool.false_ne_true
|str a =>
  obtain ⟨t',rfl⟩:=ry
  cases x with
 |non=>cases rx;exact SeqAt.EqAt.str_none a t'
 |bl b=>cases rx;exact SeqAt.EqAt.str_bool a t' b
 |int b=>obtain ⟨t,rfl⟩:=rx;exact SeqAt.EqAt.str_int a t' b t
 |str b=>obtain ⟨t,rfl⟩:=rx;exact SeqAt.EqAt.str_str a t' b t
 |_=>exact absurd (show false=true from fx) Bool.false_ne_true
|_=>exact absurd (show false=true from fy) Bool.false_ne_true
def eqU (x:V) (u:Value):Bool:=match u with
|.none=>eqV .non x
|.bool b=>eqV (.bl b) x
|.int i _=>eqV (.int i) x
|.str z _=>eqV (.str z) x
|_=>false
theorem zst {x y:V} {u:Value} (r:RelV y u) (f:zgh y=true):eqU x u=eqV y x:=by
 cases y with
|non=>cases r;rfl
|bl b=>cases r;rfl
|int i=>obtain ⟨t,rfl⟩:=r;rfl
|str z=>obtain ⟨t,rfl⟩:=r;rfl
|_=>exact absurd (show false=true from f) Bool.false_ne_true
theorem zma {x:V}:∀ {xs:List V} {us:List Value},Vals xs us->xs.all zgh=true->us.any (eqU x)=xs.any λ y=>eqV y x
|_,_,.nil,_=>rfl
|y :: xs,u :: us,.cons r t,f=>by
  rw [List.all_cons,Bool.and_eq_true] at f
  rw [List.any_cons,List.any_cons,zst r f.1,zma t f.2]
theorem zd6 {A:Around} {s:Shared} {x:V} {v:Value} (rx:RelV x v) (fx:zgh x=true):∀ {xs:List V} {us:List Value},Vals xs us->xs.all zgh=true->∀ u∈us,SeqAt.EqAt A s u v (eqU x u)
|_,_,.nil,_=>λ u hu=>by cases hu
|y :: xs,u :: us,.cons r t,f=>λ u' hu=>by
  rw [List.all_cons,Bool.and_eq_true] at f
  rcases List.mem_cons.mp hu with rfl|hu
  ·rw [zst r f.1];exact zmy r rx f.1 fx
  ·exact zd6 rx fx t f.2 u' hu
def inV (x:V) (xs:List V):Bool:=xs.any λ y=>eqV y x
def rIn (K:Fg) (neg:Bool):R2:=λ x y H Q=>∃ p xs,y=.ref p/\(SqL K H p xs \/ SqT K H p xs)/\zgh x=true/\xs.all zgh=true/\Q (.bl (if neg then !inV x xs else inV x xs)) H
theorem zij:OpR X (compareOp .In) (rIn X.K false):=by
 intro pins s σ H x y v u Q I rx ry h
 obtain ⟨p,xs,rfl,hq,fx,fs,q⟩:=h
 cases ry
 rcases hq with hq|hq
 ·obtain ⟨its,r,pl,hz⟩:=I.list hq
  refine SeqAt.in_listAt (eqU x) pl.isList (λ w hw=>zd6 rx fx r fs w (by simpa using hw)) ⟨.bl _,H,I,rfl,?_⟩
  rw [show its.toArray.any (eqU x)=its.any (eqU x) by simp,zma r fs]
  exact q
 ·obtain ⟨its,r,pl,hz⟩:=I.tuple hq
  refine SeqAt.in_tupleAt (eqU x) pl (λ w hw=>zd6 rx fx r fs w (by simpa using hw)) ⟨.bl _,H,I,rfl,?_⟩
  rw [show its.toArray.any (eqU x)=its.any (eqU x) by simp,zma r fs]
  exact q
theorem zlc:OpR X (compareOp .NotIn) (rIn X.K true):=by
 intro pins s σ H x y v u Q I rx ry h
 obtain ⟨p,xs,rfl,hq,fx,fs,q⟩:=h
 cases ry
 rcases hq with hq|hq
 ·obtain ⟨its,r,pl,hz⟩:=I.list hq
  refine SeqAt.notIn_listAt (eqU x) pl.isList (λ w hw=>zd6 rx fx r fs w (by simpa using hw)) ⟨.bl _,H,I,rfl,?_⟩
  rw [show its.toArray.any (eqU x)=its.any (eqU x) by simp,zma r fs]
  exact q
 ·obtain ⟨its,r,pl,hz⟩:=I.tuple hq
  refine SeqAt.notIn_tupleAt (eqU x) pl (λ w hw=>zd6 rx fx r fs w (by simpa using hw)) ⟨.bl _,H,I,rfl,?_⟩
  rw [show its.toArray.any (eqU x)=its.any (eqU x) by simp,zma r fs]
  exact q
theorem zjb:OpR X (compareOp .NotIn) (λ x y H Q=>∃ i j,x=.str i/\y=.str j/\Q (.bl (!(!(Builtin.Str.occurrences j i 0 j.length 1).isEmpty))) H):=by
 intro pins s σ H x y v u Q I rx ry h
 obtain ⟨i,j,rfl,rfl,q⟩:=h
 obtain ⟨t,rfl⟩:=rx
 obtain ⟨t',rfl⟩:=ry
 exact notIn_str ⟨.bl _,H,I,rfl,q⟩
theorem CallR.or {f:Value} {r r':List V->Hp->VK->Prop} (h:CallR X f r) (h':CallR X f r'):CallR X f (λ xs H Q=>r xs H Q \/ r' xs H Q):=by
 intro pins s σ H xs us Q I rs q
 rcases q with q|q
 ·exact h pins s σ H xs us Q I rs q
 ·exact h' pins s σ H xs us Q I rs q
theorem zgb:CallR X (.type "list") (λ xs H Q=>∃ p ys,xs=[.ref p]/\(SqL X.K H p ys \/ SqT X.K H p ys)/\∀ l,H l=none->Q (.ref l) (upd H l (.lst ys))):=by
 intro pins s σ H xs us Q I r h
 obtain ⟨p,ys,rfl,hq,q⟩:=h
 obtain ⟨u,rfl,rx⟩:=zqk r
 cases rx
 have fin:∀ (its:List Value),Vals ys its->ys.length<=sizeLine->∀ (h':Heap) (c':Nat),(∀ b o',s.heap.get? b=some o'->h'.get? b=some o') ->
   h'.get? s.heap.objs.size=some { cls:=.type "list",dict:=none,data:=.seq its.toArray c',slots:=#[] }->EP X pins σ Q (.ref s.heap.objs.size) { s with heap:=h' }:=λ its r' hz h' c' kp e =>
  ⟨.ref s.heap.objs.size,_,I.laid (t':=s.toks) kp (Nat.le_refl _) (show ObjOk X.prog X.w _ h' _ (.lst ys) from ⟨hz,its,c',r',e⟩),rfl,q _ (I.hok.fresh (Nat.le_refl _))⟩
 rcases hq with hq|hq
 ·obtain ⟨its,r',pl,hz⟩:=I.list hq
  have hlen:=r'.length
  obtain ⟨o,ho,hc,n,hd⟩:=pl.isList
  exact call_list_seq p (.inl rfl) ho hc hd (λ h' c' kp e=>fin its r' hz h' c' kp e) (by simp only [List.size_toArray] <;> lia)
 ·obtain ⟨its,r',pl,hz⟩:=I.tuple hq
  have hlen:=r'.length
  obtain ⟨o,ho,hc,n,hd⟩:=pl
  exact call_list_seq p (.inr rfl) ho hc hd (λ h' c' kp e=>fin its r' hz h' c' kp e) (by simp only [List.size_toArray] <;> lia)
def tyV (K:Fg) (T:String) (x:V) (H:Hp):Prop:=match x with
|.str _=>T = "str"
|.int _=>T = "int"
|.ref p=>(T = "list"/\∃ xs,SqL K H p xs) \/ (T = "tuple"/\∃ o,K.lookup p=some o/\o.cls=.type "tuple"/\o.dict=none) \/
   (T = "dict"/\((∃ kvs,H p=some (.dK kvs)) \/ ∃ kvs,H p=some (.dT kvs))) \/ (T = "set"/\∃ S n,H p=some (.set S n))
|_=>False
theorem zjq {pins:List (Addr×Obj)} {σ:St} {H:Hp} {s:Shared} {T:String} {x:V} {v:Value} (I:Inv X pins σ H s) (r:RelV x v) (ty:tyV X.K T x H) :
  s.TypeIs v T/\∀ a,v=.ref a->∃ ob,s.heap.get? a=some ob/\ob.dict=none:=by
 cases x with
|str z =>
  obtain ⟨t,rfl⟩:=r
  cases (show T = "str" from ty)
  exact ⟨typeIs_str s z t,λ _ e=>nomatch e⟩
|int i =>
  obtain ⟨t,rfl⟩:=r
  cases (show T = "int" from ty)
  exact ⟨typeIs_int s i t,λ _ e=>nomatch e⟩
|ref p =>
  cases r
  rcases ty with ⟨rfl,xs,hq⟩|⟨rfl,o,hk,hc,hd⟩|⟨rfl,hk⟩|⟨rfl,S,n,hk⟩
  ·obtain ⟨its,_,pl,_⟩:=I.list hq
   refine ⟨pl.isList.typeIs,λ a e=>?_⟩
   cases e
   obtain ⟨o,n,e,c,hd,_⟩:=pl
   exact ⟨o,e,hd⟩
  ·refine ⟨⟨o,I.kIn p o hk,hc⟩,λ a e=>?_⟩
   cases e
   exact ⟨o,I.kIn _ o hk,hd⟩
  ·have z:∃ o,s.heap.get? p=some o/\o.ExactDict:=by
    rcases hk with ⟨kvs,hk⟩|⟨kvs,hk⟩
    ·obtain ⟨_,_,_,_,o,_,_,e,ex,_⟩:=I.hok p _ hk
     exact ⟨o,e,ex⟩
    ·obtain ⟨_,_,_,_,o,_,_,e,ex,_⟩:=I.hok p _ hk
     exact ⟨o,e,ex⟩
   obtain ⟨o,e,ex⟩:=z
   refine ⟨⟨o,e,ex.1⟩,λ a e2=>?_⟩
   cases e2
   exact ⟨o,e,ex.2.1⟩
  ·obtain ⟨o,_,_,_,e,ex,_⟩:=I.hok p _ hk
   refine ⟨⟨o,e,ex.1⟩,λ a e2=>?_⟩
   cases e2
   exact ⟨o,e,ex.2.1⟩
|_=>exact False.elim ty
def tBM0 (K:Fg) (T:String) (r:V->List V->Hp->VK->Prop) (to:TE):TE:=λ σ H Q=>to σ H λ x H1=>tyV K T x H1/\r x [] H1 Q
def tBM (K:Fg) (T:String) (r:V->List V->Hp->VK->Prop) (to:TE) (t:TA):TE:=λ σ H Q=>to σ H λ x H1=>tyV K T x H1/\t σ H1 λ xs H2=>r x xs H2 Q
variable {o e:Expr} {es:List Expr} {to:TE} {t:TA} {name:Str} {apos cpos:Pos} {T id:String} {r:V->List V->Hp->VK->Prop}
theorem zux (pa:PlainAttrs T) (slot:Slot T name id) (hty:typeOf (.builtin id)=pure (.type "method_descriptor")) (hm:MtR X id r) (ho:PE X o to)
  (hbase:attributeBase o name X.env (eval o X.env)=eval o X.env:=by rfl) (hline:(apos.endLine == cpos.line)=true:=by rfl):PE X (.Call (.Attribute o name apos) [] [] cpos) (tBM0 X.K T r to):=by
 intro pins s σ H Q I h
 refine wpAny_Call_method0_late hbase hline (thn (ho pins s σ H _ I h) λ v s1 ⟨x,H1,I1,r1,ty,q1⟩=>?_)
 obtain ⟨h1,h2⟩:=zjq I1 r1 ty
 exact ⟨T,id,pa,slot,hty,h1,h2,Calls.callWith_builtin rfl (PySem.evalArgs_none (hm pins s1 σ H1 x [] v [] Q I1 r1 .nil q1))⟩
theorem zk31 (pa:PlainAttrs T) (slot:Slot T name id) (hty:typeOf (.builtin id)=pure (.type "method_descriptor")) (hm:MtR X id r) (ho:PE X o to) (ha:PA X (e :: es) t)
  (hbase:attributeBase o name X.env (eval o X.env)=eval o X.env:=by rfl)
  (hfew:((backTo cpos (starEach (e :: es) X.env)).all (λ x=>!x.1) && (backToKw cpos (keywordEach [] X.env)).all (λ x=>x.1.isSome)
   && decide ((e :: es).length+([]:List Keyword).length+(if ([]:List Keyword).isEmpty then 0 else 1) < 30))=true:=by rfl)
  (hline:(apos.endLine == cpos.line)=true:=by rfl) (hs:starEach (e :: es) X.env=(false,eval e X.env) :: starEach es X.env:=by rfl) (hplain:(backTo cpos (starEach es X.env)).any (·.1)=false:=by rfl) :
  PE X (.Call (.Attribute o name apos) (e :: es) [] cpos) (tBM X.K T r to t):=by
 intro pins s σ H Q I h
 refine wpAny_Call_method_late hbase hfew hline rfl (thn (ho pins s σ H _ I h) λ v s1 ⟨x,H1,I1,r1,ty,q1⟩=>?_)
 obtain ⟨h1,h2⟩:=zjq I1 r1 ty
 refine ⟨T,id,pa,slot,hty,h1,h2,?_⟩
 have hA:=ha cpos pins s1 σ H1 _ I1 q1
 rw [hs] at hA ⊢
 refine Calls.callWith_builtin (by show (false || (backTo cpos (starEach es X.env)).any (·.1))=false;rw [hplain] <;> rfl) (Calls.evalArgs_plain ?_)
 exact thn hA λ us s2 ⟨vs,H2,I2,r2,q2⟩=>hm pins s2 σ H2 x vs v us Q I2 r1 r2 q2
end
def MtM (X:Cx) (id:String) (r:V->List V->Hp->VK->Prop):Prop :=
 ∀ (pins:List (Addr×Obj)) (s:Shared) (σ:St) (H:Hp) (x:V) (xs:List V) (v:Value) (us:List Value) (Q:VK),Inv X pins σ H s->RelV x v->Vals xs us->r x xs H Q ->
  wpAny (model X.prog X.w) X.A (call (.builtin id) (v :: us)) (EP X pins σ Q) X.xe s
theorem Vals.one:∀ {x:V} {us:List Value},Vals [x] us->∃ u,us=[u]/\RelV x u
|_,_,.cons r .nil=>⟨_,rfl,r⟩
theorem Vals.two:∀ {x y:V} {us:List Value},Vals [x,y] us->∃ u v,us=[u,v]/\RelV x u/\RelV y v
|_,_,_,.cons r (.cons q .nil)=>⟨_,_,rfl,r,q⟩
theorem Vals.zero:∀ {us:List Value},Vals [] us->us=[]
|_,.nil=>rfl
theorem Vals.dropLast {xs:List V} {us:List Value} (h:Vals xs us):Vals xs.dropLast us.dropLast:=by
 induction h with
|nil=>exact .nil
|cons r t ih =>
  cases t with
 |nil=>exact .nil
 |cons q t'=>exact .cons r ih
theorem Vals.rep {xs:List V} {us:List Value} (h:Vals xs us):∀ k:Nat,Vals (List.replicate k xs).flatten (List.replicate k us).flatten
|0=>.nil
|k+1=>by
  rw [List.replicate_succ,List.replicate_succ,List.flatten_cons,List.flatten_cons]
  exact Vals.append h (Vals.rep h k)
theorem zwg {α:Type} (l:List α):l.eraseIdx (l.length - 1)=l.dropLast:=by
 induction l with
|nil=>rfl
|cons a r ih =>
  cases r with
 |nil=>rfl
 |cons b r =>
   have e:(a :: b :: r).length - 1=((b :: r).length - 1)+1:=by
    have h1:(a :: b :: r).length=r.length+2:=rfl
    have h2:(b :: r).length=r.length+1:=rfl
    lia
   rw [e,List.eraseIdx_cons_succ,ih]
   all_goals rfl
theorem zid (its:List Value):∀ (k:Nat) (acc:List Value),
  List.foldl (λ x1 x2=>x1++x2) acc.toArray (List.replicate k its.toArray)=(acc++(List.replicate k its).flatten).toArray
|0,acc=>by simp
|k+1,acc=>by
  have e:acc.toArray++its.toArray=(acc++its).toArray:=by simp
  have e2:(acc++its)++(List.replicate k its).flatten=acc++(List.replicate (k+1) its).flatten:=by
   rw [List.replicate_succ,List.flatten_cons,List.append_assoc]
  rw [<- e2,<- zid its k (acc++its),<- e,List.replicate_succ,List.foldl_cons]
section
variable {X:Cx} {pins:List (Addr×Obj)} {σ:St} {H:Hp} {s:Shared} {l b:Addr} {xs ys zs:List V}
theorem Inv.lset {its its':List Value} {n:Nat} {f:Array Value->Array Value} {t':Nat} (I:Inv X pins σ H s) (hH:H l=some (.lst xs))
  (e:s.heap.get? l=some { cls:=.type "list",data:=.seq its.toArray n }) (hf:f its.toArray=its'.toArray) (hv:Vals ys its') (hz:ys.length<=sizeLine) :
  Inv X pins σ (upd H l (.lst ys)) { s with heap:=s.heap.update l (Obj.mapSeq f),toks:=t' }:=by
 have q:=PySem.IsL.update e f
 rw [hf] at q
 refine I.write (x:=l) (e:=l) (by rw [hH];exact trivial) (.inl rfl) (λ b' u hb hu=>(Heap.get?_update_other s.heap (Obj.mapSeq f) (Ne.symm hb)).trans hu) ⟨_,q⟩ ?_
 exact ⟨hz,its',_,hv,q⟩
theorem Inv.lnew {its:List Value} {t':Nat} (I:Inv X pins σ H s) (hv:Vals ys its) (hz:ys.length<=sizeLine) :
  Inv X pins σ (upd H s.heap.objs.size (.lst ys)) { s with heap:=s.heap.push { cls:=.type "list",data:=.seq its.toArray },toks:=t' } :=
 I.laid (λ _ _ q=>Heap.get?_push_of_some _ q) (Nat.le_refl _) ⟨hz,its,0,hv,Heap.get?_push_size _ rfl⟩
theorem Inv.fresh (I:Inv X pins σ H s):H s.heap.objs.size=none:=I.hok.fresh (Nat.le_refl _)
theorem Inv.lstM (I:Inv X pins σ H s) (hH:H l=some (.lst xs)):xs.length<=sizeLine/\∃ (its:List Value) (n:Nat),Vals xs its/\xs.length=its.length/\s.heap.get? l=some { cls:=.type "list",data:=.seq its.toArray n }:=by
 obtain ⟨z,its,n,r,e⟩:=I.hok l _ hH
 exact ⟨z,its,n,r,r.length,e⟩
theorem zoc {n:Nat} (h:n<=sizeLine):Builtin.List.listTooLong n=false:=by
 unfold Builtin.List.listTooLong
 exact decide_eq_false (by lia)
end
section
variable {X:Cx}
def zsj:V->List V->Hp->VK->Prop:=λ x vs H Q=>∃ l xs y,x=.ref l/\vs=[y]/\H l=some (.lst xs)/\xs.length < sizeLine/\Q .non (upd H l (.lst (xs++[y])))
theorem zq2:MtM X "list.append" zsj:=by
 intro pins s σ H x vs v us Q I rx rv h
 obtain ⟨l,xs,y,rfl,rfl,hH,hz,q⟩:=h
 cases rx
 obtain ⟨u,rfl,ru⟩:=rv.one
 obtain ⟨z,its,n,r,hl,e⟩:=I.lstM hH
 refine call_meets F.slot_list_append ⟨_,e,rfl⟩ F.entry_list_append (F.args_list_append_2 _ _) (PySem.list_append l its.toArray n u (by rw [List.size_toArray];lia)) ⟨e,?_⟩
 refine ⟨.non,_,I.lset (its':=its++[u]) hH e (by simp) (r.append (.cons ru .nil)) ?_,rfl,q⟩
 rw [List.length_append,List.length_singleton]
 lia
def zsq:V->List V->Hp->VK->Prop:=λ x vs H Q=>∃ l b xs zs,x=.ref l/\vs=[.ref b]/\H l=some (.lst xs)/\H b=some (.lst zs)/\xs.length+zs.length<=sizeLine/\Q .non (upd H l (.lst (xs++zs)))
theorem zsu:MtM X "list.extend" zsq:=by
 intro pins s σ H x vs v us Q I rx rv h
 obtain ⟨l,b,xs,zs,rfl,rfl,hH,hB,hz,q⟩:=h
 cases rx
 obtain ⟨u,rfl,ru⟩:=rv.one
 cases ru
 obtain ⟨z,its,n,r,hl,e⟩:=I.lstM hH
 obtain ⟨z2,its2,n2,r2,hl2,e2⟩:=I.lstM hB
 have hsz:its.toArray.size+its2.toArray.size<=sizeLine:=by rw [List.size_toArray,List.size_toArray];lia
 have hlong:¬ (!its.toArray.isEmpty && Builtin.List.listTooLong (its.toArray.size+its2.toArray.size))=true:=by
  rw [zoc hsz,Bool.and_false]
  exact Bool.false_ne_true
 refine call_meets F.slot_list_extend ⟨_,e,rfl⟩ F.entry_list_extend (F.args_list_extend_2 _ _)
  (AutoSeq1.list_extend_list_list_0 l its.toArray n b its2.toArray n2 hlong (by rw [List.size_toArray];lia) (by lia)) ⟨e,e2,?_⟩
 refine ⟨.non,_,I.lset (its':=its++its2) hH e (by simp) (r.append r2) ?_,rfl,q⟩
 rw [List.length_append]
 lia
def rPop:V->List V->Hp->VK->Prop:=λ x vs H Q=>∃ l xs y,x=.ref l/\vs=[]/\H l=some (.lst xs)/\xs[xs.length - 1]?=some y/\Q y (upd H l (.lst xs.dropLast))
theorem zcn:MtM X "list.pop" rPop:=by
 intro pins s σ H x vs v us Q I rx rv h
 obtain ⟨l,xs,y,rfl,rfl,hH,hy,q⟩:=h
 cases rx
 have hus:=rv.zero
 subst hus
 obtain ⟨z,its,n,r,hl,e⟩:=I.lstM hH
 obtain ⟨u,hu,ru⟩:=r.get hy
 have hy':its.toArray[its.toArray.size - 1]?=some u:=by
  show its.toArray[its.length - 1]?=some u
  rw [<- Array.getElem?_toList,<- hl]
  exact hu
 refine call_meets F.slot_list_pop ⟨_,e,rfl⟩ F.entry_list_pop (F.args_list_pop_1 _) (MeetsSeq.list_pop_last l its.toArray n u hy' (by rw [List.size_toArray];lia)) ⟨e,?_⟩
 refine ⟨y,_,I.lset (its':=its.dropLast) hH e ?_ r.dropLast ?_,ru,q⟩
 ·show its.toArray.eraseIdxIfInBounds (its.toArray.size - 1)=its.dropLast.toArray
  rw [List.size_toArray,List.eraseIdxIfInBounds_toArray,zwg]
 ·rw [List.length_dropLast]
  lia
def rCat:R2:=λ x y H Q=>∃ l b xs zs,x=.ref l/\y=.ref b/\H l=some (.lst xs)/\H b=some (.lst zs)/\xs.length+zs.length<=sizeLine/\∀ p,H p=none->Q (.ref p) (upd H p (.lst (xs++zs)))
theorem zzx:OpR X (binaryOp .Add) rCat:=by
 intro pins s σ H x y v u Q I rx ry h
 obtain ⟨l,b,xs,zs,rfl,rfl,hH,hB,hz,q⟩:=h
 cases rx
 cases ry
 obtain ⟨z,its,n,r,hl,e⟩:=I.lstM hH
 obtain ⟨z2,its2,n2,r2,hl2,e2⟩:=I.lstM hB
 refine PySem.P.add_list e e2 ?_ (by rw [List.size_toArray,List.size_toArray];lia)
 have ea:its.toArray++its2.toArray=(its++its2).toArray:=by simp
 rw [ea]
 exact ⟨.ref _,_,I.lnew (t':=s.toks) (r.append r2) (by rw [List.length_append];lia),rfl,q _ I.fresh⟩
def rRep:R2:=λ x y H Q=>∃ l k xs,x=.ref l/\y=.int k/\H l=some (.lst xs)/\-(2 ^ 63)<=k/\k < 2 ^ 63/\xs.length * k.toNat<=sizeLine /\
 ∀ p,H p=none->Q (.ref p) (upd H p (.lst (List.replicate k.toNat xs).flatten))
theorem zzq {α:Type} (xs:List α) (k:Nat):(List.replicate k xs).flatten.length=k * xs.length:=by
 induction k with
|zero=>simp
|succ k ih=>rw [List.replicate_succ,List.flatten_cons,List.length_append,ih,Nat.succ_mul,Nat.add_comm]
theorem ztr:OpR X (binaryOp .Mult) rRep:=by
 intro pins s σ H x y v u Q I rx ry h
 obtain ⟨l,k,xs,rfl,rfl,hH,h1,h2,hz,q⟩:=h
 cases rx
 obtain ⟨t,rfl⟩:=ry
 obtain ⟨z,its,n,r,hl,e⟩:=I.lstM hH
 have hlen:its.toArray.size * k.toNat<=sizeLine:=by rw [List.size_toArray,<- hl];exact hz
 have hcap:¬ its.toArray.size * k.toNat > (2 ^ 63 - 1) / 8:=by
  have:(sizeLine:Nat)<=(2 ^ 63 - 1) / 8:=by decide
  lia
 have hfit:¬ (!Builtin.List.listFitsIndex k)=true:=by
  rw [fitsIndex_both h1 h2]
  exact Bool.false_ne_true
 have hlong:¬ Builtin.List.listTooLong (its.toArray.size * k.toNat)=true:=by
  rw [zoc hlen]
  exact Bool.false_ne_true
 have hnew:List.foldl (λ x1 x2=>x1++x2) #[] (List.replicate (if its.toArray.isEmpty=true then 0 else k.toNat) its.toArray)=(List.replicate k.toNat its).flatten.toArray:=by
  have f0:∀ m:Nat,List.foldl (λ x1 x2=>x1++x2) #[] (List.replicate m its.toArray)=(List.replicate m its).flatten.toArray:=λ m=>by
   have:=zid its m []
   rw [List.nil_append] at this
   exact this
  rw [f0]
  cases its with
 |nil=>simp
 |cons a r'=>rw [if_neg (by simp)]
 refine wpAny_binaryOp_repeat_ref (T := "list") (U := "int") (by decide) ⟨_,e,rfl⟩ (λ s'=>typeIs_int s' k t) noFill_list_mul F.fills_int_mul F.slot_int_rmul repeat_list F.slot_int_index.lookup
  (call_meets F.slot_int_rmul (typeIs_int s k t) F.entry_int_rmul (F.args_int_rmul_2 _ _) (int___rmul___int_list k t l its.toArray n)
   ⟨e,rfl,⟨_,e,rfl⟩,call_meets F.slot_list_mul ⟨_,e,rfl⟩ F.entry_list_mul (F.args_list_mul_2 _ _) (AutoListH.list___mul___list_int_3 l its.toArray n k t hfit hcap hlong) ⟨e,?_⟩⟩)
 rw [hnew]
 exact ⟨.ref _,_,I.lnew (t':=s.toks) (r.rep k.toNat) (by rw [zzq,Nat.mul_comm];exact hz),rfl,q _ I.fresh⟩
end
section
variable {prog:Program} {w:World} {A:Around} {E:Value->Shared->Prop} {s:Shared}
end
section
variable {X:Cx}
end
end L2
namespace Att
open PySem PySem.W PySem.Calls PyProof.Rows
theorem zi7 {P:Params} {h:Heap}:∀ (ns:List Int) (vs:List Value),WellAll P h vs (ns.map WData.int)->IntsAre vs ns:=by
 intro ns
 induction ns with
|nil =>
  intro vs w
  rw [List.map_nil] at w
  cases w
  exact .nil
|cons n ns ih =>
  intro vs w
  rw [List.map_cons] at w
  cases w with
 |cons a b =>
   cases a
   exact .cons _ _ (ih _ b)
theorem zvh {l:OpenLaw} {n:Nat} (hn:l.most=some n) {P:Params} {h:Heap} {args:List WData} {vals:List Value}
  (hpre:l.row.toRowW.claim.pre args=true) (hwl:WellAll P h vals args) :
  ∃ a vs ns,vals=[Value.ref a]/\args=[WData.list (ns.map WData.int)]/\h.get? a=some { cls:=.type "list",data:=.seq vs.toArray }/\IntsAre vs ns/\ns.length<=n:=by
 have hsh:WShape.hasAll [] args [.list .int]=true:=(pre_splitW hpre).1
 have hc:l.pre.holds [] { args:=args }=true:=(pre_splitW hpre).2
 obtain ⟨d,r,rfl,h1,h2⟩:=hasAllW_cons hsh
 obtain rfl:=hasAllW_nil h2
 obtain ⟨xs,rfl,h3⟩:=hasW_list h1
 obtain ⟨ns,rfl⟩:=items_int h3
 have hlen:ns.length<=n:=by
  unfold OpenLaw.pre at hc
  have h4:(WTm.not (.lt (.lit (.int (n:Int))) (.len (.arg 0)))).holds [] { args:=[.list (ns.map .int)] }=true:=by
   have h4:=(holds_andW hc).1
   rw [hn] at h4
   exact h4
  have h5:=condW_of h4 (w_not (w_lt w_lit (w_len_list (w_arg rfl))))
  rw [List.length_map] at h5
  refine Nat.le_of_not_lt λ q=>?_
  have q':(n:Int) < ((ns.length:Nat):Int):=by lia
  first
  |(rw [decide_eq_true q'] at h5;exact absurd h5 (by decide))
  |(simp at h5;lia)
 cases hwl with
|cons w1 w2 =>
  cases w2
  cases w1 with
 |list ho hall=>exact ⟨_,_,ns,rfl,rfl,ho,zi7 ns _ hall,hlen⟩
theorem zti (l:OpenLaw) (args:List WData):l.row.toRowW.claim.post args (.bool true) args=true :=
 postW_of (r:=l.row.toRowW) (X:=(true == true))
  (show WShape.has [] (.bool true) .bool=true by first|rfl|decide|simp [WShape.has,WShape.arms,WShape.armsAll])
  (show (WTm.eq .res (.lit (.bool true))).value [] { args:=args,res:=some (.bool true),after:=args }=some (.bool (true == true)) from w_eq_bool (w_res rfl) w_lit) rfl
theorem attach_call {l:OpenLaw} {n:Nat} {q:Program} {loose:List Str} {XP:(Str->Option Value)->Heap->Prop} {YP:World->Heap->Prop} {d:DefRec}
  (hn:l.most=some n) (hdf:d.params.defaults=[])
  (call:∀ (w:World) (s₀ s₁:Shared) (mg mb:Str->Option Value) (fa:Addr) (o:Obj) (pm cd doc:Value) (a:Addr) (vs:List Value) (ns:List Int),
   Ground q loose [] XP w s₀ mg mb s₁.heap->YP w s₁.heap ->
   s₁.heap.get? fa=some o->o.data=.func (docDef d.name d.params d.body d.scope pm cd doc)->s₁.heap.CodeRec cd d.name->mg d.name=some (.ref fa) ->
   s₁.heap.get? a=some { cls:=.type "list",data:=.seq vs.toArray }->IntsAre vs ns->ns.length<=n->s₁.gens=#[] ->
   codeAny (model l.prog w) callerA (.call (.ref fa) ⟨[.ref a],[]⟩) (λ r s'=>r=.ok (.ret (.bool true))/\OldK s₁.heap s'.heap/\s'.os=s₁.os/\AllBare s'.gens) s₁) :
  WalkO q loose XP YP l.row.toRowW d [] (λ f vs=>PySem.call f vs):=by
 intro w s₀ s₁ mg mb G Y fa o pm cd doc dV kV ho hd hcd hD hmg hg args vals as hpre hlay hrd hwl hlo
 obtain rfl:dV=.none:=Dflts.none hD hdf
 obtain rfl:kV=.none:=Dflts.noKw hD
 obtain ⟨a,vs,ns,rfl,rfl,hobj,hints,hlen⟩:=zvh hn hpre hwl
 refine enter_call (codeAny_mono (call w s₀ s₁ mg mb fa o pm cd doc a vs ns G Y ho (fd_plain hd) hcd hmg hobj hints hlen hg) λ r s' hq=>?_)
 obtain ⟨rfl,h2,h3,h4⟩:=hq
 exact ⟨.inl ⟨.bool true,.bool true,[],rfl,λ _=>rfl,.bool true,zti l _,λ _=>⟨List.Pairwise.nil,λ _ hm=>(nomatch hm)⟩⟩,h2,h3,h4⟩
section
variable {prog:Program} {w:World} {A:Around} {E:Value->Shared->Prop} {s:Shared} {K:Frag}
end
end Att
namespace L2
open PySem PySem.Spec PyProof.Rows
theorem zh4:∀ {vs:List Value} {ns:List Int},IntsAre vs ns->Vals (ns.map V.int) vs
|_,_,.nil=>.nil
|_,_,.cons n t h=>.cons ⟨t,rfl⟩ (zh4 h)
def Only (H:Hp):Prop:=∀ b,H b=none \/ ∃ o xs,H b=some (.frz o (.lst xs))
theorem zqn {P:Program} {w:World} {K:Fg} {mg mb:Str->Option Value} {CX:CXT} {k:Nat} {fa a:Addr} {fd:FuncData} {x:Str} {sp:Sp} {s₁:Shared} {vs:List Value} {ns:List Int}
  (KX:K.In s₁.heap) (hns:s₁.heap.Ns mainGlobals mg) (hb:s₁.heap.Ns builtinsNs mb) (hbb:∀ x:Str,x ≠ "__name__"->mb x=bootBuiltins x) (hlim:s₁.heap.NoLimit) (hg:s₁.gens=#[])
  (ha:s₁.heap.get? a=some { cls:=.type "list",data:=.seq vs.toArray }) (hi:IntsAre vs ns) (hl:ns.length<=sizeLine) (hr:Room k callerA)
  (F:∀ base:Heap,K.In base->base.Ns mainGlobals mg->FnOk P w K mg base CX k fa fd [x] sp) (hbind:∀ (s:Shared) (u:Value),BindsTo s fd ⟨[u],[]⟩ [(x,u)])
  (hsp:∀ H:Hp,Only H->SqL K H a (ns.map V.int)->sp [.ref a] H (λ v _=>v=.bl true) λ _ _ _=>False)
  (hCX:∀ H e s',CX [] H s₁ (λ _ _ _=>False) e s'->False) :
  codeAny (model P w) callerA (.call (.ref fa) ⟨[.ref a],[]⟩) (λ r s'=>r=.ok (.ret (.bool true))/\OldK s₁.heap s'.heap/\s'.os=s₁.os/\AllBare s'.gens) s₁:=by
 have rv:=zh4 hi
 have lenV:=hi.length
 -- from an abstract heap in which nothing but the script may be tracked
 have core:∀ H:Hp,Only H->SqL K H a (ns.map V.int)->HOk P w H s₁.heap->(∀ b,H b≠none->b=a)->(H a≠none->K.lookup a=none) ->
   codeAny (model P w) callerA (.call (.ref fa) ⟨[.ref a],[]⟩) (λ r s'=>r=.ok (.ret (.bool true))/\OldK s₁.heap s'.heap/\s'.os=s₁.os/\AllBare s'.gens) s₁:=by
  intro H hO hS hok hA hK
  have base_of:∀ {b:Addr} {o:Obj},s₁.heap.get? b=some o->H b=none->(hidT s₁.heap H).get? b=some o:=λ e n=>znm e n
  have noA:∀ {b:Addr} {o:Obj} {es:Array DictEntry} {ep:Nat},s₁.heap.get? b=some o->o.data=.dict es ep->H b=none:=λ {b o es ep} e d=>by
   cases q:H b with
  |none=>rfl
  |some u =>
    have e':b=a:=hA b (by rw [q];simp)
    subst e'
    rw [ha] at e;cases e
    have d':Data.seq vs.toArray _=Data.dict es ep:=d
    cases d'
  have nsK:∀ {b:Addr} {m:Str->Option Value},s₁.heap.Ns b m->(hidT s₁.heap H).Ns b m:=λ {b m} ⟨o,es,ep,e,d,r⟩=>⟨o,es,ep,base_of e (noA e d),d,r⟩
  have hKb:K.In (hidT s₁.heap H):=λ b o e=>base_of (KX b o e) (by
   cases q:H b with
  |none=>rfl
  |some u =>
    have e':b=a:=hA b (by rw [q];simp)
    subst e'
    rw [hK (by rw [q];simp)] at e;cases e)
  have hM:Mod K mg (hidT s₁.heap H):=⟨hKb,nsK hns,⟨mb,nsK hb,hbb⟩,let ⟨mc,h1,h2⟩:=hlim;⟨mc,nsK h1,h2⟩⟩
  have e0:Env0 P w K mg (hidT s₁.heap H) callerA [] s₁ H:=⟨rfl,hM,λ b o e=>zno e,Nat.le_of_eq (zej _ _),trivial,λ b hb=>absurd (show b∈([]:List Addr) from hb) (by simp),hok,.of_eq hg⟩
  refine codeAny_mono ((F _ hKb (nsK hns)).run callerA [] s₁ H ⟨[.ref a],[]⟩ [.ref a] [.ref a] _ _ hr e0 (hbind s₁ (.ref a)) (.cons rfl .nil) (hsp H hO hS)) λ r s' h=>?_
  cases r with
 |error e=>exact (hCX H e s' h).elim
 |ok fl =>
   cases fl with
  |next=>exact False.elim h
  |brk=>exact False.elim h
  |cont=>exact False.elim h
  |ret u =>
    obtain ⟨v,H',os,bare,un,hok',r',q⟩:=h
    have q':v=.bl true:=q
    subst q'
    obtain rfl:u=Value.bool true:=r'
    refine ⟨rfl,OldK.of_keep λ b o e=>?_,os,bare⟩
    cases q:H b with
   |none=>exact un.keep b o e q (by intro z;exact absurd (show b∈([]:List Addr) from z) (by simp)) (by simp)
   |some u =>
     rcases hO b with z|⟨ob,xs,z⟩
     ·rw [q] at z;cases z
     ·have z2:=un.frzs b ob _ z
      obtain ⟨e1,_⟩:=hok b _ z
      obtain ⟨e2,_⟩:=hok' b _ z2
      rw [e] at e1;cases e1
      exact e2
 cases hk:K.lookup a with
|some o =>
  -- the script is one of the module's own objects
  have e:=KX a o hk
  rw [ha] at e
  cases e
  refine core (λ _=>none) (λ _=>.inl rfl) (.inr ⟨_,vs.toArray,_,hk,rfl,rfl,rfl,by rw [List.size_toArray,lenV];exact hl,by simpa using rv⟩) (λ b u z=>by have z':(none:Option HO)=some u:=z;cases z') (λ b z=>absurd rfl z) λ z=>absurd rfl z
|none =>
  refine core (λ b=>if b=a then some (.frz { cls:=.type "list",data:=.seq vs.toArray } (.lst (ns.map V.int))) else none) (λ b=>?_) (.inl (.inr ⟨{ cls:=.type "list",data:=.seq vs.toArray },if_pos rfl⟩)) (λ b u z=>?_) (λ b z=>?_) λ _=>hk
  ·by_cases hb:b=a
   ·exact .inr ⟨_,_,if_pos hb⟩
   ·exact .inl (if_neg hb)
  ·by_cases hb:b=a
   ·have z':=(if_pos hb).symm.trans z
    cases z'
    subst hb
    exact ⟨ha,by rw [List.length_map];exact hl,vs,_,rv,ha⟩
   ·have z':=(if_neg hb).symm.trans z
    cases z'
  ·by_cases hb:b=a
   ·exact hb
   ·exact absurd (if_neg hb) z
theorem walk_of {l:PySem.W.OpenLaw} {n k:Nat} {q:Program} {loose:List Str} {XP:(Str->Option Value)->Heap->Prop} {YP:World->Heap->Prop} {d:DefRec} {K:Params->Fg} {CX:World->CXT} {sp:World->Sp} {x:Str}
  (hn:l.most=some n) (hn2:n<=sizeLine) (hdf:d.params.defaults=[]) (hr:Room k callerA)
  (hY:∀ (w:World) (h:Heap),YP w h->(K w.params).In h)
  (F:∀ (w:World) (mg:Str->Option Value) (fa:Addr) (h:Heap),(K w.params).In h->h.Ns mainGlobals mg->mg d.name=some (.ref fa) ->
   ∃ fd:FuncData,(∀ (s:Shared) (u:Value),BindsTo s fd ⟨[u],[]⟩ [(x,u)]) /\
    ∀ base:Heap,(K w.params).In base->base.Ns mainGlobals mg->FnOk l.prog w (K w.params) mg base (CX w) k fa fd [x] (sp w))
  (hsp:∀ (w:World) (H:Hp) (a:Addr) (ns:List Int),ns.length<=n->Only H->SqL (K w.params) H a (ns.map V.int)->sp w [.ref a] H (λ v _=>v=.bl true) λ _ _ _=>False)
  (hCX:∀ (w:World) (H:Hp) (s:Shared) (e:Value) (s':Shared),CX w [] H s (λ _ _ _=>False) e s'->False) :
  PySem.W.WalkO q loose XP YP l.row.toRowW d [] (λ f vs=>PySem.call f vs):=by
 refine Att.attach_call hn hdf λ w s₀ s₁ mg mb fa o pm cd doc a vs ns G Y ho hd hcd hmg hobj hints hlen hg=>?_
 have KX:=hY w _ Y
 obtain ⟨fd,hb,hF⟩:=F w mg fa _ KX G.T.g hmg
 exact zqn KX G.T.g G.T.b G.T.builtins G.T.nolimit hg hobj hints (Nat.le_trans hlen hn2) hr hF hb (λ H hO hS=>hsp w H a ns hlen hO hS) λ H e s'=>hCX w H s₁ e s'
def zd5 (s:Stmt) (j:Nat):Stmt:=match s with
|.ClassDef _ _ _ body _ _ _ _ _ _ _=>body.getD j (.Pass ⟨0,0,0,0⟩)
|_=>.Pass ⟨0,0,0,0⟩
def zr3 (s:Stmt):Arguments:=match s with
|.FunctionDef _ a _ _ _ _ _ _ _ _=>a
|_=>{ posonlyargs:=[],args:=[],vararg:=none,kwonlyargs:=[],kw_defaults:=[],kwarg:=none,defaults:=[] }
def zs1 (s:Stmt):List Stmt:=match s with
|.FunctionDef _ _ b _ _ _ _ _ _ _=>b
|_=>[]
def zf0 (s:Stmt):Scope:=match s with
|.FunctionDef _ _ _ _ _ _ sc _ _ _=>sc
|_=>{ kind:=.function,names:=[],isGenerator:=false,isCoroutine:=false }
abbrev CX0:CXT:=λ _ _ _ _ _ _=>False
abbrev E0:XK:=λ _ _ _=>False
theorem zep {X:Cx}:zqb CX0 X E0:=λ _ _ _ _ _ _ _ h=>h.elim
structure Fun (K:Fg) (x qual:Str) (st:Stmt) (f:Addr) (fd:FuncData):Prop where
 ex:∃ (oc:Value) (od:Option Addr) (kV doc pm:Value) (an:Option Addr) (cdv ct:Value) (osl:Array (Option Value)),
  fd=PySem.W.fnOf x qual (zr3 st) (zs1 st) (zf0 st) .none kV doc pm an cdv ct/\K.lookup f=some ⟨oc,od,.func fd,osl⟩/\PySem.W.codeIn K cdv qual=true
 kp:PySem.W.keepIn K (.ref f)=true
section
variable {P:Program} {w:World} {K:Fg} {mg:Str->Option Value} {base:Heap}
theorem Fun.ok {x qual:Str} {st:Stmt} {f:Addr} {fd:FuncData} {N ps:List Str} {k:Nat} {sp:Sp} (F:Fun K x qual st f fd) (S:FnScope N ps (zf0 st)) (len:∀ vs H Q E,sp vs H Q E->vs.length=ps.length)
  (hbody:∀ (cdv:Value) (A:Around) (outer:List Env) (s:Shared) (H:Hp) (vs:List V) (Q:VK) (E:XK),Room k (A.deeper (envOfC qual (zf0 st) s.heap.objs.size f cdv))->sp vs H Q E ->
   ∃ t,PSs (cxOf CX0 P w K mg base N qual (zf0 st) f cdv A outer s H E).nox (zs1 st) t/\t { nx:=λ _ H'=>Q .non H',rt:=Q } (start N vs) H):FnOk P w K mg base CX0 (k+1) f fd ps sp:=by
 obtain ⟨oc,od,kV,doc,pm,an,cdv,ct,osl,rfl,lk,hcd⟩:=F.ex
 refine zh11 lk hcd S len λ A outer s H vs Q E hr hsp=>?_
 obtain ⟨t,h,q⟩:=hbody cdv A outer s H vs Q E hr hsp
 exact ⟨t,h.nox,q⟩
theorem Fun.binds {x qual:Str} {st:Stmt} {f:Addr} {fd:FuncData} {ps:List Str} (F:Fun K x qual st f fd)
  (h:∀ (kV doc pm:Value) (an:Option Addr) (cdv ct:Value) (us:List Value),us.length=ps.length->bindArgs (PySem.W.fnOf x qual (zr3 st) (zs1 st) (zf0 st) .none kV doc pm an cdv ct) ⟨us,[]⟩=pure (ps.zip us)):Binds K fd ps []:=by
 obtain ⟨oc,od,kV,doc,pm,an,cdv,ct,osl,rfl,lk,hcd⟩:=F.ex
 exact .all (h kV doc pm an cdv ct)
theorem zoq {x qual:Str} {st:Stmt} {f:Addr} {oc:Value} {od an:Option Addr} {osl:Array (Option Value)} {kV doc pm cdv ct:Value} (l:K.lookup f=some ⟨oc,od,.func (PySem.W.fnOf x qual (zr3 st) (zs1 st) (zf0 st) .none kV doc pm an cdv ct),osl⟩)
  (c:PySem.W.codeIn K cdv qual=true) (k:PySem.W.keepIn K (.ref f)=true):Fun K x qual st f (PySem.W.fnOf x qual (zr3 st) (zs1 st) (zf0 st) .none kV doc pm an cdv ct):=⟨⟨oc,od,kV,doc,pm,an,cdv,ct,osl,rfl,l,c⟩,k⟩
end
section
variable {X:Cx}
theorem pv (i:Nat) {x:Str} {pos:Pos} (hN:X.N[i]?=some x:=by rfl) (hv:Vis X.env.scope x:=by first|exact Or.inl rfl|exact Or.inr (Or.inl rfl)|exact Or.inr (Or.inr rfl)) (hd:(x == ("__debug__":Str))=false:=by decide)
  (hcd:(x == ("__classdict__":Str))=false:=by decide):PE X (.Name x pos) (tVar i):=zzu hN hv hd hcd
end
def Same (H H':Hp):Prop:=∀ b o,H b=some o->H' b=some o
theorem Same.refl (H:Hp):Same H H:=λ _ _ h=>h
theorem Same.trans {H H1 H2:Hp} (a:Same H H1) (b:Same H1 H2):Same H H2:=λ c o h=>b c o (a c o h)
theorem Same.seq {K:Fg} {H H':Hp} {a:Addr} {xs:List V} (e:Same H H') (h:SqL K H a xs):SqL K H' a xs:=by
 rcases h with (h|⟨o,h⟩)|h
 ·exact .inl (.inl (e _ _ h))
 ·exact .inl (.inr ⟨o,e _ _ h⟩)
 ·exact .inr h
end L2
namespace L3
open PySem PySem.Spec PyProof.Rows L2
abbrev St:=L2.St
def zs2 (env:Env):List (Str×NameKind)->List (Str×Addr)->List (Str×Addr)
|[],cs=>cs
|(n,k) :: r,cs=>zs2 env r (if k == .free then (match env.cells.lookup n with|some c=>(n,c) :: cs|none=>cs) else cs)
theorem zp6 {env:Env}:∀ (names:List (Str×NameKind)) (cs:List (Str×Addr)),(∀ y∈names,y.2=.free->∃ c,env.cells.lookup y.1=some c) ->
  (forIn names cs (λ (x:Str×NameKind) (r:List (Str×Addr))=>(match x with|(name,kind)=>if kind == .free then do let c <- cellOf env name;pure (ForInStep.yield ((name,c) :: r)) else pure (ForInStep.yield r):Sem (ForInStep (List (Str×Addr))))):Sem (List (Str×Addr)))=pure (zs2 env names cs)
|[],cs,_=>rfl
|(n,k) :: r,cs,h=>by
  rw [List.forIn_cons]
  by_cases hk:k=.free
  ·subst hk
   obtain ⟨c,hc⟩:=h (n,.free) List.mem_cons_self rfl
   have hc':env.cells.lookup n=some c:=hc
   have e1:cellOf env n=pure c:=by unfold cellOf;rw [hc']
   simp only [beq_self_eq_true,if_true,e1]
   have:=zp6 r ((n,c) :: cs) λ y hy=>h y (List.mem_cons_of_mem _ hy)
   unfold zs2
   simp only [beq_self_eq_true,if_true,hc']
   exact this
  ·have hb:(k == NameKind.free)=false:=by simpa using hk
   simp only [hb,Bool.false_eq_true,if_false]
   have:=zp6 r cs λ y hy=>h y (List.mem_cons_of_mem _ hy)
   unfold zs2
   simp only [hb,Bool.false_eq_true,if_false]
   exact this
theorem zm9 {env:Env} {scope:Scope} (h:∀ y∈scope.names,y.2=.free->∃ c,env.cells.lookup y.1=some c):closureFor scope env=pure (zs2 env scope.names []):=by
 unfold closureFor
 show (forIn scope.names [] _ >>= λ cs=>pure cs)=_
 rw [zp6 scope.names [] h]
 rfl
theorem zd9 {env:Env} {x:Str} {c:Addr}:∀ (names:List (Str×NameKind)) (cs:List (Str×Addr)),(∀ x c,cs.lookup x=some c->env.cells.lookup x=some c)->(zs2 env names cs).lookup x=some c->env.cells.lookup x=some c
|[],cs,h,e=>h x c e
|(n,k) :: r,cs,h,e=>by
  unfold zs2 at e
  refine zd9 r _ (λ y d q=>?_) e
  split at q
  ·split at q
   ·rename_i c' hc'
    rw [List.lookup_cons] at q
    split at q
    ·rename_i hy
     cases q
     rw [beq_iff_eq.mp hy];exact hc'
    ·exact h y d q
   ·exact h y d q
  ·exact h y d q
theorem ze8 {env:Env} {x:Str}:∀ (names:List (Str×NameKind)) (cs:List (Str×Addr)),(∃ c,cs.lookup x=some c)->∃ c,(zs2 env names cs).lookup x=some c
|[],cs,h=>h
|(n,k) :: r,cs,⟨c,h⟩=>by
  unfold zs2
  refine ze8 r _ ?_
  split
  ·split
   ·rename_i c' hc'
    rw [List.lookup_cons]
    split
    ·exact ⟨_,rfl⟩
    ·exact ⟨c,h⟩
   ·exact ⟨c,h⟩
  ·exact ⟨c,h⟩
theorem zu6 {env:Env} {x:Str}:∀ (names:List (Str×NameKind)) (cs:List (Str×Addr)),(x,NameKind.free)∈names->(∃ c,env.cells.lookup x=some c)->∃ c,(zs2 env names cs).lookup x=some c
|[],cs,h,_=>nomatch h
|(n,k) :: r,cs,h,⟨c,hc⟩=>by
  rcases List.mem_cons.mp h with e|h
  ·cases e
   unfold zs2
   simp only [beq_self_eq_true,if_true,hc]
   exact ze8 r _ ⟨c,by simp [List.lookup_cons]⟩
  ·unfold zs2
   exact zu6 r _ h ⟨c,hc⟩
theorem zv7 {env:Env} {x:Str} {c:Addr}:∀ (names:List (Str×NameKind)) (cs:List (Str×Addr)),(zs2 env names cs).lookup x=some c->(x,NameKind.free)∈names \/ cs.lookup x=some c
|[],cs,e=>.inr e
|(n,k) :: r,cs,e=>by
  unfold zs2 at e
  rcases zv7 r _ e with q|q
  ·exact .inl (List.mem_cons_of_mem _ q)
  ·split at q
   ·rename_i hk
    split at q
    ·rw [List.lookup_cons] at q
     split at q
     ·rename_i hy
      rw [beq_iff_eq.mp hy,<- beq_iff_eq.mp hk];exact .inl List.mem_cons_self
     ·exact .inr q
    ·exact .inr q
   ·exact .inr q
theorem zrq {x:Str} {c:Addr}:∀ (names:List (Str×NameKind)) (n:Nat) (acc:List (Str×Addr)),(cellsFrom n names acc).lookup x=some c->acc.lookup x=some c \/ ((x,NameKind.cell)∈names/\n<=c)
|[],_,_,e=>.inl e
|(y,k) :: r,n,acc,e=>by
  unfold cellsFrom at e
  split at e
  ·rename_i hk
   rcases zrq r (n+1) _ e with q|q
   ·rw [List.lookup_cons] at q
    split at q
    ·rename_i hy
     cases q
     rw [beq_iff_eq.mp hy,<- beq_iff_eq.mp hk]
     exact .inr ⟨List.mem_cons_self,Nat.le_refl _⟩
    ·exact .inl q
   ·exact .inr ⟨List.mem_cons_of_mem _ q.1,Nat.le_of_succ_le q.2⟩
  ·rcases zrq r n _ e with q|q
   ·exact .inl q
   ·exact .inr ⟨List.mem_cons_of_mem _ q.1,q.2⟩
theorem zqm {x:Str}:∀ (names:List (Str×NameKind)) (n:Nat) (acc:List (Str×Addr)),(x,NameKind.cell) ∉ names->(cellsFrom n names acc).lookup x=acc.lookup x
|[],_,_,_=>rfl
|(y,k) :: r,n,acc,h=>by
  unfold cellsFrom
  split
  ·rename_i hk
   rw [zqm r _ _ λ z=>h (List.mem_cons_of_mem _ z),List.lookup_cons]
   have:(x == y)=false:=by
    refine beq_eq_false_iff_ne.mpr λ e=>h ?_
    rw [e,<- beq_iff_eq.mp hk];exact List.mem_cons_self
   rw [this]
  ·exact zqm r _ _ λ z=>h (List.mem_cons_of_mem _ z)
theorem zuk:∀ (names:List (Str×NameKind)) (n:Nat) (acc:List (Str×Addr)),(∀ x c,acc.lookup x=some c->c < n)->(∀ x y c,acc.lookup x=some c->acc.lookup y=some c->x=y) ->
  ∀ x y c,(cellsFrom n names acc).lookup x=some c->(cellsFrom n names acc).lookup y=some c->x=y
|[],_,_,_,h=>h
|(z,k) :: r,n,acc,hb,h=>by
  unfold cellsFrom
  split
  ·refine zuk r (n+1) _ (λ x c e=>?_) λ x y c e1 e2=>?_
   ·rw [List.lookup_cons] at e
    split at e
    ·cases e;exact Nat.lt_succ_self _
    ·exact Nat.lt_succ_of_lt (hb x c e)
   ·rw [List.lookup_cons] at e1 e2
    by_cases a:(x == z)=true <;> by_cases b:(y == z)=true
    ·rw [beq_iff_eq.mp a,beq_iff_eq.mp b]
    ·rw [a] at e1;rw [Bool.not_eq_true] at b;rw [b] at e2
     cases e1;exact absurd (hb _ _ e2) (Nat.lt_irrefl _)
    ·rw [b] at e2;rw [Bool.not_eq_true] at a;rw [a] at e1
     cases e2;exact absurd (hb _ _ e1) (Nat.lt_irrefl _)
    ·rw [Bool.not_eq_true] at a b;rw [a] at e1;rw [b] at e2
     exact h x y c e1 e2
  ·exact zuk r n acc hb h
theorem zie:∀ (names:List (Str×NameKind)) (h:Heap) (acc:List (Str×Addr)),(∀ x c,acc.lookup x=some c->∃ v,h.IsCell c v) ->
  ∀ x c,(cellsFrom h.objs.size names acc).lookup x=some c->∃ v,(pushCells h names).IsCell c v
|[],_,_,p=>p
|(y,k) :: r,h,acc,p=>by
  unfold cellsFrom pushCells
  split
  ·have q:=zie r (h.push { cls:=.type "cell",data:=.cell none }) ((y,h.objs.size) :: acc) (by
    intro x c e
    rw [List.lookup_cons] at e
    split at e
    ·cases e;exact ⟨none,_,Heap.get?_push_size _ rfl,rfl⟩
    ·obtain ⟨v,z⟩:=p x c e
     exact ⟨v,z.keeps λ b o e=>Heap.get?_push_of_some _ e⟩)
   rwa [Heap.size_push] at q
  ·exact zie r h acc p
theorem zec {x:Str} {k k':NameKind}:∀ {names:List (Str×NameKind)},(names.map (·.1)).Nodup->(x,k)∈names->(x,k')∈names->k=k'
|(y,j) :: r,h,a,b=>by
  obtain ⟨h1,h2⟩:=List.nodup_cons.mp h
  rcases List.mem_cons.mp a with e|a' <;> rcases List.mem_cons.mp b with e'|b'
  ·cases e;cases e';rfl
  ·cases e;exact (h1 (List.mem_map.mpr ⟨_,b',rfl⟩)).elim
  ·cases e';exact (h1 (List.mem_map.mpr ⟨_,a',rfl⟩)).elim
  ·exact zec h2 a' b'
theorem zia {M:Model} {A:Around} {E:Value->Shared->Prop} {s:Shared} {scope:Scope} {globals:Addr} {cl:List (Str×Addr)} {qual:Str} {env:Env} {Q:Env->Shared->Prop}
  (h:Q { scope,locals:=s.heap.objs.size,globals,cells:=cellsFrom (s.heap.objs.size+1) scope.names cl,qual,func:=none,code:=env.code,frame:=env.frame,builtins:=env.builtins } { s with heap:=pushCells (s.heap.push { cls:=.type "dict",data:=.dict #[] }) scope.names }) :
  wpAny M A (newFunctionEnv scope globals cl [] qual none .none (some env)) Q E s:=by
 simp only [newFunctionEnv,Option.isSome_some,if_true]
 refine wpAny_bind (wpAny_alloc ?_)
 refine wpAny_bind (wpAny_layCells _ (λ name kind cells=>by cases hkc:kind == NameKind.cell <;> simp [hkc]) _ _ _ _ ?_)
 rw [show ({ s with heap:=s.heap.push { cls:=.type "dict",data:=.dict #[] } }:Shared).heap.objs.size=s.heap.objs.size+1 from Heap.size_push ..]
 rw [List.forIn_nil]
 exact wpAny_bind (wpAny_pure (wpAny_pure h))
section
variable {prog:Program} {w:World} {A:Around} {R:Result->Shared->Prop} {s:Shared}
theorem zfb {elt target iter:Expr} {ifs:List Expr} {scope:Scope} {pos:Pos} {it acc:Value} {env:Env} (I:Nat->Shared->Prop)
  (turn:∀ n s,I n s->wpAny (model prog w) A (pyNext it) (λ r s₁=>match r with
  |none=>R (.ok .next) s₁
  |some v=>wpAny (model prog w) A (letOwnedTupleGo target it v) (λ _ s₁'=>wpAny (model prog w) A (assign target env v) (λ _ s₂ =>
     wpAny (model prog w) A (forIn ifs true λ c r=>if r=true then do let ok <- isTrue c env (eval c env);pure (ForInStep.yield ok) else pure (ForInStep.yield r)) (λ ok s₃ =>
      if ok=true then wpAny (model prog w) A (eval elt env) (λ x s₄ =>
       wpAny (model prog w) A (call (.builtin "list.append") [acc,x]) (λ _ s₅=>∃ m,m < n/\I m s₅) (notedBy (model prog w) A env λ e s'=>R (.error e) s') s₄) (notedBy (model prog w) A env λ e s'=>R (.error e) s') s₃
      else ∃ m,m < n/\I m s₃) (notedBy (model prog w) A env λ e s'=>R (.error e) s') s₂) (notedBy (model prog w) A env λ e s'=>R (.error e) s') s₁') (notedBy (model prog w) A env λ e s'=>R (.error e) s') s₁) (notedBy (model prog w) A env λ e s'=>R (.error e) s') s)
  (n:Nat) (h:I n s) :
  codeAny (model prog w) A (.compLoop (.ListComp elt [⟨target,iter,ifs,0⟩] scope pos) 0 it acc env) R s:=by
 refine codeAny_loop rfl I (λ n s hI=>?_) n h
 show wpAny _ A ((compTurn (.ListComp elt [⟨target,iter,ifs,0⟩] scope pos) 0 it acc env).onRaise (λ x=>do noteFrame x env;theTreesLotGoes x)) _ _ s
 refine wpAny_noted ?_
 rw [compTurn_list]
 refine wpAny_bind (wpAny_standAt (wpAny_bind (wpAny_mono (turn n s hI) (λ r s₁ h₁=>?_) λ _ _ h'=>h')))
 cases r with
|none=>exact wpAny_pure h₁
|some v =>
  refine wpAny_bind (wpAny_mono h₁ (λ _ s₁' h₁'=>?_) λ _ _ h'=>h')
  refine wpAny_bind (wpAny_mono h₁' (λ _ s₂ h₂=>wpAny_bind (wpAny_mono h₂ (λ ok s₃ h₃=>?_) λ _ _ h'=>h')) λ _ _ h'=>h')
  cases ok with
 |false=>exact wpAny_pure ⟨rfl,h₃⟩
 |true =>
   exact wpAny_bind (wpAny_bind (wpAny_mono h₃ (λ x s₄ h₄=>wpAny_bind (wpAny_mono h₄ (λ _ s₅ h₅=>wpAny_pure (wpAny_pure ⟨rfl,h₅⟩)) λ _ _ h'=>h')) λ _ _ h'=>h'))
end
abbrev zli (X:Cx) (scope:Scope) (C:Addr):List (Str×Addr):=cellsFrom (C+1) scope.names (zs2 X.env scope.names [])
def zi3 (X:Cx) (scope:Scope) (N:List Str) (s₀:Shared) (H₀:Hp) (C:Addr) (fp:List Addr):Cx where
 prog:=X.prog
 w:=X.w
 K:=X.K
 mg:=X.mg
 base:=X.base
 A:=X.A
 N:=N
 s₀:=s₀
 H₀:=H₀
 env:=compEnvC scope (zli X scope C) C X.env
 outer:=X.stack
 stack:=X.stack
 ex:=fp
 fn:=λ x=>decide (scope.names.lookup x=some .cell)
 calm:=X.calm
 pn:=[]
 xe:=λ _ _=>False
def zf9 (N:List Str) (own:List Str) (ix:List Nat):List Str:=own++ix.map λ i=>N.getD i ""
def compσ (n:Nat) (ix:List Nat) (σ:St):St:=List.replicate n none++ix.map λ i=>σ.getD i none
structure CompSc (sc:Scope) (N own:List Str) (ix:List Nat) (scope:Scope):Prop where
 kind:scope.kind=.function
 cell:(scope.names.map (·.1)).Nodup
 names:∀ y∈scope.names,y.2=.local->scope.names.lookup y.1=some .local
 free:∀ y∈scope.names,y.2=.free->sc.names.lookup y.1=some .cell \/ sc.names.lookup y.1=some .free
 caps:∀ i∈ix,i < N.length/\scope.names.lookup (N.getD i "")≠some .local/\scope.names.lookup (N.getD i "")≠some .cell
theorem zs6 {env : Env} {x : Str} : ∀ (names : List (Str × NameKind)),
    ((names.map fun (n, k) => if (k == NameKind.free && env.scope.kind == .function && env.kindOf n == some .cell) then (n, NameKind.cell) else (n, k)).lookup x = some .cell ∨
     (names.map fun (n, k) => if (k == NameKind.free && env.scope.kind == .function && env.kindOf n == some .cell) then (n, NameKind.cell) else (n, k)).lookup x = some .free) → names.lookup x = some .free ∨ names.lookup x = some .cell
  | [], h => by rcases h with h | h <;> cases h
  | (n, k) :: r, h => by
    have ih := zs6 (env := env) (x := x) r
    rw [List.map_cons] at h
    by_cases hx : (x == n) = true
    · rw [List.lookup_cons, hx]
      dsimp only at h ⊢
      by_cases hcc : (k == NameKind.free && env.scope.kind == .function && env.kindOf n == some .cell) = true
      · have : k = .free := by
          have := (Bool.and_eq_true_iff.mp (Bool.and_eq_true_iff.mp hcc).1).1
          exact beq_iff_eq.mp this
        rw [this]; exact .inl rfl
      · rw [if_neg hcc, List.lookup_cons, hx] at h
        exact h.symm
    · have hx' : (x == n) = false := by simpa using hx
      rw [List.lookup_cons, hx']
      refine ih ?_
      by_cases hcc : (k == NameKind.free && env.scope.kind == .function && env.kindOf n == some .cell) = true
      · simp only [hcc, if_true] at h
        rw [List.lookup_cons, hx'] at h
        exact h
      · simp only [hcc, Bool.false_eq_true, if_false] at h
        rw [List.lookup_cons, hx'] at h
        exact h
section
variable {X:Cx} {pins:List (Addr×Obj)} {σ:St} {H H':Hp} {s:Shared}
theorem zvl {scope:Scope} {own:List Str} {ix:List Nat} {fp:List Addr} {h₁:Heap} {m:Str->Option Value} {t':Nat} (I:Inv X pins σ H s) (S:CompSc X.env.scope X.N own ix scope)
  (hns:h₁.Ns s.heap.objs.size m) (kc:∀ x c,(zli X scope s.heap.objs.size).lookup x=some c->∃ v,h₁.IsCell c v) (k:∀ b o,s.heap.get? b=some o->h₁.get? b=some o) (hf:∀ b∈fp,FpOk X pins H b) (hfo:∀ b∈fp,b < s.heap.objs.size) :
  Inv (zi3 X scope (zf9 X.N own ix) s H s.heap.objs.size fp) [] (compσ own.length ix σ) H { s with heap:=h₁,toks:=t' }:=by
 have hcl:∀ x c,(zs2 X.env scope.names []).lookup x=some c->X.env.cells.lookup x=some c:=λ x c e=>zd9 scope.names [] (λ _ _ q=>by cases q) e
 have hcl2:∀ x c,(zli X scope s.heap.objs.size).lookup x=some c->X.env.cells.lookup x=some c \/ s.heap.objs.size+1<=c:=λ x c e=>(zrq _ _ _ e).imp (hcl x c) And.right
 have hfree:∀ x,((relabel scope X.env).names.lookup x=some .cell \/ (relabel scope X.env).names.lookup x=some .free)->scope.names.lookup x=some .free \/ scope.names.lookup x=some .cell:=λ x hx=>zs6 scope.names hx
 have hX:∀ x,scope.names.lookup x=some .free->X.env.kindOf x=some .cell \/ X.env.kindOf x=some .free:=λ x hx=>S.free (x,.free) (PySem.mem_of_lookup hx) rfl
 refine ⟨⟨I.ok.mod,S.kind,I.ok.glob,I.ok.blt,Nat.le_refl _,zuk _ _ _ (λ x c e=>?_) (λ x y c e1 e2=>I.ok.inj x y c (hcl x c e1) (hcl y c e2)),λ x hx=>?_,λ x c z e=>?_,I.ok.hd,I.ok.frames,.inl rfl,λ b hb=>?_,I.bs,Nat.le_trans I.ok.bsz I.sz,λ b o e hb=>?_,λ b hb hs=>?_,I.stack,I.stkFree⟩,
  rfl,I.bare,Un.kept k,⟨m,hns,λ i x v e1 e2 e3=>?_⟩,kc,I.hok.fresh (Nat.le_refl _),λ x c e=>(hcl2 x c e).elim (I.freeC x c) (λ z=>I.hok.fresh (Nat.le_of_succ_le z)),λ p hp=>absurd (show p∈([]:List (Addr×Obj)) from hp) (by simp),I.hok.kept k,?_⟩
 ·obtain ⟨v,z⟩:=I.cell x c (hcl x c e)
  exact Nat.lt_succ_of_lt z.lt
 ·refine Option.isSome_iff_exists.mp (PySem.W.cellsFrom_some _ _ _ ?_)
  rcases hfree x hx with hx1|hx1
  ·exact .inr (Option.isSome_iff_exists.mpr (zu6 scope.names [] (PySem.mem_of_lookup hx1) (I.ok.has x (hX x hx1))))
  ·exact .inl hx1
 ·rcases zrq _ _ _ e with q|q
  ·rcases zv7 _ _ q with q|q
   ·have:=zec S.cell (PySem.mem_of_lookup (of_decide_eq_true z)) q
    cases this
   ·cases q
  ·exact Nat.le_of_succ_le q.2
 ·exact ⟨Nat.ne_of_lt (hfo b hb),λ x c e=>(hcl2 x c e).elim ((hf b hb).2.2.2.2.1 x c) λ z e2=>absurd (Nat.lt_of_lt_of_le (hfo b hb) (Nat.le_of_succ_le (e2 ▸ z))) (Nat.lt_irrefl _)⟩
 ·rcases (hf b hb).2.2.2.1 with z|z
  ·exact I.ok.noex b o e z
  ·exact absurd (Nat.lt_of_lt_of_le (Heap.lt_size e) (Nat.le_trans I.ok.bsz z)) (Nat.lt_irrefl _)
 ·rcases List.mem_cons.mp (I.stkSub b hs) with z|z
  ·exact (hf b hb).2.1 z
  ·exact (hf b hb).2.2.1 z
 ·-- a captured name
  have e2':(List.replicate own.length (none:Option V)++ix.map λ i=>σ.getD i none)[i]?=some (some v):=e2
  have e1':(own++ix.map λ i=>X.N.getD i "")[i]?=some x:=e1
  by_cases hi:i < own.length
  ·rw [List.getElem?_append_left (by simpa using hi),List.getElem?_replicate] at e2'
   split at e2' <;> cases e2'
  ·have hi':own.length<=i:=Nat.le_of_not_lt hi
   rw [List.getElem?_append_right (by simpa using hi'),List.length_replicate,List.getElem?_map] at e2'
   rw [List.getElem?_append_right hi',List.getElem?_map] at e1'
   cases hq:ix[i - own.length]? with
  |none=>rw [hq] at e2';cases e2'
  |some q =>
    rw [hq] at e1' e2'
    have ex:X.N.getD q ""=x:=Option.some.inj e1'
    have ev:σ.getD q none=some v:=Option.some.inj e2'
    obtain ⟨hql,hnl⟩:=S.caps q (List.mem_of_getElem? hq)
    rw [ex] at hnl
    have hnc:=hnl.2
    replace hnl:=hnl.1
    have e3':(relabel scope X.env).names.lookup x=some .local \/ (relabel scope X.env).names.lookup x=some .cell \/ (relabel scope X.env).names.lookup x=some .free:=e3
    have hcf:(relabel scope X.env).names.lookup x=some .cell \/ (relabel scope X.env).names.lookup x=some .free:=by
     rcases e3' with z|z
     ·exfalso
      cases hs:scope.names.lookup x with
     |none =>
       have:∀ (names:List (Str×NameKind)),names.lookup x=none->(names.map λ (n,k)=>if (k == NameKind.free && X.env.scope.kind == .function && X.env.kindOf n == some .cell) then (n,NameKind.cell) else (n,k)).lookup x=none:=by
        intro names
        induction names with
       |nil=>intro _;rfl
       |cons y r ih =>
         obtain ⟨n,kk⟩:=y
         intro hh
         rw [List.lookup_cons] at hh
         by_cases hxn:(x == n)=true
         ·rw [hxn] at hh;cases hh
         ·have hx':(x == n)=false:=by simpa using hxn
          rw [hx'] at hh
          rw [List.map_cons]
          by_cases hcc:(kk == NameKind.free && X.env.scope.kind == .function && X.env.kindOf n == some .cell)=true
          ·simp only [hcc,if_true];rw [List.lookup_cons,hx'];exact ih hh
          ·simp only [hcc,Bool.false_eq_true,if_false];rw [List.lookup_cons,hx'];exact ih hh
       have q0:=this scope.names hs
       have z':(scope.names.map λ (n,k)=>if (k == NameKind.free && X.env.scope.kind == .function && X.env.kindOf n == some .cell) then (n,NameKind.cell) else (n,k)).lookup x=some .local:=z
       rw [q0] at z';cases z'
     |some kk =>
       have:∀ (names:List (Str×NameKind)),names.lookup x=some kk->(names.map λ (n,k)=>if (k == NameKind.free && X.env.scope.kind == .function && X.env.kindOf n == some .cell) then (n,NameKind.cell) else (n,k)).lookup x=some .local->kk=.local:=by
        intro names
        induction names with
       |nil=>intro h;cases h
       |cons y r ih =>
         obtain ⟨n,k2⟩:=y
         intro hh hz
         rw [List.lookup_cons] at hh
         rw [List.map_cons] at hz
         by_cases hxn:(x == n)=true
         ·rw [hxn] at hh
          have hk2:k2=kk:=Option.some.inj hh
          by_cases hcc:(k2 == NameKind.free && X.env.scope.kind == .function && X.env.kindOf n == some .cell)=true
          ·simp only [hcc,if_true] at hz;rw [List.lookup_cons,hxn] at hz;cases hz
          ·simp only [hcc,Bool.false_eq_true,if_false] at hz;rw [List.lookup_cons,hxn] at hz
           rw [<- hk2];exact Option.some.inj hz
         ·have hx':(x == n)=false:=by simpa using hxn
          rw [hx'] at hh
          by_cases hcc:(k2 == NameKind.free && X.env.scope.kind == .function && X.env.kindOf n == some .cell)=true
          ·simp only [hcc,if_true] at hz;rw [List.lookup_cons,hx'] at hz;exact ih hh hz
          ·simp only [hcc,Bool.false_eq_true,if_false] at hz;rw [List.lookup_cons,hx'] at hz;exact ih hh hz
       have:=this scope.names hs z
       rw [this] at hs
       exact hnl hs
     ·exact z
    have hfr:=(hfree x hcf).resolve_right hnc
    have hkX:=hX x hfr
    obtain ⟨mX,hnX,hlX⟩:=I.loc
    have eN:X.N[q]?=some x:=by
     rw [<- ex,List.getD_eq_getElem?_getD]
     rw [List.getElem?_eq_getElem hql];rfl
    have eσ:σ[q]?=some (some v):=by
     rw [List.getD_eq_getElem?_getD] at ev
     cases hs:σ[q]? with
    |none=>rw [hs] at ev;cases ev
    |some o=>rw [hs] at ev;exact congrArg some ev
    obtain ⟨u,r,l⟩:=hlX q x v eN eσ (.inr hkX)
    refine ⟨u,r,.inr ⟨hcf,?_⟩⟩
    rcases l with ⟨hk,_⟩|⟨_,c,ec,hcell⟩
    ·exfalso
     rcases hkX with z|z
     ·rw [hk] at z;cases z
     ·rw [hk] at z;cases z
    ·obtain ⟨c',ec'⟩:=zu6 scope.names [] (PySem.mem_of_lookup hfr) ⟨c,ec⟩
     have:=hcl x c' ec'
     rw [ec] at this
     cases this
     exact ⟨c,(zqm _ _ _ λ z=>by cases zec S.cell z (PySem.mem_of_lookup hfr)).trans ec',hcell.keeps k⟩
 ·show (compσ own.length ix σ).length=(zf9 X.N own ix).length
  unfold compσ zf9
  simp
theorem zkf {scope:Scope} {N:List Str} {pins':List (Addr×Obj)} {σ':St} {fp:List Addr} {s':Shared} {h'':Heap} (I:Inv X pins σ H s) (hf:∀ b∈fp,FpOk X pins H b)
  (I':Inv (zi3 X scope N s H s.heap.objs.size fp) pins' σ' H' s') (sb:Heap.SameBut s.heap.objs.size s'.heap h''):Inv X pins σ H' { s' with heap:=h'' }:=by
 have ext:∀ b o,b≠s.heap.objs.size->s'.heap.get? b=some o->h''.get? b=some o:=λ b o nb e=>by rw [sb.2 b nb];exact e
 have old:∀ b o,s.heap.get? b=some o->b≠s.heap.objs.size:=λ b o e=>Nat.ne_of_lt (Heap.lt_size e)
 have u:=I'.base
 refine I.call' (ch:=fp) I'.os ⟨λ b o e n hb hx=>ext b o (old b o e) (u.keep b o e n hb hx),λ b o e n hb hx=>?_,u.free,λ b o e hx=>?_,u.tups,u.frzs,u.tbls⟩ (λ b ob e=>?_) I'.bare λ b hb=>⟨(hf b hb).2.2.2.1,(hf b hb).2.1,(hf b hb).2.2.2.2.1,(hf b hb).2.2.2.2.2⟩
 ·obtain ⟨sl,q⟩:=u.slot b o e n hb hx
  exact ⟨sl,ext b _ (old b o e) q⟩
 ·obtain ⟨o',q⟩:=u.there b o e hx
  exact ⟨o',ext b _ (old b o e) q⟩
 ·have nC:∀ c v,H' c=some v->c≠s.heap.objs.size:=λ c v q z=>by
   have:=I'.free
   rw [z] at q
   have z2:H' s.heap.objs.size=none:=this
   rw [z2] at q;cases q
  refine (I'.hok b ob e).stay (λ c v hc q=>ext c v ?_ q) (λ _ q=>q) λ _ _ q=>q
  rcases hc with z|z
  ·rw [z];exact nC b ob e
  ·exact nC c _ z
end
def zr01 (n:Nat) (ix:List Nat) (g:TG) (tt:TT) (te:TE) (σ:St) (J:It) (H1:Hp) (Q:VK):Prop:=∀ D,H1 D=none->∃ W:Nat->Nat->List V->St->Hp->Prop,(∃ m,W 0 m [] (compσ n ix σ) (upd H1 D (.lst []))) /\
 ∀ i m acc σ' H',W i m acc σ' H'->(J.stop i H'/\Q (.ref D) H') \/ (J.go i H'/\∃ N:List V->St->Hp->Prop,(∀ acc' σ2 H2,N acc' σ2 H2->∃ m',m' < m/\W (i+1) m' acc' σ2 H2) /\
  ∀ x H2,J.yld i H' x H2->g x σ' H2 λ σ2 H3=>tt σ2 H3 λ b H4=>if b=true then te σ2 H4 λ y H5=>H5 D=some (.lst acc)/\acc.length < sizeLine/\N (acc++[y]) σ2 (upd H5 D (.lst (acc++[y]))) else N acc σ2 H4)
def zuu (wi:TI) (n:Nat) (ix:List Nat) (g:TG) (tt:TT) (te:TE):TE:=λ σ H Q=>wi σ H λ J H1=>zr01 n ix g tt te σ J H1 Q
def ziw:TT:=λ _ H Q=>Q true H
def PIf (X:Cx) (ifs:List Expr) (t:TT):Prop :=
 ∀ (pins:List (Addr×Obj)) (s:Shared) (σ:St) (H:Hp) (Q:Bool->Hp->Prop),Inv X pins σ H s->t σ H Q ->
  wpAny (model X.prog X.w) X.A (forIn ifs true λ c r=>if r=true then do let ok <- isTrue c X.env (eval c X.env);pure (ForInStep.yield ok) else pure (ForInStep.yield r)) (TP X pins σ Q) X.xe s
theorem zk5 {X:Cx}:PIf X [] ziw:=λ pins s σ H Q I h=>wpAny_tests_nil ⟨H,I,h⟩
theorem zjf {X:Cx} {c:Expr} {t:TT} (h:PT X c t):PIf X [c] t:=λ pins s σ H Q I q=>wpAny_tests_one (h pins s σ H Q I q)
section
variable {X:Cx} {tg iter elt:Expr} {ifs:List Expr} {scope:Scope} {pos:Pos} {own:List Str} {ix:List Nat} {wi:TI} {g:TG} {tt:TT} {te:TE} {sc:Scope} {N:List Str}
theorem zr9 {pins:List (Addr×Obj)} {σ:St} {s2:Shared} {itv:Value} {Q:VK} {RR:Value->Addr->Result->Shared->Prop} {E:Value->Shared->Prop} (hc:X.calm=true) (S:CompSc X.env.scope X.N own ix scope)
  (hb:∀ s₀ H₀ C fp,PG (zi3 X scope (zf9 X.N own ix) s₀ H₀ C fp) tg g/\PIf (zi3 X scope (zf9 X.N own ix) s₀ H₀ C fp) ifs tt/\PE (zi3 X scope (zf9 X.N own ix) s₀ H₀ C fp) elt te)
  (h2:PIE X pins σ tg (λ J H1=>zr01 own.length ix g tt te σ J H1 Q) itv s2)
  (hR:∀ (D C:Addr) (m:Str->Option Value) (s':Shared) (H':Hp),s'.heap.Ns C m->C≠X.env.locals->(∀ x c,X.env.cells.lookup x=some c->c≠C)->H' C=none->(X.s₀.heap.objs.size<=C)->(∀ p∈X.pn++pins,p.1≠C) ->
   (∀ h'',Heap.SameBut C s'.heap h''->Inv X pins σ H' { s' with heap:=h'' })->Q (.ref D) H'->RR (.ref D) C (.ok .next) s') :
  wpAny (model X.prog X.w) X.A (newList []) (λ acc s₃=>wpAny (model X.prog X.w) X.A (newFunctionEnv scope X.env.globals (zs2 X.env scope.names []) [] X.env.qual none .none (some X.env)) (λ cenv s₄ =>
   codeAny (model X.prog X.w) X.A (.compStart (.ListComp elt [⟨tg,iter,ifs,0⟩] scope pos) 0 itv acc { cenv with scope:=relabel scope X.env }) (RR acc cenv.locals) s₄) E s₃) E s2:=by
 obtain ⟨it,fp,tn,J,H1,e,I2,T,st2,f2,h⟩:=h2
 subst e
 have hD:H1 s2.heap.objs.size=none:=I2.hok.fresh (Nat.le_refl _)
 obtain ⟨W,⟨m0,w0⟩,turn⟩:=h _ hD
 have hlt:∀ b∈fp,b < s2.heap.objs.size:=λ b hbf=>by obtain ⟨o,e,_⟩:=T.obj 0 _ st2 b hbf;exact Heap.lt_size e
 refine wpAny_newObj_type ?_
 -- the new list is tracked
 have I3:Inv X pins σ (upd H1 s2.heap.objs.size (.lst [])) { s2 with heap:=s2.heap.push { cls:=.type "list",dict:=none,data:=.seq ([]:List Value).toArray } }:=I2.lnew (ys:=[]) (its:=[]) .nil (Nat.zero_le _)
 generalize hs3:({ s2 with heap:=s2.heap.push { cls:=.type "list",dict:=none,data:=.seq ([]:List Value).toArray } }:Shared)=s3 at I3 ⊢
 have hsz:s3.heap.objs.size=s2.heap.objs.size+1:=by rw [<- hs3];exact Heap.size_push ..
 have k3:∀ b o,s2.heap.get? b=some o->s3.heap.get? b=some o:=λ b o e=>by rw [<- hs3];exact Heap.get?_push_of_some _ e
 have neD:∀ b∈fp,b≠s2.heap.objs.size:=λ b hbf=>Nat.ne_of_lt (hlt b hbf)
 have f3:∀ b∈fp,FpOk X pins (upd H1 s2.heap.objs.size (.lst [])) b:=λ b hbf=>⟨by rw [zp0 (neD b hbf)];exact (f2 b hbf).1,(f2 b hbf).2⟩
 have hlt3:∀ b∈fp,b < s3.heap.objs.size:=λ b hbf=>by rw [hsz];exact Nat.lt_succ_of_lt (hlt b hbf)
 refine zia ?_
 have hns₁:=(Heap.Ns.new s3.heap (.type "dict")).keeps (pushCells_keeps scope.names _)
 have k4:∀ b o,s3.heap.get? b=some o->(pushCells (s3.heap.push { cls:=.type "dict",data:=.dict #[] }) scope.names).get? b=some o:=λ b o e=>pushCells_keeps _ _ b o (Heap.get?_push_of_some _ e)
 have hcl:∀ x c,(zs2 X.env scope.names []).lookup x=some c->X.env.cells.lookup x=some c:=λ x c e=>zd9 scope.names [] (λ _ _ q=>by cases q) e
 have kc:=zie scope.names (s3.heap.push { cls:=.type "dict",data:=.dict #[] }) (zs2 X.env scope.names []) (λ x c e=>by
  obtain ⟨v,z⟩:=I3.cell x c (hcl x c e)
  exact ⟨v,z.keeps λ b o e=>Heap.get?_push_of_some _ e⟩)
 rw [Heap.size_push] at kc
 generalize pushCells (s3.heap.push { cls:=.type "dict",data:=.dict #[] }) scope.names=h₁ at hns₁ k4 kc ⊢
 have I4:=zvl (t':=s3.toks) I3 S hns₁ kc k4 f3 hlt3
 obtain ⟨hG,hT,hE⟩:=hb s3 (upd H1 s2.heap.objs.size (.lst [])) s3.heap.objs.size fp
 have fp':∀ {H':Hp},(∀ b∈fp,H' b=none)->∀ b∈fp,FpOk (zi3 X scope (zf9 X.N own ix) s3 (upd H1 s2.heap.objs.size (.lst [])) s3.heap.objs.size fp) [] H' b:=λ {H'} hn b hbf=>by
  refine ⟨hn b hbf,Nat.ne_of_lt (hlt3 b hbf),?_,.inl hbf,λ x c e=>(zrq _ _ _ e).elim (λ q=>(f2 b hbf).2.2.2.2.1 x c (hcl x c q)) (λ q e2=>absurd (Nat.lt_of_lt_of_le (hlt3 b hbf) (Nat.le_of_succ_le (e2 ▸ q.2))) (Nat.lt_irrefl _)),λ p hp=>absurd (show p∈([]:List (Addr×Obj)) from hp) (by simp)⟩
  intro z
  rcases List.mem_cons.mp (I3.stkSub b z) with z|z
  ·exact (f2 b hbf).2.1 z
  ·exact (f2 b hbf).2.2.1 z
 have st4:tn 0 h₁:=T.keep _ _ _ st2 λ b _ o e=>k4 b o (k3 b o e)
 have cne:∀ x c,X.env.cells.lookup x=some c->c≠s3.heap.objs.size:=λ x c e z=>by
  obtain ⟨v,q⟩:=I3.cell x c e
  exact absurd q.lt (by rw [z];exact Nat.lt_irrefl _)
 have loop:codeAny (model X.prog X.w) X.A (.compLoop (.ListComp elt [⟨tg,iter,ifs,0⟩] scope pos) 0 (.ref it) (.ref s2.heap.objs.size) (compEnvC scope (zli X scope s3.heap.objs.size) s3.heap.objs.size X.env)) (RR (.ref s2.heap.objs.size) s3.heap.objs.size) { s3 with heap:=h₁ }:=by
  refine zfb (λ n s'=>∃ i acc σ' H',Inv (zi3 X scope (zf9 X.N own ix) s3 (upd H1 s2.heap.objs.size (.lst [])) s3.heap.objs.size fp) [] σ' H' s'/\tn i s'.heap/\(∀ b∈fp,H' b=none)/\W i n acc σ' H') ?_ m0 ⟨0,[],_,_,I4,st4,λ b hbf=>(f3 b hbf).1,w0⟩
  rintro n s5 ⟨i,acc,σ5,H5,I5,st5,fr5,w5⟩
  rcases turn i n acc σ5 H5 w5 with ⟨stop,qn⟩|⟨go,NN,hN,step⟩
  ·refine thn (T.done (zi3 X scope (zf9 X.N own ix) s3 (upd H1 s2.heap.objs.size (.lst [])) s3.heap.objs.size fp) rfl rfl rfl hc i [] s5 σ5 H5 _ I5 (fp' fr5) st5 stop) λ r s6 ⟨hr,I6⟩=>?_
   subst hr
   obtain ⟨m6,hn6,_⟩:=I6.loc
   exact hR _ _ m6 s6 H5 hn6 (Nat.ne_of_gt I3.lt) cne I6.free (I3.sz) (λ p hp z=>absurd (Heap.lt_size (I3.pin p hp).1) (by rw [z];exact Nat.lt_irrefl _)) (λ h'' sb=>zkf I3 f3 I6 sb) qn
  ·refine thn (T.item (zi3 X scope (zf9 X.N own ix) s3 (upd H1 s2.heap.objs.size (.lst [])) s3.heap.objs.size fp) rfl rfl rfl hc i [] s5 σ5 H5 _ I5 (fp' fr5) st5 go) λ r s6 ⟨u,hr,h6⟩=>?_
   subst hr
   refine thn h6 λ _ s7 ⟨x,H7,I7,r7,y7,st7,fr7⟩=>?_
   have I7':=I7.pinned (fp' fr7) (T.obj _ _ st7)
   have noE:∀ {α:Type} {t:Sem α} {Q1:α->Shared->Prop} {E1:Value->Shared->Prop} {sx:Shared},wpAny (model X.prog X.w) X.A t Q1 (λ _ _=>False) sx->wpAny (model X.prog X.w) X.A t Q1 E1 sx:=λ q=>wpAny_noRaise q
   refine noE (thn (hG _ s7 σ5 H7 x u _ I7' r7 (step x H7 y7)) λ _ s8 ⟨σ8,H8,I8,q8⟩=>?_)
   refine noE (thn (hT _ s8 σ8 H8 _ I8 q8) λ b s9 ⟨H9,I9,q9⟩=>?_)
   have again:∀ {σz:St} {Hz:Hp} {sz:Shared} {accz:List V},Inv (zi3 X scope (zf9 X.N own ix) s3 (upd H1 s2.heap.objs.size (.lst [])) s3.heap.objs.size fp) ([]++zgg fp s7.heap) σz Hz sz->NN accz σz Hz->∃ m,m < n/\∃ i acc σ' H',Inv (zi3 X scope (zf9 X.N own ix) s3 (upd H1 s2.heap.objs.size (.lst [])) s3.heap.objs.size fp) [] σ' H' sz/\tn i sz.heap/\(∀ b∈fp,H' b=none)/\W i m acc σ' H':=λ {σz Hz sz accz} Iz nz=>by
    obtain ⟨m',hm,wz⟩:=hN accz σz Hz nz
    refine ⟨m',hm,i+1,accz,σz,Hz,Iz.unpinned,T.keep _ _ _ st7 λ b hbf o e=>(Iz.pin (b,o) (List.mem_append_right _ (List.mem_append_right _ (zg4 hbf e)))).1,λ b hbf=>?_,wz⟩
    obtain ⟨o,e,d⟩:=T.obj _ _ st7 b hbf
    exact (Iz.pin (b,o) (List.mem_append_right _ (List.mem_append_right _ (zg4 hbf e)))).2.1
   cases b with
  |false =>
    have q9':NN acc σ8 H9:=by simpa using q9
    simp only [Bool.false_eq_true,if_false]
    exact again I9 q9'
  |true =>
    have q9':te σ8 H9 λ y H5=>H5 s2.heap.objs.size=some (.lst acc)/\acc.length < sizeLine/\NN (acc++[y]) σ8 (upd H5 s2.heap.objs.size (.lst (acc++[y]))):=by simpa using q9
    simp only [if_true]
    refine noE (thn (hE _ s9 σ8 H9 _ I9 q9') λ y s10 ⟨yv,H10,I10,r10,hl,hz,q10⟩=>?_)
    refine noE (thn (zq2 _ s10 σ8 H10 (.ref s2.heap.objs.size) [yv] (.ref s2.heap.objs.size) [y] (λ _ H'=>NN (acc++[yv]) σ8 H') I10 rfl (.cons r10 .nil) ⟨_,acc,yv,rfl,rfl,hl,hz,q10⟩) λ _ s11 ⟨_,H11,I11,_,q11⟩=>?_)
    exact again I11 q11
 exact codeAny_compStart_list loop (T.self X.A 0 _ _ _ st4 loop)
theorem zj5 (hc:X.calm=true) (hsc:X.env.scope=sc) (hN:X.N=N) (S:CompSc sc N own ix scope) (hi:PI X tg iter wi)
  (hb:∀ s₀ H₀ C fp,PG (zi3 X scope (zf9 N own ix) s₀ H₀ C fp) tg g/\PIf (zi3 X scope (zf9 N own ix) s₀ H₀ C fp) ifs tt/\PE (zi3 X scope (zf9 N own ix) s₀ H₀ C fp) elt te)
  (hs:∀ x,foldedSetIterable iter X.env x=pure x:=by intro _;rfl):PE X (.ListComp elt [⟨tg,iter,ifs,0⟩] scope pos) (zuu wi own.length ix g tt te):=by
 subst hsc hN
 intro pins s σ H Q I h
 rw [eval_ListComp]
 refine wpAny_comprehension_free (use:=none) (g:=⟨tg,iter,ifs,0⟩) (gs:=[]) rfl hs (zm9 λ y hy hf=>I.ok.has y.1 (S.free y hy hf)) S.kind S.names ?_
 show wpAny _ _ (eval iter X.env) _ _ _
 refine thn (hi pins s σ H _ I h) λ v s1 h1=>thn h1 λ itv s2 h2=>?_
 refine zr9 (Q:=Q) (RR:=λ acc C=>compPost (model X.prog X.w) X.A X.xe none (EP X pins σ Q) acc C) hc S hb h2 ?_
 intro D C m s' H' hns _ _ _ _ _ hI q
 exact ⟨m,hns,λ h'' sb=>⟨.ref D,H',hI h'' sb,rfl,q⟩⟩
theorem zk6 {i:Nat} {x:Str} {pos' pos2:Pos} (hc:X.calm=true) (hsc:X.env.scope=sc) (hN:X.N=N) (S:CompSc sc N own ix scope) (hnd:X.N.Nodup) (hxi:X.N[i]?=some x) (hx:X.env.scope.names.lookup x=some .local) (hi:PI X tg iter wi)
  (hb:∀ s₀ H₀ C fp,PG (zi3 X scope (zf9 N own ix) s₀ H₀ C fp) tg g/\PIf (zi3 X scope (zf9 N own ix) s₀ H₀ C fp) ifs tt/\PE (zi3 X scope (zf9 N own ix) s₀ H₀ C fp) elt te)
  (hsw:swapsWith (.ListComp elt [⟨tg,iter,ifs,0⟩] scope pos) (some (.Name x pos')) pos2.line X.env=pure true:=by rfl)
  (hs:∀ x,foldedSetIterable iter X.env x=pure x:=by intro _;rfl):PS X (.Assign [.Name x pos'] (.ListComp elt [⟨tg,iter,ifs,0⟩] scope pos) pos2) (tAsg (zuu wi own.length ix g tt te) (zni i)):=by
 subst hsc hN
 intro pins s σ H D I h
 rw [exec_Assign_Name_used _ _ _ _ hsw]
 refine wpAny_bind (wpAny_standAt (wpAny_bind ?_))
 show wpAny _ X.A (do let _ <- comprehension (.ListComp elt [⟨tg,iter,ifs,0⟩] scope pos) scope X.env _ (newList []) false (eval iter X.env) (some (assign (.Name x pos') X.env))) _ _ s
 refine wpAny_bind (wpAny_mono (wpAny_comprehension_free (use:=some (assign (.Name x pos') X.env)) (g:=⟨tg,iter,ifs,0⟩) (gs:=[]) (Q:=λ _ s'=>SP X pins D .next s') rfl hs (zm9 λ y hy hf=>I.ok.has y.1 (S.free y hy hf)) S.kind S.names
  (thn (hi pins s σ H _ I h) λ v s1 h1=>thn h1 λ itv s2 h2=>?_)) (λ _ s' hq=>wpAny_pure (wpAny_pure hq)) λ _ _ e=>e)
 refine zr9 (Q:=λ v H1=>zni i v σ H1 D.nx) (RR:=λ acc C=>compPost (model X.prog X.w) X.A X.xe (some (assign (.Name x pos') X.env)) (λ _ s'=>SP X pins D .next s') acc C) hc S hb h2 ?_
 intro L C m s' H' hns nL nC hC hC0 hCp hI q
 show wpAny _ _ (assign (.Name x pos') X.env (.ref L)) _ _ s'
 have I':Inv X pins σ H' s':=hI s'.heap ⟨rfl,λ _ _=>rfl⟩
 refine wpAny_assign_Name (zad I' hnd hxi (.inl hx) (v:=.ref L) rfl (λ s2 I2 hch=>?_) (.inr hx))
 obtain ⟨a,sba,ha⟩:=hch
 have naC:C≠a:=by
  rcases ha with z|z
  ·rw [z];exact nL
  ·exact λ e=>nC x a z e.symm
 refine ⟨m,hns.sameBut sba naC,λ h'' sb=>?_⟩
 refine ⟨_,H',I2.turned (t':=s2.toks) (it:=C) (λ b o nb e=>?_) hC nL (.inr hC0) nC hCp,q⟩
 rw [sb.2 b nb];exact e
end
def zt01 (K:Fg):R2:=λ x y H Q=>rI0 (λ i j=>.int (i+j)) x y H Q \/ (∃ i j,x=.str i/\y=.str j/\i.length+j.length<=sizeLine/\Q (.str (i++j)) H) \/ rCat x y H Q \/ zn11 K x y H Q
def zc11:R2:=λ x y H Q=>rI CMul (λ i j=>.int (i * j)) x y H Q \/ rRep x y H Q
def rSlU (K:Fg):V->Option Int->Option Int->Hp->VK->Prop:=λ x lo hi H Q=>rSlL K x lo hi H Q \/ rSlT K x lo hi H Q
def zz21 (K:Fg) (x:V) (H:Hp) (R:It->Hp->Prop):Prop:=(∃ a,x=.ref a/\(∃ xs,SqL K H a xs)/\R (Itl K a) H) \/ (∃ a,x=.ref a/\(∃ xs,SqT K H a xs)/\R (Itt K a) H)
def rLen (K:Fg):List V->Hp->VK->Prop:=λ xs H Q=>∃ x n,xs=[x]/\LenV K x H n/\Q (.int (n:Nat)) H
def zv31 (xs:List V) (H:Hp) (Q:VK):Prop:=xs.length<=sizeLine/\∀ p,H p=none->Q (.ref p) (upd H p (.tup xs))
def zv21 (xs:List V) (H:Hp) (Q:VK):Prop:=xs.length<=sizeLine/\∀ p,H p=none->Q (.ref p) (upd H p (.lst xs))
def zhv (t:TA):TE:=λ σ H Q=>t σ H λ xs H1=>zv31 xs H1 Q
def zq01 (t:TA):TE:=λ σ H Q=>t σ H λ xs H1=>zv21 xs H1 Q
def zu21 (x:V) (H:Hp) (Q:Option Int->Hp->Prop):Prop:=∃ i,x=.int i/\Q (some i) H
def zzs (t:TE):TO:=λ σ H Q=>t σ H λ x H1=>zu21 x H1 Q
def kFld (K:Fg) (f:Str) (x:V) (H:Hp) (Q:VK):Prop:=∃ a C dx fs v,x=.ref a/\H a=some (.ins C dx fs)/\Cls K C/\NoAttr K C f/\fs.lookup f=some v/\Q v H
def zv11 (K:Fg) (ta:TE) (f:Str):TE:=λ σ H Q=>ta σ H λ x H1=>kFld K f x H1 Q
def kBl (x:V) (H:Hp) (Q:Bool->Hp->Prop):Prop:=∃ k,x=.bl k/\Q k H
def zes (t:TE):TT:=λ σ H Q=>t σ H λ x H'=>kBl x H' Q
def kTru (K:Fg) (x:V) (H:Hp) (Q:Bool->Hp->Prop):Prop:=∃ k,TruV K x H k/\Q k H
def zg01 (K:Fg) (t:TE):TT:=λ σ H Q=>t σ H λ x H'=>kTru K x H' Q
section
variable {X:Cx} {tg:Expr}
theorem zzp {K:Fg} (h:X.K=K):OpR X (binaryOp .Add) (zt01 K):=h ▸ zxw.or (zjg.or (zzx.or zmt))
theorem zwo:OpR X (binaryOp .Mult) zc11:=zbw.or ztr
theorem ix_U {K:Fg} (h:X.K=K):IxR X (rIx K):=h ▸ zlx
theorem sl_U {K:Fg} (h:X.K=K):SlR X (rSlU K):=h ▸ zgp.or zbz
theorem zr2 {K:Fg} (h:X.K=K):CallR X (.builtin "len") (rLen K):=h ▸ zyn
theorem zb2 {es:List Expr} {t:TA} {x1} {pos:Pos} (h:PA X es t):PE X (.Tuple es x1 pos) (zhv t):=zjx h
theorem zv2 {es:List Expr} {t:TA} {pos:Pos} (h:PA X es t):PE X (.List es pos) (zq01 t):=zky h
theorem zv8 {e:Expr} {te:TE} (h:PE X e te):PO X (some e) (zzs te):=zvp h
theorem zp1 {K:Fg} (h:X.K=K) {e:Expr} {f:Str} {pos:Pos} {ta:TE} (he:PE X e ta) (hb:attributeBase e f X.env (eval e X.env)=eval e X.env):PE X (.Attribute e f pos) (zv11 K ta f):=h ▸ zuw he hb
theorem zv0 {a b:Expr} {ta tb:TE} {pos:Pos} {op:CmpOp} {r:R2} (ho:OpR X (compareOp op) r) (ha:PE X a ta) (hb:PE X b tb) (hm:behindInMarks op b=false):PT X (.Compare a [op] [b] pos) (zes (tOp r ta tb)):=zvr ho ha hb hm
theorem zt7 {K:Fg} (h:X.K=K) {a:Expr} {ta:TE} (ha:PE X a ta) (he:∀ whole,isTrue a X.env whole=(do let v <- whole;standAt a.pos;holding [v] (truthy v))):PT X a (zg01 K ta):=h ▸ zkn ha he
def clsV:V->Option Value
|.ty n=>some (.type n)
|.ref a=>some (.ref a)
|_=>none
theorem zsf {cV:V} {c v:Value} (h:clsV cV=some c) (r:RelV cV v):v=c:=by
 cases cV with
|ty n=>cases h;exact r
|ref a=>cases h;exact r
|_=>cases h
def rIsI (K:Fg):List V->Hp->VK->Prop:=λ xs H Q=>∃ x cV c t b,xs=[x,cV]/\clsV cV=some c/\TyOf K H x t/\PySem.W.kitOne K t c=some b/\Q (.bl b) H
theorem zvd {K:Fg} (h:X.K=K):CallR X (.builtin "isinstance") (rIsI K):=by
 subst h
 intro pins s σ H xs us Q I r h
 obtain ⟨x,cV,c,t,b,rfl,rc,ty,e,q⟩:=h
 obtain ⟨u,v,rfl,ru,rv⟩:=r.two
 obtain rfl:=zsf rc rv
 exact zjh I ru ty e λ tk=>⟨.bl b,H,I.tok tk,rfl,q⟩
end
def Def (P:Program) (w:World) (K:Fg) (mg:Str->Option Value) (base:Heap) (x:Str) (k:Nat) (ps:List Str) (sp:Sp):Prop :=
 ∃ f fd,FnOk P w K mg base CX0 k f fd ps sp/\Binds K fd ps []/\PySem.W.keepIn K (.ref f)=true/\mg x=some (.ref f)
def zou (P:Program) (w:World) (K:Fg) (mg:Str->Option Value) (base:Heap) (x:Str) (C:Addr) (k:Nat) (ps:List Str) (sp:Sp):Prop :=
 ∃ f fd,Mk K C f/\FnOk P w K mg base CX0 k f fd ps sp/\Binds K fd ps []/\mg x=some (.ref C)
def MethD (P:Program) (w:World) (K:Fg) (mg:Str->Option Value) (base:Heap) (C:Addr) (m:Str) (k:Nat) (ps:List Str) (sp:Sp):Prop :=
 ∃ f fd,Cls K C/\Meth K C m f/\FnOk P w K mg base CX0 k f fd ps sp/\Binds K fd ps []
section
variable {X:Cx} {k:Nat} {C:Addr} {ps:List Str} {sp:Sp} {x m:Str} {p pos apos:Pos} {e o:Expr} {es:List Expr} {ta:TE} {t:TA}
theorem zo0 (d:Def X.prog X.w X.K X.mg X.base x k ps sp) (hr:Room k X.A) (hg:Gl X x) (ha:PA X (e :: es) t) (hdb:(x == ("__debug__":Str))=false:=by decide)
  (he:starEach (e :: es) X.env=(false,eval e X.env) :: starEach es X.env:=by rfl) (hpl:(backTo pos (starEach es X.env)).any (·.1)=false:=by rfl):PE X (.Call (.Name x p) (e :: es) [] pos) (zwq sp [] E0 t):=by
 obtain ⟨f,fd,F,b,kp,m⟩:=d
 exact zfk F hr hg m kp b .nil zep ha hdb he hpl
theorem zdl (d:zou X.prog X.w X.K X.mg X.base x C k ps sp) (hr:Room (k+1) X.A) (hg:Gl X x) (ha:PA X (e :: es) t) (hdb:(x == ("__debug__":Str))=false:=by decide)
  (he:starEach (e :: es) X.env=(false,eval e X.env) :: starEach es X.env:=by rfl) (hpl:(backTo pos (starEach es X.env)).any (·.1)=false:=by rfl):PE X (.Call (.Name x p) (e :: es) [] pos) (zdz C sp [] E0 t):=by
 obtain ⟨f,fd,M,F,b,m⟩:=d
 exact ztp M F hr hg m b .nil zep ha hdb he hpl
theorem zy2 {pl:Sem Bool} (d:MethD X.prog X.w X.K X.mg X.base C m k ps sp) (hr:Room k X.A) (he:PE X o ta) (ha:PA X (e :: es) t)
  (hst:starEach (e :: es) X.env=(false,eval e X.env) :: starEach es X.env:=by rfl) (hpl:(backTo pos (starEach es X.env)).any (·.1)=false:=by rfl)
  (ht:eval (.Call (.Attribute o m apos) (e :: es) [] pos) X.env=(do
   let ov <- eval o X.env
   standAt apos.atName
   let (f,first) <- holding [ov] (getMethod ov m pl)
   callWith pos f first (backTo pos (starEach (e :: es) X.env)) (backToKw pos (keywordEach [] X.env))):=by rfl) :
  PE X (.Call (.Attribute o m apos) (e :: es) [] pos) (zeo C m sp [] E0 ta t):=by
 obtain ⟨f,fd,c,M,F,b⟩:=d
 exact zcq he c M F hr b .nil zep ha hst hpl ht
end
theorem zo1 {H:Hp} {p:Addr} (h:H p=none) (o:HO):Same H (upd H p o):=λ b u q=>by rw [zp0 (zn2 q h)];exact q
theorem zfh {K:Fg} {H H':Hp} {a:Addr} {xs:List V} (e:Same H H') (h:SqT K H a xs):SqT K H' a xs:=by
 rcases h with (h|⟨o,h⟩)|h
 ·exact .inl (.inl (e _ _ h))
 ·exact .inl (.inr ⟨o,e _ _ h⟩)
 ·exact .inr h
section
variable {K:Fg} {σ:St} {H:Hp} {Q:VK} {D:Ends} {a b p:Addr} {i j k:Int} {x y v:V} {xs ys:List V} {ta tb te:TE} {t u:TS} {tA:TA} {tt tt':TT} {A B:Prop}
theorem zp31 (h:SqT K H a xs) (e:atI xs i=some v) (q:Q v H):rIx K (.ref a) (.int i) H Q:=.inr (.inl ⟨a,xs,i,v,rfl,rfl,h,e,q⟩)
end
theorem zyb:bootBuiltins "len"=some (.builtin "len"):=by decide +kernel
theorem zps:bootBuiltins "min"=some (.builtin "min"):=by decide +kernel
theorem zd3:bootBuiltins "isinstance"=some (.builtin "isinstance"):=by decide +kernel
theorem zyx:bootBuiltins "int"=some (.type "int"):=by decide +kernel
theorem zot:bootBuiltins "bool"=some (.type "bool"):=by decide +kernel
theorem zfa:bootBuiltins "list"=some (.type "list"):=by decide +kernel
structure Md (K:Fg) (mg:Str->Option Value):Prop where
 ex:∃ h:Heap,K.In h/\h.Ns mainGlobals mg
theorem Md.got {K:Fg} {mg:Str->Option Value} (M:Md K mg) {x:Str} {v:Value} (e:PySem.W.nsIn K mainGlobals x=some (some v)):mg x=some v:=let ⟨_,X,G⟩:=M.ex;PySem.W.mg_of X G e
theorem Md.not {K:Fg} {mg:Str->Option Value} (M:Md K mg) {x:Str} (e:PySem.W.nsIn K mainGlobals x=some none):mg x=none:=let ⟨_,X,G⟩:=M.ex;PySem.W.mg_none_of X G e
structure TopDef (K:Fg) (x:Str) (st:Stmt):Prop where
 ex:∃ f fd,PySem.W.nsIn K mainGlobals x=some (some (.ref f))/\Fun K x x st f fd
theorem zmh {K:Fg} {x:Str} {st:Stmt} {f:Addr} {oc:Value} {od an:Option Addr} {osl:Array (Option Value)} {kV doc pm cdv ct:Value} (a:PySem.W.nsIn K mainGlobals x=some (some (.ref f)))
  (l:K.lookup f=some ⟨oc,od,.func (PySem.W.fnOf x x (zr3 st) (zs1 st) (zf0 st) .none kV doc pm an cdv ct),osl⟩) (c:PySem.W.codeIn K cdv x=true) (k:PySem.W.keepIn K (.ref f)=true):TopDef K x st:=⟨⟨_,_,a,zoq l c k⟩⟩
structure TopMeth (K:Fg) (C:Addr) (m qual:Str) (st:Stmt):Prop where
 ex:∃ f fd,PySem.W.findIn K (.ref C) m=some (some (.ref f))/\PySem.W.isFn K (.ref f)=true/\Fun K m qual st f fd
theorem zef {K:Fg} {C:Addr} {x qual:Str} {st:Stmt} {f:Addr} {oc:Value} {od an:Option Addr} {osl:Array (Option Value)} {kV doc pm cdv ct:Value} (a:PySem.W.findIn K (.ref C) x=some (some (.ref f))) (i:PySem.W.isFn K (.ref f)=true)
  (l:K.lookup f=some ⟨oc,od,.func (PySem.W.fnOf x qual (zr3 st) (zs1 st) (zf0 st) .none kV doc pm an cdv ct),osl⟩) (c:PySem.W.codeIn K cdv qual=true) (k:PySem.W.keepIn K (.ref f)=true):TopMeth K C x qual st:=⟨⟨_,_,a,i,zoq l c k⟩⟩
structure TopCls (K:Fg) (x:Str) (C:Addr):Prop where
 at_:PySem.W.nsIn K mainGlobals x=some (some (.ref C))
 cls:Cls K C
 mkk:PySem.W.makesIn K C=true
 kp:PySem.W.keepIn K (.ref C)=true
theorem zyi {K:Fg} {x:Str} {C:Addr} (a:PySem.W.nsIn K mainGlobals x=some (some (.ref C))) (pg:PySem.W.plainGet K C Str.empty=true) (hd:PySem.W.hasDictIn K C=true) (po:PySem.W.plainOver K C=true)
  (sa:PySem.W.findIn K (.ref C) "__setattr__"=some (some (.builtin "object.__setattr__"))) (mk:PySem.W.makesIn K C=true) (kc:PySem.W.keepIn K (.ref C)=true):TopCls K x C:=⟨a,⟨pg,hd,po,sa⟩,mk,kc⟩
section
variable {P:Program} {w:World} {K:Fg} {mg:Str->Option Value} {base:Heap}
abbrev ze6 (x qual:Str) (st:Stmt) (ps:List Str):Prop :=
 ∀ (kV doc pm:Value) (an:Option Addr) (cdv ct:Value) (us:List Value),us.length=ps.length->bindArgs (PySem.W.fnOf x qual (zr3 st) (zs1 st) (zf0 st) .none kV doc pm an cdv ct) ⟨us,[]⟩=pure (ps.zip us)
abbrev zw3 (P:Program) (w:World) (K:Fg) (mg:Str->Option Value) (base:Heap) (qual:Str) (st:Stmt) (N:List Str) (k:Nat) (sp:Sp):Prop :=
 ∀ (f:Addr) (cdv:Value) (A:Around) (outer:List Env) (s:Shared) (H:Hp) (vs:List V) (Q:VK) (E:XK),Room k (A.deeper (envOfC qual (zf0 st) s.heap.objs.size f cdv))->sp vs H Q E ->
   ∃ t,PSs (cxOf CX0 P w K mg base N qual (zf0 st) f cdv A outer s H E).nox (zs1 st) t/\t { nx:=λ _ H'=>Q .non H',rt:=Q } (start N vs) H
theorem zo5 {x:Str} {st:Stmt} {N ps:List Str} {k:Nat} {sp:Sp} (M:Md K mg) (T:TopDef K x st) (S:FnScope N ps (zf0 st)) (hb:ze6 x x st ps) (len:∀ vs H Q E,sp vs H Q E->vs.length=ps.length)
  (body:zw3 P w K mg base x st N k sp):Def P w K mg base x (k+1) ps sp:=by
 obtain ⟨f,fd,a,F⟩:=T.ex
 exact ⟨f,fd,F.ok S len (λ cdv A outer s H vs Q E hr h=>body f cdv A outer s H vs Q E hr h),F.binds hb,F.kp,M.got a⟩
theorem zz5 {C:Addr} {m qual:Str} {st:Stmt} {N ps:List Str} {k:Nat} {sp:Sp} (c:Cls K C) (T:TopMeth K C m qual st) (S:FnScope N ps (zf0 st)) (hb:ze6 m qual st ps) (len:∀ vs H Q E,sp vs H Q E->vs.length=ps.length)
  (body:zw3 P w K mg base qual st N k sp):MethD P w K mg base C m (k+1) ps sp:=by
 obtain ⟨f,fd,a,i,F⟩:=T.ex
 exact ⟨f,fd,c,⟨a,i,F.kp⟩,F.ok S len (λ cdv A outer s H vs Q E hr h=>body f cdv A outer s H vs Q E hr h),F.binds hb⟩
theorem zjs {x qual:Str} {C:Addr} {st:Stmt} {N ps:List Str} {k:Nat} {sp:Sp} (M:Md K mg) (c:TopCls K x C) (T:TopMeth K C "__init__" qual st) (S:FnScope N ps (zf0 st)) (hb:ze6 "__init__" qual st ps)
  (len:∀ vs H Q E,sp vs H Q E->vs.length=ps.length) (body:zw3 P w K mg base qual st N k sp):zou P w K mg base x C (k+1) ps sp:=by
 obtain ⟨f,fd,a,i,F⟩:=T.ex
 exact ⟨f,fd,⟨c.mkk,a,i,c.kp⟩,F.ok S len (λ cdv A outer s H vs Q E hr h=>body f cdv A outer s H vs Q E hr h),F.binds hb,M.got c.at_⟩
theorem zov {st:Stmt} {N:List Str} {k:Nat} {sp:Sp} {fa:Addr} (M:Md K mg) (T:TopDef K "law" st) (hfa:mg "law"=some (.ref fa)) (S:FnScope N ["script"] (zf0 st)) (hb:ze6 "law" "law" st ["script"]) (len:∀ vs H Q E,sp vs H Q E->vs.length=1)
  (body:∀ base:Heap,K.In base->base.Ns mainGlobals mg->zw3 P w K mg base "law" st N k sp) :
  ∃ fd:FuncData,(∀ (s:Shared) (v:Value),BindsTo s fd ⟨[v],[]⟩ [("script",v)])/\∀ base:Heap,K.In base->base.Ns mainGlobals mg->FnOk P w K mg base CX0 (k+1) fa fd ["script"] sp:=by
 obtain ⟨f,fd,a,F⟩:=T.ex
 have e:=hfa.symm.trans (M.got a)
 cases e
 obtain ⟨oc,od,kV,doc,pm,an,cdv,ct,osl,e1,lk,hcd⟩:=id F.ex
 refine ⟨fd,λ s v=>.of_eq ?_,λ base kb nb=>F.ok S len λ cdv A outer s H vs Q E hr h=>body base kb nb fa cdv A outer s H vs Q E hr h⟩
 rw [e1]
 exact hb kV doc pm an cdv ct [v] rfl
end
section
variable {K:Fg} {a D:Addr} {xs:List V} {Q:VK} {σ:St} {H:Hp} {n:Nat} {ix:List Nat} {g:TG} {tt:TT} {te:TE}
end
def zcu:PyData->Bool
|.int _=>true
|.str _=>true
|_=>false
mutual
inductive Is (K:Fg) (H:Hp):V->PyData->Prop
|non:Is K H .non .none
|bl (b:Bool):Is K H (.bl b) (.bool b)
|int (i:Int):Is K H (.int i) (.int i)
|str (x:Str):Is K H (.str x) (.str x)
|lst {a:Addr} {xs:List V} {ds:List PyData}:SqL K H a xs->IsAll K H xs ds->Is K H (.ref a) (.list ds)
|tup {a:Addr} {xs:List V} {ds:List PyData}:H a=some (.tup xs)->IsAll K H xs ds->Is K H (.ref a) (.tuple ds)
|tuc {a:Addr} {xs:List V} {ds:List PyData}:SqT K H a xs->IsAll K H xs ds->ds.all zcu=false->Is K H (.ref a) (.tuple ds)
inductive IsAll (K:Fg) (H:Hp):List V->List PyData->Prop
|nil:IsAll K H [] []
|cons {x:V} {d:PyData} {xs:List V} {ds:List PyData}:Is K H x d->IsAll K H xs ds->IsAll K H (x :: xs) (d :: ds)
end
mutual
theorem Is.mono {K:Fg} {H H':Hp} (s:Same H H'):∀ {v:V} {d:PyData},Is K H v d->Is K H' v d
|_,_,.non=>.non
|_,_,.bl b=>.bl b
|_,_,.int i=>.int i
|_,_,.str x=>.str x
|_,_,.lst h r=>.lst (s.seq h) (IsAll.mono s r)
|_,_,.tup h r=>.tup (s _ _ h) (IsAll.mono s r)
|_,_,.tuc h r n=>.tuc (zfh s h) (IsAll.mono s r) n
theorem IsAll.mono {K:Fg} {H H':Hp} (s:Same H H'):∀ {v:List V} {d:List PyData},IsAll K H v d->IsAll K H' v d
|_,_,.nil=>.nil
|_,_,.cons h r=>.cons (Is.mono s h) (IsAll.mono s r)
end
section
variable {X:Cx} {pins:List (Addr×Obj)} {σ:St} {H:Hp} {s:Shared}
mutual
theorem zq6 (I:Inv X pins σ H s):∀ {v:V} {d:PyData} {u:Value},Is X.K H v d->RelV v u->∃ as,Reads s.heap u d as
|_,_,_,.non,r=>by cases r;exact ⟨_,.none⟩
|_,_,_,.bl b,r=>by cases r;exact ⟨_,.bool b⟩
|_,_,_,.int i,r=>by obtain ⟨t,rfl⟩:=r;exact ⟨_,.int i t⟩
|_,_,_,.str x,r=>by obtain ⟨t,rfl⟩:=r;exact ⟨_,.str x t⟩
|_,_,_,.lst h q,r=>by
  cases r
  obtain ⟨its,rv,p,_⟩:=I.list h
  obtain ⟨as,z⟩:=zm3 I q rv
  obtain ⟨o,ho,hc,n,hd⟩:=p.isList
  exact ⟨_,.list ho hc hd (by simpa using z)⟩
|_,_,_,.tup h q,r=>by
  cases r
  obtain ⟨its,rv,p,_⟩:=I.tuple (SqT.of h)
  obtain ⟨as,z⟩:=zm3 I q rv
  obtain ⟨o,ho,hc,n,hd⟩:=(show s.heap.IsTuple _ its.toArray from p)
  exact ⟨_,.tuple ho hc hd (by simpa using z)⟩
|_,_,_,.tuc h q _,r=>by
  cases r
  obtain ⟨its,rv,p,_⟩:=I.tuple h
  obtain ⟨as,z⟩:=zm3 I q rv
  obtain ⟨o,ho,hc,n,hd⟩:=(show s.heap.IsTuple _ its.toArray from p)
  exact ⟨_,.tuple ho hc hd (by simpa using z)⟩
theorem zm3 (I:Inv X pins σ H s):∀ {v:List V} {d:List PyData} {u:List Value},IsAll X.K H v d->Vals v u->∃ as,ReadsAll s.heap u d as
|_,_,_,.nil,r=>by cases r;exact ⟨_,.nil⟩
|_,_,_,.cons h q,r=>by
  cases r with
 |cons r1 r2 =>
   obtain ⟨as,z⟩:=zq6 I h r1
   obtain ⟨bs,y⟩:=zm3 I q r2
   exact ⟨_,.cons z y⟩
end
end
def rEqU (K:Fg):R2:=λ x y H Q=>rEq x y H Q \/ (∃ d e,Is K H x d/\Is K H y e/\SeqAt.shaped d=true/\SeqAt.shaped e=true/\Q (.bl (PyData.eqv d e)) H)
def rNeU (K:Fg):R2:=λ x y H Q=>rNe x y H Q \/ (∃ d e,Is K H x d/\Is K H y e/\SeqAt.shaped d=true/\SeqAt.shaped e=true/\Q (.bl (!PyData.eqv d e)) H)
section
variable {X:Cx}
theorem zc7 {K:Fg} (h:X.K=K) (hu:X.A.units+64 < cLine):OpR X (compareOp .Eq) (rEqU K):=by
 subst h
 refine za21.or ?_
 intro pins s σ H x y v u Q I rx ry q
 obtain ⟨d,e,hd,he,sd,se,q⟩:=q
 obtain ⟨as,r1⟩:=zq6 I hd rx
 obtain ⟨bs,r2⟩:=zq6 I he ry
 exact eq_dataH r1 r2 sd se hu ⟨.bl _,H,I,rfl,q⟩
theorem zul {K:Fg} (h:X.K=K) (hu:X.A.units+64 < cLine):OpR X (compareOp .NotEq) (rNeU K):=by
 subst h
 refine zd21.or ?_
 intro pins s σ H x y v u Q I rx ry q
 obtain ⟨d,e,hd,he,sd,se,q⟩:=q
 obtain ⟨as,r1⟩:=zq6 I hd rx
 obtain ⟨bs,r2⟩:=zq6 I he ry
 exact ne_dataH r1 r2 sd se hu ⟨.bl _,H,I,rfl,q⟩
end
section
variable {K:Fg} {σ:St} {H:Hp} {Q:VK} {x y:V} {ta:TE} {tA:TA}
end
end L3
namespace L3
open PySem PySem.Builtin PySem.Builtin.Str PySem.StrLaws
end L3
namespace L3
open PySem PySem.Spec PyProof.Rows L2
section
variable {X:Cx}
def Its (z:Str):It:=⟨λ i _=>i < z.cps.size,λ i H x H'=>H'=H/\∃ c,z.cps[i]?=some c/\x=.str ⟨#[c]⟩,λ i _=>z.cps.size<=i⟩
theorem zam {P:Program} {w:World} {K:Fg} {tg:Expr} (z:Str) (t:Tok) (it:Addr):Turn P w K tg (Its z) [it] it (λ i h=>h.IsStrIter it "str_ascii_iterator" z t i) where
 mem:=by simp
 obj:=λ i h st b hb=>by
  have e:b=it:=by simpa using hb
  subst e
  obtain ⟨o,e,c,d⟩:=st
  exact ⟨o,e,λ v z=>by rw [d] at z;cases z⟩
 keep:=λ i h h' st k=>by
  obtain ⟨o,e,c,d⟩:=st
  exact ⟨o,k it (by simp) o e,c,d⟩
 item:=by
  intro X hP hw hK hc i pins s σ H E I hf st hg
  subst hP hw hK
  have hg':i < z.cps.size:=hg
  obtain ⟨f0,f1,f2,f3,f4,f5⟩:=hf it (by simp)
  have hx:z.cps[i]?=some z.cps[i]:=by simp [hg']
  refine wpAny_pyNext_ascii_item st hx λ h' st' sb=>?_
  have I1:Inv X pins σ H { s with heap:=h',toks:=s.toks+1 }:=I.turned (t':=s.toks+1) (λ b o hb e=>(sb.2 b hb).trans e) f0 f1 f3 f4 f5
  obtain ⟨o,e,c,d⟩:=id st'
  exact ⟨_,rfl,zxu (s:={ s with heap:=h',toks:=s.toks+1 }) e c d (by decide) ⟨.str ⟨#[z.cps[i]]⟩,H,I1,⟨_,rfl⟩,⟨rfl,_,hx,rfl⟩,st',λ b hb=>(hf b hb).1⟩⟩
 done:=by
  intro X hP hw hK hc i pins s σ H E I hf st hg
  subst hP hw hK
  have hg':z.cps.size<=i:=hg
  obtain ⟨f0,f1,f2,f3,f4,f5⟩:=hf it (by simp)
  have hx:z.cps[i]?=none:=by simp [hg']
  exact wpAny_pyNext_ascii_end (I.ok.hd hc) st hx λ h' eb=>⟨rfl,I.turned (t':=s.toks) (λ b o hb e=>eb b o hb e) f0 f1 f3 f4 f5⟩
 self:=λ A i s Q E st h=>wpAny_pyIter_striter_ascii st h
def rInU (K:Fg):R2:=λ x y H Q=>rIn K false x y H Q \/ ∃ c z,x=.str ⟨#[c]⟩/\y=.str z/\Q (.bl (decide (c∈z.cps.toList))) H
def zmj (K:Fg):R2:=λ x y H Q=>rIn K true x y H Q \/ ∃ c z,x=.str ⟨#[c]⟩/\y=.str z/\Q (.bl (!decide (c∈z.cps.toList))) H
theorem zqx {K:Fg} (hK:X.K=K):OpR X (compareOp .In) (rInU K):=by
 subst hK
 refine zij.or ?_
 intro pins s σ H x y v u Q I rx ry h
 obtain ⟨c,z,rfl,rfl,q⟩:=h
 exact zri pins s σ H _ _ v u Q I rx ry ⟨_,_,rfl,rfl,by rw [StrLaws.found_one];exact q⟩
theorem zvi {K:Fg} (hK:X.K=K):OpR X (compareOp .NotIn) (zmj K):=by
 subst hK
 refine zlc.or ?_
 intro pins s σ H x y v u Q I rx ry h
 obtain ⟨c,z,rfl,rfl,q⟩:=h
 exact zjb pins s σ H _ _ v u Q I rx ry ⟨_,_,rfl,rfl,by rw [StrLaws.found_one];exact q⟩
end
def CX1 (P:Program) (w:World):CXT:=λ outer H s E e s'=>∃ (ea C:Addr) (B:Heap) (a0:Value) (H':Hp),e=.ref ea/\Heap.FlyingW B outer ea (.ref C) a0 s'.heap/\s'.os=s.os/\AllBare s'.gens/\Un (frs outer) [] H H' s.heap s'.heap/\HOk P w H' s'.heap /\
 (∀ b o u,s'.heap.get? b=some o->H' b=some u->B.get? b=some o)/\(∀ b o,s.heap.get? b=some o->H b=none->b ∉ frs outer->B.get? b=some o)/\(∀ b o,s.heap.get? b=some o->b ∉ frs outer->∃ o',B.get? b=some o')/\E (.ref C) none H'
section
variable {P:Program} {w:World} {K:Fg} {mg:Str->Option Value} {base:Heap} {N:List Str} {qual:Str} {scope:Scope} {f:Addr} {cd:Value} {A:Around} {outer:List Env} {s:Shared} {H:Hp} {E:XK}
end
structure Come (X:Cx) (H:Hp) (s:Shared) (ea C:Addr) (B:Heap) (a0:Value) (H':Hp) (s':Shared):Prop where
 os:s'.os=s.os
 bare:AllBare s'.gens
 un:Un (frs X.stack) [] H H' s.heap s'.heap
 hok:HOk X.prog X.w H' s'.heap
 b1:∀ b o u,s'.heap.get? b=some o->H' b=some u->B.get? b=some o
 b2:∀ b o,s.heap.get? b=some o->H b=none->b ∉ frs X.stack->B.get? b=some o
 b3:∀ b o,s.heap.get? b=some o->b ∉ frs X.stack->∃ o',B.get? b=some o'
section
variable {X:Cx} {pins:List (Addr×Obj)} {σ:St} {H H':Hp} {s s':Shared} {ea C:Addr} {B:Heap} {a0:Value}
def zq11 (X:Cx) (ea:Addr):Cx:={ X with A:=X.A.mark (some (.ref ea)),calm:=false,xe:=λ _ _=>False }
end
inductive Hands (X:Cx):List ExceptHandler->List (Value×TS)->Prop
|nil:Hands X [] []
|cons {x:Str} {np pos:Pos} {b₀:Stmt} {suite:List Stmt} {c:Value} {t:TS} {hs:List ExceptHandler} {l:List (Value×TS)}:Gl X x->(X.mg x=some c \/ (X.mg x=none/\bootBuiltins x=some c/\x ≠ "__name__"))->(x == ("__debug__":Str))=false->(∀ ea,PSs (zq11 X ea) (b₀ :: suite) t)->Hands X hs l ->
   Hands X (.ExceptHandler (some (.Name x np)) none (b₀ :: suite) pos :: hs) ((c,t) :: l)
section
variable {X:Cx} {pins:List (Addr×Obj)} {σ:St} {H H':Hp} {s s':Shared} {ea C:Addr} {B:Heap} {a0:Value}
end
section
variable {X:Cx} {pins:List (Addr×Obj)} {σ:St} {H:Hp} {s:Shared}
end
def Def1 (P:Program) (w:World) (K:Fg) (mg:Str->Option Value) (base:Heap) (x:Str) (k:Nat) (ps:List Str) (sp:Sp):Prop :=
 ∃ f fd,FnOk P w K mg base (CX1 P w) k f fd ps sp/\Binds K fd ps []/\PySem.W.keepIn K (.ref f)=true/\mg x=some (.ref f)
def zc21 (P:Program) (w:World) (K:Fg) (mg:Str->Option Value) (base:Heap) (C:Addr) (m:Str) (k:Nat) (ps:List Str) (sp:Sp):Prop :=
 ∃ f fd,Cls K C/\Meth K C m f/\FnOk P w K mg base (CX1 P w) k f fd ps sp/\Binds K fd ps []
section
variable {X:Cx} {k:Nat} {f C:Addr} {fd:FuncData} {ps:List Str} {sp:Sp} {x m:Str} {p pos apos:Pos} {e o:Expr} {es:List Expr} {ta:TE} {t:TA} {Eσ:St->XK}
end
section
variable {P:Program} {w:World} {K:Fg} {mg:Str->Option Value} {base:Heap}
theorem zvj {CX:CXT} {k:Nat} {f:Addr} {fd:FuncData} {ps:List Str} {sp:Sp} (F:FnOk P w K mg base CX0 k f fd ps sp):FnOk P w K mg base CX k f fd ps sp:=by
 refine ⟨F.len,λ A outer s H args us vs Q E hr e0 hb r hsp=>codeAny_mono (F.run A outer s H args us vs Q E hr e0 hb r hsp) λ res s2 hq=>?_⟩
 cases res with
|error z=>exact False.elim hq
|ok fl=>cases fl <;> exact hq
theorem Def.up {x:Str} {k:Nat} {ps:List Str} {sp:Sp} (d:Def P w K mg base x k ps sp):Def1 P w K mg base x k ps sp:=by
 obtain ⟨f,fd,F,b,kp,m⟩:=d
 exact ⟨f,fd,zvj F,b,kp,m⟩
theorem MethD.up {C:Addr} {m:Str} {k:Nat} {ps:List Str} {sp:Sp} (d:MethD P w K mg base C m k ps sp):zc21 P w K mg base C m k ps sp:=by
 obtain ⟨f,fd,c,m,F,b⟩:=d
 exact ⟨f,fd,c,m,zvj F,b⟩
end
section
variable {X:Cx}
def repS (x:Str) (n:Nat):Str:=⟨(List.replicate n x.cps).foldl (·++·) #[]⟩
theorem zkl (c:List (Array Nat)):∀ a:Array Nat,c.foldl (·++·) a=a++(c.map Array.toList).flatten.toArray:=by
 induction c with
|nil=>intro a;simp
|cons y r ih=>intro a;rw [List.foldl_cons,ih,Array.append_assoc];congr 1;apply Array.toList_inj.mp;simp
theorem zyk (x:Str) (n:Nat):(repS x n).cps.toList=(List.replicate n x.cps.toList).flatten:=by
 unfold repS
 rw [zkl]
 simp
def zn01:R2:=λ x y H Q=>∃ z n,x=.str z/\y=.int n/\0<=n/\z.length * n.toNat<=sizeLine/\n<=sizeLine/\Q (.str (repS z n.toNat)) H
theorem zos:OpR X (binaryOp .Mult) zn01:=by
 intro pins s σ H x y v u Q I rx ry h
 obtain ⟨z,n,rfl,rfl,h1,h2,h3,q⟩:=h
 obtain ⟨t,rfl⟩:=rx
 obtain ⟨t',rfl⟩:=ry
 have hl:sizeLine=16777216:=sizeLine_eq
 have hz:z.length=z.cps.size:=rfl
 by_cases n0:n=0
 ·subst n0
  refine P.mul_str (by rw [decide_eq_false (by lia),decide_eq_false (by lia)];rfl) (λ a b hc=>?_) (λ a b=>?_) ?_
  ·exact absurd a (by decide)
  ·exact decide_eq_false (by simp)
  ·rw [if_pos (by decide)]
   exact ⟨by decide,.str (repS z 0),H,I.tok _,⟨_,rfl⟩,q⟩
 have h1:0 < n:=by lia
 refine P.mul_str (by rw [decide_eq_false (by lia),decide_eq_false (by lia)];rfl) (λ _ _ hc=>?_) (λ _ _=>?_) ?_
 ·have h4:(2 ^ 63 - 1:Int) / n ≥ z.length:=by
   refine (Int.le_ediv_iff_mul_le h1).mpr ?_
   have h5:((z.length * n.toNat:Nat):Int)=(z.length:Int) * n:=by rw [Int.natCast_mul,Int.toNat_of_nonneg (by lia)]
   have h6:((z.length * n.toNat:Nat):Int)<=(sizeLine:Nat):=by exact_mod_cast h2
   lia
  lia
 ·exact decide_eq_false (by lia)
 ·rw [if_neg (by lia)]
  by_cases hc:(n == 1 || z.length == 0)=true
  ·rw [if_pos hc]
   refine ⟨.str (repS z n.toNat),H,I,⟨t,?_⟩,q⟩
   have:repS z n.toNat=z:=by
    have e:(repS z n.toNat).cps.toList=z.cps.toList:=by
     rw [zyk]
     rcases (Bool.or_eq_true _ _).mp hc with hc|hc
     ·have:n=1:=by simpa using hc
      subst this;simp
     ·have:z.cps.toList=[]:=by
       have:z.cps.size=0:=by simpa [hz] using hc
       simpa using this
      rw [this];simp
    cases z with|mk c =>
     show repS ⟨c⟩ n.toNat=⟨c⟩
     have e2:(repS ⟨c⟩ n.toNat).cps=c:=Array.toList_inj.mp e
     cases hq:repS ⟨c⟩ n.toNat with|mk d=>rw [hq] at e2;cases e2;rfl
   rw [this]
  ·rw [if_neg hc]
   exact ⟨fits_reps (decide_eq_false (by lia)),.str (repS z n.toNat),H,I.tok _,⟨_,rfl⟩,q⟩
end
section
variable {X:Cx}
def rSlS:V->Option Int->Option Int->Hp->VK->Prop:=λ x lo hi H Q=>∃ z,x=.str z/\z.length<=sizeLine/\Q (.str (Txt.slice z lo hi)) H
theorem zyq:SlR X rSlS:=by
 intro pins s σ H x v vl vu lo hi sl Q I rx hs pl pu h
 obtain ⟨z,rfl,hz,q⟩:=h
 obtain ⟨t,rfl⟩:=rx
 obtain ⟨o,ho,hc,hd⟩:=hs
 have go:∀ (l u:Option (Int×Tok)),partValue l=vl->partValue u=vu->l.map (·.1)=lo->u.map (·.1)=hi->wpAny (model X.prog X.w) X.A (getItem (.str z t) (.ref sl)) (EP X pins σ Q) X.xe s:=λ l u e1 e2 e3 e4=>by
  subst e3 e4
  refine wpAny_getItem_str_slice (l:=l) (u:=u) (st:=none) ⟨o,ho,hc,by rw [e1,e2];exact hd⟩ rfl (post_val_or_str ⟨Nat.le_trans (Txt.slice_le z _ _) hz,λ t' k=>?_⟩)
  exact ⟨.str (Txt.slice z (l.map (·.1)) (u.map (·.1))),H,I.tok _,⟨_,rfl⟩,q⟩
 refine ⟨"str",_,F.slot_str_getitem.lookup,typeIs_str _ _ _,?_⟩
 cases pl with
|none=>cases pu with
 |none=>exact go none none rfl rfl rfl rfl
 |int j u=>exact go none (some (j,u)) rfl rfl rfl rfl
|int i t=>cases pu with
 |none=>exact go (some (i,t)) none rfl rfl rfl rfl
 |int j u=>exact go (some (i,t)) (some (j,u)) rfl rfl rfl rfl
end
section
variable {prog:Program} {w:World} {A:Around} {E:Value->Shared->Prop} {s:Shared}
theorem zp5 {it t:Addr} {i:Nat} {items} {x:Value} {Q:Value->Shared->Prop} (hit:s.heap.IsTupleIter it t i)
  (ht:s.heap.IsTuple t items) (hx:items[i]?=some x) (hQ:∀ h',h'.IsTupleIter it t (i+1)->Heap.SameBut it s.heap h'->Q x { s with heap:=h' }) :
  wpAny (model prog w) A (Builtin.SmallTypes.nextOf (.ref it)) Q E s:=by
 obtain ⟨o,ho,hc,hd⟩:=id hit
 obtain ⟨ol,hol,_,nl,hdl⟩:=ht
 unfold Builtin.SmallTypes.nextOf
 refine wpAny_bind (wpAny_callSpecial?_slot (name:=Str.ofString "__next__") hit.typeIs F.slot_tuple_iterator_next
  (wpAny_call_entry F.slot_tuple_iterator_next hit.typeIs F.entry_tuple_iterator_next ?_ (F.args_tuple_iterator_next_1 _)))
 show wpAny _ _ (field (.ref it) 0 >>= _) _ _ s
 refine wpAny_bind (wpAny_field ho hd (x:=.ref t) rfl ?_)
 show wpAny _ _ (if (Value.ref t == Value.none)=true then _ else _) _ _ s
 rw [if_neg (show ¬ ((Value.ref t == Value.none)=true) from Bool.false_ne_true)]
 show wpAny _ _ (field (.ref it) 1 >>= _) _ _ s
 refine wpAny_bind (wpAny_field ho hd (x:=.int i 0) rfl ?_)
 show wpAny _ _ (seqItems? (.ref t) >>= _) _ _ s
 refine wpAny_bind (wpAny_seqItems hol hdl ?_)
 simp only [Int.toNat_natCast,hx]
 refine wpAny_bind (wpAny_setField ho hd (by simp) (wpAny_pure ⟨x,rfl,wpAny_pure (hQ _ ?_ (Heap.SameBut.update ..))⟩))
 exact ⟨_,Heap.get?_update_self _ ho (Obj.isFreed_of_fields (Obj.data_mapFields hd _)),(Obj.cls_mapFields ..).trans hc,by
  rw [Obj.data_mapFields hd];simp [rawInt]⟩
theorem za7 {it t:Addr} {i:Nat} {items} {Q:Value->Shared->Prop} (hh:A.handled=none)
  (hit:s.heap.IsTupleIter it t i) (ht:s.heap.IsTuple t items) (hx:items[i]?=none)
  (hE:∀ h' e,Heap.ExtBut it s.heap h'->(∃ o,h'.get? e=some o/\o.cls=.type "StopIteration")->E (.ref e) { s with heap:=h' }) :
  wpAny (model prog w) A (Builtin.SmallTypes.nextOf (.ref it)) Q E s:=by
 obtain ⟨o,ho,hc,hd⟩:=id hit
 obtain ⟨ol,hol,_,nl,hdl⟩:=ht
 unfold Builtin.SmallTypes.nextOf
 refine wpAny_bind (wpAny_callSpecial?_slot (name:=Str.ofString "__next__") hit.typeIs F.slot_tuple_iterator_next
  (wpAny_call_entry F.slot_tuple_iterator_next hit.typeIs F.entry_tuple_iterator_next ?_ (F.args_tuple_iterator_next_1 _)))
 show wpAny _ _ (field (.ref it) 0 >>= _) _ _ s
 refine wpAny_bind (wpAny_field ho hd (x:=.ref t) rfl ?_)
 show wpAny _ _ (if (Value.ref t == Value.none)=true then _ else _) _ _ s
 rw [if_neg (show ¬ ((Value.ref t == Value.none)=true) from Bool.false_ne_true)]
 show wpAny _ _ (field (.ref it) 1 >>= _) _ _ s
 refine wpAny_bind (wpAny_field ho hd (x:=.int i 0) rfl ?_)
 show wpAny _ _ (seqItems? (.ref t) >>= _) _ _ s
 refine wpAny_bind (wpAny_seqItems hol hdl ?_)
 simp only [Int.toNat_natCast,hx]
 refine wpAny_bind (wpAny_rule (wpAny_bind (wpAny_setField ho hd (by simp) ?_)))
 show wpAny _ _ (newExc (.type "StopIteration") [] >>= _) _ _ _
 refine wpAny_bind ?_
 simp only [newExc,newTuple]
 refine wpAny_bind (wpAny_newObj_type ?_ (by size_fits))
 refine wpAny_bind (m:=firstArgMember _ _) (wpAny_of_eq (a:=Value.none) (by first|rfl|(simp only [firstArgMember];rfl)) ?_)
 refine wpAny_newObj_type ?_ (by size_fits)
 simp only [raiseNew]
 refine wpAny_bind (wpAny_handled ?_)
 first|rw [show A.in1.handled=none from hh]|rw [hh]
 refine wpAny_bind (wpAny_pure (wpAny_throw ?_))
 exact hE _ _ (((Heap.SameBut.update ..).extBut.push _).push _) ⟨_,Heap.get?_push_size _ rfl,rfl⟩
end
structure Nx (P:Program) (w:World) (K:Fg) (J:It) (it:Addr) (st:Nat->Heap->Prop):Prop where
 obj:∀ i h,st i h->∃ o,h.get? it=some o/\∀ v,o.data≠.cell v
 keep:∀ i h h',st i h->(∀ o,h.get? it=some o->h'.get? it=some o)->st i h'
 item:∀ (X:Cx),X.prog=P->X.w=w->X.K=K->∀ (A:Around) (i:Nat) (pins:List (Addr×Obj)) (s:Shared) (σ:St) (H:Hp) (Q:Value->Shared->Prop) (E:Value->Shared->Prop),Inv X pins σ H s->st i s.heap->J.go i H ->
  (∀ u x h' tk,RelV x u->J.yld i H x H->st (i+1) h'->Heap.SameBut it s.heap h'->Q u { s with heap:=h',toks:=tk })->wpAny (model P w) A (Builtin.SmallTypes.nextOf (.ref it)) Q E s
 done:∀ (X:Cx),X.prog=P->X.w=w->X.K=K->∀ (A:Around) (i:Nat) (pins:List (Addr×Obj)) (s:Shared) (σ:St) (H:Hp) (Q:Value->Shared->Prop) (E:Value->Shared->Prop),A.handled=none->Inv X pins σ H s->st i s.heap->J.stop i H ->
  (∀ h' e,Heap.ExtBut it s.heap h'->(∃ o,h'.get? e=some o/\o.cls=.type "StopIteration")->E (.ref e) { s with heap:=h' })->wpAny (model P w) A (Builtin.SmallTypes.nextOf (.ref it)) Q E s
theorem zjp {P:Program} {w:World} {K:Fg} (a it:Addr):Nx P w K (Itl K a) it (λ i h=>h.IsListIter it a i) where
 obj:=λ i h st=>by
  obtain ⟨o,e,c,d⟩:=st
  exact ⟨o,e,λ v z=>by rw [d] at z;cases z⟩
 keep:=λ i h h' st k=>st.at k
 item:=by
  intro X hP hw hK A i pins s σ H Q E I st hg hQ
  subst hP hw hK
  obtain ⟨xs,x,hq,hx⟩:=hg
  obtain ⟨its,rv,p,hz⟩:=I.list hq
  obtain ⟨u,hu,ru⟩:=rv.get hx
  exact wpAny_nextOf_list_item st p.isList (x:=u) (by simpa using hu) λ h' st' sb=>hQ u x h' s.toks ru ⟨rfl,λ ys hy=>by rw [I.list_inj hy hq];exact hx⟩ st' sb
 done:=by
  intro X hP hw hK A i pins s σ H Q E hh I st hg hE
  subst hP hw hK
  obtain ⟨xs,hq,hx⟩:=hg
  obtain ⟨its,rv,p,hz⟩:=I.list hq
  have hl:=rv.length
  exact wpAny_nextOf_list_end hh st p.isList (by simp;lia) hE
theorem zuy {P:Program} {w:World} {K:Fg} (a it:Addr):Nx P w K (Itt K a) it (λ i h=>h.IsTupleIter it a i) where
 obj:=λ i h st=>by
  obtain ⟨o,e,c,d⟩:=st
  exact ⟨o,e,λ v z=>by rw [d] at z;cases z⟩
 keep:=λ i h h' st k=>st.at k
 item:=by
  intro X hP hw hK A i pins s σ H Q E I st hg hQ
  subst hP hw hK
  obtain ⟨xs,x,hq,hx⟩:=hg
  obtain ⟨its,rv,p,hz⟩:=I.tuple hq
  obtain ⟨u,hu,ru⟩:=rv.get hx
  exact zp5 st (show s.heap.IsTuple a its.toArray from p) (x:=u) (by simpa using hu) λ h' st' sb=>hQ u x h' s.toks ru ⟨rfl,λ ys hy=>by rw [I.tuple_inj hy hq];exact hx⟩ st' sb
 done:=by
  intro X hP hw hK A i pins s σ H Q E hh I st hg hE
  subst hP hw hK
  obtain ⟨xs,hq,hx⟩:=hg
  obtain ⟨its,rv,p,hz⟩:=I.tuple hq
  have hl:=rv.length
  exact za7 hh st (show s.heap.IsTuple a its.toArray from p) (by simp;lia) hE
theorem zd2 {X:Cx} {pins:List (Addr×Obj)} {σ:St} {H:Hp} {s:Shared} {b:Addr} {h':Heap} {tk:Nat} (I:Inv X pins σ H s) (f:FpOk X pins H b) (k:Heap.SameBut b s.heap h'):Inv X pins σ H { s with heap:=h',toks:=tk } :=
 let ⟨f0,f1,_,f3,f4,f5⟩:=f
 I.turned (λ c o hc e=>(k.2 c hc).trans e) f0 f1 f3 f4 f5
theorem zkm {X:Cx} {pins:List (Addr×Obj)} {σ:St} {H:Hp} {s:Shared} {b:Addr} {h':Heap} {tk:Nat} (I:Inv X pins σ H s) (f:FpOk X pins H b) (k:Heap.ExtBut b s.heap h'):Inv X pins σ H { s with heap:=h',toks:=tk } :=
 let ⟨f0,f1,_,f3,f4,f5⟩:=f
 I.turned (λ c o hc e=>k c o hc e) f0 f1 f3 f4 f5
structure ZAp (z TI TO i1 i2:Addr):Prop where
 TIz:TI≠z
 TOz:TO≠z
 i1z:i1≠z
 i2z:i2≠z
 TITO:TI≠TO
 TIi1:TI≠i1
 TIi2:TI≠i2
 TOi1:TO≠i1
 TOi2:TO≠i2
 i12:i1≠i2
structure ZSt (z TI TO i1 i2:Addr) (f0:Value) (st1 st2:Nat->Heap->Prop) (i:Nat) (h:Heap):Prop where
 z:IsZip h z TI TO f0
 TI:IsPair h TI (.ref i1) (.ref i2)
 TO:∃ a b,IsPair h TO a b
 s1:st1 i h
 s2:st2 i h
section
variable {X:Cx} {pins:List (Addr×Obj)} {σ:St} {H:Hp} {s:Shared} {J1 J2:It} {z TI TO i1 i2:Addr} {st1 st2:Nat->Heap->Prop} {i:Nat}
theorem zym {A:Around} {E:Value->Shared->Prop} {Q:Value->Shared->Prop} (N1:Nx X.prog X.w X.K J1 i1 st1) (N2:Nx X.prog X.w X.K J2 i2 st2) (D:ZAp z TI TO i1 i2) (I:Inv X pins σ H s)
  (fz:FpOk X pins H z) (fTO:FpOk X pins H TO) (f1:FpOk X pins H i1) (f2:FpOk X pins H i2) (S:ZSt z TI TO i1 i2 .none st1 st2 i s.heap) (g1:J1.go i H) (g2:J2.go i H)
  (hQ:∀ p x1 x2 s',H p=none->p≠z->p≠TI->p≠TO->p≠i1->p≠i2->J1.yld i H x1 H->J2.yld i H x2 H->Inv X pins σ (upd H p (.tup [x1,x2])) s'->ZSt z TI TO i1 i2 (rawInt p) st1 st2 (i+1) s'.heap->Q (.ref p) s') :
  wpAny (model X.prog X.w) A (Builtin.«zip.__next__» ⟨[.ref z],[]⟩) (λ fin s'=>∃ v,fin=.done (.ret v)/\Q v s') E s:=by
 obtain ⟨hz,hTI,⟨a,b,hTO⟩,h1,h2⟩:=S
 show wpAny _ _ (field (.ref z) 2 >>= _) _ _ _
 refine wpAny_bind (wpAny_field hz rfl (x:=.bool false) rfl ?_)
 show wpAny _ _ (field (.ref z) 3 >>= _) _ _ _
 refine wpAny_bind (wpAny_field hz rfl (x:=.ref TI) rfl ?_)
 refine wpAny_bind (wpAny_seqItems hTI rfl ?_)
 show wpAny _ _ (Builtin.SmallTypes.ownedTupleIsFree (.ref z) >>= _) _ _ _
 refine wpAny_bind ?_
 unfold Builtin.SmallTypes.ownedTupleIsFree
 refine wpAny_bind (wpAny_field hz rfl (x:=.none) rfl (wpAny_pure ?_))
 simp only [if_true]
 refine wpAny_bind (wpAny_rule ?_)
 refine wpAny_bind (wpAny_field hz rfl (x:=.ref TO) rfl ?_)
 refine wpAny_bind (wpAny_setField_rec hz (by simp) λ h₁ hz₁ hs₁=>?_)
 replace hz₁:IsZip h₁ z TI TO .ellipsis:=hz₁
 have I1:Inv X pins σ H { s with heap:=h₁ }:=zd2 (tk:=s.toks) I fz hs₁
 refine wpAny_bind ?_
 simp only [List.zipIdx_cons,List.zipIdx_nil,List.forIn_cons,List.forIn_nil]
 refine wpAny_bind (wpAny_bind (wpAny_onRaise ?_))
 show wpAny _ _ (Builtin.SmallTypes.nextOf (.ref i1) >>= _) _ _ _
 have a1:st1 i h₁:=N1.keep _ _ _ h1 λ o e=>hs₁.extBut _ _ D.i1z e
 refine wpAny_bind (N1.item X rfl rfl rfl _ i pins _ σ H _ _ I1 a1 g1 λ x x1 h₂ tk₂ r1 y1 b1 hs₂=>wpAny_pure ?_)
 replace hs₂:Heap.SameBut i1 h₁ h₂:=hs₂
 have I2:Inv X pins σ H { s with heap:=h₂,toks:=tk₂ }:=zd2 (s:={ s with heap:=h₁ }) (tk:=tk₂) I1 f1 hs₂
 have hTO₂:IsPair h₂ TO a b:=hs₂.extBut _ _ D.TOi1 (hs₁.extBut _ _ D.TOz hTO)
 refine wpAny_bind (wpAny_seqItems hTO₂ rfl ?_)
 refine wpAny_bind (wpAny_updateSeq_pair (s:={ s with heap:=h₂,toks:=tk₂ }) hTO₂ λ h₃ hTO₃ hs₃=>?_)
 replace hTO₃:IsPair h₃ TO x b:=hTO₃
 replace hs₃:Heap.SameBut TO h₂ h₃:=hs₃
 have I3:Inv X pins σ H { s with heap:=h₃,toks:=tk₂ }:=zd2 (s:={ s with heap:=h₂,toks:=tk₂ }) (tk:=tk₂) I2 fTO hs₃
 refine wpAny_bind (wpAny_letGo (wpAny_pure ?_))
 refine wpAny_bind (wpAny_bind (wpAny_onRaise ?_))
 show wpAny _ _ (Builtin.SmallTypes.nextOf (.ref i2) >>= _) _ _ _
 have a2:st2 i h₃:=N2.keep _ _ _ h2 λ o e=>hs₃.extBut _ _ D.TOi2.symm (hs₂.extBut _ _ D.i12.symm (hs₁.extBut _ _ D.i2z e))
 refine wpAny_bind (N2.item X rfl rfl rfl _ i pins _ σ H _ _ I3 a2 g2 λ y x2 h₄ tk₄ r2 y2 b2 hs₄=>wpAny_pure ?_)
 replace hs₄:Heap.SameBut i2 h₃ h₄:=hs₄
 have I4:Inv X pins σ H { s with heap:=h₄,toks:=tk₄ }:=zd2 (s:={ s with heap:=h₃,toks:=tk₂ }) (tk:=tk₄) I3 f2 hs₄
 have hTO₄:IsPair h₄ TO x b:=hs₄.extBut _ _ D.TOi2 hTO₃
 refine wpAny_bind (wpAny_seqItems hTO₄ rfl ?_)
 refine wpAny_bind (wpAny_updateSeq_pair (s:={ s with heap:=h₄,toks:=tk₄ }) hTO₄ λ h₅ hTO₅ hs₅=>?_)
 replace hTO₅:IsPair h₅ TO x y:=hTO₅
 replace hs₅:Heap.SameBut TO h₄ h₅:=hs₅
 have I5:Inv X pins σ H { s with heap:=h₅,toks:=tk₄ }:=zd2 (s:={ s with heap:=h₄,toks:=tk₄ }) (tk:=tk₄) I4 fTO hs₅
 refine wpAny_bind (wpAny_letGo (wpAny_pure (wpAny_pure ?_)))
 refine wpAny_bind (wpAny_seqItems hTO₅ rfl ?_)
 refine wpAny_bind (wpAny_newTuple ?_)
 have hz₅:IsZip h₅ z TI TO .ellipsis:=hs₅.extBut _ _ D.TOz.symm (hs₄.extBut _ _ D.i2z.symm (hs₃.extBut _ _ D.TOz.symm (hs₂.extBut _ _ D.i1z.symm hz₁)))
 have hTI₅:IsPair h₅ TI (.ref i1) (.ref i2):=hs₅.extBut _ _ D.TITO (hs₄.extBut _ _ D.TIi2 (hs₃.extBut _ _ D.TITO (hs₂.extBut _ _ D.TIi1 (hs₁.extBut _ _ D.TIz hTI))))
 have c1:st1 (i+1) h₅:=N1.keep _ _ _ b1 λ o e=>hs₅.extBut _ _ D.TOi1.symm (hs₄.extBut _ _ D.i12 (hs₃.extBut _ _ D.TOi1.symm e))
 have c2:st2 (i+1) h₅:=N2.keep _ _ _ b2 λ o e=>hs₅.extBut _ _ D.TOi2.symm e
 have hp:H h₅.objs.size=none:=I5.hok.fresh (Nat.le_refl _)
 have I6:Inv X pins σ (upd H h₅.objs.size (.tup [x1,x2])) { s with heap:=h₅.push { cls:=.type "tuple",data:=.seq #[x,y] },toks:=tk₄ }:=by
  refine I5.laid (t':=tk₄) (o:=.tup [x1,x2]) (λ b ob q=>Heap.get?_push_of_some _ q) (Nat.le_refl _) ?_
  exact ⟨by show 2<=sizeLine;rw [sizeLine_eq];decide,[x,y],.cons r1 (.cons r2 .nil),_,Heap.get?_push_size _ rfl,rfl,0,rfl⟩
 have lt:∀ {c:Addr} {o:Obj},h₅.get? c=some o->h₅.objs.size≠c:=λ e=>Nat.ne_of_gt (Heap.lt_size e)
 obtain ⟨o1,e1,_⟩:=N1.obj _ _ c1
 obtain ⟨o2,e2,_⟩:=N2.obj _ _ c2
 have fz':FpOk X pins (upd H h₅.objs.size (.tup [x1,x2])) z:=⟨by rw [zp0 (lt hz₅).symm];exact fz.1,fz.2⟩
 show wpAny _ _ (Builtin.SmallTypes.ownedTupleHandOut (.ref z) (.ref h₅.objs.size) >>= _) _ _ _
 refine wpAny_bind ?_
 unfold Builtin.SmallTypes.ownedTupleHandOut
 have hz₆:IsZip (h₅.push { cls:=.type "tuple",data:=.seq #[x,y] }) z TI TO .ellipsis:=Heap.get?_push_of_some _ hz₅
 refine wpAny_bind (wpAny_setField_rec hz₆ (by simp) λ h₇ hz₇ hs₇=>?_)
 replace hz₇:IsZip h₇ z TI TO (rawInt h₅.objs.size):=hz₇
 have I7:Inv X pins σ (upd H h₅.objs.size (.tup [x1,x2])) { s with heap:=h₇,toks:=tk₄ }:=zd2 (s:={ s with heap:=h₅.push { cls:=.type "tuple",data:=.seq #[x,y] },toks:=tk₄ }) (tk:=tk₄) I6 fz' hs₇
 refine wpAny_setField_rec hz₇ (by simp) λ h₈ hz₈ hs₈=>?_
 replace hz₈:IsZip h₈ z TI TO (rawInt h₅.objs.size):=hz₈
 have I8:Inv X pins σ (upd H h₅.objs.size (.tup [x1,x2])) { s with heap:=h₈,toks:=tk₄ }:=zd2 (s:={ s with heap:=h₇,toks:=tk₄ }) (tk:=tk₄) I7 fz' hs₈
 have up:∀ c o,c≠z->h₅.get? c=some o->h₈.get? c=some o:=λ c o c1 e=>hs₈.extBut _ _ c1 (hs₇.extBut _ _ c1 (Heap.get?_push_of_some _ e))
 refine wpAny_pure ⟨_,rfl,?_⟩
 exact hQ h₅.objs.size x1 x2 _ hp (lt hz₅) (lt hTI₅) (lt hTO₅) (lt e1) (lt e2) y1 y2 I8 ⟨hz₈,up _ _ D.TIz hTI₅,⟨_,_,up _ _ D.TOz hTO₅⟩,N1.keep _ _ _ c1 λ o e=>up _ o D.i1z e,N2.keep _ _ _ c2 λ o e=>up _ o D.i2z e⟩
theorem zgs {A:Around} {E:Value->Shared->Prop} {Q:Fin->Shared->Prop} (hh:A.handled=none) (N1:Nx X.prog X.w X.K J1 i1 st1) (N2:Nx X.prog X.w X.K J2 i2 st2) (D:ZAp z TI TO i1 i2) (I:Inv X pins σ H s)
  (fz:FpOk X pins H z) (fTO:FpOk X pins H TO) (f1:FpOk X pins H i1) (f2:FpOk X pins H i2) (S:ZSt z TI TO i1 i2 .none st1 st2 i s.heap) (g:J1.stop i H \/ (J1.go i H/\J2.stop i H))
  (hE:∀ h' e tk,Inv X pins σ H { s with heap:=h',toks:=tk }->(∃ o,h'.get? e=some o/\o.cls=.type "StopIteration")->E (.ref e) { s with heap:=h',toks:=tk }) :
  wpAny (model X.prog X.w) A (Builtin.«zip.__next__» ⟨[.ref z],[]⟩) Q E s:=by
 obtain ⟨hz,hTI,⟨a,b,hTO⟩,h1,h2⟩:=S
 show wpAny _ _ (field (.ref z) 2 >>= _) _ _ _
 refine wpAny_bind (wpAny_field hz rfl (x:=.bool false) rfl ?_)
 show wpAny _ _ (field (.ref z) 3 >>= _) _ _ _
 refine wpAny_bind (wpAny_field hz rfl (x:=.ref TI) rfl ?_)
 refine wpAny_bind (wpAny_seqItems hTI rfl ?_)
 show wpAny _ _ (Builtin.SmallTypes.ownedTupleIsFree (.ref z) >>= _) _ _ _
 refine wpAny_bind ?_
 unfold Builtin.SmallTypes.ownedTupleIsFree
 refine wpAny_bind (wpAny_field hz rfl (x:=.none) rfl (wpAny_pure ?_))
 simp only [if_true]
 refine wpAny_bind (wpAny_rule ?_)
 refine wpAny_bind (wpAny_field hz rfl (x:=.ref TO) rfl ?_)
 refine wpAny_bind (wpAny_setField_rec hz (by simp) λ h₁ hz₁ hs₁=>?_)
 replace hz₁:IsZip h₁ z TI TO .ellipsis:=hz₁
 have I1:Inv X pins σ H { s with heap:=h₁ }:=zd2 (tk:=s.toks) I fz hs₁
 refine wpAny_bind ?_
 simp only [List.zipIdx_cons,List.zipIdx_nil,List.forIn_cons,List.forIn_nil]
 refine wpAny_bind (wpAny_bind (wpAny_onRaise ?_))
 show wpAny _ _ (Builtin.SmallTypes.nextOf (.ref i1) >>= _) _ _ _
 have a1:st1 i h₁:=N1.keep _ _ _ h1 λ o e=>hs₁.extBut _ _ D.i1z e
 rcases g with g|⟨g1,g2⟩
 ·refine wpAny_bind (N1.done X rfl rfl rfl _ i pins _ σ H _ _ hh I1 a1 g λ h₂ e hs₂ he=>?_)
  replace hs₂:Heap.ExtBut i1 h₁ h₂:=hs₂
  have I2:Inv X pins σ H { s with heap:=h₂ }:=zkm (s:={ s with heap:=h₁ }) (tk:=s.toks) I1 f1 hs₂
  obtain ⟨oe,hoe,hce⟩:=he
  have hz₂:IsZip h₂ z TI TO .ellipsis:=hs₂ _ _ D.i1z.symm hz₁
  have hez:e≠z:=λ x=>by subst x;rw [hz₂] at hoe;cases hoe;simp at hce
  exact wpAny_setField_rec hz₂ (by simp) λ h₃ _ hs₃=>hE h₃ e s.toks (zd2 (s:={ s with heap:=h₂ }) (tk:=s.toks) I2 fz hs₃) ⟨oe,hs₃.extBut _ _ hez hoe,hce⟩
 ·refine wpAny_bind (N1.item X rfl rfl rfl _ i pins _ σ H _ _ I1 a1 g1 λ x x1 h₂ tk₂ r1 y1 b1 hs₂=>wpAny_pure ?_)
  replace hs₂:Heap.SameBut i1 h₁ h₂:=hs₂
  have I2:Inv X pins σ H { s with heap:=h₂,toks:=tk₂ }:=zd2 (s:={ s with heap:=h₁ }) (tk:=tk₂) I1 f1 hs₂
  have hTO₂:IsPair h₂ TO a b:=hs₂.extBut _ _ D.TOi1 (hs₁.extBut _ _ D.TOz hTO)
  refine wpAny_bind (wpAny_seqItems hTO₂ rfl ?_)
  refine wpAny_bind (wpAny_updateSeq_pair (s:={ s with heap:=h₂,toks:=tk₂ }) hTO₂ λ h₃ hTO₃ hs₃=>?_)
  replace hs₃:Heap.SameBut TO h₂ h₃:=hs₃
  have I3:Inv X pins σ H { s with heap:=h₃,toks:=tk₂ }:=zd2 (s:={ s with heap:=h₂,toks:=tk₂ }) (tk:=tk₂) I2 fTO hs₃
  refine wpAny_bind (wpAny_letGo (wpAny_pure ?_))
  refine wpAny_bind (wpAny_bind (wpAny_onRaise ?_))
  show wpAny _ _ (Builtin.SmallTypes.nextOf (.ref i2) >>= _) _ _ _
  have a2:st2 i h₃:=N2.keep _ _ _ h2 λ o e=>hs₃.extBut _ _ D.TOi2.symm (hs₂.extBut _ _ D.i12.symm (hs₁.extBut _ _ D.i2z e))
  refine wpAny_bind (N2.done X rfl rfl rfl _ i pins _ σ H _ _ hh I3 a2 g2 λ h₄ e hs₄ he=>?_)
  replace hs₄:Heap.ExtBut i2 h₃ h₄:=hs₄
  have I4:Inv X pins σ H { s with heap:=h₄,toks:=tk₂ }:=zkm (s:={ s with heap:=h₃,toks:=tk₂ }) (tk:=tk₂) I3 f2 hs₄
  obtain ⟨oe,hoe,hce⟩:=he
  have hz₄:IsZip h₄ z TI TO .ellipsis:=hs₄ _ _ D.i2z.symm (hs₃.extBut _ _ D.TOz.symm (hs₂.extBut _ _ D.i1z.symm hz₁))
  have hez:e≠z:=λ x=>by subst x;rw [hz₄] at hoe;cases hoe;simp at hce
  exact wpAny_setField_rec hz₄ (by simp) λ h₅ _ hs₅=>hE h₅ e tk₂ (zd2 (s:={ s with heap:=h₄,toks:=tk₂ }) (tk:=tk₂) I4 fz hs₅) ⟨oe,hs₅.extBut _ _ hez hoe,hce⟩
end
def Itz (J1 J2:It):It:=⟨λ i H=>J1.go i H/\J2.go i H,λ i H x H'=>∃ x1 x2 p,J1.yld i H x1 H/\J2.yld i H x2 H/\H p=none/\x=.ref p/\H'=upd H p (.tup [x1,x2]),λ i H=>J1.stop i H \/ (J1.go i H/\J2.stop i H)⟩
theorem zum {P:Program} {w:World} {K:Fg} {elts:List Expr} {c:_} {pos:Pos} {J1 J2:It} {z TI TO i1 i2:Addr} {st1 st2:Nat->Heap->Prop} (N1:Nx P w K J1 i1 st1) (N2:Nx P w K J2 i2 st2) (D:ZAp z TI TO i1 i2) :
  Turn P w K (.Tuple elts c pos) (Itz J1 J2) [z,TI,TO,i1,i2] z (ZSt z TI TO i1 i2 .none st1 st2) where
 mem:=by simp
 obj:=λ i h S b hb=>by
  obtain ⟨hz,hTI,⟨a,b',hTO⟩,h1,h2⟩:=S
  simp at hb
  rcases hb with rfl|rfl|rfl|rfl|rfl
  ·exact ⟨_,hz,λ v q=>by cases q⟩
  ·exact ⟨_,hTI,λ v q=>by cases q⟩
  ·exact ⟨_,hTO,λ v q=>by cases q⟩
  ·exact N1.obj _ _ h1
  ·exact N2.obj _ _ h2
 keep:=λ i h h' S k=>by
  obtain ⟨hz,hTI,⟨a,b',hTO⟩,h1,h2⟩:=S
  exact ⟨k _ (by simp) _ hz,k _ (by simp) _ hTI,⟨a,b',k _ (by simp) _ hTO⟩,N1.keep _ _ _ h1 λ o e=>k _ (by simp) _ e,N2.keep _ _ _ h2 λ o e=>k _ (by simp) _ e⟩
 item:=by
  intro X hP hw hK hc i pins s σ H E I hf S hg
  subst hP hw hK
  have hT:s.TypeIs (.ref z) "zip":=⟨_,S.z,rfl⟩
  unfold pyNext
  refine wpAny_bind (wpAny_attempt (wpAny_callSpecial?_slot (name:=Str.ofString "__next__") hT F.slot_zip_next
   (wpAny_call_entry F.slot_zip_next hT F.entry_zip_next
    (zym N1 N2 D I (hf _ (by simp)) (hf _ (by simp)) (hf _ (by simp)) (hf _ (by simp)) S hg.1 hg.2 λ p x1 x2 s' hp n1 n2 n3 n4 n5 y1 y2 I' S'=>wpAny_pure ?_) (F.args_zip_next_1 _))))
  refine ⟨.ref p,rfl,wpAny_letOwnedTupleGo_zip S'.z λ h' hz' hs'=>?_⟩
  have nn:∀ b∈[z,TI,TO,i1,i2],b≠p:=λ b hb=>by
   simp at hb
   rcases hb with rfl|rfl|rfl|rfl|rfl
   ·exact n1.symm
   ·exact n2.symm
   ·exact n3.symm
   ·exact n4.symm
   ·exact n5.symm
  have fz:FpOk X pins (upd H p (.tup [x1,x2])) z:=⟨by rw [zp0 n1.symm];exact (hf z (by simp)).1,(hf z (by simp)).2⟩
  obtain ⟨_,hTI,⟨a,b',hTO⟩,h1,h2⟩:=S'
  refine ⟨.ref p,_,zd2 (tk:=s'.toks) I' fz hs',rfl,⟨x1,x2,p,y1,y2,hp,rfl,rfl⟩,⟨hz',hs'.extBut _ _ D.TIz hTI,⟨a,b',hs'.extBut _ _ D.TOz hTO⟩,N1.keep _ _ _ h1 λ o e=>hs'.extBut _ _ D.i1z e,N2.keep _ _ _ h2 λ o e=>hs'.extBut _ _ D.i2z e⟩,λ b hb=>?_⟩
  rw [zp0 (nn b hb)]
  exact (hf b hb).1
 done:=by
  intro X hP hw hK hc i pins s σ H E I hf S hg
  subst hP hw hK
  have hT:s.TypeIs (.ref z) "zip":=⟨_,S.z,rfl⟩
  unfold pyNext
  refine wpAny_bind (wpAny_attempt (wpAny_callSpecial?_slot (name:=Str.ofString "__next__") hT F.slot_zip_next
   (wpAny_call_entry F.slot_zip_next hT F.entry_zip_next (zgs (I.ok.hd hc) N1 N2 D I (hf _ (by simp)) (hf _ (by simp)) (hf _ (by simp)) (hf _ (by simp)) S hg λ h' e tk I' he=>?_) (F.args_zip_next_1 _))))
  obtain ⟨o,ho,hc⟩:=he
  refine wpAny_bind (wpAny_isInstance (T := "StopIteration") (b:=true) ⟨o,ho,hc⟩ isSubtype_stop ?_)
  exact wpAny_pure ⟨rfl,I'⟩
 self:=λ _ _ _ _ _ S h=>wpAny_pyIter_zip S.z h
def zso (h:Heap) (v:Value) (ob:Obj):Prop:=∀ (prog:Program) (w:World) (A:Around) (s:Shared) (Q E:Value->Shared->Prop),(∀ c o,h.get? c=some o->s.heap.get? c=some o)->Q (.ref s.heap.objs.size) { s with heap:=s.heap.push ob }->wpAny (model prog w) A (pyIter v) Q E s
def zipO (h:Heap) (o1 o2:Obj):Heap:=((((h.push o1).push o2).push { cls:=.type "tuple",data:=.seq #[.ref h.objs.size,.ref (h.push o1).objs.size] }).push { cls:=.type "tuple",data:=.seq #[.none,.none] }).push
 { cls:=.type "zip",data:=.fields #[.none,.bool false,.bool false,.ref ((h.push o1).push o2).objs.size,.ref (((h.push o1).push o2).push { cls:=.type "tuple",data:=.seq #[.ref h.objs.size,.ref (h.push o1).objs.size] }).objs.size] }
theorem zdi (v1 v2:Value) (o1 o2:Obj) :
  Meets (Builtin.«zip.__new__» ⟨[.type "zip",v1,v2],[]⟩) (λ _ R s=>zso s.heap v1 o1/\zso s.heap v2 o2 /\
   R (.ok (.ret (.ref ((((s.heap.push o1).push o2).push { cls:=.type "tuple",data:=.seq #[.ref s.heap.objs.size,.ref (s.heap.push o1).objs.size] }).push { cls:=.type "tuple",data:=.seq #[.none,.none] }).objs.size))) { s with heap:=zipO s.heap o1 o2 }) :=
 .of_wp λ prog w A R s h=>by
  obtain ⟨hp,g,d,tk,os⟩:=s;obtain ⟨q1,q2,h⟩:=h
  have hsub:=sub_zip
  have p1:∀ {A:Around} {Q E:Value->Shared->Prop},Q (.ref hp.objs.size) ⟨hp.push o1,g,d,tk,os⟩->wpAny (model prog w) A (pyIter v1) Q E ⟨hp,g,d,tk,os⟩:=λ {A Q E} z=>q1 prog w A ⟨hp,g,d,tk,os⟩ Q E (λ _ _ e=>e) z
  have p2:∀ {A:Around} {Q E:Value->Shared->Prop},Q (.ref (hp.push o1).objs.size) ⟨(hp.push o1).push o2,g,d,tk,os⟩->wpAny (model prog w) A (pyIter v2) Q E ⟨hp.push o1,g,d,tk,os⟩:=λ {A Q E} z=>q2 prog w A ⟨hp.push o1,g,d,tk,os⟩ Q E (λ _ _ e=>Heap.get?_push_of_some _ e) z
  wp_walk using p1,p2
  exact ⟨_,rfl,h⟩
theorem zgl {prog:Program} {w:World} {A:Around} {E:Value->Shared->Prop} {s:Shared} {v1 v2:Value} {o1 o2:Obj} {Q:Value->Shared->Prop} (h1:zso s.heap v1 o1) (h2:zso s.heap v2 o2)
  (h:∀ h',IsZip h' (s.heap.objs.size+4) (s.heap.objs.size+2) (s.heap.objs.size+3) .none->IsPair h' (s.heap.objs.size+2) (.ref s.heap.objs.size) (.ref (s.heap.objs.size+1)) ->
   IsPair h' (s.heap.objs.size+3) .none .none->h'.get? s.heap.objs.size=some o1->h'.get? (s.heap.objs.size+1)=some o2->(∀ c o,s.heap.get? c=some o->h'.get? c=some o)->Q (.ref (s.heap.objs.size+4)) { s with heap:=h' })
  (f1:o1.isFreed=false) (f2:o2.isFreed=false):wpAny (model prog w) A (call (.type "zip") [v1,v2]) Q E s:=by
 refine callType_new F.called_zip (by decide) (F.typeCall_zip_2 _ _) (F.newCall_zip_2 _ _) (λ obj=>F.args_object_init_3 obj _ _) F.entry_zip_new (zdi v1 v2 o1 o2) ⟨h1,h2,?_⟩
 have z1:(s.heap.push o1).objs.size=s.heap.objs.size+1:=Heap.size_push ..
 have z2:((s.heap.push o1).push o2).objs.size=s.heap.objs.size+2:=by rw [Heap.size_push,z1]
 have z3:(((s.heap.push o1).push o2).push { cls:=.type "tuple",data:=.seq #[.ref s.heap.objs.size,.ref (s.heap.push o1).objs.size] }).objs.size=s.heap.objs.size+3:=by rw [Heap.size_push,z2]
 have z4:((((s.heap.push o1).push o2).push { cls:=.type "tuple",data:=.seq #[.ref s.heap.objs.size,.ref (s.heap.push o1).objs.size] }).push { cls:=.type "tuple",data:=.seq #[.none,.none] }).objs.size=s.heap.objs.size+4:=by rw [Heap.size_push,z3]
 have g5:(zipO s.heap o1 o2).get? ((((s.heap.push o1).push o2).push { cls:=.type "tuple",data:=.seq #[.ref s.heap.objs.size,.ref (s.heap.push o1).objs.size] }).push { cls:=.type "tuple",data:=.seq #[.none,.none] }).objs.size=some _:=Heap.get?_push_size _ rfl
 have g4:(zipO s.heap o1 o2).get? (((s.heap.push o1).push o2).push { cls:=.type "tuple",data:=.seq #[.ref s.heap.objs.size,.ref (s.heap.push o1).objs.size] }).objs.size=some _:=Heap.get?_push_of_some _ (Heap.get?_push_size _ rfl)
 have g3:(zipO s.heap o1 o2).get? ((s.heap.push o1).push o2).objs.size=some _:=Heap.get?_push_of_some _ (Heap.get?_push_of_some _ (Heap.get?_push_size _ rfl))
 have g2:(zipO s.heap o1 o2).get? (s.heap.push o1).objs.size=some o2:=Heap.get?_push_of_some _ (Heap.get?_push_of_some _ (Heap.get?_push_of_some _ (Heap.get?_push_size _ f2)))
 have g1:(zipO s.heap o1 o2).get? s.heap.objs.size=some o1:=Heap.get?_push_of_some _ (Heap.get?_push_of_some _ (Heap.get?_push_of_some _ (Heap.get?_push_of_some _ (Heap.get?_push_size _ f1))))
 show _/\_
 rw [z2,z3,z4] at g5
 rw [z1,z2] at g3
 rw [z3] at g4
 rw [z1] at g2
 rw [z4]
 exact ⟨⟨_,g5,rfl⟩,h _ g5 g3 g4 g1 g2 λ c o x=>Heap.get?_push_of_some _ (Heap.get?_push_of_some _ (Heap.get?_push_of_some _ (Heap.get?_push_of_some _ (Heap.get?_push_of_some _ x))))⟩
def kSrc (K:Fg) (x:V) (H:Hp) (R:It->Prop):Prop:=(∃ a,x=.ref a/\(∃ xs,SqL K H a xs)/\R (Itl K a)) \/ (∃ a,x=.ref a/\(∃ xs,SqT K H a xs)/\R (Itt K a))
theorem zje {X:Cx} {pins:List (Addr×Obj)} {σ:St} {H:Hp} {s:Shared} {x:V} {v:Value} {R:It->Prop} (I:Inv X pins σ H s) (r:RelV x v) (h:kSrc X.K x H R) :
  ∃ (J:It) (ob:Obj) (st:Addr->Nat->Heap->Prop),R J/\zso s.heap v ob/\ob.isFreed=false/\(∀ it,Nx X.prog X.w X.K J it (st it))/\∀ it h,h.get? it=some ob->st it 0 h:=by
 rcases h with ⟨a,rfl,⟨xs,hq⟩,hR⟩|⟨a,rfl,⟨xs,hq⟩,hR⟩
 ·cases r
  obtain ⟨its,rv,p,hz⟩:=I.list hq
  refine ⟨_,{ cls:=.type "list_iterator",data:=.fields #[.ref a,.int 0 0] },λ it i h=>h.IsListIter it a i,hR,λ prog w A s1 Q E k q=>?_,rfl,λ it=>zjp a it,λ it h e=>⟨_,e,rfl,rfl⟩⟩
  exact wpAny_pyIter_list (p.isList.at λ o e=>k a o e) q
 ·cases r
  obtain ⟨its,rv,p,hz⟩:=I.tuple hq
  refine ⟨_,{ cls:=.type "tuple_iterator",data:=.fields #[.ref a,.int 0 0] },λ it i h=>h.IsTupleIter it a i,hR,λ prog w A s1 Q E k q=>?_,rfl,λ it=>zuy a it,λ it h e=>⟨_,e,rfl,rfl⟩⟩
  obtain ⟨o,e,t⟩:=p
  exact wpAny_pyIter_tuple (show s1.heap.IsTuple a its.toArray from ⟨o,k a o e,t⟩) q
theorem zap (n:Nat):ZAp (n+4) (n+2) (n+3) n (n+1):=by
 constructor <;> (refine λ (h:(_:Nat)=_)=>?_;lia)
theorem five (n:Nat) (b:Nat) (h:b=n+4 \/ b=n+2 \/ b=n+3 \/ b=n \/ b=n+1):n<=b:=by lia
theorem zcw:bootBuiltins "zip"=some (.type "zip"):=by decide +kernel
section
variable {X:Cx} {elts:List Expr}
def zr21 (K:Fg) (vs:List V) (H:Hp) (R:It->Hp->Prop):Prop:=∃ x1 x2,vs=[x1,x2]/\kSrc K x1 H λ J1=>kSrc K x2 H λ J2=>R (Itz J1 J2) H
def iZip (K:Fg) (ta:TA):TI:=λ σ H R=>ta σ H λ vs H1=>zr21 K vs H1 R
theorem zfq {K:Fg} (hK:X.K=K) {c:_} {tpos:Pos} {a b:Expr} {ta:TA} {p pos:Pos} (hg:Gl X "zip") (hm:X.mg "zip"=none) (ha:PA X [a,b] ta) (hs:starEach [a,b] X.env=[(false,eval a X.env),(false,eval b X.env)]:=by rfl) (hs2:starEach [b] X.env=[(false,eval b X.env)]:=by rfl) :
  PI X (.Tuple elts c tpos) (.Call (.Name "zip" p) [a,b] [] pos) (iZip K ta):=by
 subst hK
 intro pins s σ H R I h
 refine Call_ (zce I hg hm zcw (PyProof.Rows.callWith_type1 (thn (ha pos pins s σ H _ I h) λ us s1 ⟨vs,H1,I1,r1,q1⟩=>?_) (by rw [hs,hs2]) (by rw [hs2];rfl)))
 obtain ⟨x1,x2,e,q1⟩:=q1
 subst e
 obtain ⟨u1,u2,rfl,r1,r2⟩:=zz01 r1
 obtain ⟨J1,o1,st1,q2,op1,fr1,n1,z1⟩:=zje I1 r1 q1
 obtain ⟨J2,o2,st2,q,op2,fr2,n2,z2⟩:=zje I1 r2 q2
 refine zgl op1 op2 (λ h' hz hTI hTO g1 g2 kk=>wpAny_pyIter_zip hz ?_) fr1 fr2
 have I2:Inv X pins σ H1 { s1 with heap:=h' }:=I1.kept (t':=s1.toks) kk
 refine ⟨s1.heap.objs.size+4,[s1.heap.objs.size+4,s1.heap.objs.size+2,s1.heap.objs.size+3,s1.heap.objs.size,s1.heap.objs.size+1],_,_,H1,rfl,I2,
  zum (n1 s1.heap.objs.size) (n2 (s1.heap.objs.size+1)) (zap _),⟨hz,hTI,⟨_,_,hTO⟩,z1 _ _ g1,z2 _ _ g2⟩,λ b hb=>?_,q⟩
 have hb':s1.heap.objs.size<=b:=by
  simp at hb
  exact five _ _ hb
 exact I1.fpOk hb' (I1.hok.fresh hb')
end
def entM (w:World) (e:Str×Tok×Value):DictEntry:=⟨PyData.keyHash w.params e.1,.str e.1 e.2.1,e.2.2⟩
structure KD (w:World) (K:Fg) (d:Addr) (kvs:List (Str×V)):Prop where
 ne:(d == sysModules)=false
 ex:∃ (l:List (Str×Tok×Value)) (n:Nat),K.lookup d=some { cls:=.type "dict",data:=.dict (l.map (entM w)).toArray n }/\Paired (λ (p:Str×V) (q:Str×Tok×Value)=>p.1=q.1/\RelV p.2 q.2.2) kvs l
theorem zbs {w:World} {k:Str}:∀ {kvs:List (Str×V)} {l:List (Str×Tok×Value)},Paired (λ (p:Str×V) (q:Str×Tok×Value)=>p.1=q.1/\RelV p.2 q.2.2) kvs l ->
  RelO (kvs.lookup k) (((l.map (entM w)).find? λ e=>Value.isStrOf k e.key).map (·.val))
|_,_,.nil=>trivial
|_,_,.cons (a:=p) (b:=q) h r=>by
  obtain ⟨x,v⟩:=p
  obtain ⟨y,t,u⟩:=q
  obtain ⟨e,rv⟩:=h
  cases e
  have ih:=zbs (w:=w) (k:=k) r
  show RelO (List.lookup k ((x,v) :: _)) (((entM w (x,t,u) :: _).find? λ e=>Value.isStrOf k e.key).map (·.val))
  rw [List.lookup_cons,List.find?_cons]
  by_cases hk:k=x
  ·subst hk
   have h1:(k == k)=true:=beq_self_eq_true k
   have h2:Value.isStrOf k (entM w (k,t,u)).key=true:=by simp [entM,Value.isStrOf]
   rw [h1,h2]
   exact rv
  ·have h1:(k == x)=false:=beq_eq_false_iff_ne.mpr hk
   have h2:Value.isStrOf k (entM w (x,t,u)).key=false:=by
    show (x == k)=false
    exact beq_eq_false_iff_ne.mpr λ e=>hk e.symm
   rw [h1,h2]
   exact ih
section
variable {X:Cx} {pins:List (Addr×Obj)} {σ:St} {H:Hp} {s:Shared} {d:Addr} {kvs:List (Str×V)}
theorem KD.map (D:KD X.w X.K d kvs) (I:Inv X pins σ H s):∃ f:Str->Option Value,s.heap.MapOf (PySem.strKind X.prog X.w) d f/\∀ k,RelO (kvs.lookup k) (f k):=by
 obtain ⟨l,n,e,r⟩:=D.ex
 refine ⟨λ k=>((l.map (entM X.w)).find? λ e=>Value.isStrOf k e.key).map (·.val),⟨_,(l.map (entM X.w)).toArray,n,I.kIn d _ e,⟨rfl,rfl,rfl⟩,rfl,λ e he=>?_,λ k=>?_⟩,λ k=>zbs r⟩
 ·obtain ⟨q,_,rfl⟩:=List.mem_map.mp (by simpa using he:e∈l.map (entM X.w))
  exact ⟨q.1,by simp [entM,PySem.strKind,Value.isStrOf],rfl⟩
 ·show findBy (PySem.strKind X.prog X.w).is _ k=_
  unfold findBy
  rw [List.find?_toArray]
  rfl
def rInM (w:World) (K:Fg):R2:=λ x y H Q=>∃ d kvs z,x=.str z/\y=.ref d/\KD w K d kvs/\Q (.bl (kvs.lookup z).isSome) H
def ztk (w:World) (K:Fg):R2:=λ x y H Q=>∃ d kvs z,x=.str z/\y=.ref d/\KD w K d kvs/\Q (.bl (!(kvs.lookup z).isSome)) H
def rIxM (w:World) (K:Fg):R2:=λ x y H Q=>∃ d kvs z v,x=.ref d/\y=.str z/\KD w K d kvs/\kvs.lookup z=some v/\Q v H
theorem zd8 {a:Option V} {b:Option Value} (r:RelO a b):b.isSome=a.isSome:=by
 cases a <;> cases b <;> first|rfl|exact False.elim r
theorem zlv {w:World} {K:Fg} (hw:X.w=w) (hK:X.K=K):OpR X (compareOp .In) (rInM w K):=by
 subst hw hK
 intro pins s σ H x y v u Q I rx ry h
 obtain ⟨d,kvs,z,rfl,rfl,D,q⟩:=h
 obtain ⟨t,rfl⟩:=rx
 cases ry
 obtain ⟨f,m,r⟩:=D.map I
 refine wpAny_in_of (k:=z) (PySem.strKind_is X.prog X.w z t) D.ne m ?_
 rw [zd8 (r z)]
 exact ⟨.bl _,H,I.tok _,rfl,q⟩
theorem zoi {w:World} {K:Fg} (hw:X.w=w) (hK:X.K=K):OpR X (compareOp .NotIn) (ztk w K):=by
 subst hw hK
 intro pins s σ H x y v u Q I rx ry h
 obtain ⟨d,kvs,z,rfl,rfl,D,q⟩:=h
 obtain ⟨t,rfl⟩:=rx
 cases ry
 obtain ⟨f,m,r⟩:=D.map I
 refine wpAny_notIn_of (k:=z) (PySem.strKind_is X.prog X.w z t) D.ne m ?_
 rw [zd8 (r z)]
 exact ⟨.bl _,H,I.tok _,rfl,q⟩
theorem ix_M {w:World} {K:Fg} (hw:X.w=w) (hK:X.K=K):IxR X (rIxM w K):=by
 subst hw hK
 intro value slice pins s σ H x y v u Q I rx ry h hs
 obtain ⟨d,kvs,z,r0,rfl,rfl,D,e,q⟩:=h
 cases rx
 obtain ⟨t,rfl⟩:=ry
 obtain ⟨f,m,r⟩:=D.map I
 have rz:=r z
 rw [e] at rz
 obtain ⟨u,eu,ru⟩:=rz.some_of
 exact tail_any m.typeIs PySem.F.slot_dict_getitem.lookup (wpAny_getItem_of (k:=z) (PySem.strKind_is X.prog X.w z t) m eu ⟨r0,H,I.tok _,ru,q⟩) hs
end
def Walks (J:It) (H:Hp) (n:Nat) (Y:Nat->V->Hp->Prop):Prop:=∀ H',Same H H'->(∀ i,i < n->J.go i H')/\J.stop n H'/\∀ i x H2,i < n->J.yld i H' x H2->Same H' H2/\Y i x H2
section
variable {K:Fg} {H:Hp} {a:Addr} {xs:List V}
theorem Walks.mono {J:It} {n:Nat} {Y:Nat->V->Hp->Prop} {H':Hp} (w:Walks J H n Y) (s:Same H H'):Walks J H' n Y:=λ H2 s2=>w H2 (s.trans s2)
def SameX (D:Addr) (H H':Hp):Prop:=∀ b o,b≠D->H b=some o->H' b=some o
variable {Q:VK} {σ caps:St} {n:Nat} {ix:List Nat} {g:TG} {te:TE} {m:Nat} {J:It} {Y:Nat->V->Hp->Prop}
end
def zs01:R2:=λ x y H Q=>zc11 x y H Q \/ zn01 x y H Q
def rInW (w:World) (K:Fg):R2:=λ x y H Q=>rInU K x y H Q \/ rInM w K x y H Q
def zik (w:World) (K:Fg):R2:=λ x y H Q=>zmj K x y H Q \/ ztk w K x y H Q
def rIxW (w:World) (K:Fg):R2:=λ x y H Q=>rIx K x y H Q \/ rIxM w K x y H Q
def rSlW (K:Fg):V->Option Int->Option Int->Hp->VK->Prop:=λ x lo hi H Q=>rSlU K x lo hi H Q \/ rSlS x lo hi H Q
def zrx (K:Fg) (x:V) (H:Hp) (R:It->Hp->Prop):Prop:=zz21 K x H R \/ ∃ z:Str,x=.str z/\z.cps.all (· < 128)=true/\R (Its z) H
def iW (K:Fg) (tl:TE):TI:=λ σ H R=>tl σ H λ x H1=>zrx K x H1 R
section
variable {X:Cx} {w:World} {K:Fg} {tg:Expr}
theorem zmo:OpR X (binaryOp .Mult) zs01:=zwo.or zos
theorem zfx (hw:X.w=w) (hK:X.K=K):OpR X (compareOp .In) (rInW w K):=(zqx hK).or (zlv hw hK)
theorem zqh (hw:X.w=w) (hK:X.K=K):OpR X (compareOp .NotIn) (zik w K):=(zvi hK).or (zoi hw hK)
theorem ix_W (hw:X.w=w) (hK:X.K=K):IxR X (rIxW w K):=(ix_U hK).or (ix_M hw hK)
theorem sl_W (hK:X.K=K):SlR X (rSlW K):=(sl_U hK).or zyq
theorem pi_W (h:X.K=K) {l:Expr} {tl:TE} (hl:PE X l tl):PI X tg l (iW K tl):=by
 subst h
 intro pins s σ H R I h
 refine thn (hl pins s σ H _ I h) λ v s1 ⟨x,H1,I1,r1,q1⟩=>?_
 rcases q1 with (⟨a,e,⟨xs,hq⟩,q⟩|⟨a,e,⟨xs,hq⟩,q⟩)|⟨z,rfl,ha,q⟩
 ·subst e
  cases r1
  obtain ⟨its,rv,p,hz⟩:=I1.list hq
  refine wpAny_pyIter_list p.isList ?_
  refine ⟨s1.heap.objs.size,[s1.heap.objs.size],_,_,H1,rfl,I1.kept (t':=s1.toks) λ b o e=>Heap.get?_push_of_some _ e,zlh a _,⟨_,Heap.get?_push_size _ rfl,rfl,rfl⟩,λ b hb=>?_,q⟩
  have e:b=s1.heap.objs.size:=by simpa using hb
  subst e
  exact I1.fpOk (Nat.le_refl _) (I1.hok.fresh (Nat.le_refl _))
 ·subst e
  cases r1
  obtain ⟨its,rv,p,hz⟩:=I1.tuple hq
  refine wpAny_pyIter_tuple (show s1.heap.IsTuple a its.toArray from p) ?_
  refine ⟨s1.heap.objs.size,[s1.heap.objs.size],_,_,H1,rfl,I1.kept (t':=s1.toks) λ b o e=>Heap.get?_push_of_some _ e,zsg a _,⟨_,Heap.get?_push_size _ rfl,rfl,rfl⟩,λ b hb=>?_,q⟩
  have e:b=s1.heap.objs.size:=by simpa using hb
  subst e
  exact I1.fpOk (Nat.le_refl _) (I1.hok.fresh (Nat.le_refl _))
 ·obtain ⟨t,rfl⟩:=r1
  refine wpAny_pyIter_ascii ha ?_
  refine ⟨s1.heap.objs.size,[s1.heap.objs.size],_,_,H1,rfl,I1.kept (t':=s1.toks) λ b o e=>Heap.get?_push_of_some _ e,zam z t _,⟨_,Heap.get?_push_size _ rfl,rfl,rfl⟩,λ b hb=>?_,q⟩
  have e:b=s1.heap.objs.size:=by simpa using hb
  subst e
  exact I1.fpOk (Nat.le_refl _) (I1.hok.fresh (Nat.le_refl _))
def ztz (K:Fg):List V->Hp->VK->Prop:=λ xs H Q=>∃ p ys,xs=[.ref p]/\(SqL K H p ys \/ SqT K H p ys)/\∀ l,H l=none->Q (.ref l) (upd H l (.lst ys))
theorem ze4 (h:X.K=K):CallR X (.type "list") (ztz K):=h ▸ zgb
end
section
variable {K:Fg} {w:World} {H:Hp} {Q:VK} {a b:Addr} {xs ys:List V} {i:Int} {v:V} {z:Str} {kvs:List (Str×V)} {d:Addr}
theorem zh31 (h:SqT K H a xs) (e:atI xs i=some v) (q:Q v H):rIxW w K (.ref a) (.int i) H Q:=.inl (zp31 h e q)
end
section
variable {K:Fg} {w:World} {H:Hp} {Q:VK} {a:Addr} {xs:List V} {i:Int} {v:V} {z:Str} {σ:St} {r r':R2} {ta tb tc:TE} {tA:TA} {D:Ends}
end
theorem sIx_nat {n d a:Nat} (h:a<=n):HT.sIx n d (some (a:Int))=a:=by
 unfold HT.sIx
 simp
 rw [if_neg (by lia)]
 lia
section
variable {K:Fg} {H:Hp} {a:Addr} {xs:List V} {σ:St} {ta:TA} {Q:VK}
end
theorem zpa {X:Cx} {pos:Pos} {K:Fg} {n:Nat} (hK:X.K=K) {es:List Expr} {k:Nat} {t:TGs} (hc:X.calm=true) (h:PGs X es t)
  (hn:(assignEach es X.env).length=n:=by rfl) (hst:(assignEach es X.env).findIdx? (·.1)=none:=by rfl):PG X (.Tuple es k pos) (gTup K n t):=by
 subst hK
 exact zgz hc h hn hst
def kBM (K:Fg) (T:String) (r:V->List V->Hp->VK->Prop) (t:TA) (σ:St) (x:V) (H:Hp) (Q:VK):Prop:=tyV K T x H/\t σ H λ xs H2=>r x xs H2 Q
def tBMU (K:Fg) (T:String) (r:V->List V->Hp->VK->Prop) (to:TE) (t:TA):TE:=λ σ H Q=>to σ H λ x H1=>kBM K T r t σ x H1 Q
theorem zm7 {X:Cx} {K:Fg} (hK:X.K=K) {o e:Expr} {es:List Expr} {to:TE} {t:TA} {name:Str} {apos cpos:Pos} {T id:String} {r:V->List V->Hp->VK->Prop} (pa:PlainAttrs T) (slot:Slot T name id) (hty:typeOf (.builtin id)=pure (.type "method_descriptor")) (hm:MtR X id r) (ho:PE X o to) (ha:PA X (e :: es) t)
  (hbase:attributeBase o name X.env (eval o X.env)=eval o X.env:=by rfl)
  (hfew:((backTo cpos (starEach (e :: es) X.env)).all (λ x=>!x.1) && (backToKw cpos (keywordEach [] X.env)).all (λ x=>x.1.isSome)
   && decide ((e :: es).length+([]:List Keyword).length+(if ([]:List Keyword).isEmpty then 0 else 1) < 30))=true:=by rfl)
  (hline:(apos.endLine == cpos.line)=true:=by rfl) (hs:starEach (e :: es) X.env=(false,eval e X.env) :: starEach es X.env:=by rfl) (hplain:(backTo cpos (starEach es X.env)).any (·.1)=false:=by rfl) :
  PE X (.Call (.Attribute o name apos) (e :: es) [] cpos) (tBMU K T r to t):=by
 subst hK
 exact zk31 pa slot hty hm ho ha hbase hfew hline hs hplain
section
variable {K:Fg} {T:String} {r:V->List V->Hp->VK->Prop} {to:TE} {t:TA} {σ:St} {H:Hp} {Q:VK} {a:Addr} {xs:List V} {z:Str}
end
section
variable {t:TJ} {te:TE} {σ:L2.St} {H:Hp} {acc y z:Str} {i:Int}
end
def zqu (_ j:Int):Prop:=0 < j/\j < 2 ^ 200
theorem zbl {j:Int} (h0:0 < j) (h1:j < 2 ^ 200):j.natAbs.log2 < 9000:=by
 have h:j.natAbs.log2 < 200:=(Nat.log2_lt (by lia)).mpr (by lia)
 lia
theorem zv1 {X:Cx}:OpR X (binaryOp .FloorDiv) (rI zqu λ i j=>.int (i / j)):=opI λ i j _ _ _ _ _ hc q=>by
 have h1:(0:Int) < j:=hc.1
 exact floordiv_int (by lia) (by rw [Int.fdiv_eq_ediv_of_nonneg i (by lia)];exact q) (.inl (PyProof.noPylong_of_log2 (zbl hc.1 hc.2)))
def zge {α:Type} (xs:List α) (lo hi st:Option Int):List α:=(sliceRange (sliceBounds lo hi st xs.length).1 (sliceBounds lo hi st xs.length).2.1 (sliceBounds lo hi st xs.length).2.2).filterMap (xs[·]?)
theorem zr7 {xs:List V} {vs:List Value} (h:Vals xs vs):∀ js:List Nat,Vals (js.filterMap (xs[·]?)) (js.filterMap (vs[·]?))
|[]=>.nil
|j :: js=>by
  have ih:=zr7 h js
  cases hn:xs[j]? with
 |some n =>
   obtain ⟨u,hu,r⟩:=h.get hn
   simp only [List.filterMap_cons,hn,hu]
   exact .cons r ih
 |none =>
   have hv:=h.none_of hn
   simp only [List.filterMap_cons,hn,hv]
   exact ih
theorem zmi {xs:List V} {vs:List Value} (h:Vals xs vs) (lo hi st:Option Int):Vals (zge xs lo hi st) (slicePick vs.toArray lo hi st).toList:=by
 have e:(slicePick vs.toArray lo hi st).toList=(sliceRange (sliceBounds lo hi st xs.length).1 (sliceBounds lo hi st xs.length).2.1 (sliceBounds lo hi st xs.length).2.2).filterMap (vs[·]?):=by
  simp [slicePick,h.length]
 rw [e]
 exact zr7 h _
def rSl3 (K:Fg):V->Option Int->Option Int->Option Int->Hp->VK->Prop:=λ x lo hi st H Q=>∃ a xs,x=.ref a/\SqL K H a xs/\st≠some 0/\∀ p,H p=none->Q (.ref p) (upd H p (.lst (zge xs lo hi st)))
def tSl3 (K:Fg) (te:TE) (tl th tk:TO):TE:=λ σ H Q=>te σ H λ x H1=>tl σ H1 λ l H2=>th σ H2 λ u H3=>tk σ H3 λ st H4=>rSl3 K x l u st H4 Q
theorem zuh {X:Cx} {K:Fg} (hK:X.K=K) {e:Expr} {te:TE} {lo hi:Option Expr} {st:Expr} {tl th tk:TO} {pos p2:Pos} (he:PE X e te) (hl:PO X lo tl) (hu:PO X hi th) (hs:PO X (some st) tk):PE X (.Subscript e (.Slice lo hi (some st) p2) pos) (tSl3 K te tl th tk):=by
 subst hK
 intro pins s σ H Q I h
 refine Subscript_ (thn (he pins s σ H _ I h) λ v s1 ⟨x,H1,I1,r1,q1⟩=>?_)
 refine wpAny_Slice (thn (hl pins s1 σ H1 _ I1 q1) λ vl s2 ⟨l,H2,I2,pl,q2⟩=>thn (hu pins s2 σ H2 _ I2 q2) λ vu s3 ⟨u,H3,I3,pu,q3⟩=>thn (hs pins s3 σ H3 _ I3 q3) λ vk s4 ⟨k,H4,I4,pk,q4⟩=>?_)
 obtain ⟨a,xs,rfl,hx,h0,q⟩:=q4
 cases r1
 have I5:Inv X pins σ H4 { s4 with heap:=s4.heap.push { cls:=.type "slice",data:=.fields #[vl,vu,vk] } }:=I4.kept (t':=s4.toks) λ b ob q=>Heap.get?_push_of_some _ q
 obtain ⟨its,r,ht,hz⟩:=I5.list hx
 have hlen:=r.length
 refine tail_any (T := "list") (ops:=[.ref a,.ref s4.heap.objs.size]) ht.isList.typeIs slot_list_getitem.lookup (wpAny_getItem_list_slice ht.isList (Heap.IsSliceOf.new ..) pl pu pk h0 ?_ (by rw [List.size_toArray] <;> lia)) (by with_unfolding_all rfl)
 have rv:=zmi r l u k
 refine ⟨.ref _,_,I5.laid (t':=s4.toks) (o:=.lst (zge xs l u k)) (λ b ob q=>Heap.get?_push_of_some _ q) (Nat.le_refl _) ?_,rfl,q _ (I5.hok.fresh (Nat.le_refl _))⟩
 refine ⟨?_,_,0,rv,?_⟩
 ·have:=slicePick_size_le its.toArray l u k
  have e:=rv.length
  simp only [Array.length_toList,List.size_toArray] at this e
  lia
 ·rw [Array.toArray_toList]
  exact Heap.get?_push_size _ rfl
def rSum (K:Fg):List V->Hp->VK->Prop:=λ vs H Q=>∃ (a:Addr) (ns:List Int),vs=[.ref a]/\SqL K H a (ns.map V.int)/\Q (.int ns.sum) H
theorem zt5 {X:Cx} {K:Fg} (h:X.K=K) (hc:X.calm=true):CallR X (.builtin "sum") (rSum K):=by
 subst h
 intro pins s σ H xs us Q I r h
 obtain ⟨a,ns,rfl,hx,q⟩:=h
 obtain ⟨u,rfl,r1⟩:=zqk r
 cases r1
 obtain ⟨its,rv,p,hz⟩:=I.list hx
 have hi:IntsAre its ns:=zi4 rv
 obtain ⟨ys,hy⟩:=hi.allInts.items
 have hl:s.heap.IsList a (intItems ys):=hy ▸ p.isList
 refine sum_intListG (I.ok.hd hc) hl λ h' tk t' hk=>?_
 have e1:ns=ys.toList.map (·.1):=by
  rw [<- nums_intItems,<- hy]
  exact (show numsOf its.toArray.toList=ns from hi.numsOf).symm
 have e2:preSum (numAt ys) ys.size=ns.sum:=by
  rw [preSum_eq,List.take_of_length_le (by simp),e1]
 rw [e2]
 exact ⟨.int ns.sum,H,I.kept hk,⟨_,rfl⟩,q⟩
section
variable {K:Fg} {H:Hp} {Q:VK} {a:Addr} {xs:List V} {i j:Int} {σ:St}
end
theorem zkj:bootBuiltins "sum"=some (.builtin "sum"):=by decide +kernel
theorem zcd:bootBuiltins "sorted"=some (.builtin "sorted"):=by decide +kernel
section
variable {K:Fg} {H H':Hp} {D a:Addr} {xs:List V}
theorem SameX.trans {H1 H2 H3:Hp} (s:SameX D H1 H2) (s':SameX D H2 H3):SameX D H1 H3:=λ b o hb e=>s' b o hb (s b o hb e)
theorem IsAll.length:∀ {xs:List V} {ds:List PyData},IsAll K H xs ds->xs.length=ds.length
|_,_,.nil=>rfl
|_,_,.cons _ r=>by simp [IsAll.length r]
end
def Fit (n:Nat) (d:PyData):Prop:=d.canLay0=true/\d.depth<=n
theorem zx3:∀ {ds:List PyData},(∀ d∈ds,d.canLay0=true)->PyData.canLayAll0 ds=true
|[],_=>rfl
|d :: ds,h=>by
  show (d.canLay0 && PyData.canLayAll0 ds)=true
  rw [h d (by simp),zx3 λ e he=>h e (List.mem_cons_of_mem _ he)];rfl
theorem zo4 {n:Nat}:∀ {ds:List PyData},(∀ d∈ds,d.depth<=n)->PyData.depthAll ds<=n
|[],_=>Nat.zero_le _
|d :: ds,h=>by
  show max d.depth (PyData.depthAll ds)<=n
  have:=h d (by simp)
  have:=zo4 λ e he=>h e (List.mem_cons_of_mem d he)
  lia
theorem Fit.tup {n:Nat} {ds:List PyData} (h:∀ d∈ds,Fit n d):Fit (n+1) (.tuple ds):=⟨by show PyData.canLayAll0 ds=true;exact zx3 λ d hd=>(h d hd).1,by show PyData.depthAll ds+1<=n+1;have:=zo4 λ d hd=>(h d hd).2;lia⟩
theorem Fit.lst {n:Nat} {ds:List PyData} (h:∀ d∈ds,Fit n d):Fit (n+1) (.list ds):=⟨by show PyData.canLayAll0 ds=true;exact zx3 λ d hd=>(h d hd).1,by show PyData.depthAll ds+1<=n+1;have:=zo4 λ d hd=>(h d hd).2;lia⟩
theorem Fit.int {n:Nat} (i:Int):Fit n (.int i):=⟨rfl,Nat.zero_le _⟩
theorem Fit.str {n:Nat} {x:Str} (h:x.cps.all (· < 0x110000)=true):Fit n (.str x):=⟨h,Nat.zero_le _⟩
theorem Fit.mono {n m:Nat} {d:PyData} (h:Fit n d) (hm:n<=m):Fit m d:=⟨h.1,Nat.le_trans h.2 hm⟩
theorem Fit.shaped {n:Nat} {d:PyData} (h:Fit n d) (hn:n<=64):SeqAt.shaped d=true:=by
 unfold SeqAt.shaped
 rw [h.1,decide_eq_true (Nat.le_trans h.2 hn)];rfl
theorem Fit.eqv {n:Nat} {d:PyData} (h:Fit n d):PyData.eqv d d=true:=SeqAt.eqv_refl d h.1
def zgu (K:Fg):Sp:=λ vs H Q _=>∃ (a:Addr) (ns:List Int),vs=[.ref a]/\SqL K H a (ns.map V.int)/\ns.length<=63/\∀ H',Q (.bl true) H'
theorem law_walk {k:Nat} {l:PySem.W.OpenLaw} {q:Program} {loose:List Str} {XP:(Str->Option Value)->Heap->Prop} {YP:World->Heap->Prop} {d:DefRec} {K:Params->Fg} (hk:Room k callerA) (hn:l.most=some 63) (hdf:d.params.defaults=[])
  (hY:∀ (w:World) (h:Heap),YP w h->(K w.params).In h)
  (F:∀ (w:World) (mg:Str->Option Value) (fa:Addr) (h:Heap),(K w.params).In h->h.Ns mainGlobals mg->mg d.name=some (.ref fa) ->
   ∃ fd:FuncData,(∀ (s:Shared) (u:Value),BindsTo s fd ⟨[u],[]⟩ [("script",u)])/\∀ base:Heap,(K w.params).In base->base.Ns mainGlobals mg->FnOk l.prog w (K w.params) mg base CX0 k fa fd ["script"] (zgu (K w.params))) :
  PySem.W.WalkO q loose XP YP l.row.toRowW d [] (λ f vs=>PySem.call f vs) :=
 L2.walk_of (n:=63) (k:=k) (x := "script") (CX:=λ _=>CX0) (sp:=λ w=>zgu (K w.params)) hn (by decide) hdf hk hY F (λ _ _ a ns hl _ hS=>⟨a,ns,rfl,hS,hl,λ _=>rfl⟩) λ _ _ _ _ _ z=>z
section
variable {K:Fg} {H:Hp} {Q:VK} {σ:St} {i j:Int}
end
end L3
namespace L2
open PySem PySem.Spec PyProof.Rows
section
variable {κ:Type} [DecidableEq κ]
def valV (kvs:List (κ×V)) (k:κ):Option V:=(kvs.find? λ kv=>decide (kv.1=k)).map (·.2)
def putK (kvs:List (κ×V)) (k:κ) (v:V):List (κ×V) :=
 if (kvs.any λ kv=>decide (kv.1=k))=true then kvs.map (λ kv=>if kv.1=k then (kv.1,v) else kv) else kvs++[(k,v)]
theorem zkb {p:κ×V} {r:List (κ×V)} {k:κ} (e:p.1=k):valV (p :: r) k=some p.2:=by simp [valV,List.find?_cons,e]
theorem znb {p:κ×V} {r:List (κ×V)} {k:κ} (e:¬ p.1=k):valV (p :: r) k=valV r k:=by simp [valV,List.find?_cons,e]
theorem zlf (k:κ):∀ kvs:List (κ×V),(kvs.any λ kv=>decide (kv.1=k))=(valV kvs k).isSome
|[]=>rfl
|p :: r=>by
  rw [List.any_cons]
  by_cases e:p.1=k
  ·simp only [zkb e,decide_eq_true e,Bool.true_or,Option.isSome_some]
  ·rw [znb e,decide_eq_false e,Bool.false_or];exact zlf k r
theorem zr4 (kvs:List (κ×V)) (k:κ) (v:V):(putK kvs k v).length<=kvs.length+1:=by
 unfold putK
 split
 ·rw [List.length_map];lia
 ·rw [List.length_append,List.length_cons,List.length_nil];lia
theorem RelO.isSome_eq {o:Option V} {u:Option Value} (r:RelO o u):o.isSome=u.isSome:=by
 cases o with
|none=>cases u with
 |none=>rfl
 |some _=>exact (show False from r).elim
|some _=>cases u with
 |none=>exact (show False from r).elim
 |some _=>rfl
theorem RelO.getD {o:Option V} {u:Option Value} {d:V} {d':Value} (r:RelO o u) (rd:RelV d d'):RelV (o.getD d) (u.getD d'):=by
 cases o with
|none=>cases u with
 |none=>exact rd
 |some _=>exact (show False from r).elim
|some _=>cases u with
 |none=>exact (show False from r).elim
 |some _=>exact r
theorem KV.val {kvs:List (κ×V)} {vs:List (κ×Value)} (r:KV kvs vs) (k:κ):RelO (valV kvs k) (valueAt vs k):=by
 unfold KV at r
 induction r with
|nil=>exact True.intro
|@cons p q ps qs h t ih =>
  obtain ⟨h1,h2⟩:=h
  by_cases e:p.1=k
  ·have e':q.1=k:=h1.symm.trans e
   have b:valueAt (q :: qs) k=some q.2:=by simp [valueAt,List.find?_cons,e']
   rw [zkb e,b];exact h2
  ·have e':¬ q.1=k:=λ z=>e (h1.trans z)
   have b:valueAt (q :: qs) k=valueAt qs k:=by simp [valueAt,List.find?_cons,e']
   rw [znb e,b];exact ih
theorem KV.any {kvs:List (κ×V)} {vs:List (κ×Value)} (r:KV kvs vs) (k:κ):(kvs.any λ kv=>decide (kv.1=k))=vs.any λ kv=>decide (kv.1=k):=by
 unfold KV at r
 induction r with
|nil=>rfl
|cons h t ih=>rw [List.any_cons,List.any_cons,ih,h.1]
theorem KV.repl {kvs:List (κ×V)} {vs:List (κ×Value)} (r:KV kvs vs) (k:κ) {y:V} {u:Value} (ry:RelV y u) :
  KV (kvs.map λ kv=>if kv.1=k then (kv.1,y) else kv) (vs.map λ kv=>if kv.1=k then (kv.1,u) else kv):=by
 unfold KV at r ⊢
 induction r with
|nil=>exact .nil
|@cons p q ps qs h t ih =>
  rw [List.map_cons,List.map_cons]
  refine .cons ?_ ih
  obtain ⟨h1,h2⟩:=h
  by_cases e:p.1=k
  ·rw [if_pos e,if_pos (h1.symm.trans e)];exact ⟨h1,ry⟩
  ·rw [if_neg e,if_neg (λ z=>e (h1.trans z))];exact ⟨h1,h2⟩
theorem KV.put {kvs:List (κ×V)} {vs:List (κ×Value)} (r:KV kvs vs) (k:κ) {y:V} {u:Value} (ry:RelV y u):KV (putK kvs k y) (stored vs k u):=by
 unfold putK stored
 rw [r.any k]
 by_cases e:(vs.any λ kv=>decide (kv.1=k))=true
 ·rw [if_pos e,if_pos e];exact r.repl k ry
 ·rw [if_neg e,if_neg e];exact Paired.snoc r ⟨rfl,ry⟩
theorem KV.length {kvs:List (κ×V)} {vs:List (κ×Value)} (r:KV kvs vs):kvs.length=vs.length:=Paired.length r
end
theorem zgo {P:Program} {w:World} {k:Key} {u:Value} (r:RelV (kV k) u):(zi1 P w).is k u=true:=by
 cases k with
|inl i=>obtain ⟨t,e⟩:=(show ∃ t,u=Value.int i t from r);subst e;exact zrd P w i t
|inr x=>obtain ⟨t,e⟩:=(show ∃ t,u=Value.str x t from r);subst e;exact ztd P w x t
theorem zld {P:Program} {w:World}:∀ {ks:List Key} {us:List Value},Vals (ks.map kV) us->ItemsAre (zi1 P w) ks us
|[],_,r=>by rw [List.map_nil] at r;cases r;exact .nil
|k :: ks,_,r=>by
  rw [List.map_cons] at r
  cases r with
 |cons h t=>exact .cons (zgo h) (zld t)
abbrev KT (H:Hp):List (List Key×V)->List (List Key×Addr×Value)->Prop:=Paired λ p q=>p.1=q.1/\H q.2.1=some (.tup (p.1.map kV))/\RelV p.2 q.2.2
theorem KT.val {H:Hp} {kvs:List (List Key×V)} {xs:List (List Key×Addr×Value)} (r:KT H kvs xs) (k:List Key):RelO (valV kvs k) ((atKey xs k).map (·.2)):=by
 induction r with
|nil=>exact True.intro
|@cons p q ps qs h t ih =>
  obtain ⟨h1,_,h2⟩:=h
  by_cases e:p.1=k
  ·have e':q.1=k:=h1.symm.trans e
   have b:atKey (q :: qs) k=some q.2:=by simp [atKey,List.find?_cons,e']
   rw [zkb e,b];exact h2
  ·have e':¬ q.1=k:=λ z=>e (h1.trans z)
   have b:atKey (q :: qs) k=atKey qs k:=by simp [atKey,List.find?_cons,e']
   rw [znb e,b];exact ih
theorem KT.repl {H:Hp} {kvs:List (List Key×V)} {xs:List (List Key×Addr×Value)} (r:KT H kvs xs) (k:List Key) {y:V} {u:Value} (ry:RelV y u) :
  KT H (kvs.map λ kv=>if kv.1=k then (kv.1,y) else kv) (xs.map (putAt k u)):=by
 induction r with
|nil=>exact .nil
|@cons p q ps qs h t ih =>
  rw [List.map_cons,List.map_cons]
  refine .cons ?_ ih
  obtain ⟨h1,h2,h3⟩:=h
  unfold putAt
  by_cases e:p.1=k
  ·rw [if_pos e,if_pos (h1.symm.trans e)];exact ⟨h1,h2,ry⟩
  ·rw [if_neg e,if_neg (λ z=>e (h1.trans z))];exact ⟨h1,h2,h3⟩
theorem KT.put {H:Hp} {kvs:List (List Key×V)} {xs:List (List Key×Addr×Value)} (r:KT H kvs xs) (k:List Key) {b:Addr} {y:V} {u:Value} (hb:H b=some (.tup (k.map kV))) (ry:RelV y u) :
  KT H (putK kvs k y) (storedH xs k b u):=by
 have e:(kvs.any λ kv=>decide (kv.1=k))=(atKey xs k).isSome:=by
  rw [zlf,(r.val k).isSome_eq,Option.isSome_map]
 unfold putK storedH
 rw [e]
 by_cases q:(atKey xs k).isSome=true
 ·rw [if_pos q,if_pos q];exact r.repl k ry
 ·rw [if_neg q,if_neg q];exact Paired.snoc r ⟨rfl,hb,ry⟩
theorem KT.keeps {H H':Hp} {kvs:List (List Key×V)} {xs:List (List Key×Addr×Value)} (r:KT H kvs xs) (ht:∀ b ys,H b=some (.tup ys)->H' b=some (.tup ys)):KT H' kvs xs :=
 Paired.mapP r λ _ _ z=>⟨z.1,ht _ _ z.2.1,z.2.2⟩
section
variable {P:Program} {w:World} {H:Hp} {h:Heap} {a:Addr}
theorem zr11 {u:HO} (ok:HOk P w H h) (e:Rd H a u):ObjOk P w H h a u:=e.ok ok
theorem zmq {kvs:List (Key×V)} (ok:HOk P w H h) (e:Rd H a (.dK kvs)):kvs.length<=sizeLine/\(a == sysModules)=false/\∃ vs,KV kvs vs/\h.DictOf (zi1 P w) a vs :=
 show ObjOk P w H h a (.dK kvs) from zr11 ok e
theorem zjy {kvs:List (Key×V)} (ok:HOk P w H h) (e:H a=some (.dK kvs)):kvs.length<=sizeLine/\(a == sysModules)=false/\∃ vs,KV kvs vs/\h.DictOf (zi1 P w) a vs:=zmq ok (.inl e)
theorem zhf {ks:List Key} (ok:HOk P w H h) (e:H a=some (.tup (ks.map kV))):(tupleKind (zi1 P w)).is h ks a:=by
 obtain ⟨_,its,r,o,h1,h2,n,h3⟩:=(show ObjOk P w H h a (.tup (ks.map kV)) from ok a _ e)
 exact ⟨o,its.toArray,n,h1,h2,h3,by simpa using zld r⟩
theorem zat {kvs:List (List Key×V)} (ok:HOk P w H h) (e:Rd H a (.dT kvs)):kvs.length<=sizeLine/\(a == sysModules)=false /\
  ∃ xs,KT H kvs xs/\h.DictOfH (tupleKind (zi1 P w)) a xs:=by
 obtain ⟨z,y,xs,r,o,es,ep,h1,h2,h3,h4,h5⟩:=(show ObjOk P w H h a (.dT kvs) from zr11 ok e)
 refine ⟨z,y,xs,r,o,es,ep,h1,h2,h3,h4,λ x hx=>?_,h5⟩
 have all:∀ {l:List (List Key×V)} {m:List (List Key×Addr×Value)},KT H l m->∀ x∈m,(tupleKind (zi1 P w)).is h x.1 x.2.1:=by
  intro l m q
  induction q with
 |nil=>intro x hx;exact nomatch hx
 |@cons p q ps qs hq t ih =>
   intro x hx
   rcases List.mem_cons.mp hx with e|hx
   ·subst e
    exact zhf ok (by rw [<- hq.1];exact hq.2.1)
   ·exact ih x hx
 exact all r x hx
theorem zc31 {kvs:List (List Key×V)} (ok:HOk P w H h) (e:H a=some (.dT kvs)):kvs.length<=sizeLine/\(a == sysModules)=false /\
  ∃ xs,KT H kvs xs/\h.DictOfH (tupleKind (zi1 P w)) a xs:=zat ok (.inl e)
end
def DGet (H:Hp) (a:Addr) (y:V) (r:Option V):Prop :=
 (∃ kvs k,Rd H a (.dK kvs)/\y=kV k/\r=valV kvs k) \/ ∃ kvs k b,Rd H a (.dT kvs)/\y=.ref b/\H b=some (.tup (k.map kV))/\r=valV kvs k
def DPut (H:Hp) (a:Addr) (y v:V) (H':Hp):Prop :=
 (∃ kvs k,H a=some (.dK kvs)/\y=kV k/\kvs.length < sizeLine/\H'=upd H a (.dK (putK kvs k v))) \/
 ∃ kvs k b,H a=some (.dT kvs)/\y=.ref b/\H b=some (.tup (k.map kV))/\kvs.length < sizeLine/\H'=upd H a (.dT (putK kvs k v))
theorem DGet.k {H:Hp} {a:Addr} {kvs:List (Key×V)} {k:Key} (e:H a=some (.dK kvs)):DGet H a (kV k) (valV kvs k):=.inl ⟨kvs,k,.inl e,rfl,rfl⟩
theorem DGet.t {H:Hp} {a b:Addr} {kvs:List (List Key×V)} {k:List Key} (e:H a=some (.dT kvs)) (eb:H b=some (.tup (k.map kV))):DGet H a (.ref b) (valV kvs k):=.inr ⟨kvs,k,b,.inl e,rfl,eb,rfl⟩
theorem DPut.k {H:Hp} {a:Addr} {kvs:List (Key×V)} {k:Key} {v:V} (e:H a=some (.dK kvs)) (hl:kvs.length < sizeLine):DPut H a (kV k) v (upd H a (.dK (putK kvs k v))):=.inl ⟨kvs,k,e,rfl,hl,rfl⟩
theorem DPut.t {H:Hp} {a b:Addr} {kvs:List (List Key×V)} {k:List Key} {v:V} (e:H a=some (.dT kvs)) (eb:H b=some (.tup (k.map kV))) (hl:kvs.length < sizeLine) :
  DPut H a (.ref b) v (upd H a (.dT (putK kvs k v))):=.inr ⟨kvs,k,b,e,rfl,eb,hl,rfl⟩
section
variable {X:Cx} {pins:List (Addr×Obj)} {σ:St} {H:Hp} {s:Shared} {a:Addr} {y v:V} {u r:Value} {o:Option V} {A:Around} {E:Value->Shared->Prop}
theorem Inv.big (I:Inv X pins σ H s):sysModules < s.heap.objs.size:=by
 have h:mainGlobals < s.heap.objs.size:=(I.mod.glob.keeps I.bk).lt
 exact Nat.lt_trans (by decide) h
theorem zkd {Q:Value->Shared->Prop} (hu:A.units+1 < cLine) (I:Inv X pins σ H s) (g:DGet H a y (some v)) (ry:RelV y u) (h:∀ w' s',Inv X pins σ H s'->RelV v w'->Q w' s') :
  wpAny (model X.prog X.w) A (getItem (.ref a) u) Q E s:=by
 rcases g with ⟨kvs,k,e,ey,l⟩|⟨kvs,k,b,e,ey,eb,l⟩
 ·subst ey
  obtain ⟨z,hd,vs,rel,dd⟩:=zmq I.hok e
  obtain ⟨w',hw,rw'⟩:=RelO.some_of (v:=v) (o:=valueAt vs k) (by rw [l];exact rel.val k)
  exact wpAny_getItem_of (zgo ry) dd.mapOf hw (h w' _ (I.tok _) rw')
 ·subst ey
  cases (show u=Value.ref b from ry)
  obtain ⟨z,hd,xs,rel,dd⟩:=zat I.hok e
  obtain ⟨w',hw,rw'⟩:=RelO.some_of (v:=v) (o:=(atKey xs k).map (·.2)) (by rw [l];exact rel.val k)
  obtain ⟨p,hp,hp2⟩:=Option.map_eq_some_iff.mp hw
  refine wpAny_getItem_heap (tupleKind_room_in1 hu) (zhf I.hok eb) dd hp ?_
  rw [hp2]
  exact h w' _ (I.tok _) rw'
theorem d_in {Q:Value->Shared->Prop} (hu:A.units+1 < cLine) (I:Inv X pins σ H s) (g:DGet H a y o) (ry:RelV y u) (h:∀ s',Inv X pins σ H s'->Q (.bool o.isSome) s') :
  wpAny (model X.prog X.w) A (compareOp .In u (.ref a)) Q E s:=by
 rcases g with ⟨kvs,k,e,ey,l⟩|⟨kvs,k,b,e,ey,eb,l⟩
 ·subst ey
  obtain ⟨z,hd,vs,rel,dd⟩:=zmq I.hok e
  refine wpAny_in_of (zgo ry) hd dd.mapOf ?_
  rw [<- (rel.val k).isSome_eq,<- l]
  exact h _ (I.tok _)
 ·subst ey
  cases (show u=Value.ref b from ry)
  obtain ⟨z,hd,xs,rel,dd⟩:=zat I.hok e
  refine wpAny_in_heap (tupleKind_room_in1 hu) (zhf I.hok eb) hd dd ?_
  have q:=(rel.val k).isSome_eq
  rw [Option.isSome_map] at q
  rw [<- q,<- l]
  exact h _ (I.tok _)
theorem zgr {Q:Value->Shared->Prop} (hu:A.units+1 < cLine) (I:Inv X pins σ H s) (g:DGet H a y o) (ry:RelV y u) (h:∀ s',Inv X pins σ H s'->Q (.bool (!o.isSome)) s') :
  wpAny (model X.prog X.w) A (compareOp .NotIn u (.ref a)) Q E s:=by
 rcases g with ⟨kvs,k,e,ey,l⟩|⟨kvs,k,b,e,ey,eb,l⟩
 ·subst ey
  obtain ⟨z,hd,vs,rel,dd⟩:=zmq I.hok e
  refine wpAny_notIn_of (zgo ry) hd dd.mapOf ?_
  rw [<- (rel.val k).isSome_eq,<- l]
  exact h _ (I.tok _)
 ·subst ey
  cases (show u=Value.ref b from ry)
  obtain ⟨z,hd,xs,rel,dd⟩:=zat I.hok e
  refine wpAny_notIn_heap (tupleKind_room_in1 hu) (zhf I.hok eb) hd dd ?_
  have q:=(rel.val k).isSome_eq
  rw [Option.isSome_map] at q
  rw [<- q,<- l]
  exact h _ (I.tok _)
theorem zah {h':Heap} {t':Nat} {ob:HO} (I:Inv X pins σ H s) (mu:Mut (H a)) (hs:Heap.SameBut a s.heap h') (he:∃ q,h'.get? a=some q) (new:ObjOk X.prog X.w (upd H a ob) h' a ob) :
  Inv X pins σ (upd H a ob) { s with heap:=h',toks:=t' } :=
 I.write (x:=a) (e:=a) mu (.inl rfl) (λ b q hb z=>(hs.2 b hb).trans z) he new
theorem zar {P:Program} {w:World} {H':Hp} {h':Heap} {kvs:List (Key×V)} {vs:List (Key×Value)} (z:kvs.length<=sizeLine) (hd:(a == sysModules)=false) (rel:KV kvs vs) (dd:h'.DictOf (zi1 P w) a vs) :
  ObjOk P w H' h' a (.dK kvs):=⟨z,hd,vs,rel,dd⟩
theorem zui {H':Hp} {Q:Unit->Shared->Prop} (hu:A.units+1 < cLine) (I:Inv X pins σ H s) (g:DPut H a y v H') (ry:RelV y u) (rv:RelV v r) (h:∀ s',Inv X pins σ H' s'->Q () s') :
  wpAny (model X.prog X.w) A (setItem (.ref a) u r) Q E s:=by
 rcases g with ⟨kvs,k,e,ey,l,eH⟩|⟨kvs,k,b,e,ey,eb,l,eH⟩
 ·subst ey eH
  obtain ⟨z,hd,vs,rel,dd⟩:=zjy I.hok e
  have hz:vs.length<=sizeLine:=by rw [<- rel.length];exact z
  have hl:(putK kvs k v).length<=sizeLine:=by have:=zr4 kvs k v;lia
  refine wpAny_setItem_pairs (hsz:=hz) (zgo ry) dd λ h' dd' hs=>h _ ?_
  have he:∃ q,h'.get? a=some q:=let ⟨q,_,_,hq,_⟩:=dd';⟨q,hq⟩
  exact zah I (by rw [e];exact True.intro) hs he (zar hl hd (rel.put k rv) dd')
 ·subst ey eH
  cases (show u=Value.ref b from ry)
  obtain ⟨z,hd,xs,rel,dd⟩:=zc31 I.hok e
  have hz:xs.length<=sizeLine:=by rw [<- Paired.length rel];exact z
  have hl:(putK kvs k v).length<=sizeLine:=by have:=zr4 kvs k v;lia
  refine wpAny_setItem_heap (hsz:=hz) (tupleKind_room_in1 hu) (zhf I.hok eb) dd λ h' dd' hs=>h _ ?_
  obtain ⟨q,es,ep,hq,h2,h3,h4,_,h5⟩:=dd'
  refine zah I (by rw [e];exact True.intro) hs ⟨q,hq⟩ ⟨hl,hd,_,(rel.put k eb rv).keeps λ c ys ec=>?_,q,es,ep,hq,h2,h3,h4,h5⟩
  rw [zp0 (zx21 ec e (λ z=>nomatch z))]
  exact ec
end
section
variable {X:Cx} {pins:List (Addr×Obj)} {σ:St} {H:Hp} {s:Shared} {a:Addr} {kvs:List (Key×V)} {k:Key} {u:Value} {A:Around} {E:Value->Shared->Prop}
end
theorem zae {X:Cx} {pins:List (Addr×Obj)} {σ:St} {H:Hp} {s:Shared} {a:Addr} {y:V} {o:Option V} (I:Inv X pins σ H s) (g:DGet H a y o):s.TypeIs (.ref a) "dict":=by
 rcases g with ⟨kvs,k,e,_,_⟩|⟨kvs,k,b,e,_,_,_⟩
 ·obtain ⟨_,_,vs,_,dd⟩:=zmq I.hok e
  exact dd.typeIs
 ·obtain ⟨_,_,xs,_,dd⟩:=zat I.hok e
  exact dd.typeIs
section
variable {X:Cx} {o i e value:Expr} {pos pos' tpos:Pos} {td ty tv:TE}
end
theorem zxm {P:Program} {w:World} {H:Hp} (h:Heap) (hb:sysModules < h.objs.size):ObjOk P w H (h.push { cls:=.type "dict",data:=.dict #[] }) h.objs.size (.dK []) :=
 ⟨Nat.zero_le _,beq_eq_false_iff_ne.mpr (Ne.symm (Nat.ne_of_lt hb)),[],.nil,Heap.DictOf.new h⟩
section
variable {X:Cx} {pos:Pos}
end
def zzm:List (TE×TE)->St->Hp->(List (V×V)->Hp->Prop)->Prop
|[],_,H,Q=>Q [] H
|(tk,tv) :: r,σ,H,Q=>tk σ H λ x H1=>tv σ H1 λ y H2=>zzm r σ H2 λ ps H3=>Q ((x,y) :: ps) H3
abbrev VV:List (V×V)->List (Value×Value)->Prop:=Paired λ p q=>RelV p.1 q.1/\RelV p.2 q.2
def PPs (X:Cx) (pos:Pos) (keys:List (Option Expr)) (values:List Expr) (trs:List (TE×TE)):Prop :=
 ∀ (pins:List (Addr×Obj)) (s:Shared) (σ:St) (H:Hp) (Q:List (V×V)->Hp->Prop),Inv X pins σ H s->zzm trs σ H Q ->
  wpAny (model X.prog X.w) X.A (evalPairs (pairTrees keys values X.env pos)) (λ vs s'=>∃ ps H',Inv X pins σ H' s'/\VV ps vs/\Q ps H') X.xe s
theorem zto {X:Cx} {pos:Pos}:PPs X pos [] [] []:=λ pins s σ H Q I h=>pairTrees_nil_walk ⟨[],H,I,.nil,h⟩
theorem zhm {X:Cx} {pos:Pos} {k v:Expr} {ks:List (Option Expr)} {vs:List Expr} {tk tv:TE} {trs:List (TE×TE)} (hk:PE X k tk) (hv:PE X v tv) (hr:PPs X pos ks vs trs) :
  PPs X pos (some k :: ks) (v :: vs) ((tk,tv) :: trs):=λ pins s σ H Q I h =>
 pairTrees_cons_walk (thn (hk pins s σ H _ I h) λ u s1 ⟨x,H1,I1,rx,q1⟩=>thn (hv pins s1 σ H1 _ I1 q1) λ w2 s2 ⟨y,H2,I2,ry,q2⟩ =>
  thn (hr pins s2 σ H2 _ I2 q2) λ ws s3 ⟨ps,H3,I3,rel,q3⟩=>⟨(x,y) :: ps,H3,I3,.cons ⟨rx,ry⟩ rel,q3⟩)
def zsb (kvs more:List (Key×V)):List (Key×V):=more.foldl (λ acc kv=>putK acc kv.1 kv.2) kvs
theorem KV.merge:∀ {more:List (Key×V)} {rs:List (Key×Value)} {kvs:List (Key×V)} {vs:List (Key×Value)},KV more rs->KV kvs vs->KV (zsb kvs more) (merged vs rs):=by
 intro more rs kvs vs r
 unfold KV at r
 induction r generalizing kvs vs with
|nil=>intro q;exact q
|@cons p q ps qs h t ih =>
  intro r0
  have e:KV (putK kvs p.1 p.2) (stored vs q.1 q.2):=by
   have:=r0.put p.1 h.2
   rw [<- h.1];exact this
  exact ih e
theorem zh5:∀ (more kvs:List (Key×V)),(zsb kvs more).length<=kvs.length+more.length
|[],kvs=>by show kvs.length<=kvs.length+0;lia
|p :: r,kvs=>by
  have h1:=zh5 r (putK kvs p.1 p.2)
  have h2:=zr4 kvs p.1 p.2
  show (zsb (putK kvs p.1 p.2) r).length<=_
  rw [List.length_cons];lia
theorem zk9 {P:Program} {w:World}:∀ {kvs:List (Key×V)} {ws:List (Value×Value)},VV (kvs.map λ kv=>(kV kv.1,kv.2)) ws->∃ rs,Carries (zi1 P w) ws rs/\KV kvs rs
|[],_,r=>by rw [List.map_nil] at r;cases r;exact ⟨[],True.intro,.nil⟩
|p :: kvs,_,r=>by
  rw [List.map_cons] at r
  cases r with
 |@cons a b as bs h t =>
   obtain ⟨rs,c,q⟩:=zk9 (P:=P) (w:=w) t
   obtain ⟨b1,b2⟩:=b
   exact ⟨(p.1,b2) :: rs,⟨zgo h.1,rfl,c⟩,.cons ⟨rfl,h.2⟩ q⟩
def zi11 (trs:List (TE×TE)):TE:=λ σ H Q=>∀ p,H p=none->zzm trs σ (upd H p (.dK [])) λ ps H2=>H2 p=some (.dK [])/\∃ kvs:List (Key×V),ps=kvs.map (λ kv=>(kV kv.1,kv.2))/\kvs.length<=15/\Q (.ref p) (upd H2 p (.dK (zsb [] kvs)))
theorem zus {X:Cx} {pos:Pos} {keys:List (Option Expr)} {values:List Expr} {trs:List (TE×TE)} (h:PPs X pos keys values trs) (hall:keys.all (·.isSome)=true) (hl:keys.length=values.length) (h0:keys≠[])
  (h15:keys.length<=15):PE X (.Dict keys values pos) (zi11 trs):=by
 intro pins s σ H Q I q
 have hn:=I.hok.fresh (Nat.le_refl s.heap.objs.size)
 have I1:=I.laid (a:=s.heap.objs.size) (o:=.dK []) (h':=s.heap.push { cls:=.type "dict",data:=.dict #[] }) (t':=s.toks) (λ _ _ q=>Heap.get?_push_of_some _ q) (Nat.le_refl _) (zxm s.heap I.big)
 refine wpAny_Dict_walk (knd:=zi1 X.prog X.w) hall hl h0 h15 (thn (h pins _ σ _ _ I1 (q _ hn)) λ ws s2 ⟨ps,H2,I2,rel,e,kvs,ep,lk,q2⟩=>?_)
 subst ep
 obtain ⟨rs,c,rk⟩:=zk9 (P:=X.prog) (w:=X.w) rel
 obtain ⟨z,hd,vs0,r0,dd⟩:=zjy I2.hok e
 cases r0
 refine ⟨rs,c,dd,λ h' dd' hs=>⟨.ref s.heap.objs.size,_,?_,rfl,q2⟩⟩
 have hz:(zsb [] kvs).length<=sizeLine:=by
  have h1:=zh5 kvs []
  rw [List.length_nil] at h1
  rw [sizeLine_eq];lia
 have he:∃ q,h'.get? s.heap.objs.size=some q:=let ⟨q,_,_,hq,_⟩:=dd';⟨q,hq⟩
 exact zah I2 (by rw [e];exact True.intro) hs he (zar hz hd (rk.merge .nil) dd')
section
variable {X:Cx} {pins:List (Addr×Obj)} {σ:St} {H:Hp} {s:Shared} {a:Addr} {y d:V} {u r:Value} {o:Option V} {A:Around} {E:Value->Shared->Prop}
end
section
variable {X:Cx} {o e f:Expr} {apos cpos:Pos} {td ty tx:TE}
end
section
variable {X:Cx} {pins:List (Addr×Obj)} {σ:St} {H:Hp} {s:Shared} {a:Addr} {kvs:List (Key×V)} {A:Around} {E:Value->Shared->Prop}
end
section
variable {X:Cx} {pins:List (Addr×Obj)} {σ:St} {H:Hp} {s:Shared} {a:Addr} {y:V} {u:Value} {A:Around} {E:Value->Shared->Prop}
end
end L2
namespace L3
open PySem PySem.Spec PyProof.Rows L2
def rInD:R2:=λ x y H Q=>∃ a o,y=.ref a/\DGet H a x o/\Q (.bl o.isSome) H
def zlj:R2:=λ x y H Q=>∃ a o,y=.ref a/\DGet H a x o/\Q (.bl (!o.isSome)) H
def rIxD:R2:=λ x y H Q=>∃ a v,x=.ref a/\DGet H a y (some v)/\Q v H
def zy01:V->V->V->Hp->(Hp->Prop)->Prop:=λ o i v H Q=>∃ a H',o=.ref a/\DPut H a i v H'/\Q H'
section
variable {X:Cx}
theorem zxv (hu:X.A.units+64 < cLine):OpR X (compareOp .In) rInD:=by
 intro pins s σ H x y v u Q I rx ry h
 obtain ⟨a,o,rfl,g,q⟩:=h
 obtain rfl:u=Value.ref a:=ry
 exact d_in (by lia) I g rx λ s3 I3=>⟨.bl o.isSome,H,I3,rfl,q⟩
theorem zcj (hu:X.A.units+64 < cLine):OpR X (compareOp .NotIn) zlj:=by
 intro pins s σ H x y v u Q I rx ry h
 obtain ⟨a,o,rfl,g,q⟩:=h
 obtain rfl:u=Value.ref a:=ry
 exact zgr (by lia) I g rx λ s3 I3=>⟨.bl (!o.isSome),H,I3,rfl,q⟩
theorem ix_D (hu:X.A.units+64 < cLine):IxR X rIxD:=by
 intro value slice pins s σ H x y v u Q I rx ry h hs
 obtain ⟨a,v',rfl,g,q⟩:=h
 obtain rfl:v=Value.ref a:=rx
 exact tail_any (zae I g) PySem.F.slot_dict_getitem.lookup (zkd (by lia) I g ry λ w' s3 I3 rw'=>⟨v',H,I3,rw',q⟩) hs
theorem zd31 (hu:X.A.units+64 < cLine):PSet X zy01:=by
 intro pins s σ H o i v ov iv u Q I ro ri rv h
 obtain ⟨a,H',rfl,g,q⟩:=h
 obtain rfl:ov=Value.ref a:=ro
 exact zui (by lia) I g ri rv λ s4 I4=>⟨H',I4,q⟩
theorem zu31 (hu:X.A.units+64 < cLine):PGet X rIxD:=by
 intro pins s σ H o i ov iv Q I ro ri h
 obtain ⟨a,v',rfl,g,q⟩:=h
 obtain rfl:ov=Value.ref a:=ro
 exact zkd (by lia) I g ri λ w' s3 I3 rw'=>⟨v',H,I3,rw',q⟩
def zm11 (K:Fg):R2:=λ x y H Q=>∃ a xs j v,x=.ref a/\y=.int j/\0<=j/\SqL K H a xs/\xs[j.toNat]?=some v/\Q v H
theorem zs21 {K:Fg} (hK:X.K=K):PGet X (zm11 K):=by
 subst hK
 intro pins s σ H o i ov iv Q I ro ri h
 obtain ⟨a,xs,j,v,rfl,rfl,h0,hq,he,q⟩:=h
 obtain rfl:ov=Value.ref a:=ro
 obtain ⟨t,rfl⟩:=ri
 obtain ⟨its,r,pl,hz⟩:=I.list hq
 obtain ⟨u,eu,ru⟩:=r.get he
 have hl:=r.length
 have hn:=zpb
 have hj:=(List.getElem?_eq_some_iff.mp he).1
 refine wpAny_getItem_list pl.isList h0 (by lia) (by simpa using eu) ⟨v,H,I,ru,q⟩
theorem PGet.or {r r':R2} (h:PGet X r) (h':PGet X r'):PGet X (λ x y H Q=>r x y H Q \/ r' x y H Q):=by
 intro pins s σ H o i ov iv Q I ro ri q
 rcases q with q|q
 ·exact h pins s σ H o i ov iv Q I ro ri q
 ·exact h' pins s σ H o i ov iv Q I ro ri q
theorem PSet.or {r r':TSet} (h:PSet X r) (h':PSet X r'):PSet X (λ o i v H Q=>r o i v H Q \/ r' o i v H Q):=by
 intro pins s σ H o i v ov iv u Q I ro ri rv q
 rcases q with q|q
 ·exact h pins s σ H o i v ov iv u Q I ro ri rv q
 ·exact h' pins s σ H o i v ov iv u Q I ro ri rv q
end
def rInV (w:World) (K:Fg):R2:=λ x y H Q=>rInW w K x y H Q \/ rInD x y H Q
def zse (w:World) (K:Fg):R2:=λ x y H Q=>zik w K x y H Q \/ zlj x y H Q
def rIxV (w:World) (K:Fg):R2:=λ x y H Q=>rIxW w K x y H Q \/ rIxD x y H Q
def zxx (K:Fg):R2:=λ x y H Q=>zm11 K x y H Q \/ rIxD x y H Q
def ziu:V->V->V->Hp->(Hp->Prop)->Prop:=λ o i v H Q=>zsz o i v H Q \/ zy01 o i v H Q
section
variable {X:Cx} {w:World} {K:Fg}
theorem zsr (hu:X.A.units+64 < cLine) (hw:X.w=w) (hK:X.K=K):OpR X (compareOp .In) (rInV w K):=(zfx hw hK).or (zxv hu)
theorem zz8 (hu:X.A.units+64 < cLine) (hw:X.w=w) (hK:X.K=K):OpR X (compareOp .NotIn) (zse w K):=(zqh hw hK).or (zcj hu)
theorem ix_V (hu:X.A.units+64 < cLine) (hw:X.w=w) (hK:X.K=K):IxR X (rIxV w K):=(ix_W hw hK).or (ix_D hu)
theorem zx01 (hu:X.A.units+64 < cLine) (hK:X.K=K):PGet X (zxx K):=PGet.or (zs21 hK) (zu31 hu)
theorem zjz (hu:X.A.units+64 < cLine):PSet X ziu:=PSet.or ztn (zd31 hu)
end
section
variable {w:World} {K:Fg} {H:Hp} {Q:VK} {a b:Addr} {x y v:V} {o:Option V} {xs:List V} {i:Int} {σ:St} {D:Ends}
end
section
variable {K:Fg} {H:Hp} {Q:VK} {σ caps:St} {n:Nat} {ix:List Nat} {g:TG} {tt:TT} {te:TE} {m:Nat} {J:It} {Y:Nat->V->Hp->Prop}
end
def kBM0 (K:Fg) (T:String) (r:V->List V->Hp->VK->Prop) (x:V) (H:Hp) (Q:VK):Prop:=tyV K T x H/\r x [] H Q
def zpz (K:Fg) (T:String) (r:V->List V->Hp->VK->Prop) (to:TE):TE:=λ σ H Q=>to σ H λ x H1=>kBM0 K T r x H1 Q
theorem zne {X:Cx} {K:Fg} (hK:X.K=K) {o:Expr} {to:TE} {name:Str} {apos cpos:Pos} {T id:String} {r:V->List V->Hp->VK->Prop} (pa:PlainAttrs T) (slot:Slot T name id) (hty:typeOf (.builtin id)=pure (.type "method_descriptor")) (hm:MtR X id r) (ho:PE X o to)
  (hbase:attributeBase o name X.env (eval o X.env)=eval o X.env:=by rfl) (hline:(apos.endLine == cpos.line)=true:=by rfl):PE X (.Call (.Attribute o name apos) [] [] cpos) (zpz K T r to):=by
 subst hK
 exact zux pa slot hty hm ho hbase hline
section
variable {K:Fg} {T:String} {r:V->List V->Hp->VK->Prop} {to:TE} {σ:L2.St} {H:Hp} {Q:VK} {a:Addr} {xs:List V} {w:World} {x y v:V}
end
theorem zmp {X:Cx} {pins:List (Addr×Obj)} {σ:L2.St} {H:Hp} {s:Shared} {h':Heap} {t':Nat} {a c:Addr} (I:L2.Inv X pins σ H s) (k:∀ b o,b≠a->b≠c->s.heap.get? b=some o->h'.get? b=some o)
  (fa:FpOk X pins H a) (fc:FpOk X pins H c):L2.Inv X pins σ H { s with heap:=h',toks:=t' }:=by
 obtain ⟨a0,a1,_,a3,a4,a5⟩:=fa
 obtain ⟨c0,c1,_,c3,c4,c5⟩:=fc
 have na:∀ b u,H b=some u->b≠a:=λ b u e z=>by rw [z,a0] at e;cases e
 have nc:∀ b u,H b=some u->b≠c:=λ b u e z=>by rw [z,c0] at e;cases e
 refine I.step (g':=s.gens) (d':=s.drawn) (ch:=[a,c]) (λ b hb=>?_) (λ b o _ _ hc e _=>k b o (λ z=>hc (by simp [z])) (λ z=>hc (by simp [z])) e) (λ b o _ _ hc e _=>⟨o.slots,k b o (λ z=>hc (by simp [z])) (λ z=>hc (by simp [z])) e⟩) (λ _ _ _ _ n=>n)
  (λ b o hc e=>⟨o,k b o (λ z=>hc (by simp [z])) (λ z=>hc (by simp [z])) e⟩) (λ _ _ e=>e) (λ _ _ _ e=>e) (λ b ps e=>⟨#[],by rw [e];simp⟩) (λ m hm=>?_) (λ b u e=>?_) I.bare
 ·simp at hb
  rcases hb with e|e
  ·subst e;exact ⟨a3,a1,a4,a5⟩
  ·subst e;exact ⟨c3,c1,c4,c5⟩
 ·obtain ⟨o,es,ep,ho,r⟩:=hm
  exact ⟨o,es,ep,k _ o (Ne.symm a1) (Ne.symm c1) ho,r⟩
 ·refine (I.hok b u e).stay (λ d v hc q=>k d v ?_ ?_ q) (λ _ q=>q) λ _ _ q=>q
  ·rcases hc with z|z
   ·rw [z];exact na b u e
   ·exact na d _ z
  ·rcases hc with z|z
   ·rw [z];exact nc b u e
   ·exact nc d _ z
theorem zlt {h:Heap} {ob o:Obj} {b:Addr} (e:(h.push ob).get? b=some o) (n:b≠h.objs.size):h.get? b=some o:=by
 obtain ⟨e1,e2⟩:=Heap.get?_some_iff.mp e
 refine Heap.get?_some_iff.mpr ⟨?_,e2⟩
 cases h
 simpa [Heap.push,Array.getElem?_push,n] using e1
def Ite (K:Fg) (a:Addr):It:=⟨λ i H=>∃ xs x,SqL K H a xs/\xs[i]?=some x,λ i H x H'=>∃ y p,(∀ ys,SqL K H a ys->ys[i]?=some y)/\H p=none/\x=.ref p/\H'=upd H p (.tup [.int (i:Int),y]),λ i H=>∃ xs,SqL K H a xs/\xs.length<=i⟩
theorem zci {P:Program} {w:World} {K:Fg} {elts:List Expr} {c:_} {pos:Pos} {a e it:Addr} (hne:e≠it) :
  Turn P w K (.Tuple elts c pos) (Ite K a) [e,it] e (λ i h=>(∃ old,IsEnum h e it (i:Int) old)/\h.IsListIter it a i) where
 mem:=by simp
 obj:=λ i h S b hb=>by
  obtain ⟨⟨old,he⟩,hi⟩:=S
  simp at hb
  rcases hb with rfl|rfl
  ·exact ⟨_,he,λ v q=>by cases q⟩
  ·obtain ⟨o,e1,c1,d1⟩:=hi
   exact ⟨o,e1,λ v z=>by rw [d1] at z;cases z⟩
 keep:=λ i h h' S k=>by
  obtain ⟨⟨old,he⟩,hi⟩:=S
  exact ⟨⟨old,k _ (by simp) _ he⟩,hi.at λ o e1=>k it (by simp) o e1⟩
 item:=by
  intro X hP hw hK hc i pins s σ H E I hf S hg
  subst hP hw hK
  obtain ⟨⟨old,he⟩,hi⟩:=S
  obtain ⟨xs,x,hq,hx⟩:=hg
  obtain ⟨its,rv,p,hz⟩:=I.list hq
  obtain ⟨u,hu,ru⟩:=rv.get hx
  refine wpAny_pyNext_enum_item he hi p.isList (x:=u) (by simpa using hu) hne λ h' ho hi' ht hsz hk=>?_
  have eL:e < s.heap.objs.size:=Heap.lt_size he
  have iL:it < s.heap.objs.size:=by obtain ⟨o,e1,_⟩:=hi;exact Heap.lt_size e1
  have hfr:=I.hok.fresh (Nat.le_refl s.heap.objs.size)
  have I1:L2.Inv X pins σ (upd H s.heap.objs.size (.tup [.int (i:Int),x])) { s with heap:=s.heap.push { cls:=.type "tuple",data:=.seq #[.int i s.toks,u] },toks:=s.toks+1 } :=
   I.laid (t':=s.toks+1) (o:=.tup [.int (i:Int),x]) (λ b ob q=>Heap.get?_push_of_some _ q) (Nat.le_refl _) ⟨by show 2<=sizeLine;rw [sizeLine_eq];decide,[.int i s.toks,u],.cons ⟨_,rfl⟩ (.cons ru .nil),IsTup.new _ _⟩
  have fe:=hf e (by simp)
  have fi:=hf it (by simp)
  have fe1:FpOk X pins (upd H s.heap.objs.size (.tup [.int (i:Int),x])) e:=⟨by rw [zp0 (Nat.ne_of_lt eL)];exact fe.1,fe.2⟩
  have fi1:FpOk X pins (upd H s.heap.objs.size (.tup [.int (i:Int),x])) it:=⟨by rw [zp0 (Nat.ne_of_lt iL)];exact fi.1,fi.2⟩
  have I2:L2.Inv X pins σ (upd H s.heap.objs.size (.tup [.int (i:Int),x])) { s with heap:=h',toks:=s.toks+1 } :=
   zmp (s:={ s with heap:=s.heap.push { cls:=.type "tuple",data:=.seq #[.int i s.toks,u] },toks:=s.toks+1 }) I1 (λ b o nb1 nb2 q=>by
    by_cases z:b=s.heap.objs.size
    ·subst z
     have q':(s.heap.push { cls:=.type "tuple",data:=.seq #[.int i s.toks,u] }).get? s.heap.objs.size=some o:=q
     rw [Heap.get?_push_size _ rfl] at q'
     cases q'
     exact ht
    ·exact hk b o nb1 nb2 (zlt q z)) fe1 fi1
  refine ⟨.ref s.heap.objs.size,rfl,wpAny_letOwnedTupleGo_enum ho λ h2 he2 hs2=>?_⟩
  refine ⟨.ref s.heap.objs.size,_,zd2 (tk:=s.toks+1) I2 fe1 hs2,rfl,⟨x,s.heap.objs.size,λ ys hy=>by rw [I.list_inj hy hq];exact hx,hfr,rfl,rfl⟩,⟨⟨u,by simpa using he2⟩,hi'.at λ o e1=>hs2.extBut _ _ (Ne.symm hne) e1⟩,λ b hb=>?_⟩
  simp at hb
  rcases hb with rfl|rfl
  ·exact fe1.1
  ·exact fi1.1
 done:=by
  intro X hP hw hK hc i pins s σ H E I hf S hg
  subst hP hw hK
  obtain ⟨⟨old,he⟩,hi⟩:=S
  obtain ⟨xs,hq,hx⟩:=hg
  obtain ⟨its,rv,p,hz⟩:=I.list hq
  have hl:=rv.length
  exact wpAny_pyNext_enum_end (I.ok.hd hc) he hi p.isList (by simp;lia) λ h' eb=>⟨rfl,zkm (tk:=s.toks) I (hf it (by simp)) eb⟩
 self:=λ _ _ _ _ _ S h=>wpAny_pyIter_enum S.1.choose_spec h
theorem znc:bootBuiltins "enumerate"=some (.type "enumerate"):=by decide +kernel
section
variable {X:Cx} {elts:List Expr}
def zb21 (K:Fg) (vs:List V) (H:Hp) (R:It->Hp->Prop):Prop:=∃ a xs,vs=[.ref a]/\SqL K H a xs/\R (Ite K a) H
def zix (K:Fg) (ta:TA):TI:=λ σ H R=>ta σ H λ vs H1=>zb21 K vs H1 R
theorem zgf {K:Fg} (hK:X.K=K) {c:_} {tpos:Pos} {a:Expr} {ta:TA} {p pos:Pos} (hg:Gl X "enumerate") (hm:X.mg "enumerate"=none) (ha:PA X [a] ta) (hs:starEach [a] X.env=[(false,eval a X.env)]:=by rfl) :
  PI X (.Tuple elts c tpos) (.Call (.Name "enumerate" p) [a] [] pos) (zix K ta):=by
 subst hK
 intro pins s σ H R I h
 refine Call_ (zce I hg hm znc (PyProof.Rows.callWith_type1 (thn (ha pos pins s σ H _ I h) λ us s1 ⟨vs,H1,I1,r1,q1⟩=>?_) (by rw [hs];rfl) (by rfl)))
 obtain ⟨l,xs,e,hq,q⟩:=q1
 subst e
 obtain ⟨u1,rfl,ru⟩:=zqk r1
 obtain rfl:u1=Value.ref l:=ru
 obtain ⟨its,rv,pl,hz⟩:=I1.list hq
 refine call_enumerate_list pl.isList ?_
 intro h' he hi hsz kk
 refine wpAny_pyIter_enum he ?_
 have I2:L2.Inv X pins σ H1 { s1 with heap:=h' }:=I1.kept (t':=s1.toks) kk
 refine ⟨s1.heap.objs.size+1,[s1.heap.objs.size+1,s1.heap.objs.size],_,_,H1,rfl,I2,zci (Nat.succ_ne_self _),⟨⟨.none,he⟩,hi⟩,λ b hb=>?_,q⟩
 have hb':s1.heap.objs.size<=b:=by
  simp at hb
  rcases hb with z|z
  ·exact z ▸ Nat.le_succ _
  ·exact z ▸ Nat.le_refl _
 exact I1.fpOk hb' (I1.hok.fresh hb')
end
section
variable {K:Fg} {H:Hp} {a:Addr} {xs:List V} {σ:L2.St} {ta:TA}
end
def zzw:R2:=λ x y H Q=>zs01 x y H Q \/ rRep x y H Q
theorem zj6 {X:Cx}:OpR X (binaryOp .Mult) zzw:=zmo.or ztr
section
variable {K:Fg} {r:V->List V->Hp->VK->Prop} {t:TA} {σ:L2.St} {H:Hp} {Q:VK} {a:Addr} {d k:V} {o:Option V}
end
section
variable {X:Cx}
def zqz (K:Fg):R2:=λ x y H Q=>∃ l b xs zs,x=.ref l/\y=.ref b/\SqL K H l xs/\SqL K H b zs/\xs.length+zs.length<=sizeLine/\∀ p,H p=none->Q (.ref p) (upd H p (.lst (xs++zs)))
theorem zds {K:Fg} (hK:X.K=K):OpR X (binaryOp .Add) (zqz K):=by
 subst hK
 intro pins s σ H x y v u Q I rx ry h
 obtain ⟨l,b,xs,zs,rfl,rfl,hH,hB,hz,q⟩:=h
 cases rx
 cases ry
 obtain ⟨its,r,⟨⟨cls,dd,data,sl⟩,n,ho,hc,_,hd⟩,z1⟩:=I.list hH
 obtain ⟨its2,r2,⟨⟨cls2,dd2,data2,sl2⟩,n2,ho2,hc2,_,hd2⟩,z2⟩:=I.list hB
 simp only at hc hd hc2 hd2
 subst hc hd hc2 hd2
 have e1:=r.length
 have e2:=r2.length
 refine concat_meets ⟨_,ho,rfl⟩ ⟨_,ho2,rfl⟩ noFill_list_add seq_list_add PySem.F.slot_list_add PySem.F.entry_list_add (PySem.F.args_list_add_2 _ _) (list_addW l b its.toArray its2.toArray n n2 dd dd2 sl sl2 (by simp;lia)) ⟨ho,ho2,?_⟩
 have ea:its.toArray++its2.toArray=(its++its2).toArray:=by simp
 rw [ea]
 exact ⟨.ref _,_,I.lnew (t':=s.toks) (r.append r2) (by rw [List.length_append];lia),rfl,q _ I.fresh⟩
def zjv (K:Fg):R2:=λ x y H Q=>zt01 K x y H Q \/ zqz K x y H Q
theorem zt0 {K:Fg} (hK:X.K=K):OpR X (binaryOp .Add) (zjv K):=(zzp hK).or (zds hK)
def rIsS (K:Fg):List V->Hp->VK->Prop:=λ vs H Q=>∃ a cV c b,vs=[.ref a,cV]/\clsV cV=some c/\(((∃ xs,SqL K H a xs)/\PySem.W.kitOne K (.type "list") c=some b) \/ ((∃ xs,SqT K H a xs)/\PySem.W.kitOne K (.type "tuple") c=some b))/\Q (.bl b) H
theorem znl {K:Fg} (h:X.K=K):CallR X (.builtin "isinstance") (rIsS K):=by
 subst h
 intro pins s σ H xs us Q I r h
 obtain ⟨a,cV,c,b,rfl,rc,hh,q⟩:=h
 obtain ⟨u,v,rfl,ru,rv⟩:=r.two
 obtain rfl:=zsf rc rv
 cases (show u=Value.ref a from ru)
 rcases hh with ⟨⟨xs,hx⟩,e⟩|⟨⟨xs,hx⟩,e⟩
 ·obtain ⟨its,_,⟨o,n,ho,hc,_,hd⟩,_⟩:=I.list hx
  exact PySem.W.kia_one PySem.W.kitx_list I.kIn ⟨o,ho,hc⟩ e (λ z=>nomatch z) λ tk=>⟨.bl b,H,I.tok tk,rfl,q⟩
 ·obtain ⟨its,_,⟨o,h1,h2,_⟩,_⟩:=I.tuple hx
  exact PySem.W.kia_one PySem.W.kitx_tuple I.kIn ⟨o,h1,h2⟩ e (λ z=>nomatch z) λ tk=>⟨.bl b,H,I.tok tk,rfl,q⟩
theorem CallR.or {f:Value} {r1 r2:List V->Hp->VK->Prop} (h1:CallR X f r1) (h2:CallR X f r2):CallR X f (λ vs H Q=>r1 vs H Q \/ r2 vs H Q):=by
 intro pins s σ H xs us Q I r h
 rcases h with h|h
 ·exact h1 pins s σ H xs us Q I r h
 ·exact h2 pins s σ H xs us Q I r h
def rIsW (K:Fg):List V->Hp->VK->Prop:=λ vs H Q=>rIsI K vs H Q \/ rIsS K vs H Q
theorem zxb {K:Fg} (h:X.K=K):CallR X (.builtin "isinstance") (rIsW K):=(zvd h).or (znl h)
theorem zrb (l:Addr) (items:Array Value) (n:Nat) (b:Addr) (items2:Array Value) (n2:Nat) (dd2:Option Addr) (sl2:Array (Option Value)) (hc0:¬(!items.isEmpty && Builtin.List.listTooLong (items.size+items2.size))=true) (hc1:items.size<=sizeLine) (hs2:items.size+items2.size<=sizeLine+1) :
  Meets (Builtin.«list.extend» ⟨[.ref l,.ref b],[]⟩) (λ _ R s=>s.heap.get? l=some { cls:=.type "list",dict:=none,data:=.seq items n,slots:=#[] }/\s.heap.get? b=some { cls:=.type "list",dict:=dd2,data:=.seq items2 n2,slots:=sl2 }/\R (.ok (.ret Value.none)) { s with heap:=s.heap.update l (Obj.mapSeq λ x=>x++items2),toks:=s.toks }) :=
 .of_wp λ prog w A R s h=>by
  obtain ⟨hp,g,d,tk,os⟩:=s;obtain ⟨hl,hb,h⟩:=h;have f1:=AutoSeq1.idx_int;have f2:=AutoSeq1.sub_tuple_tuple;have f3:=AutoSeq1.sub_list_list;have f4:=AutoSeq1.sub_tuple_list;have f5:=AutoSeq1.sub_list_tuple
  have hz':(items++items2).size<=sizeLine+1:=by rw [Array.size_append];exact hs2
  wp_walk using (wpAny_updateSeq hl rfl (hz:=hc1) (_hz':=hz')),wpAny_loadPart' hl,wpAny_loadPart' hb;exact ⟨_,rfl,h⟩
def zre (K:Fg):V->List V->Hp->VK->Prop:=λ x vs H Q=>∃ l b xs zs,x=.ref l/\vs=[.ref b]/\H l=some (.lst xs)/\SqL K H b zs/\xs.length+zs.length<=sizeLine/\Q .non (upd H l (.lst (xs++zs)))
theorem zk4 {K:Fg} (hK:X.K=K):MtM X "list.extend" (zre K):=by
 subst hK
 intro pins s σ H x vs v us Q I rx rv h
 obtain ⟨l,b,xs,zs,rfl,rfl,hH,hB,hz,q⟩:=h
 cases rx
 obtain ⟨u,rfl,ru⟩:=rv.one
 cases ru
 obtain ⟨z,its,n,r,hl,e⟩:=I.lstM hH
 obtain ⟨its2,r2,⟨⟨cls2,dd2,data2,sl2⟩,n2,ho2,hc2,_,hd2⟩,z2⟩:=I.list hB
 simp only at hc2 hd2
 subst hc2 hd2
 have hl2:=r2.length
 have hsz:its.toArray.size+its2.toArray.size<=sizeLine:=by rw [List.size_toArray,List.size_toArray];lia
 have hlong:¬ (!its.toArray.isEmpty && Builtin.List.listTooLong (its.toArray.size+its2.toArray.size))=true:=by
  rw [zoc hsz,Bool.and_false]
  exact Bool.false_ne_true
 refine call_meets F.slot_list_extend ⟨_,e,rfl⟩ F.entry_list_extend (F.args_list_extend_2 _ _)
  (zrb l its.toArray n b its2.toArray n2 dd2 sl2 hlong (by rw [List.size_toArray];lia) (by lia)) ⟨e,ho2,?_⟩
 refine ⟨.non,_,I.lset (its':=its++its2) hH e (by simp) (r.append r2) ?_,rfl,q⟩
 rw [List.length_append]
 lia
end
theorem IsAll.dlen {K:Fg} {F:Hp}:∀ {xs:List V} {ds:List PyData},IsAll K F xs ds->xs.length=ds.length
|_,_,.nil=>rfl
|_,_,.cons _ r=>congrArg (·+1) (IsAll.dlen r)
theorem IsAll.dget {K:Fg} {F:Hp}:∀ {xs:List V} {ds:List PyData} {i:Nat} {d:PyData},IsAll K F xs ds->ds[i]?=some d->∃ x,xs[i]?=some x/\Is K F x d
|_,_,_,_,.nil,e=>by simp at e
|_,_,0,_,.cons h _,e=>by simp at e;subst e;exact ⟨_,rfl,h⟩
|_,_,i+1,d,.cons _ r,e=>by
  obtain ⟨x,h1,h2⟩:=IsAll.dget (i:=i) (d:=d) r (by simpa using e)
  exact ⟨x,by simpa using h1,h2⟩
theorem IsAll.dapp {K:Fg} {F:Hp}:∀ {xs ys:List V} {ds es:List PyData},IsAll K F xs ds->IsAll K F ys es->IsAll K F (xs++ys) (ds++es)
|_,_,_,_,.nil,s=>s
|_,_,_,_,.cons h r,s=>.cons h (IsAll.dapp r s)
theorem IsAll.dtake {K:Fg} {F:Hp}:∀ (n:Nat) {xs:List V} {ds:List PyData},IsAll K F xs ds->IsAll K F (xs.take n) (ds.take n)
|0,_,_,_=>.nil
|_+1,_,_,.nil=>.nil
|n+1,_,_,.cons h r=>.cons h (IsAll.dtake n r)
theorem IsAll.ddrop {K:Fg} {F:Hp}:∀ (n:Nat) {xs:List V} {ds:List PyData},IsAll K F xs ds->IsAll K F (xs.drop n) (ds.drop n)
|0,_,_,h=>h
|_+1,_,_,.nil=>.nil
|n+1,_,_,.cons _ r=>IsAll.ddrop n r
theorem IsAll.dset {K:Fg} {F:Hp} {x:V} {d:PyData} (hx:Is K F x d):∀ (n:Nat) {xs:List V} {ds:List PyData},IsAll K F xs ds->IsAll K F (xs.set n x) (ds.set n d)
|_,_,_,.nil=>.nil
|0,_,_,.cons _ r=>.cons hx r
|n+1,_,_,.cons h r=>.cons h (IsAll.dset hx n r)
theorem Is.list_inv {K:Fg} {F:Hp} {v:V} {ds:List PyData} (h:Is K F v (.list ds)):∃ a xs,v=.ref a/\SqL K F a xs/\IsAll K F xs ds:=by
 cases h with
|lst h1 h2=>exact ⟨_,_,rfl,h1,h2⟩
theorem Is.tuple_inv {K:Fg} {F:Hp} {v:V} {ds:List PyData} (h:Is K F v (.tuple ds)):∃ a xs,v=.ref a/\SqT K F a xs/\IsAll K F xs ds:=by
 cases h with
|tup h1 h2=>exact ⟨_,_,rfl,SqT.of h1,h2⟩
|tuc h1 h2 _=>exact ⟨_,_,rfl,h1,h2⟩
theorem Is.int_inv {K:Fg} {F:Hp} {v:V} {i:Int} (h:Is K F v (.int i)):v=.int i:=by cases h;rfl
theorem Is.bl_inv {K:Fg} {F:Hp} {v:V} {b:Bool} (h:Is K F v (.bool b)):v=.bl b:=by cases h;rfl
theorem Is.str_inv {K:Fg} {F:Hp} {v:V} {b:Str} (h:Is K F v (.str b)):v=.str b:=by cases h;rfl
theorem Is.non_inv {K:Fg} {F:Hp} {v:V} (h:Is K F v .none):v=.non:=by cases h;rfl
end L3
namespace L4
open PySem PySem.Spec PyProof.Rows L2 L3
abbrev D:=PyData
def HD (x:Option HO):Prop:=x≠none/\∀ ks:List Key,x≠some (.tup (ks.map kV))
theorem HD.mono {H H':Hp} {a:Addr} (h:HD (H a)) (s:Same H H'):HD (H' a):=by
 cases e:H a with
|none=>exact absurd e h.1
|some o=>rw [s a o e,<- e];exact h
theorem HD.of {H:Hp} {a:Addr} {o:HO} (h:H a=some o) (n:∀ ks:List Key,o≠.tup (ks.map kV)):HD (H a):=by
 rw [h];exact ⟨by simp,λ ks z=>n ks (Option.some.inj z)⟩
theorem zjt {H:Hp} {a:Addr} {o:HO} (h:HD (upd H a o a)):∀ b,(H b≠none->upd H a o b≠none)/\(HD (H b)->HD (upd H a o b)):=λ b=>by
 by_cases z:b=a
 ·rw [z];exact ⟨λ _=>h.1,λ _=>h⟩
 ·rw [zp0 z];exact ⟨id,id⟩
structure Ext (F H F' H':Hp):Prop where
 h:Same H H'
 f:Same F F'
 fh:Same F' H'
 nw:∀ a,HD (H a)->F a=none->F' a=none
theorem Ext.refl {F H:Hp} (s:Same F H):Ext F H F H:=⟨λ _ _ z=>z,λ _ _ z=>z,s,λ _ _ z=>z⟩
theorem Ext.trans {F H F1 H1 F2 H2:Hp} (a:Ext F H F1 H1) (b:Ext F1 H1 F2 H2):Ext F H F2 H2 :=
 ⟨a.h.trans b.h,a.f.trans b.f,b.fh,λ c hc fc=>b.nw c (hc.mono a.h) (a.nw c hc fc)⟩
theorem Ext.nwo {F H F' H':Hp} {a:Addr} {o:HO} (e:Ext F H F' H') (h:H a=some o) (n:∀ ks:List Key,o≠.tup (ks.map kV)) (f:F a=none):F' a=none:=e.nw a (.of h n) f
inductive T where
|fz (d:D)|li (ds:List D)|ls (ts:List T)|ob (C:Addr) (fs:List (Str×T))|dk (kvs:List (Key×D))|dt (kvs:List (List Key×D))|tp (ts:List T)|wh|dd (ts:List (Key×T))
inductive KvIs (K:Fg) (F:Hp) {κ:Type}:List (κ×V)->List (κ×D)->Prop
|nil:KvIs K F [] []
|cons {k:κ} {v:V} {d:D} {r:List (κ×V)} {s:List (κ×D)}:Is K F v d->KvIs K F r s->KvIs K F ((k,v) :: r) ((k,d) :: s)
theorem KvIs.mono {K:Fg} {F F':Hp} {κ:Type} (s:Same F F'):∀ {r:List (κ×V)} {t:List (κ×D)},KvIs K F r t->KvIs K F' r t
|_,_,.nil=>.nil
|_,_,.cons h r=>.cons (h.mono s) (r.mono s)
mutual
inductive Rt (K:Fg) (F H:Hp):V->T->List Addr->Prop
|fz {v:V} {d:D}:Is K F v d->Rt K F H v (.fz d) []
|li {a:Addr} {xs:List V} {ds:List D}:H a=some (.lst xs)->F a=none->IsAll K F xs ds->Rt K F H (.ref a) (.li ds) [a]
|ls {a:Addr} {xs:List V} {ts:List T} {fp:List Addr}:H a=some (.lst xs)->F a=none->RtAll K F H xs ts fp->Rt K F H (.ref a) (.ls ts) (a :: fp)
|ob {a C dx:Addr} {fs:List (Str×V)} {ts:List (Str×T)} {fp:List Addr}:H a=some (.ins C dx fs)->H dx=some (.own a)->F a=none->F dx=none->RtFs K F H fs ts fp->Rt K F H (.ref a) (.ob C ts) (a :: dx :: fp)
|dk {a:Addr} {kvs:List (Key×V)} {ds:List (Key×D)}:H a=some (.dK kvs)->F a=none->KvIs K F kvs ds->Rt K F H (.ref a) (.dk ds) [a]
|dt {a:Addr} {kvs:List (List Key×V)} {ds:List (List Key×D)}:H a=some (.dT kvs)->F a=none->KvIs K F kvs ds->Rt K F H (.ref a) (.dt ds) [a]
|tp {a:Addr} {xs:List V} {ts:List T} {fp:List Addr}:H a=some (.tup xs)->F a=none->(∀ ks:List Key,xs≠ks.map kV)->RtAll K F H xs ts fp->Rt K F H (.ref a) (.tp ts) (a :: fp)
|wh {a:Addr}:Rt K F H (.ref a) .wh []
|dd {a:Addr} {kvs:List (Key×V)} {ts:List (Key×T)} {fp:List Addr}:H a=some (.dK kvs)->F a=none->kvs.map (·.1)=ts.map (·.1)->RtAll K F H (kvs.map (·.2)) (ts.map (·.2)) fp->Rt K F H (.ref a) (.dd ts) (a :: fp)
inductive RtAll (K:Fg) (F H:Hp):List V->List T->List Addr->Prop
|nil:RtAll K F H [] [] []
|cons {x:V} {t:T} {xs:List V} {ts:List T} {fp fq:List Addr}:Rt K F H x t fp->RtAll K F H xs ts fq->RtAll K F H (x :: xs) (t :: ts) (fp++fq)
inductive RtFs (K:Fg) (F H:Hp):List (Str×V)->List (Str×T)->List Addr->Prop
|nil:RtFs K F H [] [] []
|cons {f:Str} {x:V} {t:T} {xs:List (Str×V)} {ts:List (Str×T)} {fp fq:List Addr}:Rt K F H x t fp->RtFs K F H xs ts fq->RtFs K F H ((f,x) :: xs) ((f,t) :: ts) (fp++fq)
end
section
variable {K:Fg} {F H F' H':Hp}
theorem Rt.ind {P : V → T → List Addr → Prop} {Q : List V → List T → List Addr → Prop} {R : List (Str × V) → List (Str × T) → List Addr → Prop}
    (c1 : ∀ {v : V} {d : D}, Is K F v d → P v (.fz d) [])
    (c2 : ∀ {a : Addr} {xs : List V} {ds : List D}, H a = some (.lst xs) → F a = none → IsAll K F xs ds → P (.ref a) (.li ds) [a])
    (c3 : ∀ {a : Addr} {xs : List V} {ts : List T} {fp : List Addr}, H a = some (.lst xs) → F a = none → Q xs ts fp → P (.ref a) (.ls ts) (a :: fp))
    (c4 : ∀ {a C dx : Addr} {fs : List (Str × V)} {ts : List (Str × T)} {fp : List Addr}, H a = some (.ins C dx fs) → H dx = some (.own a) → F a = none → F dx = none → R fs ts fp → P (.ref a) (.ob C ts) (a :: dx :: fp))
    (c5 : ∀ {a : Addr} {kvs : List (Key × V)} {ds : List (Key × D)}, H a = some (.dK kvs) → F a = none → KvIs K F kvs ds → P (.ref a) (.dk ds) [a])
    (c6 : ∀ {a : Addr} {kvs : List (List Key × V)} {ds : List (List Key × D)}, H a = some (.dT kvs) → F a = none → KvIs K F kvs ds → P (.ref a) (.dt ds) [a])
    (ct : ∀ {a : Addr} {xs : List V} {ts : List T} {fp : List Addr}, H a = some (.tup xs) → F a = none → (∀ ks : List Key, xs ≠ ks.map kV) → Q xs ts fp → P (.ref a) (.tp ts) (a :: fp))
    (cw : ∀ {a : Addr}, P (.ref a) .wh [])
    (cd : ∀ {a : Addr} {kvs : List (Key × V)} {ts : List (Key × T)} {fp : List Addr}, H a = some (.dK kvs) → F a = none → kvs.map (·.1) = ts.map (·.1) → Q (kvs.map (·.2)) (ts.map (·.2)) fp → P (.ref a) (.dd ts) (a :: fp))
    (c7 : Q [] [] []) (c8 : ∀ {x : V} {t : T} {xs : List V} {ts : List T} {fp fq : List Addr}, P x t fp → Q xs ts fq → Q (x :: xs) (t :: ts) (fp ++ fq))
    (c9 : R [] [] []) (c0 : ∀ {f : Str} {x : V} {t : T} {xs : List (Str × V)} {ts : List (Str × T)} {fp fq : List Addr}, P x t fp → R xs ts fq → R ((f, x) :: xs) ((f, t) :: ts) (fp ++ fq)) :
    (∀ {v : V} {t : T} {fp : List Addr}, Rt K F H v t fp → P v t fp) ∧ (∀ {v : List V} {t : List T} {fp : List Addr}, RtAll K F H v t fp → Q v t fp) ∧ (∀ {v : List (Str × V)} {t : List (Str × T)} {fp : List Addr}, RtFs K F H v t fp → R v t fp) :=
  ⟨fun h => Rt.rec (motive_1 := fun v t fp _ => P v t fp) (motive_2 := fun v t fp _ => Q v t fp) (motive_3 := fun v t fp _ => R v t fp) c1 c2 (fun a b _ => c3 a b) (fun a b c d _ => c4 a b c d) c5 c6 (fun a b c _ => ct a b c) cw (fun a b c _ => cd a b c) c7 (fun _ _ => c8) c9 (fun _ _ => c0) h,
   fun h => RtAll.rec (motive_1 := fun v t fp _ => P v t fp) (motive_2 := fun v t fp _ => Q v t fp) (motive_3 := fun v t fp _ => R v t fp) c1 c2 (fun a b _ => c3 a b) (fun a b c d _ => c4 a b c d) c5 c6 (fun a b c _ => ct a b c) cw (fun a b c _ => cd a b c) c7 (fun _ _ => c8) c9 (fun _ _ => c0) h,
   fun h => RtFs.rec (motive_1 := fun v t fp _ => P v t fp) (motive_2 := fun v t fp _ => Q v t fp) (motive_3 := fun v t fp _ => R v t fp) c1 c2 (fun a b _ => c3 a b) (fun a b c d _ => c4 a b c d) c5 c6 (fun a b c _ => ct a b c) cw (fun a b c _ => cd a b c) c7 (fun _ _ => c8) c9 (fun _ _ => c0) h⟩
def Keep (F' H H':Hp) (fp:List Addr):Prop:=∀ a∈fp,H' a=H a/\F' a=none
theorem Keep.hd {a:Addr} {fp:List Addr} {o:HO} (k:Keep F' H H' (a :: fp)) (h:H a=some o):H' a=some o:=(k a List.mem_cons_self).1.trans h
theorem Keep.no {a:Addr} {fp:List Addr} (k:Keep F' H H' (a :: fp)):F' a=none:=(k a List.mem_cons_self).2
theorem Keep.tl {a:Addr} {fp:List Addr} (k:Keep F' H H' (a :: fp)):Keep F' H H' fp:=λ b hb=>k b (List.mem_cons_of_mem _ hb)
theorem Keep.l {fp fq:List Addr} (k:Keep F' H H' (fp++fq)):Keep F' H H' fp:=λ b hb=>k b (List.mem_append_left _ hb)
theorem Keep.r {fp fq:List Addr} (k:Keep F' H H' (fp++fq)):Keep F' H H' fq:=λ b hb=>k b (List.mem_append_right _ hb)
theorem zac (s:Same F F'):(∀ {v:V} {t:T} {fp:List Addr},Rt K F H v t fp->Keep F' H H' fp->Rt K F' H' v t fp)/\(∀ {v:List V} {t:List T} {fp:List Addr},RtAll K F H v t fp->Keep F' H H' fp->RtAll K F' H' v t fp)/\(∀ {v:List (Str×V)} {t:List (Str×T)} {fp:List Addr},RtFs K F H v t fp->Keep F' H H' fp->RtFs K F' H' v t fp) :=
 Rt.ind (P:=λ v t fp=>Keep F' H H' fp->Rt K F' H' v t fp) (Q:=λ v t fp=>Keep F' H H' fp->RtAll K F' H' v t fp) (R:=λ v t fp=>Keep F' H H' fp->RtFs K F' H' v t fp)
  (λ h _=>.fz (h.mono s)) (λ h _ i k=>.li (k.hd h) k.no (i.mono s)) (λ h _ i k=>.ls (k.hd h) k.no (i k.tl)) (λ h h2 _ _ i k=>.ob (k.hd h) (k.tl.hd h2) k.no k.tl.no (i k.tl.tl))
  (λ h _ i k=>.dk (k.hd h) k.no (i.mono s)) (λ h _ i k=>.dt (k.hd h) k.no (i.mono s)) (λ h _ nk i k=>.tp (k.hd h) k.no nk (i k.tl)) (λ _=>.wh) (λ h _ e i k=>.dd (k.hd h) k.no e (i k.tl)) (λ _=>.nil) (λ a b k=>.cons (a k.l) (b k.r)) (λ _=>.nil) (λ a b k=>.cons (a k.l) (b k.r))
theorem Rt.frame (s:Same F F') {v:V} {t:T} {fp:List Addr} (h:Rt K F H v t fp) (k:∀ a∈fp,H' a=H a/\F' a=none):Rt K F' H' v t fp:=(zac s).1 h k
theorem RtAll.frame (s:Same F F') {v:List V} {t:List T} {fp:List Addr} (h:RtAll K F H v t fp) (k:∀ a∈fp,H' a=H a/\F' a=none):RtAll K F' H' v t fp:=(zac s).2.1 h k
theorem RtFs.frame (s:Same F F') {v:List (Str×V)} {t:List (Str×T)} {fp:List Addr} (h:RtFs K F H v t fp) (k:∀ a∈fp,H' a=H a/\F' a=none):RtFs K F' H' v t fp:=(zac s).2.2 h k
def Dom (F H:Hp) (fp:List Addr):Prop:=∀ a∈fp,HD (H a)/\F a=none
theorem Dom.nil:Dom F H []:=λ _ h=>nomatch h
theorem Dom.cons {a:Addr} {o:HO} {fp:List Addr} (h:H a=some o) (n:∀ ks:List Key,o≠.tup (ks.map kV)) (f:F a=none) (r:Dom F H fp):Dom F H (a :: fp):=λ b hb=>by
 rcases List.mem_cons.mp hb with e|e
 ·rw [e];exact ⟨.of h n,f⟩
 ·exact r b e
theorem Dom.app {fp fq:List Addr} (a:Dom F H fp) (b:Dom F H fq):Dom F H (fp++fq):=λ c hc=>(List.mem_append.mp hc).elim (a c) (b c)
theorem zsa:(∀ {v:V} {t:T} {fp:List Addr},Rt K F H v t fp->Dom F H fp)/\(∀ {v:List V} {t:List T} {fp:List Addr},RtAll K F H v t fp->Dom F H fp)/\(∀ {v:List (Str×V)} {t:List (Str×T)} {fp:List Addr},RtFs K F H v t fp->Dom F H fp) :=
 Rt.ind (P:=λ _ _ fp=>Dom F H fp) (Q:=λ _ _ fp=>Dom F H fp) (R:=λ _ _ fp=>Dom F H fp) (λ _=>.nil) (λ h f _=>.cons h (λ _=>nofun) f .nil) (λ h f r=>.cons h (λ _=>nofun) f r) (λ h h2 f f2 r=>.cons h (λ _=>nofun) f (.cons h2 (λ _=>nofun) f2 r))
  (λ h f _=>.cons h (λ _=>nofun) f .nil) (λ h f _=>.cons h (λ _=>nofun) f .nil) (λ h f n r=>.cons h (λ ks z=>n ks (by cases z;rfl)) f r) .nil (λ h f _ r=>.cons h (λ _=>nofun) f r) .nil .app .nil .app
theorem Rt.dom {v:V} {t:T} {fp:List Addr} (h:Rt K F H v t fp):∀ a∈fp,H a≠none/\F a=none:=λ a ha=>⟨(zsa.1 h a ha).1.1,(zsa.1 h a ha).2⟩
theorem RtAll.dom {v:List V} {t:List T} {fp:List Addr} (h:RtAll K F H v t fp):∀ a∈fp,H a≠none/\F a=none:=λ a ha=>⟨(zsa.2.1 h a ha).1.1,(zsa.2.1 h a ha).2⟩
theorem RtFs.dom {v:List (Str×V)} {t:List (Str×T)} {fp:List Addr} (h:RtFs K F H v t fp):∀ a∈fp,H a≠none/\F a=none:=λ a ha=>⟨(zsa.2.2 h a ha).1.1,(zsa.2.2 h a ha).2⟩
theorem Rt.hdd {v:V} {t:T} {fp:List Addr} (h:Rt K F H v t fp):∀ a∈fp,HD (H a):=λ a ha=>(zsa.1 h a ha).1
theorem RtAll.hdd {v:List V} {t:List T} {fp:List Addr} (h:RtAll K F H v t fp):∀ a∈fp,HD (H a):=λ a ha=>(zsa.2.1 h a ha).1
end
theorem Rt.ext {K:Fg} {F H F' H':Hp} {v:V} {t:T} {fp:List Addr} (e:Ext F H F' H') (h:Rt K F H v t fp):Rt K F' H' v t fp :=
 h.frame e.f λ a ha=>by
  obtain ⟨h1,h2⟩:=h.dom a ha
  cases q:H a with
 |none=>exact absurd q h1
 |some o=>exact ⟨e.h a o q,e.nw a (h.hdd a ha) h2⟩
inductive Sl where
|un|sh (d:D)|ow (t:T)|bo (t:T)|io (a:Addr) (t:T)
abbrev DSt:=List Sl
abbrev DE:=DSt->(D->Prop)->Prop
abbrev DF:=DSt->(List D->Prop)->Prop
abbrev DT:=DSt->(Bool->Prop)->Prop
def RSl (K:Fg) (F H:Hp) (v:Option V):Sl->Prop
|.un=>True
|.sh d=>∃ x,v=some x/\Is K F x d
|.ow t=>∃ x fp,v=some x/\Rt K F H x t fp/\fp.Nodup
|.bo t=>∃ x fp,v=some x/\Rt K F H x t fp/\fp.Nodup
|.io a t=>∃ fp,v=some (.ref a)/\Rt K F H (.ref a) t fp/\fp.Nodup
theorem RSl.ext {K:Fg} {F H F' H':Hp} {v:Option V} (e:Ext F H F' H'):∀ {s:Sl},RSl K F H v s->RSl K F' H' v s
|.un,_=>trivial
|.sh _,⟨x,a,b⟩=>⟨x,a,b.mono e.f⟩
|.ow _,⟨a,xs,h1,h2,h3⟩=>⟨a,xs,h1,h2.ext e,h3⟩
|.bo _,⟨a,xs,h1,h2,h3⟩=>⟨a,xs,h1,h2.ext e,h3⟩
|.io _ _,⟨xs,h1,h2,h3⟩=>⟨xs,h1,h2.ext e,h3⟩
structure RV (K:Fg) (F H:Hp) (σ:L2.St) (δ:DSt):Prop where
 len:σ.length=δ.length
 sl:∀ i s,δ[i]?=some s->RSl K F H (σ.getD i none) s
theorem RV.ext {K:Fg} {F H F' H':Hp} {σ:L2.St} {δ:DSt} (e:Ext F H F' H') (r:RV K F H σ δ):RV K F' H' σ δ:=⟨r.len,λ i s h=>(r.sl i s h).ext e⟩
def Vw (K:Fg) (F H:Hp) (v:V) (d:D):Prop:=Is K F v d \/ ∃ a xs ds,v=.ref a/\d=.list ds/\H a=some (.lst xs)/\IsAll K F xs ds
theorem Vw.ext {K:Fg} {F H F' H':Hp} {v:V} {d:D} (e:Ext F H F' H') (h:Vw K F H v d):Vw K F' H' v d:=by
 rcases h with h|⟨a,xs,ds,h1,h2,h3,h4⟩
 ·exact .inl (h.mono e.f)
 ·exact .inr ⟨a,xs,ds,h1,h2,e.h _ _ h3,h4.mono e.f⟩
theorem Vw.is {K:Fg} {F H:Hp} {v:V} {d:D} (s:Same F H) (h:Vw K F H v d):Is K H v d:=by
 rcases h with h|⟨a,xs,ds,rfl,rfl,h3,h4⟩
 ·exact h.mono s
 ·exact .lst (SqL.of h3) (h4.mono s)
theorem Vw.list {K:Fg} {F H:Hp} {v:V} {ds:List D} (s:Same F H) (h:Vw K F H v (.list ds)):∃ a xs,v=.ref a/\SqL K H a xs/\IsAll K F xs ds:=by
 rcases h with h|⟨a,xs,ds',rfl,e,h3,h4⟩
 ·cases h with
 |lst h1 h2=>exact ⟨_,_,rfl,s.seq h1,h2⟩
 ·cases e;exact ⟨a,xs,rfl,SqL.of h3,h4⟩
theorem Vw.tuple {K:Fg} {F H:Hp} {v:V} {ds:List D} (s:Same F H) (h:Vw K F H v (.tuple ds)):∃ a xs,v=.ref a/\SqT K H a xs/\SqT K F a xs/\IsAll K F xs ds:=by
 rcases h with h|⟨a,xs,ds',rfl,e,h3,h4⟩
 ·cases h with
 |tup h1 h2=>exact ⟨_,_,rfl,zfh s (SqT.of h1),SqT.of h1,h2⟩
 |tuc h1 h2 _=>exact ⟨_,_,rfl,zfh s h1,h1,h2⟩
 ·cases e
theorem Vw.int {K:Fg} {F H:Hp} {v:V} {i:Int} (h:Vw K F H v (.int i)):v=.int i:=by
 rcases h with h|⟨a,xs,ds',rfl,e,h3,h4⟩
 ·exact h.int_inv
 ·cases e
theorem Vw.str {K:Fg} {F H:Hp} {v:V} {i:Str} (h:Vw K F H v (.str i)):v=.str i:=by
 rcases h with h|⟨a,xs,ds',rfl,e,h3,h4⟩
 ·exact h.str_inv
 ·cases e
theorem Vw.bl {K:Fg} {F H:Hp} {v:V} {i:Bool} (h:Vw K F H v (.bool i)):v=.bl i:=by
 rcases h with h|⟨a,xs,ds',rfl,e,h3,h4⟩
 ·exact h.bl_inv
 ·cases e
section
variable (K:Fg)
def RfE (te:TE) (de:DE):Prop:=∀ {F H:Hp} {σ:L2.St} {δ:DSt} {Qd:D->Prop} {Q:VK},Same F H->RV K F H σ δ->de δ Qd->(∀ d,Qd d->∀ v F' H',Ext F H F' H'->Is K F' v d->Q v H')->te σ H Q
def RfV (te:TE) (de:DE):Prop:=∀ {F H:Hp} {σ:L2.St} {δ:DSt} {Qd:D->Prop} {Q:VK},Same F H->RV K F H σ δ->de δ Qd->(∀ d,Qd d->∀ v F' H',Ext F H F' H'->Vw K F' H' v d->Q v H')->te σ H Q
def RfF (te:TE) (df:DF):Prop:=∀ {F H:Hp} {σ:L2.St} {δ:DSt} {Qd:List D->Prop} {Q:VK},Same F H->RV K F H σ δ->df δ Qd->(∀ ds,Qd ds->∀ a xs F' H',Ext F H F' H'->H a=none->H' a=some (.lst xs)->F' a=none->IsAll K F' xs ds->Q (.ref a) H')->te σ H Q
def RfT (tt:TT) (dt:DT):Prop:=∀ {F H:Hp} {σ:L2.St} {δ:DSt} {Qd:Bool->Prop} {Q:Bool->Hp->Prop},Same F H->RV K F H σ δ->dt δ Qd->(∀ b,Qd b->∀ F' H',Ext F H F' H'->Q b H')->tt σ H Q
def RfA (ta:TA) (da:DF):Prop:=∀ {F H:Hp} {σ:L2.St} {δ:DSt} {Qd:List D->Prop} {Q:List V->Hp->Prop},Same F H->RV K F H σ δ->da δ Qd->(∀ ds,Qd ds->∀ vs F' H',Ext F H F' H'->IsAll K F' vs ds->Q vs H')->ta σ H Q
inductive VwAll (F H:Hp):List V->List D->Prop
|nil:VwAll F H [] []
|cons {v:V} {d:D} {vs:List V} {ds:List D}:Vw K F H v d->VwAll F H vs ds->VwAll F H (v :: vs) (d :: ds)
def RfAV (ta:TA) (da:DF):Prop:=∀ {F H:Hp} {σ:L2.St} {δ:DSt} {Qd:List D->Prop} {Q:List V->Hp->Prop},Same F H->RV K F H σ δ->da δ Qd->(∀ ds,Qd ds->∀ vs F' H',Ext F H F' H'->VwAll K F' H' vs ds->Q vs H')->ta σ H Q
def RfO (to:TO) (dO:DSt->(Option Int->Prop)->Prop):Prop:=∀ {F H:Hp} {σ:L2.St} {δ:DSt} {Qd:Option Int->Prop} {Q:Option Int->Hp->Prop},Same F H->RV K F H σ δ->dO δ Qd->(∀ o,Qd o->∀ F' H',Ext F H F' H'->Q o H')->to σ H Q
end
section
variable {K:Fg} {te ta tb tc:TE} {de da db dc:DE} {tt tu:TT} {dt du:DT} {tA:TA} {dA:DF}
theorem zrg {F H F' H':Hp} {a:Addr} {xs:List V} {ds:List D} (e:Ext F H F' H') (hn:H a=none) (h1:H' a=some (.lst xs)) (h2:F' a=none) (h3:IsAll K F' xs ds) :
  Ext F H (upd F' a (.lst xs)) H'/\Is K (upd F' a (.lst xs)) (.ref a) (.list ds):=by
 have s:Same F' (upd F' a (.lst xs)):=λ b o z=>by
  by_cases hb:b=a
  ·subst hb;rw [h2] at z;cases z
  ·rw [zp0 hb];exact z
 refine ⟨⟨e.h,e.f.trans s,λ b o z=>?_,λ b hb fb=>?_⟩,.lst (SqL.of zi0) (h3.mono s)⟩
 ·by_cases hb:b=a
  ·subst hb;rw [zi0] at z;cases z;exact h1
  ·rw [zp0 hb] at z;exact e.fh b o z
 ·have:b≠a:=λ z=>hb.1 (by rw [z];exact hn)
  rw [zp0 this];exact e.nw b hb fb
theorem zta {F H:Hp} {p:Addr} {xs:List V} {ds:List D} (s:Same F H) (hn:H p=none) (h3:IsAll K F xs ds) :
  Ext F H (upd F p (.tup xs)) (upd H p (.tup xs))/\Is K (upd F p (.tup xs)) (.ref p) (.tuple ds):=by
 have fn:F p=none:=by
  cases e:F p with
 |none=>rfl
 |some o=>rw [s p o e] at hn;cases hn
 have sF:Same F (upd F p (.tup xs)):=zo1 fn _
 refine ⟨⟨zo1 hn _,sF,λ b o z=>?_,λ b hb fb=>?_⟩,.tup zi0 (h3.mono sF)⟩
 ·by_cases hb:b=p
  ·subst hb;rw [zi0] at z ⊢;exact z
  ·rw [zp0 hb] at z ⊢;exact s b o z
 ·have:b≠p:=λ z=>hb.1 (by rw [z];exact hn)
  rw [zp0 this];exact fb
theorem zz2 {F H:Hp} {p:Addr} {xs:List V} (s:Same F H) (hn:H p=none):Ext F H F (upd H p (.lst xs))/\F p=none:=by
 have fn:F p=none:=by
  cases e:F p with
 |none=>rfl
 |some o=>rw [s p o e] at hn;cases hn
 refine ⟨⟨zo1 hn _,λ _ _ z=>z,λ b o z=>?_,λ _ _ z=>z⟩,fn⟩
 exact zo1 hn _ b o (s b o z)
theorem RfE.v (h:RfE K te de):RfV K te de:=λ s r d k=>h s r d λ x q v F' H' e i=>k x q v F' H' e (.inl i)
def dF (df:DF):DE:=λ δ Q=>df δ λ ds=>Q (.list ds)
theorem RfF.e {df:DF} (h:RfF K te df):RfE K te (dF df):=λ s r d k=>h s r d λ ds q a xs F' H' e hn h1 h2 h3=>by
 obtain ⟨e2,i2⟩:=zrg e hn h1 h2 h3
 exact k _ q _ _ _ e2 i2
theorem RfF.v {df:DF} (h:RfF K te df):RfV K te (dF df):=RfE.v (RfF.e h)
def Sl.tree:Sl->Option T
|.ow t=>some t
|.bo t=>some t
|.io _ t=>some t
|.sh d=>some (.fz d)
|.un=>none
def fzT:T->(D->Prop)->Prop
|.fz d,Q=>Q d
|_,_=>False
def vwT:T->(D->Prop)->Prop
|.fz d,Q=>Q d
|.li ds,Q=>Q (.list ds)
|_,_=>False
def dVar (i:Nat):DE:=λ δ Q=>∃ s t,δ[i]?=some s/\s.tree=some t/\fzT t Q
def zk11 (i:Nat):DE:=λ δ Q=>∃ s t,δ[i]?=some s/\s.tree=some t/\vwT t Q
theorem zb8 {F H:Hp} {σ:L2.St} {δ:DSt} {i:Nat} {x:V} (e:σ.getD i none=some x):σ[i]?=some (some x):=by
 rw [List.getD_eq_getElem?_getD] at e
 cases q:σ[i]? with
|none=>rw [q] at e;cases e
|some v=>rw [q] at e;exact congrArg some e
theorem RSl.rt {F H:Hp} {v:Option V}:∀ {s:Sl} {t:T},RSl K F H v s->s.tree=some t->∃ x fp,v=some x/\Rt K F H x t fp/\fp.Nodup
|.un,_,_,e=>by cases e
|.sh d,_,⟨x,h1,h2⟩,e=>by cases e;exact ⟨x,[],h1,.fz h2,.nil⟩
|.ow _,_,⟨x,fp,h1,h2⟩,e=>by cases e;exact ⟨x,fp,h1,h2⟩
|.bo _,_,⟨x,fp,h1,h2⟩,e=>by cases e;exact ⟨x,fp,h1,h2⟩
|.io a _,_,⟨fp,h1,h2⟩,e=>by cases e;exact ⟨_,fp,h1,h2⟩
theorem zj11 {F H:Hp} {x:V} {t:T} {fp:List Addr} {Q:D->Prop} (h:Rt K F H x t fp) (q:vwT t Q):∃ d,Q d/\Vw K F H x d:=by
 cases h with
|fz i=>exact ⟨_,q,.inl i⟩
|li h1 h2 h3=>exact ⟨_,q,.inr ⟨_,_,_,rfl,rfl,h1,h3⟩⟩
|ls _ _ _=>exact q.elim
|ob _ _ _ _ _=>exact q.elim
|dk _ _ _=>exact q.elim
|dt _ _ _=>exact q.elim
|tp _ _ _ _=>exact q.elim
|wh=>exact q.elim
|dd _ _ _ _=>exact q.elim
theorem zcp {F H:Hp} {x:V} {t:T} {fp:List Addr} {Q:D->Prop} (h:Rt K F H x t fp) (q:fzT t Q):∃ d,Q d/\Is K F x d:=by
 cases h with
|fz i=>exact ⟨_,q,i⟩
|li _ _ _=>exact q.elim
|ls _ _ _=>exact q.elim
|ob _ _ _ _ _=>exact q.elim
|dk _ _ _=>exact q.elim
|dt _ _ _=>exact q.elim
|tp _ _ _ _=>exact q.elim
|wh=>exact q.elim
|dd _ _ _ _=>exact q.elim
theorem zk0 (i:Nat):RfE K (tVar i) (dVar i):=by
 intro F H σ δ Qd Q s r h k
 obtain ⟨sl,t,q,et,f⟩:=h
 obtain ⟨x,fp,e,hr,_⟩:=(r.sl i _ q).rt et
 obtain ⟨d,qd,hi⟩:=zcp hr f
 exact ⟨x,zb8 (F:=F) (H:=H) (δ:=δ) e,k d qd x F H (Ext.refl s) hi⟩
theorem zb0 (i:Nat):RfV K (tVar i) (zk11 i):=by
 intro F H σ δ Qd Q s r h k
 obtain ⟨sl,t,q,et,f⟩:=h
 obtain ⟨x,fp,e,hr,_⟩:=(r.sl i _ q).rt et
 obtain ⟨d,qd,hi⟩:=zj11 hr f
 exact ⟨x,zb8 (F:=F) (H:=H) (δ:=δ) e,k d qd x F H (Ext.refl s) hi⟩
def dC (d:D):DE:=λ _ Q=>Q d
theorem ze1 {i:Int}:RfE K (tC (.int i)) (dC (.int i)):=λ s r h k=>k _ h _ _ _ (Ext.refl s) (.int i)
theorem zcs {b:Bool}:RfE K (tC (.bl b)) (dC (.bool b)):=λ s r h k=>k _ h _ _ _ (Ext.refl s) (.bl b)
theorem zke {x:Str}:RfE K (tC (.str x)) (dC (.str x)):=λ s r h k=>k _ h _ _ _ (Ext.refl s) (.str x)
theorem zuf:RfE K (tC .non) (dC .none):=λ s r h k=>k _ h _ _ _ (Ext.refl s) .non
def dOp (f:D->D->(D->Prop)->Prop) (da db:DE):DE:=λ δ Q=>da δ λ x=>db δ λ y=>f x y Q
def R2E (K:Fg) (r:R2) (f:D->D->(D->Prop)->Prop):Prop:=∀ {F H:Hp} {x y:V} {d e:D} {Qd:D->Prop} {Q:VK},Same F H->Vw K F H x d->Vw K F H y e->f d e Qd->(∀ z,Qd z->∀ v F' H',Ext F H F' H'->Is K F' v z->Q v H')->r x y H Q
def R2F (K:Fg) (r:R2) (f:D->D->(List D->Prop)->Prop):Prop:=∀ {F H:Hp} {x y:V} {d e:D} {Qd:List D->Prop} {Q:VK},Same F H->Vw K F H x d->Vw K F H y e->f d e Qd->(∀ ds,Qd ds->∀ a xs F' H',Ext F H F' H'->H a=none->H' a=some (.lst xs)->F' a=none->IsAll K F' xs ds->Q (.ref a) H')->r x y H Q
theorem zm0 {r:R2} {f:D->D->(D->Prop)->Prop} (hr:R2E K r f) (ha:RfV K ta da) (hb:RfV K tb db):RfE K (tOp r ta tb) (dOp f da db):=by
 intro F H σ δ Qd Q s rv h k
 refine ha s rv h λ x hx v F1 H1 e1 i1=>hb e1.fh (rv.ext e1) hx λ y hy u F2 H2 e2 i2=>?_
 exact hr e2.fh (i1.ext e2) i2 hy λ z hz w F3 H3 e3 i3=>k z hz w F3 H3 ((e1.trans e2).trans e3) i3
end
end L4
namespace L4
open PySem PySem.Spec PyProof.Rows L2 L3
section
variable {K:Fg} {te ta tb tc:TE} {de da db dc:DE} {tt tu:TT} {dt du:DT} {tA:TA} {dA:DF} {w:World}
def fAdd:D->D->(D->Prop)->Prop
|.int i,.int j,Q=>Q (.int (i+j))
|.str a,.str b,Q=>a.length+b.length<=sizeLine/\Q (.str (a++b))
|.list a,.list b,Q=>a.length+b.length<=sizeLine/\Q (.list (a++b))
|.tuple a,.tuple b,Q=>a≠[]/\b≠[]/\a.length+b.length<=sizeLine/\Q (.tuple (a++b))
|_,_,_=>False
def fCat:D->D->(List D->Prop)->Prop
|.list a,.list b,Q=>a.length+b.length<=sizeLine/\Q (a++b)
|_,_,_=>False
theorem zx11:R2F K (zjv K) fCat:=by
 intro F H x y d e Qd Q s hx hy h k
 unfold fCat at h
 split at h
 ·rename_i a b
  obtain ⟨p,xs,rfl,h1,i1⟩:=hx.list s
  obtain ⟨q,ys,rfl,h2,i2⟩:=hy.list s
  have e1:=i1.dlen
  have e2:=i2.dlen
  refine .inr ⟨p,q,xs,ys,rfl,rfl,h1,h2,by lia,λ l hl=>?_⟩
  obtain ⟨ex,fn⟩:=zz2 (xs:=xs++ys) s hl
  exact k _ h.2 l _ F _ ex hl zi0 fn (i1.dapp i2)
 ·exact h.elim
theorem zj4:R2E K (zjv K) fAdd:=by
 intro F H x y d e Qd Q s hx hy h k
 unfold fAdd at h
 split at h
 ·cases hx.int;cases hy.int
  exact .inl (.inl ⟨_,_,rfl,rfl,k _ h _ F H (Ext.refl s) (.int _)⟩)
 ·cases hx.str;cases hy.str
  exact .inl (.inr (.inl ⟨_,_,rfl,rfl,h.1,k _ h.2 _ F H (Ext.refl s) (.str _)⟩))
 ·rename_i a b
  refine zx11 (Qd:=λ ds=>Qd (.list ds)) s hx hy h λ ds q l xs F' H' ex hn h1 h2 h3=>?_
  obtain ⟨e2,i2⟩:=zrg ex hn h1 h2 h3
  exact k _ q _ _ _ e2 i2
 ·rename_i a b
  obtain ⟨p,xs,rfl,h1,_,i1⟩:=hx.tuple s
  obtain ⟨q,ys,rfl,h2,_,i2⟩:=hy.tuple s
  have e1:=i1.dlen
  have e2:=i2.dlen
  have n1:xs≠[]:=λ z=>h.1 (List.length_eq_zero_iff.mp (by rw [<- e1,z];rfl))
  have n2:ys≠[]:=λ z=>h.2.1 (List.length_eq_zero_iff.mp (by rw [<- e2,z];rfl))
  refine .inl (.inr (.inr (.inr ⟨p,q,xs,ys,rfl,rfl,h1,h2,n1,by lia,λ z=>absurd z n2,λ _ l hl=>?_⟩)))
  obtain ⟨ex,ii⟩:=zta (K:=K) (ds:=a++b) s hl (i1.dapp i2)
  exact k _ h.2.2.2 _ _ _ ex ii
 ·exact h.elim
def fI (C:Int->Int->Prop) (g:Int->Int->D):D->D->(D->Prop)->Prop
|.int i,.int j,Q=>C i j/\Q (g i j)
|_,_,_=>False
def fI0 (g:Int->Int->D):D->D->(D->Prop)->Prop
|.int i,.int j,Q=>Q (g i j)
|_,_,_=>False
theorem r_I {C:Int->Int->Prop} {g:Int->Int->V} {g':Int->Int->D} (hg:∀ i j (F:Hp),Is K F (g i j) (g' i j)):R2E K (rI C g) (fI C g'):=by
 intro F H x y d e Qd Q s hx hy h k
 unfold fI at h
 split at h
 ·cases hx.int;cases hy.int
  exact ⟨_,_,rfl,rfl,h.1,k _ h.2 _ F H (Ext.refl s) (hg _ _ _)⟩
 ·exact h.elim
theorem r_I0 {g:Int->Int->V} {g':Int->Int->D} (hg:∀ i j (F:Hp),Is K F (g i j) (g' i j)):R2E K (rI0 g) (fI0 g'):=by
 intro F H x y d e Qd Q s hx hy h k
 unfold fI0 at h
 split at h
 ·cases hx.int;cases hy.int
  exact ⟨_,_,rfl,rfl,k _ h _ F H (Ext.refl s) (hg _ _ _)⟩
 ·exact h.elim
abbrev fSub:=fI0 λ i j=>.int (i - j)
abbrev fDiv:=fI zqu λ i j=>.int (i / j)
abbrev fMod:=fI (λ _ j=>0 < j) λ i j=>.int (i % j)
abbrev fPow:=fI CPow λ i j=>.int (i ^ j.toNat)
abbrev fLt:=fI0 λ i j=>.bool (decide (i < j))
abbrev fGt:=fI0 λ i j=>.bool (decide (j < i))
abbrev fGe:=fI0 λ i j=>.bool (decide (j<=i))
theorem zit:R2E K (rI0 λ i j=>V.int (i - j)) fSub:=r_I0 λ _ _ _=>.int _
theorem zif:R2E K (rI zqu λ i j=>V.int (i / j)) fDiv:=r_I λ _ _ _=>.int _
theorem zq4:R2E K (rI (λ _ j=>0 < j) λ i j=>V.int (i % j)) fMod:=r_I λ _ _ _=>.int _
theorem zyp:R2E K (rI CPow λ i j=>V.int (i ^ j.toNat)) fPow:=r_I λ _ _ _=>.int _
theorem r_lt:R2E K (rI0 λ i j=>V.bl (decide (i < j))) fLt:=r_I0 λ _ _ _=>.bl _
theorem r_gt:R2E K (rI0 λ i j=>V.bl (decide (j < i))) fGt:=r_I0 λ _ _ _=>.bl _
theorem r_ge:R2E K (rI0 λ i j=>V.bl (decide (j<=i))) fGe:=r_I0 λ _ _ _=>.bl _
def fMul:D->D->(D->Prop)->Prop
|.int i,.int j,Q=>CMul i j/\Q (.int (i * j))
|.str z,.int n,Q=>0<=n/\z.length * n.toNat<=sizeLine/\n<=sizeLine/\Q (.str (repS z n.toNat))
|_,_,_=>False
theorem zlo:R2E K zzw fMul:=by
 intro F H x y d e Qd Q s hx hy h k
 unfold fMul at h
 split at h
 ·cases hx.int;cases hy.int
  exact .inl (.inl (.inl ⟨_,_,rfl,rfl,h.1,k _ h.2 _ F H (Ext.refl s) (.int _)⟩))
 ·cases hx.str;cases hy.int
  exact .inl (.inr ⟨_,_,rfl,rfl,h.1,h.2.1,h.2.2.1,k _ h.2.2.2 _ F H (Ext.refl s) (.str _)⟩)
 ·exact h.elim
def fRep:List D->D->(List D->Prop)->Prop
|ds,.int n,Q=>n < 2 ^ 62/\-(2 ^ 62)<=n/\ds.length * n.toNat<=sizeLine/\Q (List.replicate n.toNat ds).flatten
|_,_,_=>False
def dRep (df:DF) (db:DE):DF:=λ δ Q=>df δ λ ds=>db δ λ y=>fRep ds y Q
theorem znk {F:Hp} {xs:List V} {ds:List D} (h:IsAll K F xs ds):∀ n:Nat,IsAll K F (List.replicate n xs).flatten (List.replicate n ds).flatten
|0=>.nil
|n+1=>by rw [List.replicate_succ,List.replicate_succ,List.flatten_cons,List.flatten_cons];exact h.dapp (znk h n)
theorem zey {df:DF} (ha:RfF K ta df) (hb:RfE K tb db):RfF K (tOp zzw ta tb) (dRep df db):=by
 intro F H σ δ Qd Q s rv h k
 refine ha s rv h λ ds hx a xs F1 H1 e1 hn h1 h2 h3=>hb e1.fh (rv.ext e1) hx λ y hy u F2 H2 e2 i2=>?_
 unfold fRep at hy
 split at hy
 ·rename_i n
  cases i2.int_inv
  have el:=h3.dlen
  refine .inr ⟨a,n,xs,rfl,rfl,e2.h _ _ h1,by lia,by lia,by rw [el];exact hy.2.2.1,λ p hp=>?_⟩
  obtain ⟨ex,fn⟩:=zz2 (xs:=(List.replicate n.toNat xs).flatten) e2.fh hp
  refine k _ hy.2.2.2 p _ F2 _ ((e1.trans e2).trans ex) ?_ zi0 fn (znk (h3.mono e2.f) _)
  cases q:H p with
 |none=>rfl
 |some o=>rw [(e1.trans e2).h p o q] at hp;cases hp
 ·exact hy.elim
def fEq:D->D->(D->Prop)->Prop
|.int i,.int j,Q=>Q (.bool (decide (i=j)))
|.str i,.str j,Q=>Q (.bool (decide (i=j)))
|.bool i,.bool j,Q=>Q (.bool (decide (i=j)))
|d,e,Q=>SeqAt.shaped d=true/\SeqAt.shaped e=true/\Q (.bool (PyData.eqv d e))
def fNe:D->D->(D->Prop)->Prop
|.int i,.int j,Q=>Q (.bool (!decide (i=j)))
|.str i,.str j,Q=>Q (.bool (!decide (i=j)))
|.bool i,.bool j,Q=>Q (.bool (!decide (i=j)))
|d,e,Q=>SeqAt.shaped d=true/\SeqAt.shaped e=true/\Q (.bool (!PyData.eqv d e))
theorem zaa (i j:Int):decide (V.int i=V.int j)=decide (i=j):=by simp
theorem zu9 (i j:Str):decide (V.str i=V.str j)=decide (i=j):=by simp
theorem zog (i j:Bool):decide (V.bl i=V.bl j)=decide (i=j):=by simp
def zcr:D->Bool
|.none=>true
|_=>false
def fIsN:D->D->(D->Prop)->Prop
|d,.none,Q=>Q (.bool (zcr d))
|_,_,_=>False
def znv:D->D->(D->Prop)->Prop
|d,.none,Q=>Q (.bool (!zcr d))
|_,_,_=>False
theorem zrt {F H:Hp} {x:V} {d:D} (s:Same F H) (hx:Vw K F H x d):decide (x=.non)=zcr d:=by
 cases hx.is s <;> simp [zcr]
theorem zor {F H:Hp} {x:V} (s:Same F H) (hx:Vw K F H x .none):x=.non:=by
 cases hx.is s;rfl
theorem zo11:R2E K (λ x y H Q=>y=V.non/\Q (V.bl (decide (x=V.non))) H) fIsN:=by
 intro F H x y d e Qd Q s hx hy h k
 unfold fIsN at h
 split at h
 ·refine ⟨zor s hy,k _ h _ F H (Ext.refl s) ?_⟩
  rw [zrt s hx];exact .bl _
 ·exact h.elim
theorem zdy:R2E K (λ x y H Q=>y=V.non/\Q (V.bl (!decide (x=V.non))) H) znv:=by
 intro F H x y d e Qd Q s hx hy h k
 unfold znv at h
 split at h
 ·refine ⟨zor s hy,k _ h _ F H (Ext.refl s) ?_⟩
  rw [zrt s hx];exact .bl _
 ·exact h.elim
def fIx:D->D->(D->Prop)->Prop
|.list ds,.int i,Q=>∃ d,atI ds i=some d/\Q d
|.tuple ds,.int i,Q=>∃ d,atI ds i=some d/\Q d
|.str z,.int i,Q=>z.length<=sizeLine/\∃ c,atI z.cps.toList i=some c/\Q (.str ⟨#[c]⟩)
|_,_,_=>False
theorem zfs {F:Hp} {xs:List V} {ds:List D} {i:Int} {d:D} (h:IsAll K F xs ds) (e:atI ds i=some d):∃ x,atI xs i=some x/\Is K F x d:=by
 unfold atI at e ⊢
 rw [h.dlen]
 cases q:ixN ds.length i with
|none=>rw [q] at e;cases e
|some j =>
  rw [q] at e
  obtain ⟨x,h1,h2⟩:=h.dget (show ds[j]?=some d from e)
  exact ⟨x,h1,h2⟩
theorem r_ix:R2E K (rIxV w K) fIx:=by
 intro F H x y d e Qd Q s hx hy h k
 unfold fIx at h
 split at h
 ·obtain ⟨z,ez,q⟩:=h
  obtain ⟨p,xs,rfl,h1,i1⟩:=hx.list s
  cases hy.int
  obtain ⟨v,ev,iv⟩:=zfs i1 ez
  exact .inl (.inl (.inl ⟨p,xs,_,v,rfl,rfl,h1,ev,k _ q _ F H (Ext.refl s) iv⟩))
 ·obtain ⟨z,ez,q⟩:=h
  obtain ⟨p,xs,rfl,h1,_,i1⟩:=hx.tuple s
  cases hy.int
  obtain ⟨v,ev,iv⟩:=zfs i1 ez
  exact .inl (.inl (.inr (.inl ⟨p,xs,_,v,rfl,rfl,h1,ev,k _ q _ F H (Ext.refl s) iv⟩)))
 ·obtain ⟨hz,c,ec,q⟩:=h
  cases hx.str;cases hy.int
  exact .inl (.inl (.inr (.inr ⟨_,_,c,rfl,rfl,hz,ec,k _ q _ F H (Ext.refl s) (.str _)⟩)))
 ·exact h.elim
def zcb:D->Bool
|.none=>true
|.bool _=>true
|.int _=>true
|.str _=>true
|_=>false
def eqF:D->D->Bool
|.none,.none=>true
|.bool a,.bool b=>a == b
|.bool a,.int b=>(if a then 1 else 0) == b
|.int a,.bool b=>a == (if b then 1 else 0)
|.int a,.int b=>a == b
|.str a,.str b=>a == b
|_,_=>false
theorem zvf {F:Hp} {x:V} {d:D} (h:Is K F x d) (f:zcb d=true):zgh x=true:=by
 cases h <;> first|rfl|exact absurd f (by simp [zcb])
theorem zlb {F:Hp}:∀ {xs:List V} {ds:List D},IsAll K F xs ds->ds.all zcb=true->xs.all zgh=true
|_,_,.nil,_=>rfl
|_,_,.cons h r,f=>by
  rw [List.all_cons,Bool.and_eq_true] at f ⊢
  exact ⟨zvf h f.1,zlb r f.2⟩
theorem zeq {F:Hp} {x y:V} {d e:D} (h:Is K F x d) (h':Is K F y e) (f:zcb d=true) (g:zcb e=true):eqV x y=eqF d e:=by
 cases h <;> cases h' <;> first|rfl|exact absurd f (by simp [zcb])|exact absurd g (by simp [zcb])
theorem zzg {F:Hp} {x:V} {d:D} (hx:Is K F x d) (f:zcb d=true):∀ {xs:List V} {ds:List D},IsAll K F xs ds->ds.all zcb=true->inV x xs=ds.any λ y=>eqF y d
|_,_,.nil,_=>rfl
|_,_,.cons h r,g=>by
  rw [List.all_cons,Bool.and_eq_true] at g
  unfold inV
  rw [List.any_cons,List.any_cons,zeq h hx g.1 f]
  congr 1
  exact zzg hx f r g.2
def fIn (neg:Bool):D->D->(D->Prop)->Prop
|d,.list ds,Q=>zcb d=true/\ds.all zcb=true/\Q (.bool (if neg then !(ds.any λ y=>eqF y d) else ds.any λ y=>eqF y d))
|d,.tuple ds,Q=>zcb d=true/\ds.all zcb=true/\Q (.bool (if neg then !(ds.any λ y=>eqF y d) else ds.any λ y=>eqF y d))
|.str c,.str z,Q=>∃ n,c=⟨#[n]⟩/\Q (.bool (if neg then !decide (n∈z.cps.toList) else decide (n∈z.cps.toList)))
|_,_,_=>False
theorem zmk {F H:Hp} {x y:V} {d e:D} {Qd:D->Prop} {Q:VK} {neg:Bool} (s:Same F H) (hx:Vw K F H x d) (hy:Vw K F H y e) (h:fIn neg d e Qd) (k:∀ z,Qd z->∀ v F' H',Ext F H F' H'->Is K F' v z->Q v H') :
  rIn K neg x y H Q \/ ∃ c z,x=.str ⟨#[c]⟩/\y=.str z/\Q (.bl (if neg then !decide (c∈z.cps.toList) else decide (c∈z.cps.toList))) H:=by
 unfold fIn at h
 split at h
 ·obtain ⟨f,g,q⟩:=h
  obtain ⟨p,xs,rfl,h1,i1⟩:=hy.list s
  have ix:=hx.is s
  refine .inl ⟨p,xs,rfl,.inl h1,zvf ix f,zlb (i1.mono s) g,?_⟩
  rw [zzg ix f (i1.mono s) g]
  exact k _ q _ F H (Ext.refl s) (.bl _)
 ·obtain ⟨f,g,q⟩:=h
  obtain ⟨p,xs,rfl,h1,_,i1⟩:=hy.tuple s
  have ix:=hx.is s
  refine .inl ⟨p,xs,rfl,.inr h1,zvf ix f,zlb (i1.mono s) g,?_⟩
  rw [zzg ix f (i1.mono s) g]
  exact k _ q _ F H (Ext.refl s) (.bl _)
 ·obtain ⟨n,rfl,q⟩:=h
  cases hx.str;cases hy.str
  exact .inr ⟨n,_,rfl,rfl,k _ q _ F H (Ext.refl s) (.bl _)⟩
 ·exact h.elim
theorem r_in:R2E K (rInV w K) (fIn false):=by
 intro F H x y d e Qd Q s hx hy h k
 rcases zmk s hx hy h k with z|⟨c,z,h1,h2,q⟩
 ·exact .inl (.inl (.inl z))
 ·exact .inl (.inl (.inr ⟨c,z,h1,h2,q⟩))
theorem zxj:R2E K (zse w K) (fIn true):=by
 intro F H x y d e Qd Q s hx hy h k
 rcases zmk s hx hy h k with z|⟨c,z,h1,h2,q⟩
 ·exact .inl (.inl (.inl z))
 ·exact .inl (.inl (.inr ⟨c,z,h1,h2,q⟩))
def fB (d:D) (Q:Bool->Prop):Prop:=match d with
|.bool b=>Q b
|_=>False
theorem zmz {F:Hp} {v:V} {d:D} {Q:Bool->Prop} (i:Is K F v d) (h:fB d Q):∃ b,v=.bl b/\Q b:=by
 unfold fB at h
 split at h
 ·exact ⟨_,i.bl_inv,h⟩
 ·exact h.elim
def zu01 (da:DE):DE:=λ δ Q=>da δ λ x=>fB x λ b=>Q (.bool (!b))
theorem znt (ha:RfE K ta da):RfE K (zo01 ta) (zu01 da):=by
 intro F H σ δ Qd Q s rv h k
 refine ha s rv h λ x hx v F1 H1 e1 i1=>?_
 obtain ⟨b,rfl,q⟩:=zmz i1 hx
 exact ⟨b,rfl,k _ q _ F1 H1 e1 (.bl _)⟩
def ze11 (da db:DE):DE:=λ δ Q=>da δ λ x=>fB x λ b=>if b=true then db δ Q else Q (.bool false)
theorem zct (ha:RfE K ta da) (hb:RfE K tb db):RfE K (zb11 ta tb) (ze11 da db):=by
 intro F H σ δ Qd Q s rv h k
 refine ha s rv h λ x hx v F1 H1 e1 i1=>?_
 obtain ⟨b,rfl,q⟩:=zmz i1 hx
 refine ⟨b,rfl,?_⟩
 cases b with
|true =>
  rw [if_pos rfl] at q ⊢
  exact hb e1.fh (rv.ext e1) q λ y hy u F2 H2 e2 i2=>k y hy u F2 H2 (e1.trans e2) i2
|false =>
  rw [if_neg Bool.false_ne_true] at q ⊢
  exact k _ q _ F1 H1 e1 (.bl _)
def zzz (de:DE):DT:=λ δ Q=>de δ λ d=>fB d Q
theorem zu0 (h:RfE K te de):RfT K (zes te) (zzz de):=by
 intro F H σ δ Qd Q s rv hd k
 refine h s rv hd λ x hx v F1 H1 e1 i1=>?_
 obtain ⟨b,rfl,q⟩:=zmz i1 hx
 exact ⟨b,rfl,k b q F1 H1 e1⟩
def fTru:D->(Bool->Prop)->Prop
|.none,Q=>Q false
|.bool b,Q=>Q b
|.int i,Q=>Q (i != 0)
|.str z,Q=>z.length<=sizeLine/\Q ((z.length:Int) != 0)
|.list ds,Q=>Q (!ds.isEmpty)
|.tuple ds,Q=>Q (!ds.isEmpty)
|.dict _,_=>False
def dTru (de:DE):DT:=λ δ Q=>de δ λ d=>fTru d Q
theorem zhd {F:Hp} {xs:List V} {ds:List D} (h:IsAll K F xs ds):xs.isEmpty=ds.isEmpty:=by cases h <;> rfl
theorem zud (h:RfV K te de):RfT K (zg01 K te) (dTru de):=by
 intro F H σ δ Qd Q s rv hd k
 refine h s rv hd λ x hx v F1 H1 e1 i1=>?_
 unfold fTru at hx
 split at hx
 ·cases i1.is e1.fh;exact ⟨false,rfl,k _ hx F1 H1 e1⟩
 ·cases i1.bl;exact ⟨_,rfl,k _ hx F1 H1 e1⟩
 ·cases i1.int;exact ⟨_,rfl,k _ hx F1 H1 e1⟩
 ·cases i1.str;exact ⟨_,⟨hx.1,rfl⟩,k _ hx.2 F1 H1 e1⟩
 ·obtain ⟨p,xs,rfl,h1,i2⟩:=i1.list e1.fh
  refine ⟨_,.inl ⟨xs,h1,rfl⟩,?_⟩
  rw [zhd i2];exact k _ hx F1 H1 e1
 ·obtain ⟨p,xs,rfl,h1,_,i2⟩:=i1.tuple e1.fh
  refine ⟨_,.inr (.inl ⟨xs,h1,rfl⟩),?_⟩
  rw [zhd i2];exact k _ hx F1 H1 e1
 ·exact hx.elim
def dAnd (dt du:DT):DT:=λ δ Q=>dt δ λ b=>if b=true then du δ Q else Q false
def dOr (dt du:DT):DT:=λ δ Q=>dt δ λ b=>if b=true then Q true else du δ Q
def dNot (dt:DT):DT:=λ δ Q=>dt δ λ b=>Q (!b)
theorem zhi (ht:RfT K tt dt) (hu:RfT K tu du):RfT K (tAnd tt tu) (dAnd dt du):=by
 intro F H σ δ Qd Q s rv h k
 refine ht s rv h λ b hb F1 H1 e1=>?_
 cases b with
|true =>
  rw [if_pos rfl] at hb ⊢
  exact hu e1.fh (rv.ext e1) hb λ c hc F2 H2 e2=>k c hc F2 H2 (e1.trans e2)
|false =>
  rw [if_neg Bool.false_ne_true] at hb ⊢
  exact k _ hb F1 H1 e1
theorem ziz (ht:RfT K tt dt) (hu:RfT K tu du):RfT K (tOr tt tu) (dOr dt du):=by
 intro F H σ δ Qd Q s rv h k
 refine ht s rv h λ b hb F1 H1 e1=>?_
 cases b with
|false =>
  rw [if_neg Bool.false_ne_true] at hb ⊢
  exact hu e1.fh (rv.ext e1) hb λ c hc F2 H2 e2=>k c hc F2 H2 (e1.trans e2)
|true =>
  rw [if_pos rfl] at hb ⊢
  exact k _ hb F1 H1 e1
theorem zvq (ht:RfT K tt dt):RfT K (tNot tt) (dNot dt):=λ s rv h k=>ht s rv h λ b hb F1 H1 e1=>k _ hb F1 H1 e1
def dIfE (dt:DT) (da db:DE):DE:=λ δ Q=>dt δ λ b=>if b=true then da δ Q else db δ Q
theorem zpy (ht:RfT K tt dt) (ha:RfE K ta da) (hb:RfE K tb db):RfE K (tIf tt ta tb) (dIfE dt da db):=by
 intro F H σ δ Qd Q s rv h k
 refine ht s rv h λ b hb' F1 H1 e1=>?_
 cases b with
|true =>
  rw [if_pos rfl] at hb' ⊢
  exact ha e1.fh (rv.ext e1) hb' λ y hy u F2 H2 e2 i2=>k y hy u F2 H2 (e1.trans e2) i2
|false =>
  rw [if_neg Bool.false_ne_true] at hb' ⊢
  exact hb e1.fh (rv.ext e1) hb' λ y hy u F2 H2 e2 i2=>k y hy u F2 H2 (e1.trans e2) i2
def dNil:DF:=λ _ Q=>Q []
def zwu (da:DE) (dr:DF):DF:=λ δ Q=>da δ λ x=>dr δ λ xs=>Q (x :: xs)
theorem zn0:RfA K tNil dNil:=λ s rv h k=>k _ h _ _ _ (Ext.refl s) .nil
theorem zc0 (ha:RfE K ta da) (hr:RfA K tA dA):RfA K (zfe ta tA) (zwu da dA):=by
 intro F H σ δ Qd Q s rv h k
 refine ha s rv h λ x hx v F1 H1 e1 i1=>hr e1.fh (rv.ext e1) hx λ xs hxs vs F2 H2 e2 i2=>?_
 exact k _ hxs _ F2 H2 (e1.trans e2) (.cons (i1.mono e2.f) i2)
theorem zi2:RfAV K tNil dNil:=λ s rv h k=>k _ h _ _ _ (Ext.refl s) .nil
theorem zz0 (ha:RfV K ta da) (hr:RfAV K tA dA):RfAV K (zfe ta tA) (zwu da dA):=by
 intro F H σ δ Qd Q s rv h k
 refine ha s rv h λ x hx v F1 H1 e1 i1=>hr e1.fh (rv.ext e1) hx λ xs hxs vs F2 H2 e2 i2=>?_
 exact k _ hxs _ F2 H2 (e1.trans e2) (.cons (i1.ext e2) i2)
def dTup (dA:DF):DE:=λ δ Q=>dA δ λ xs=>xs.length<=sizeLine/\Q (.tuple xs)
theorem zy4 (h:RfA K tA dA):RfE K (zhv tA) (dTup dA):=by
 intro F H σ δ Qd Q s rv hd k
 refine h s rv hd λ xs hx vs F1 H1 e1 i1=>⟨by rw [i1.dlen];exact hx.1,λ p hp=>?_⟩
 obtain ⟨ex,ii⟩:=zta (K:=K) e1.fh hp i1
 exact k _ hx.2 _ _ _ (e1.trans ex) ii
def dLst (dA:DF):DF:=λ δ Q=>dA δ λ xs=>xs.length<=sizeLine/\Q xs
theorem zq5 (h:RfA K tA dA):RfF K (zq01 tA) (dLst dA):=by
 intro F H σ δ Qd Q s rv hd k
 refine h s rv hd λ xs hx vs F1 H1 e1 i1=>⟨by rw [i1.dlen];exact hx.1,λ p hp=>?_⟩
 obtain ⟨ex,fn⟩:=zz2 (xs:=vs) e1.fh hp
 refine k _ hx.2 p vs F1 _ (e1.trans ex) ?_ zi0 fn i1
 cases q:H p with
|none=>rfl
|some o=>rw [e1.h p o q] at hp;cases hp
abbrev DSp:=List D->(D->Prop)->Prop
def spD (K:Fg) (p:DSp):Sp:=λ vs H Q _=>∃ F ds Qd,Same F H/\IsAll K F vs ds/\p ds Qd/\∀ d,Qd d->∀ v F' H',Ext F H F' H'->Is K F' v d->Q v H'
def zw11 (p:DSp) (dA:DF):DE:=λ δ Q=>dA δ λ ds=>p ds Q
theorem zx0 {p:DSp} {E:XK} (h:RfA K tA dA):RfE K (zwq (spD K p) [] E tA) (zw11 p dA):=by
 intro F H σ δ Qd Q s rv hd k
 refine h s rv hd λ ds hp vs F1 H1 e1 i1=>?_
 rw [List.append_nil]
 exact ⟨F1,ds,Qd,e1.fh,i1,hp,λ d q v F' H' e2 i2=>k d q v F' H' (e1.trans e2) i2⟩
def CB (K:Fg) (r:List V->Hp->VK->Prop) (f:List D->(D->Prop)->Prop):Prop:=∀ {F H:Hp} {vs:List V} {ds:List D} {Qd:D->Prop} {Q:VK},Same F H->VwAll K F H vs ds->f ds Qd->(∀ z,Qd z->∀ v F' H',Ext F H F' H'->Is K F' v z->Q v H')->r vs H Q
def CF (K:Fg) (r:List V->Hp->VK->Prop) (f:List D->(List D->Prop)->Prop):Prop:=∀ {F H:Hp} {vs:List V} {ds:List D} {Qd:List D->Prop} {Q:VK},Same F H->VwAll K F H vs ds->f ds Qd->(∀ z,Qd z->∀ a xs F' H',Ext F H F' H'->H a=none->H' a=some (.lst xs)->F' a=none->IsAll K F' xs z->Q (.ref a) H')->r vs H Q
def dCB (f:List D->(D->Prop)->Prop) (dA:DF):DE:=λ δ Q=>dA δ λ ds=>f ds Q
def dCF (f:List D->(List D->Prop)->Prop) (dA:DF):DF:=λ δ Q=>dA δ λ ds=>f ds Q
theorem zee {r:List V->Hp->VK->Prop} {f:List D->(D->Prop)->Prop} (hr:CB K r f) (h:RfAV K tA dA):RfE K (tCB r tA) (dCB f dA):=by
 intro F H σ δ Qd Q s rv hd k
 refine h s rv hd λ ds hp vs F1 H1 e1 i1=>hr e1.fh i1 hp λ z q v F' H' e2 i2=>k z q v F' H' (e1.trans e2) i2
theorem zmu {r:List V->Hp->VK->Prop} {f:List D->(List D->Prop)->Prop} (hr:CF K r f) (h:RfAV K tA dA):RfF K (tCB r tA) (dCF f dA):=by
 intro F H σ δ Qd Q s rv hd k
 refine h s rv hd λ ds hp vs F1 H1 e1 i1=>hr e1.fh i1 hp λ z q a xs F' H' e2 hn h1 h2 h3=>k z q a xs F' H' (e1.trans e2) ?_ h1 h2 h3
 cases z:H a with
|none=>rfl
|some o=>rw [e1.h a o z] at hn;cases hn
theorem vw1 {F H:Hp} {vs:List V} {d:D} (h:VwAll K F H vs [d]):∃ v,vs=[v]/\Vw K F H v d:=by
 cases h with
|cons h r=>cases r;exact ⟨_,rfl,h⟩
theorem vw2 {F H:Hp} {vs:List V} {d e:D} (h:VwAll K F H vs [d,e]):∃ v u,vs=[v,u]/\Vw K F H v d/\Vw K F H u e:=by
 cases h with
|cons h r=>obtain ⟨u,rfl,r2⟩:=vw1 r;exact ⟨_,u,rfl,h,r2⟩
def fLen:List D->(D->Prop)->Prop
|[.list ds],Q=>Q (.int (ds.length:Nat))
|[.tuple ds],Q=>Q (.int (ds.length:Nat))
|[.str z],Q=>z.length<=sizeLine/\Q (.int (z.length:Nat))
|_,_=>False
theorem zgm:CB K (rLen K) fLen:=by
 intro F H vs ds Qd Q s hv h k
 unfold fLen at h
 split at h
 ·obtain ⟨v,rfl,hw⟩:=vw1 hv
  obtain ⟨p,xs,rfl,h1,i1⟩:=hw.list s
  refine ⟨_,_,rfl,.inl ⟨xs,h1,rfl⟩,?_⟩
  rw [i1.dlen];exact k _ h _ F H (Ext.refl s) (.int _)
 ·obtain ⟨v,rfl,hw⟩:=vw1 hv
  obtain ⟨p,xs,rfl,h1,_,i1⟩:=hw.tuple s
  refine ⟨_,_,rfl,.inr ⟨xs,h1,rfl⟩,?_⟩
  rw [i1.dlen];exact k _ h _ F H (Ext.refl s) (.int _)
 ·obtain ⟨v,rfl,hw⟩:=vw1 hv
  cases hw.str
  exact ⟨_,_,rfl,⟨h.1,rfl⟩,k _ h.2 _ F H (Ext.refl s) (.int _)⟩
 ·exact h.elim
def zdh:List D->Option (List Int)
|[]=>some []
|.int i :: r=>(zdh r).map (i :: ·)
|_ :: _=>none
theorem zu8 {F:Hp}:∀ {xs:List V} {ds:List D} {ns:List Int},IsAll K F xs ds->zdh ds=some ns->xs=ns.map V.int
|_,_,_,.nil,e=>by cases e;rfl
|_,_,_,.cons h r,e=>by
  cases h with
 |int i =>
   unfold zdh at e
   obtain ⟨ms,e1,rfl⟩:=Option.map_eq_some_iff.mp e
   rw [zu8 r e1];rfl
 |_=>cases e
theorem ints_map (ns:List Int):zdh (ns.map PyData.int)=some ns:=by
 induction ns with
|nil=>rfl
|cons n r ih=>simp [zdh,ih]
def fSum:List D->(D->Prop)->Prop
|[.list ds],Q=>∃ ns,zdh ds=some ns/\Q (.int ns.sum)
|_,_=>False
theorem znu:CB K (rSum K) fSum:=by
 intro F H vs ds Qd Q s hv h k
 unfold fSum at h
 split at h
 ·obtain ⟨v,rfl,hw⟩:=vw1 hv
  obtain ⟨p,xs,rfl,h1,i1⟩:=hw.list s
  obtain ⟨ns,e,q⟩:=h
  have:=zu8 i1 e
  subst this
  exact ⟨p,ns,rfl,h1,k _ q _ F H (Ext.refl s) (.int _)⟩
 ·exact h.elim
def zfv:List D->(List D->Prop)->Prop
|[.list ds],Q=>Q ds
|[.tuple ds],Q=>Q ds
|_,_=>False
theorem znh:CF K (ztz K) zfv:=by
 intro F H vs ds Qd Q s hv h k
 unfold zfv at h
 split at h
 ·obtain ⟨v,rfl,hw⟩:=vw1 hv
  obtain ⟨p,xs,rfl,h1,i1⟩:=hw.list s
  refine ⟨p,xs,rfl,.inl h1,λ l hl=>?_⟩
  obtain ⟨ex,fn⟩:=zz2 (xs:=xs) s hl
  exact k _ h l xs F _ ex hl zi0 fn i1
 ·obtain ⟨v,rfl,hw⟩:=vw1 hv
  obtain ⟨p,xs,rfl,h1,_,i1⟩:=hw.tuple s
  refine ⟨p,xs,rfl,.inr h1,λ l hl=>?_⟩
  obtain ⟨ex,fn⟩:=zz2 (xs:=xs) s hl
  exact k _ h l xs F _ ex hl zi0 fn i1
 ·exact h.elim
def tyD:D->String
|.none => "NoneType"|.bool _ => "bool"|.int _ => "int"|.str _ => "str"|.list _ => "list"|.tuple _ => "tuple"|.dict _ => "dict"
def isT (T:String) (d:D):Bool:=tyD d == T || (T == "int" && tyD d == "bool")
structure Kit (K:Fg):Prop where
 ok:∀ t∈["NoneType", "bool", "int", "str", "list", "tuple"],∀ T∈["int", "bool", "list", "tuple", "str"],PySem.W.kitOne K (.type t) (.type T)=some (t == T || (T == "int" && t == "bool"))
def dIs (T:String) (da:DE):DE:=λ δ Q=>da δ λ d=>(∀ kvs,d≠.dict kvs)/\Q (.bool (isT T d))
theorem zly {T:String} (kt:Kit K) (hT:T∈["int", "bool", "list", "tuple", "str"]) (ha:RfV K ta da):RfE K (tCB (rIsW K) (zfe ta (zfe (tC (.ty T)) tNil))) (dIs T da):=by
 intro F H σ δ Qd Q s rv hd k
 refine ha s rv hd λ d hd v F1 H1 e1 i1=>?_
 have q:=k _ hd.2 (.bl (isT T d)) F1 H1 e1 (.bl _)
 have i2:=i1.is e1.fh
 show rIsW K [v,.ty T] H1 Q
 cases i2 with
|non=>exact .inl ⟨_,_,_,_,_,rfl,rfl,.non,kt.ok _ (by simp) T hT,q⟩
|bl b=>exact .inl ⟨_,_,_,_,_,rfl,rfl,.bl b,kt.ok _ (by simp) T hT,q⟩
|int b=>exact .inl ⟨_,_,_,_,_,rfl,rfl,.int b,kt.ok _ (by simp) T hT,q⟩
|str b=>exact .inl ⟨_,_,_,_,_,rfl,rfl,.str b,kt.ok _ (by simp) T hT,q⟩
|lst h1 h2=>exact .inr ⟨_,_,_,_,rfl,rfl,.inl ⟨⟨_,h1⟩,kt.ok _ (by simp) T hT⟩,q⟩
|tup h1 h2=>exact .inr ⟨_,_,_,_,rfl,rfl,.inr ⟨⟨_,SqT.of h1⟩,kt.ok _ (by simp) T hT⟩,q⟩
|tuc h1 h2 _=>exact .inr ⟨_,_,_,_,rfl,rfl,.inr ⟨⟨_,h1⟩,kt.ok _ (by simp) T hT⟩,q⟩
end
section
variable {K:Fg} {te ta tb tc:TE} {de da db dc:DE} {tt tu:TT} {dt du:DT} {tA:TA} {dA:DF} {w:World}
abbrev DO:=DSt->(Option Int->Prop)->Prop
def zkk:DO:=λ _ Q=>Q none
def zu11 (de:DE):DO:=λ δ Q=>de δ λ d=>match d with
|.int i=>Q (some i)
|_=>False
theorem zdt:RfO K zoj zkk:=λ s rv h k=>k _ h _ _ (Ext.refl s)
theorem zjd (h:RfE K te de):RfO K (zzs te) (zu11 de):=by
 intro F H σ δ Qd Q s rv hd k
 refine h s rv hd λ d hx v F1 H1 e1 i1=>?_
 split at hx
 ·cases i1.int_inv;exact ⟨_,rfl,k _ hx F1 H1 e1⟩
 ·exact hx.elim
def cutD (xs:List D) (lo hi:Option Int):List D:=(xs.drop (HT.sIx xs.length 0 lo)).take (HT.sIx xs.length xs.length hi - HT.sIx xs.length 0 lo)
theorem zgk {F:Hp} {xs:List V} {ds:List D} (h:IsAll K F xs ds) (lo hi:Option Int):IsAll K F (cutV xs lo hi) (cutD ds lo hi):=by
 unfold cutV cutD
 rw [h.dlen]
 exact (h.ddrop _).dtake _
def fSl (d:D) (lo hi:Option Int) (Q:D->Prop):Prop:=match d with
|.list ds=>Q (.list (cutD ds lo hi))
|.str z=>z.length<=sizeLine/\Q (.str (Txt.slice z lo hi))
|.tuple ds=>¬(HT.sIx ds.length 0 lo=0/\HT.sIx ds.length ds.length hi=ds.length)/\Q (.tuple (cutD ds lo hi))
|_=>False
def fSlF (d:D) (lo hi:Option Int) (Q:List D->Prop):Prop:=match d with
|.list ds=>Q (cutD ds lo hi)
|_=>False
variable {tl th tk:TO} {dl dh dk:DO}
def dSl (de:DE) (dl dh:DO):DE:=λ δ Q=>de δ λ d=>dl δ λ lo=>dh δ λ hi=>fSl d lo hi Q
theorem zu1 {F H F' H':Hp} {p:Addr} (e:Ext F H F' H') (h:H' p=none):H p=none:=by
 cases q:H p with
|none=>rfl
|some o=>rw [e.h p o q] at h;cases h
theorem zp21 (he:RfV K te de) (hl:RfO K tl dl) (hh:RfO K th dh):RfE K (tSl (rSlW K) te tl th) (dSl de dl dh):=by
 intro F H σ δ Qd Q s rv h k
 refine he s rv h λ d hd v F1 H1 e1 i1=>hl e1.fh (rv.ext e1) hd λ lo hlo F2 H2 e2=>hh e2.fh (rv.ext (e1.trans e2)) hlo λ hi hhi F3 H3 e3=>?_
 have e13:=(e1.trans e2).trans e3
 have i3:=i1.ext (e2.trans e3)
 unfold fSl at hhi
 split at hhi
 ·obtain ⟨p,xs,rfl,h1,i2⟩:=i3.list e3.fh
  refine .inl (.inl ⟨p,xs,rfl,h1,λ l hl=>?_⟩)
  obtain ⟨ex,fn⟩:=zz2 (xs:=cutV xs lo hi) e3.fh hl
  obtain ⟨ex2,ii⟩:=zrg (K:=K) ex hl zi0 fn (zgk i2 lo hi)
  exact k _ hhi _ _ _ (e13.trans ex2) ii
 ·cases i3.str
  exact .inr ⟨_,rfl,hhi.1,k _ hhi.2 _ F3 H3 e13 (.str _)⟩
 ·obtain ⟨p,xs,rfl,h1,_,i2⟩:=i3.tuple e3.fh
  refine .inl (.inr ⟨p,xs,rfl,h1,by rw [i2.dlen];exact hhi.1,λ l hl=>?_⟩)
  obtain ⟨ex,ii⟩:=zta (K:=K) e3.fh hl (zgk i2 lo hi)
  exact k _ hhi.2 _ _ _ (e13.trans ex) ii
 ·exact hhi.elim
theorem zt9 {F:Hp} {xs:List V} {ds:List D} (h:IsAll K F xs ds):∀ js:List Nat,IsAll K F (js.filterMap (xs[·]?)) (js.filterMap (ds[·]?))
|[]=>.nil
|j :: js=>by
  have ih:=zt9 h js
  cases hn:ds[j]? with
 |some n =>
   obtain ⟨u,hu,r⟩:=h.dget hn
   simp only [List.filterMap_cons,hn,hu]
   exact .cons r ih
 |none =>
   have hv:xs[j]?=none:=by
    rw [List.getElem?_eq_none_iff] at hn ⊢
    rw [h.dlen];exact hn
   simp only [List.filterMap_cons,hn,hv]
   exact ih
theorem zan {F:Hp} {xs:List V} {ds:List D} (h:IsAll K F xs ds) (lo hi st:Option Int):IsAll K F (zge xs lo hi st) (zge ds lo hi st):=by
 unfold zge
 rw [h.dlen]
 exact zt9 h _
def dSl3 (de:DE) (dl dh dk:DO):DF:=λ δ Q=>de δ λ d=>dl δ λ lo=>dh δ λ hi=>dk δ λ st=>match d with
|.list ds=>st≠some 0/\Q (zge ds lo hi st)
|_=>False
theorem zox (he:RfV K te de) (hl:RfO K tl dl) (hh:RfO K th dh) (hk:RfO K tk dk):RfF K (tSl3 K te tl th tk) (dSl3 de dl dh dk):=by
 intro F H σ δ Qd Q s rv h k
 refine he s rv h λ d hd v F1 H1 e1 i1=>hl e1.fh (rv.ext e1) hd λ lo hlo F2 H2 e2=>hh e2.fh (rv.ext (e1.trans e2)) hlo λ hi hhi F3 H3 e3=>hk e3.fh (rv.ext ((e1.trans e2).trans e3)) hhi λ st hst F4 H4 e4=>?_
 split at hst
 ·have e14:=((e1.trans e2).trans e3).trans e4
  obtain ⟨p,xs,rfl,h1,i2⟩:=(i1.ext ((e2.trans e3).trans e4)).list e4.fh
  refine ⟨p,xs,rfl,h1,hst.1,λ l hl=>?_⟩
  obtain ⟨ex,fn⟩:=zz2 (xs:=zge xs lo hi st) e4.fh hl
  exact k _ hst.2 l _ F4 _ (e14.trans ex) (zu1 e14 hl) zi0 fn (zan i2 lo hi st)
 ·exact hst.elim
def W0 (K:Fg) (J:It) (F H:Hp) (items:List D):Prop:=(∀ i,i < items.length->J.go i H)/\J.stop items.length H/\∀ i x H3 d,items[i]?=some d->J.yld i H x H3->H3=H/\Is K F x d
def W1 (K:Fg) (J:It) (F H:Hp) (items:List D):Prop:=(∀ i,i < items.length->J.go i H)/\J.stop items.length H/\∀ i x H3 d,items[i]?=some d->J.yld i H x H3->∃ F3,Ext F H F3 H3/\Is K F3 x d
def WD (K:Fg) (J:It) (F:Hp) (items:List D):Prop:=∀ F2 H2,Same F F2->Same F2 H2->W1 K J F2 H2 items
def WV (K:Fg) (J:It) (F H:Hp) (items:List D):Prop:=∀ F2 H2,Ext F H F2 H2->W1 K J F2 H2 items
theorem W0.w1 {J:It} {F H:Hp} {items:List D} (s:Same F H) (h:W0 K J F H items):W1 K J F H items:=⟨h.1,h.2.1,λ i x H3 d e y=>by
 obtain ⟨rfl,r⟩:=h.2.2 i x H3 d e y
 exact ⟨F,Ext.refl s,r⟩⟩
def RfI (K:Fg) (ti:TI) (di:DF):Prop:=∀ {F H:Hp} {σ:L2.St} {δ:DSt} {Qd:List D->Prop} {R:It->Hp->Prop},Same F H->RV K F H σ δ->di δ Qd->(∀ ds,Qd ds->∀ J F' H',Ext F H F' H'->WD K J F' ds->R J H')->ti σ H R
def RfJ (K:Fg) (ti:TI) (di:DF):Prop:=∀ {F H:Hp} {σ:L2.St} {δ:DSt} {Qd:List D->Prop} {R:It->Hp->Prop},Same F H->RV K F H σ δ->di δ Qd->(∀ ds,Qd ds->∀ J F' H',Ext F H F' H'->WV K J F' H' ds->R J H')->ti σ H R
theorem zz7 {F H:Hp} {a:Addr} {xs:List V} {ds:List D} (h:SqL K H a xs) (i:IsAll K F xs ds):W0 K (Itl K a) F H ds:=by
 have el:=i.dlen
 refine ⟨λ j hj=>⟨xs,xs[j]'(by lia),h,List.getElem?_eq_getElem _⟩,⟨xs,h,by lia⟩,λ j x H3 d e y=>?_⟩
 obtain ⟨e3,y⟩:=y
 obtain ⟨x',h1,h2⟩:=i.dget e
 have:=y xs h
 rw [h1] at this;cases this
 exact ⟨e3,h2⟩
theorem zgi {F H:Hp} {a:Addr} {xs:List V} {ds:List D} (h:SqT K H a xs) (i:IsAll K F xs ds):W0 K (Itt K a) F H ds:=by
 have el:=i.dlen
 refine ⟨λ j hj=>⟨xs,xs[j]'(by lia),h,List.getElem?_eq_getElem _⟩,⟨xs,h,by lia⟩,λ j x H3 d e y=>?_⟩
 obtain ⟨e3,y⟩:=y
 obtain ⟨x',h1,h2⟩:=i.dget e
 have:=y xs h
 rw [h1] at this;cases this
 exact ⟨e3,h2⟩
def zvs:D->(List D->Prop)->Prop
|.list ds,Q=>Q ds
|.tuple ds,Q=>Q ds
|.str z,Q=>z.cps.all (· < 128)=true/\Q (z.cps.toList.map λ c=>.str ⟨#[c]⟩)
|_,_=>False
def dIt (de:DE):DF:=λ δ Q=>de δ λ d=>zvs d Q
theorem zoo {F H:Hp} (z:Str) (s:Same F H):W1 K (Its z) F H (z.cps.toList.map λ c=>.str ⟨#[c]⟩):=by
 have el:(z.cps.toList.map λ c=>(PyData.str ⟨#[c]⟩)).length=z.cps.size:=by simp
 refine ⟨λ j hj=>by rw [el] at hj;exact hj,by rw [el];exact Nat.le_refl _,λ j x H3 d e y=>?_⟩
 obtain ⟨e3,c,e1,e2⟩:=y
 subst e3
 rw [List.getElem?_map,Array.getElem?_toList,e1] at e
 simp at e
 subst e
 exact ⟨F,Ext.refl s,by rw [e2];exact .str _⟩
theorem zvo (h:RfV K te de):RfJ K (iW K te) (dIt de):=by
 intro F H σ δ Qd R s rv hd k
 refine h s rv hd λ d hx v F1 H1 e1 i1=>?_
 unfold zvs at hx
 split at hx
 ·obtain ⟨p,xs,rfl,h1,i2⟩:=i1.list e1.fh
  exact .inl (.inl ⟨p,rfl,⟨xs,h1⟩,k _ hx _ F1 H1 e1 λ F2 H2 e2=>(zz7 (e2.h.seq h1) (i2.mono e2.f)).w1 e2.fh⟩)
 ·obtain ⟨p,xs,rfl,h1,_,i2⟩:=i1.tuple e1.fh
  exact .inl (.inr ⟨p,rfl,⟨xs,h1⟩,k _ hx _ F1 H1 e1 λ F2 H2 e2=>(zgi (zfh e2.h h1) (i2.mono e2.f)).w1 e2.fh⟩)
 ·cases i1.str
  exact .inr ⟨_,rfl,hx.1,k _ hx.2 _ F1 H1 e1 λ F2 H2 e2=>zoo _ e2.fh⟩
 ·exact hx.elim
theorem zns (h:RfE K te de):RfI K (iW K te) (dIt de):=by
 intro F H σ δ Qd R s rv hd k
 refine h s rv hd λ d hx v F1 H1 e1 i1=>?_
 unfold zvs at hx
 split at hx
 ·obtain ⟨p,xs,rfl,h1,i2⟩:=i1.list_inv
  exact .inl (.inl ⟨p,rfl,⟨xs,e1.fh.seq h1⟩,k _ hx _ F1 H1 e1 λ F2 H2 s2 t2=>(zz7 (t2.seq (s2.seq h1)) (i2.mono s2)).w1 t2⟩)
 ·obtain ⟨p,xs,rfl,h1,i2⟩:=i1.tuple_inv
  exact .inl (.inr ⟨p,rfl,⟨xs,zfh e1.fh h1⟩,k _ hx _ F1 H1 e1 λ F2 H2 s2 t2=>(zgi (zfh t2 (zfh s2 h1)) (i2.mono s2)).w1 t2⟩)
 ·cases i1.str_inv
  exact .inr ⟨_,rfl,hx.1,k _ hx.2 _ F1 H1 e1 λ F2 H2 s2 t2=>zoo _ t2⟩
 ·exact hx.elim
theorem RfI.j {ti:TI} {di:DF} (h:RfI K ti di):RfJ K ti di:=λ s rv hd k=>h s rv hd λ ds q J F' H' e w=>k ds q J F' H' e λ F2 H2 e2=>w F2 H2 e2.f e2.fh
def rngD (lo:Int) (n:Nat):List D:=(List.range n).map λ i=>.int (lo+(i:Nat))
theorem zqe (lo:Int) (n:Nat):(rngD lo n).length=n:=by simp [rngD]
theorem zjm {lo:Int} {n i:Nat} {d:D} (e:(rngD lo n)[i]?=some d):i < n/\d=.int (lo+(i:Nat)):=by
 unfold rngD at e
 rw [List.getElem?_map] at e
 obtain ⟨j,hj,rfl⟩:=Option.map_eq_some_iff.mp e
 obtain ⟨h1,h2⟩:=List.getElem?_eq_some_iff.mp hj
 simp at h1 h2
 subst h2
 exact ⟨h1,rfl⟩
theorem zwv {F H:Hp} (lo:Int) (n:Nat) (s:Same F H):W1 K (Itr lo n) F H (rngD lo n):=by
 refine ⟨λ j hj=>by rw [zqe] at hj;exact hj,by rw [zqe];exact Nat.le_refl _,λ j x H3 d e y=>?_⟩
 obtain ⟨e3,y⟩:=y
 subst e3
 obtain ⟨_,rfl⟩:=zjm e
 exact ⟨F,Ext.refl s,by rw [y];exact .int _⟩
def zb01 (dA:DF):DF:=λ δ Q=>dA δ λ ds=>match ds with
|[.int j]=>-(2 ^ 62)<=j/\j < 2 ^ 62/\Q (rngD 0 j.toNat)
|_=>False
theorem ztc (h:RfA K tA dA):RfI K (zvz tA) (zb01 dA):=by
 intro F H σ δ Qd R s rv hd k
 refine h s rv hd λ ds hx vs F1 H1 e1 i1=>?_
 split at hx
 ·cases i1 with
 |cons h1 r1 =>
   cases r1
   cases h1.int_inv
   exact ⟨_,rfl,hx.1,hx.2.1,k _ hx.2.2 _ F1 H1 e1 λ F2 H2 s2 t2=>zwv _ _ t2⟩
 ·exact hx.elim
def zipD (ds es:List D):List D:=List.zipWith (λ a b=>.tuple [a,b]) ds es
theorem zfn {F H:Hp} {J1 J2:It} {ds es:List D} (s:Same F H) (h1:W0 K J1 F H ds) (h2:W0 K J2 F H es):W1 K (Itz J1 J2) F H (zipD ds es):=by
 have el:(zipD ds es).length=min ds.length es.length:=by simp [zipD]
 refine ⟨λ j hj=>⟨h1.1 j (by lia),h2.1 j (by lia)⟩,?_,λ j x H3 d e y=>?_⟩
 ·rw [el]
  by_cases h:ds.length<=es.length
  ·rw [Nat.min_eq_left h];exact .inl h1.2.1
  ·rw [Nat.min_eq_right (by lia)];exact .inr ⟨h1.1 es.length (by lia),h2.2.1⟩
 ·obtain ⟨x1,x2,p,y1,y2,hp,e1,e2⟩:=y
  subst e2
  unfold zipD at e
  rw [List.getElem?_zipWith] at e
  cases q1:ds[j]? with
 |none=>rw [q1] at e;cases e
 |some d1 =>
   cases q2:es[j]? with
  |none=>rw [q1,q2] at e;cases e
  |some d2 =>
    rw [q1,q2] at e
    cases e
    obtain ⟨_,i1⟩:=h1.2.2 j x1 H d1 q1 y1
    obtain ⟨_,i2⟩:=h2.2.2 j x2 H d2 q2 y2
    obtain ⟨ex,ii⟩:=zta (K:=K) (ds:=[d1,d2]) s hp (.cons i1 (.cons i2 .nil))
    exact ⟨_,ex,by rw [e1];exact ii⟩
def fZip:List D->(List D->Prop)->Prop
|[.list a,.list b],Q=>Q (zipD a b)
|[.list a,.tuple b],Q=>Q (zipD a b)
|[.tuple a,.list b],Q=>Q (zipD a b)
|_,_=>False
def dZip (dA:DF):DF:=λ δ Q=>dA δ λ ds=>fZip ds Q
theorem ztt (h:RfAV K tA dA):RfJ K (iZip K tA) (dZip dA):=by
 intro F H σ δ Qd R s rv hd k
 refine h s rv hd λ ds hx vs F1 H1 e1 i1=>?_
 unfold fZip at hx
 split at hx
 ·obtain ⟨v,u,rfl,w1,w2⟩:=vw2 i1
  obtain ⟨p,xs,rfl,h1,j1⟩:=w1.list e1.fh
  obtain ⟨q,ys,rfl,h2,j2⟩:=w2.list e1.fh
  exact ⟨_,_,rfl,.inl ⟨p,rfl,⟨xs,h1⟩,.inl ⟨q,rfl,⟨ys,h2⟩,k _ hx _ F1 H1 e1 λ F2 H2 e2=>zfn e2.fh (zz7 (e2.h.seq h1) (j1.mono e2.f)) (zz7 (e2.h.seq h2) (j2.mono e2.f))⟩⟩⟩
 ·obtain ⟨v,u,rfl,w1,w2⟩:=vw2 i1
  obtain ⟨p,xs,rfl,h1,j1⟩:=w1.list e1.fh
  obtain ⟨q,ys,rfl,h2,_,j2⟩:=w2.tuple e1.fh
  exact ⟨_,_,rfl,.inl ⟨p,rfl,⟨xs,h1⟩,.inr ⟨q,rfl,⟨ys,h2⟩,k _ hx _ F1 H1 e1 λ F2 H2 e2=>zfn e2.fh (zz7 (e2.h.seq h1) (j1.mono e2.f)) (zgi (zfh e2.h h2) (j2.mono e2.f))⟩⟩⟩
 ·obtain ⟨v,u,rfl,w1,w2⟩:=vw2 i1
  obtain ⟨p,xs,rfl,h1,_,j1⟩:=w1.tuple e1.fh
  obtain ⟨q,ys,rfl,h2,j2⟩:=w2.list e1.fh
  exact ⟨_,_,rfl,.inr ⟨p,rfl,⟨xs,h1⟩,.inl ⟨q,rfl,⟨ys,h2⟩,k _ hx _ F1 H1 e1 λ F2 H2 e2=>zfn e2.fh (zgi (zfh e2.h h1) (j1.mono e2.f)) (zz7 (e2.h.seq h2) (j2.mono e2.f))⟩⟩⟩
 ·exact hx.elim
theorem all1 {F:Hp} {vs:List V} {d:D} (h:IsAll K F vs [d]):∃ v,vs=[v]/\Is K F v d:=by
 cases h with
|cons h r=>cases r;exact ⟨_,rfl,h⟩
def zjj (ds:List D):List D:=ds.mapIdx λ i d=>.tuple [.int (i:Nat),d]
theorem zc9 (ds:List D):(zjj ds).length=ds.length:=by simp [zjj]
theorem zdd {ds:List D} {i:Nat} {d:D} (e:(zjj ds)[i]?=some d):∃ x,ds[i]?=some x/\d=.tuple [.int (i:Nat),x]:=by
 unfold zjj at e
 rw [List.getElem?_mapIdx] at e
 obtain ⟨x,h1,h2⟩:=Option.map_eq_some_iff.mp e
 exact ⟨x,h1,h2.symm⟩
theorem zok {F H:Hp} {a:Addr} {xs:List V} {ds:List D} (s:Same F H) (h:SqL K H a xs) (i:IsAll K F xs ds):W1 K (Ite K a) F H (zjj ds):=by
 have el:=i.dlen
 have el2:=zc9 ds
 refine ⟨λ j hj=>⟨xs,xs[j]'(by lia),h,List.getElem?_eq_getElem _⟩,⟨xs,h,by lia⟩,λ j x H3 d e y=>?_⟩
 obtain ⟨v,p,y1,hp,e1,e2⟩:=y
 subst e2
 obtain ⟨x',hx',rfl⟩:=zdd e
 obtain ⟨u,hu,iu⟩:=i.dget hx'
 have:=y1 xs h
 rw [hu] at this;cases this
 obtain ⟨ex,ii⟩:=zta (K:=K) (ds:=[.int (j:Nat),x']) s hp (.cons (.int _) (.cons iu .nil))
 exact ⟨_,ex,by rw [e1];exact ii⟩
def zvy (dA:DF):DF:=λ δ Q=>dA δ λ ds=>match ds with
|[.list a]=>Q (zjj a)
|_=>False
theorem zpk (h:RfAV K tA dA):RfJ K (zix K tA) (zvy dA):=by
 intro F H σ δ Qd R s rv hd k
 refine h s rv hd λ ds hx vs F1 H1 e1 i1=>?_
 split at hx
 ·obtain ⟨v,rfl,w1⟩:=vw1 i1
  obtain ⟨p,xs,rfl,h1,j1⟩:=w1.list e1.fh
  exact ⟨p,xs,rfl,h1,k _ hx _ F1 H1 e1 λ F2 H2 e2=>zok e2.fh (e2.h.seq h1) (j1.mono e2.f)⟩
 ·exact hx.elim
theorem zis (h:RfA K tA dA):RfI K (zix K tA) (zvy dA):=by
 intro F H σ δ Qd R s rv hd k
 refine h s rv hd λ ds hx vs F1 H1 e1 i1=>?_
 split at hx
 ·obtain ⟨v,rfl,w1⟩:=all1 i1
  obtain ⟨p,xs,rfl,h1,j1⟩:=w1.list_inv
  exact ⟨p,xs,rfl,e1.fh.seq h1,k _ hx _ F1 H1 e1 λ F2 H2 s2 t2=>zok t2 (t2.seq (s2.seq h1)) (j1.mono s2)⟩
 ·exact hx.elim
end
inductive Upd (K:Fg) (F:Hp) (n:Nat):L2.St->DSt->L2.St->DSt->Prop
|refl {σ:L2.St} {δ:DSt}:Upd K F n σ δ σ δ
|set {σ σ':L2.St} {δ δ':DSt} {i:Nat} {v:V} {d:D}:i < n->Is K F v d->Upd K F n (σ.set i (some v)) (δ.set i (.sh d)) σ' δ'->Upd K F n σ δ σ' δ'
theorem ze3 {σ:L2.St} {i j:Nat} {v:Option V}:(σ.set i v).getD j none=if i=j/\j < σ.length then v else σ.getD j none:=by
 rw [List.getD_eq_getElem?_getD,List.getD_eq_getElem?_getD,List.getElem?_set]
 by_cases h:i=j
 ·subst h
  by_cases h2:i < σ.length
  ·simp [h2]
  ·simp [h2]
 ·simp [h]
theorem RV.set {K:Fg} {F H:Hp} {σ:L2.St} {δ:DSt} {i:Nat} {v:V} {sl:Sl} (r:RV K F H σ δ) (h:RSl K F H (some v) sl):RV K F H (σ.set i (some v)) (δ.set i sl):=by
 refine ⟨by rw [List.length_set,List.length_set];exact r.len,λ j s e=>?_⟩
 rw [List.getElem?_set] at e
 rw [ze3,r.len]
 by_cases hij:i=j
 ·subst hij
  by_cases hl:i < δ.length
  ·simp [hl] at e ⊢;subst e;exact h
  ·simp [hl] at e
 ·simp [hij] at e ⊢;exact r.sl j s e
theorem Upd.rv {K:Fg} {F H:Hp} {n:Nat} {σ σ':L2.St} {δ δ':DSt} (u:Upd K F n σ δ σ' δ') (r:RV K F H σ δ):RV K F H σ' δ':=by
 induction u with
|refl=>exact r
|set hi hv _ ih=>exact ih (r.set ⟨_,rfl,hv⟩)
theorem Upd.keep {K:Fg} {F:Hp} {n:Nat} {σ σ':L2.St} {δ δ':DSt} (u:Upd K F n σ δ σ' δ'):σ'.length=σ.length/\∀ i,n<=i->σ'.getD i none=σ.getD i none:=by
 induction u with
|refl=>exact ⟨rfl,λ _ _=>rfl⟩
|set hi hv _ ih =>
  refine ⟨by rw [ih.1,List.length_set],λ j hj=>?_⟩
  rw [ih.2 j hj,ze3,if_neg (by lia)]
abbrev DG:=D->DSt->(DSt->Prop)->Prop
abbrev DGs:=List D->DSt->(DSt->Prop)->Prop
def RfG (K:Fg) (n:Nat) (g:TG) (dg:DG):Prop:=∀ {F H:Hp} {σ:L2.St} {δ:DSt} {v:V} {d:D} {Gd:DSt->Prop} {G:L2.St->Hp->Prop},Same F H->Is K F v d->dg d δ Gd->(∀ σ' δ',Gd δ'->Upd K F n σ δ σ' δ'->G σ' H)->g v σ H G
def RfGs (K:Fg) (n:Nat) (g:TGs) (dg:DGs):Prop:=∀ {F H:Hp} {σ:L2.St} {δ:DSt} {vs:List V} {ds:List D} {Gd:DSt->Prop} {G:L2.St->Hp->Prop},Same F H->IsAll K F vs ds->dg ds δ Gd->(∀ σ' δ',Gd δ'->Upd K F n σ δ σ' δ'->G σ' H)->g vs σ H G
def gN (i:Nat):DG:=λ d δ G=>G (δ.set i (.sh d))
def zkz:DGs:=λ ds δ G=>match ds with
|[]=>G δ
|_=>False
def zen (g:DG) (gs:DGs):DGs:=λ ds δ G=>match ds with
|d :: r=>g d δ λ δ'=>gs r δ' G
|[]=>False
def gT (n:Nat) (gs:DGs):DG:=λ d δ G=>match d with
|.tuple ds=>ds.length=n/\gs ds δ G
|_=>False
section
variable {K:Fg} {n m:Nat}
theorem zr1 {i:Nat} (hi:i < n):RfG K n (zni i) (gN i):=λ s h hd k=>k _ _ hd (.set hi h .refl)
theorem zba:RfGs K n gNil zkz:=by
 intro F H σ δ vs ds Gd G s h hd k
 unfold zkz at hd
 split at hd
 ·cases h;exact ⟨rfl,k _ _ hd .refl⟩
 ·exact hd.elim
theorem Upd.trans {F:Hp} {σ σ1 σ2:L2.St} {δ δ1 δ2:DSt} (a:Upd K F n σ δ σ1 δ1) (b:Upd K F n σ1 δ1 σ2 δ2):Upd K F n σ δ σ2 δ2:=by
 induction a with
|refl=>exact b
|set hi hv _ ih=>exact .set hi hv (ih b)
theorem zl2 {g:TG} {dg:DG} {gs:TGs} {dgs:DGs} (h1:RfG K n g dg) (h2:RfGs K n gs dgs):RfGs K n (zw01 g gs) (zen dg dgs):=by
 intro F H σ δ vs ds Gd G s h hd k
 unfold zen at hd
 split at hd
 ·cases h with
 |cons hx hr =>
   refine ⟨_,_,rfl,h1 s hx hd λ σ1 δ1 hd1 u1=>h2 s hr hd1 λ σ2 δ2 hd2 u2=>k _ _ hd2 (u1.trans u2)⟩
 ·exact hd.elim
theorem zwf {gs:TGs} {dgs:DGs} (h:RfGs K n gs dgs):RfG K n (gTup K m gs) (gT m dgs):=by
 intro F H σ δ v d Gd G s hv hd k
 unfold gT at hd
 split at hd
 ·obtain ⟨a,xs,rfl,h1,h2⟩:=hv.tuple_inv
  exact ⟨a,xs,rfl,zfh s h1,by rw [h2.dlen];exact hd.1,h s h2 hd.2 k⟩
 ·exact hd.elim
end
def cST (n:Nat) (ix:List Nat) (δ:DSt):DSt:=List.replicate n .un++ix.map λ i=>δ.getD i .un
theorem zpp {K:Fg} {F H:Hp} {σ:L2.St} {δ:DSt} (n:Nat) (ix:List Nat) (r:RV K F H σ δ):RV K F H (compσ n ix σ) (cST n ix δ):=by
 refine ⟨by simp [compσ,cST],λ i s e=>?_⟩
 unfold cST at e
 unfold compσ
 by_cases h:i < n
 ·rw [List.getElem?_append_left (by simpa using h)] at e
  simp [List.getElem?_replicate,h] at e
  subst e;trivial
 ·rw [List.getElem?_append_right (by simpa using h)] at e
  rw [List.getD_eq_getElem?_getD,List.getElem?_append_right (by simpa using h)]
  simp only [List.length_replicate,List.getElem?_map] at e ⊢
  obtain ⟨j,hj,rfl⟩:=Option.map_eq_some_iff.mp e
  rw [hj]
  show RSl K F H (σ.getD j none) _
  cases q:δ[j]? with
 |none=>rw [show δ.getD j .un=.un by rw [List.getD_eq_getElem?_getD,q];rfl];trivial
 |some t=>rw [show δ.getD j .un=t by rw [List.getD_eq_getElem?_getD,q];rfl];exact r.sl j t q
theorem RV.caps {K:Fg} {F H:Hp} {σ σ':L2.St} {n:Nat} {ix:List Nat} {δ:DSt} (r:RV K F H σ (cST n ix δ)) (hl:σ'.length=σ.length) (hk:∀ i,n<=i->σ'.getD i none=σ.getD i none):RV K F H σ' (cST n ix δ):=by
 refine ⟨by rw [hl];exact r.len,λ i s e=>?_⟩
 by_cases h:i < n
 ·unfold cST at e
  rw [List.getElem?_append_left (by simpa using h)] at e
  simp [List.getElem?_replicate,h] at e
  subst e;trivial
 ·rw [hk i (by lia)];exact r.sl i s e
def zk01 (di:DF) (n:Nat) (ix:List Nat) (dg:DG) (dt:DT) (de:DE):DF:=λ δ Q=>di δ λ items=>items.length<=sizeLine/\∃ R:Nat->Option D->Prop,
 (∀ i d,items[i]?=some d->dg d (cST n ix δ) λ δ'=>dt δ' λ b=>if b=true then de δ' λ r=>R i (some r) else R i none) /\
 ∀ os:List (Option D),os.length=items.length->(∀ (j:Nat) o,os[j]?=some o->R j o)->Q (os.filterMap id)
def zlu:DT:=λ _ Q=>Q true
section
variable {K:Fg} {wi:TI} {di:DF} {n:Nat} {ix:List Nat} {g:TG} {dg:DG} {tt:TT} {dt:DT} {te:TE} {de:DE}
theorem zi8:RfT K ziw zlu:=λ s rv h k=>k _ h _ _ (Ext.refl s)
theorem zl4 (hi:RfJ K wi di) (hg:RfG K n g dg) (ht:RfT K tt dt) (he:RfE K te de):RfF K (zuu wi n ix g tt te) (zk01 di n ix dg dt de):=by
 intro F H σ δ Qd Q s rv hd k
 refine hi s rv hd λ items hx J F1 H1 e1 wj D hD=>?_
 obtain ⟨hz,R,hR,hQ⟩:=hx
 have rv1:=zpp n ix (rv.ext e1)
 have F1D:F1 D=none:=by
  cases q:F1 D with
 |none=>rfl
 |some o=>rw [e1.fh D o q] at hD;cases hD
 refine ⟨λ i m acc σ' H'=>m=items.length - i/\i<=items.length/\σ'.length=(compσ n ix σ).length/\(∀ j,n<=j->σ'.getD j none=(compσ n ix σ).getD j none)/\∃ (F':Hp) (os:List (Option PyData)),Ext F1 H1 F' H'/\F' D=none/\H' D=some (.lst acc)/\os.length=i/\(∀ (j:Nat) o,os[j]?=some o->R j o)/\IsAll K F' acc (os.filterMap id),⟨items.length,rfl,Nat.zero_le _,rfl,λ _ _=>rfl,F1,[],?_,F1D,zi0,rfl,λ j o e=>by simp at e,.nil⟩,?_⟩
 ·exact (zz2 (xs:=[]) e1.fh hD).1
 rintro i m acc σ' H' ⟨rfl,hi',hl,hk,F',os,ex,fD,hDD,hos,hRs,hall⟩
 obtain ⟨go,stop,yld⟩:=wj F' H' ex
 by_cases hlt:i < items.length
 ·refine .inr ⟨go i hlt,λ acc' σ2 H2=>i+1<=items.length/\σ2.length=(compσ n ix σ).length/\(∀ j,n<=j->σ2.getD j none=(compσ n ix σ).getD j none)/\∃ (F':Hp) (os:List (Option PyData)),Ext F1 H1 F' H2/\F' D=none/\H2 D=some (.lst acc')/\os.length=i+1/\(∀ (j:Nat) o,os[j]?=some o->R j o)/\IsAll K F' acc' (os.filterMap id),λ acc' σ2 H2 p=>⟨items.length - (i+1),by lia,rfl,p⟩,λ x H2 y=>?_⟩
  have hit:items[i]?=some items[i]:=List.getElem?_eq_getElem hlt
  obtain ⟨F2,ex2,ix2⟩:=yld i x H2 _ hit y
  have rv2:RV K F2 H2 σ' (cST n ix δ):=RV.caps (rv1.ext (ex.trans ex2)) hl hk
  have hRn:∀ o,R i o->∀ (j:Nat) o',(os++[o])[j]?=some o'->R j o':=λ o ho j o' e=>by
   rcases Nat.lt_trichotomy j os.length with h|h|h
   ·rw [List.getElem?_append_left h] at e;exact hRs j o' e
   ·subst h;rw [List.getElem?_append_right (Nat.le_refl _)] at e;simp at e;subst e;rw [hos];exact ho
   ·rw [List.getElem?_append_right (Nat.le_of_lt h)] at e
    cases q:j - os.length with
   |zero=>lia
   |succ z=>rw [q] at e;simp at e
  refine hg ex2.fh ix2 (hR i _ hit) λ σ2 δ2 hd2 u2=>?_
  have rv3:=u2.rv rv2
  have kp:=u2.keep
  have hl2:σ2.length=(compσ n ix σ).length:=by rw [kp.1,hl]
  have hk2:∀ j,n<=j->σ2.getD j none=(compσ n ix σ).getD j none:=λ j hj=>by rw [kp.2 j hj,hk j hj]
  refine ht ex2.fh rv3 hd2 λ b hb F4 H4 e4=>?_
  have e24:=ex2.trans e4
  have hD4:H4 D=some (.lst acc):=e24.h _ _ hDD
  have fD4:F4 D=none:=e24.nwo hDD (λ _=>nofun) fD
  cases b with
 |true =>
   rw [if_pos rfl] at hb ⊢
   refine he e4.fh (rv3.ext e4) hb λ r hr v F5 H5 e5 i5=>?_
   have e25:=e24.trans e5
   have hD5:H5 D=some (.lst acc):=e25.h _ _ hDD
   have fD5:F5 D=none:=e25.nwo hDD (λ _=>nofun) fD
   have hlen:acc.length<=i:=by
    rw [hall.dlen,<- hos];exact List.length_filterMap_le _ _
   have e15:=ex.trans e25
   refine ⟨hD5,by lia,hlt,hl2,hk2,F5,os++[some r],⟨λ b o hb=>?_,e15.f,λ b o hb=>?_,e15.nw⟩,fD5,zi0,by simp [hos],hRn _ hr,?_⟩
   ·have:b≠D:=λ z=>by subst z;rw [hD] at hb;cases hb
    rw [zp0 this];exact e15.h b o hb
   ·have:b≠D:=λ z=>by subst z;rw [fD5] at hb;cases hb
    rw [zp0 this];exact e15.fh b o hb
   ·rw [List.filterMap_append]
    exact (hall.mono e25.f).dapp (.cons i5 .nil)
 |false =>
   rw [if_neg Bool.false_ne_true] at hb ⊢
   refine ⟨hlt,hl2,hk2,F4,os++[none],ex.trans e24,fD4,hD4,by simp [hos],hRn _ hb,?_⟩
   rw [List.filterMap_append]
   have:List.filterMap id [(none:Option PyData)]=[]:=rfl
   rw [this,List.append_nil]
   exact hall.mono e24.f
 ·have e:i=items.length:=by lia
  refine .inl ⟨by rw [e];exact stop,k _ (hQ os (by lia) hRs) D acc F' H' (e1.trans ex) ?_ hDD fD hall⟩
  exact zu1 e1 hD
end
theorem at_nat' {α:Type} {xs:List α} {i:Int} {x:α} (h0:0<=i) (h:xs[i.toNat]?=some x):atI xs i=some x:=by
 have e:((i.toNat:Nat):Int)=i:=by lia
 have:=zrk (xs:=xs) (j:=i.toNat) (v:=x) h
 rwa [e] at this
inductive Stp where
|ix (j:Nat)|fl (f:Str)
abbrev Pth:=List Stp
def putA (f:Str) (t:T):List (Str×T)->List (Str×T)
|[]=>[(f,t)]
|(g,x) :: r=>if g=f then (g,t) :: r else (g,x) :: putA f t r
def setP:T->Pth->T->T
|_,[],u=>u
|.ls ts,.ix j :: p,u=>match ts[j]? with
 |some t=>.ls (ts.set j (setP t p u))
 |none=>.ls ts
|.tp ts,.ix j :: p,u=>match ts[j]? with
 |some t=>.tp (ts.set j (setP t p u))
 |none=>.tp ts
|.ob C fs,.fl f :: p,u=>match fs.lookup f with
 |some t=>.ob C (putA f (setP t p u) fs)
 |none=>.ob C fs
|t,_,_=>t
inductive At (H:Hp):V->T->Pth->V->T->Prop
|nil {v:V} {t:T}:At H v t [] v t
|ix {a:Addr} {xs:List V} {ts:List T} {j:Nat} {x v:V} {t u:T} {p:Pth}:H a=some (.lst xs)->xs[j]?=some x->ts[j]?=some t->At H x t p v u->At H (.ref a) (.ls ts) (.ix j :: p) v u
|tx {a:Addr} {xs:List V} {ts:List T} {j:Nat} {x v:V} {t u:T} {p:Pth}:H a=some (.tup xs)->xs[j]?=some x->ts[j]?=some t->At H x t p v u->At H (.ref a) (.tp ts) (.ix j :: p) v u
|fl {a C dx:Addr} {fs:List (Str×V)} {ts:List (Str×T)} {f:Str} {x v:V} {t u:T} {p:Pth}:H a=some (.ins C dx fs)->fs.lookup f=some x->ts.lookup f=some t->At H x t p v u->At H (.ref a) (.ob C ts) (.fl f :: p) v u
theorem At.mono {H H':Hp} (s:Same H H') {v v':V} {t t':T} {p:Pth} (h:At H v t p v' t'):At H' v t p v' t':=by
 induction h with
|nil=>exact .nil
|ix h1 h2 h3 _ ih=>exact .ix (s _ _ h1) h2 h3 ih
|tx h1 h2 h3 _ ih=>exact .tx (s _ _ h1) h2 h3 ih
|fl h1 h2 h3 _ ih=>exact .fl (s _ _ h1) h2 h3 ih
theorem At.snoc_ix {H:Hp} {v x y:V} {t u:T} {ts:List T} {a:Addr} {xs:List V} {j:Nat} {p:Pth} (h:At H v t p (.ref a) (.ls ts)) (h1:H a=some (.lst xs)) (h2:xs[j]?=some x) (h3:ts[j]?=some u):At H v t (p++[.ix j]) x u:=by
 generalize e:V.ref a=w at h
 generalize e2:T.ls ts=z at h
 induction h with
|nil=>subst e e2;exact .ix h1 h2 h3 .nil
|ix g1 g2 g3 _ ih=>exact .ix g1 g2 g3 (ih e e2)
|tx g1 g2 g3 _ ih=>exact .tx g1 g2 g3 (ih e e2)
|fl g1 g2 g3 _ ih=>exact .fl g1 g2 g3 (ih e e2)
theorem At.snoc_tx {H:Hp} {v x y:V} {t u:T} {ts:List T} {a:Addr} {xs:List V} {j:Nat} {p:Pth} (h:At H v t p (.ref a) (.tp ts)) (h1:H a=some (.tup xs)) (h2:xs[j]?=some x) (h3:ts[j]?=some u):At H v t (p++[.ix j]) x u:=by
 generalize e:V.ref a=w at h
 generalize e2:T.tp ts=z at h
 induction h with
|nil=>subst e e2;exact .tx h1 h2 h3 .nil
|ix g1 g2 g3 _ ih=>exact .ix g1 g2 g3 (ih e e2)
|tx g1 g2 g3 _ ih=>exact .tx g1 g2 g3 (ih e e2)
|fl g1 g2 g3 _ ih=>exact .fl g1 g2 g3 (ih e e2)
theorem At.snoc_fl {H:Hp} {v x:V} {t u:T} {ts:List (Str×T)} {a C dx:Addr} {fs:List (Str×V)} {f:Str} {p:Pth} (h:At H v t p (.ref a) (.ob C ts)) (h1:H a=some (.ins C dx fs)) (h2:fs.lookup f=some x) (h3:ts.lookup f=some u):At H v t (p++[.fl f]) x u:=by
 generalize e:V.ref a=w at h
 generalize e2:T.ob C ts=z at h
 induction h with
|nil=>subst e e2;exact .fl h1 h2 h3 .nil
|ix g1 g2 g3 _ ih=>exact .ix g1 g2 g3 (ih e e2)
|tx g1 g2 g3 _ ih=>exact .tx g1 g2 g3 (ih e e2)
|fl g1 g2 g3 _ ih=>exact .fl g1 g2 g3 (ih e e2)
section
variable {K:Fg}
theorem RtAll.len {F H:Hp}:∀ {xs:List V} {ts:List T} {fp:List Addr},RtAll K F H xs ts fp->xs.length=ts.length
|_,_,_,.nil=>rfl
|_,_,_,.cons _ r=>congrArg (·+1) (RtAll.len r)
theorem RtAll.split {F H:Hp}:∀ {xs:List V} {ts:List T} {fp:List Addr} {j:Nat} {x:V} {t:T},RtAll K F H xs ts fp->xs[j]?=some x->ts[j]?=some t ->
  ∃ fA fj fB,fp=fA++(fj++fB)/\Rt K F H x t fj/\∀ {F2 H2:Hp} {u:T} {fq:List Addr},Same F F2->(∀ b∈fA++fB,H2 b=H b/\F2 b=none)->Rt K F2 H2 x u fq->RtAll K F2 H2 xs (ts.set j u) (fA++(fq++fB))
|_,_,_,_,_,_,.nil,e,_=>by simp at e
|_,_,_,0,x,t,.cons (fp:=fp) (fq:=fq) h r,e1,e2=>by
  simp at e1 e2;subst e1 e2
  exact ⟨[],fp,fq,rfl,h,λ s k g=>(by have z:=RtAll.cons g (r.frame s λ b hb=>k b (by simp [hb]));exact z)⟩
|_,_,_,j+1,x,t,.cons (fp:=fp) (fq:=fq) h r,e1,e2=>by
  obtain ⟨fA,fj,fB,e,hr,g⟩:=RtAll.split (j:=j) r (by simpa using e1) (by simpa using e2)
  refine ⟨fp++fA,fj,fB,by rw [e,List.append_assoc],hr,λ s k hu=>?_⟩
  rw [List.append_assoc]
  exact .cons (h.frame s λ b hb=>k b (by simp [hb])) (g s (λ b hb=>k b (by rcases List.mem_append.mp hb with z|z <;> simp [z])) hu)
theorem RtFs.split {F H:Hp}:∀ {xs:List (Str×V)} {ts:List (Str×T)} {fp:List Addr} {f:Str} {x:V} {t:T},RtFs K F H xs ts fp->xs.lookup f=some x->ts.lookup f=some t ->
  ∃ fA fj fB,fp=fA++(fj++fB)/\Rt K F H x t fj/\(∀ {F2 H2:Hp} {u:T} {fq:List Addr},Same F F2->(∀ b∈fA++fB,H2 b=H b/\F2 b=none)->Rt K F2 H2 x u fq->RtFs K F2 H2 xs (putA f u ts) (fA++(fq++fB))) /\
   (∀ {F2 H2:Hp} {y:V} {u:T} {fq:List Addr},Same F F2->(∀ b∈fA++fB,H2 b=H b/\F2 b=none)->Rt K F2 H2 y u fq->RtFs K F2 H2 (putF f y xs) (putA f u ts) (fA++(fq++fB)))
|_,_,_,_,_,_,.nil,e,_=>by cases e
|_,_,_,f,x,t,.cons (f:=g) (x:=x') (t:=t') (fp:=fp) (fq:=fq) h r,e1,e2=>by
  by_cases hg:f=g
  ·subst hg
   simp [List.lookup] at e1 e2
   subst e1 e2
   refine ⟨[],fp,fq,rfl,h,λ s k u=>?_,λ s k u=>?_⟩
   ·show RtFs K _ _ _ (putA f _ ((f,_) :: _)) _
    rw [show putA f _ ((f,t') :: _)=(f,_) :: _ from if_pos rfl]
    have z:=RtFs.cons (f:=f) u (r.frame s λ b hb=>k b (by simp [hb]));exact z
   ·rw [show putA f _ ((f,t') :: _)=(f,_) :: _ from if_pos rfl,show putF f _ ((f,x') :: _)=(f,_) :: _ from if_pos rfl]
    have z:=RtFs.cons (f:=f) u (r.frame s λ b hb=>k b (by simp [hb]));exact z
  ·have hb:(f == g)=false:=beq_eq_false_iff_ne.mpr hg
   simp only [List.lookup,hb] at e1 e2
   obtain ⟨fA,fj,fB,e,hr,q1,q2⟩:=RtFs.split r e1 e2
   have hgf:¬g=f:=λ z=>hg z.symm
   refine ⟨fp++fA,fj,fB,by rw [e,List.append_assoc],hr,λ s k u=>?_,λ s k u=>?_⟩
   ·rw [show putA f _ ((g,t') :: _)=(g,t') :: putA f _ _ from if_neg hgf,List.append_assoc]
    exact .cons (h.frame s λ b hb=>k b (by simp [hb])) (q1 s (λ b hb=>k b (by rcases List.mem_append.mp hb with z|z <;> simp [z])) u)
   ·rw [show putA f _ ((g,t') :: _)=(g,t') :: putA f _ _ from if_neg hgf,show putF f _ ((g,x') :: _)=(g,x') :: putF f _ _ from if_neg hgf,List.append_assoc]
    exact .cons (h.frame s λ b hb=>k b (by simp [hb])) (q2 s (λ b hb=>k b (by rcases List.mem_append.mp hb with z|z <;> simp [z])) u)
theorem RtFs.add {F H F2 H2:Hp} {y:V} {u:T} {fq:List Addr} (s:Same F F2) (hu:Rt K F2 H2 y u fq):∀ {xs:List (Str×V)} {ts:List (Str×T)} {fp:List Addr} {f:Str},RtFs K F H xs ts fp->ts.lookup f=none->(∀ b∈fp,H2 b=H b/\F2 b=none)->RtFs K F2 H2 (putF f y xs) (putA f u ts) (fp++fq)
|_,_,_,f,.nil,_,_=>by
  show RtFs K F2 H2 [(f,y)] [(f,u)] fq
  have:=RtFs.cons (f:=f) hu (.nil (K:=K) (F:=F2) (H:=H2))
  rwa [List.append_nil] at this
|_,_,_,f,.cons (f:=g) (x:=x') (t:=t') (fp:=fp) (fq:=fq') h r,e,k=>by
  have hg:¬f=g:=λ z=>by subst z;simp [List.lookup] at e
  have hb:(f == g)=false:=beq_eq_false_iff_ne.mpr hg
  simp only [List.lookup,hb] at e
  have hgf:¬g=f:=λ z=>hg z.symm
  rw [show putA f u ((g,t') :: _)=(g,t') :: putA f u _ from if_neg hgf,show putF f y ((g,x') :: _)=(g,x') :: putF f y _ from if_neg hgf,List.append_assoc]
  exact .cons (h.frame s λ b hb=>k b (by simp [hb])) (RtFs.add s hu r e λ b hb=>k b (by simp [hb]))
theorem RtFs.keys {F H:Hp} {xs:List (Str×V)} {ts:List (Str×T)} {fp:List Addr} (f:Str) (h:RtFs K F H xs ts fp):(ts.lookup f=none->xs.lookup f=none)/\(∀ t,ts.lookup f=some t->∃ x,xs.lookup f=some x)/\xs.length=ts.length :=
 (Rt.ind (P:=λ _ _ _=>True) (Q:=λ _ _ _=>True) (R:=λ xs ts _=>(ts.lookup f=none->xs.lookup f=none)/\(∀ t,ts.lookup f=some t->∃ x,xs.lookup f=some x)/\xs.length=ts.length)
  (λ _=>trivial) (λ _ _ _=>trivial) (λ _ _ _=>trivial) (λ _ _ _ _ _=>trivial) (λ _ _ _=>trivial) (λ _ _ _=>trivial) (λ _ _ _ _=>trivial) trivial (λ _ _ _ _=>trivial) trivial (λ _ _=>trivial) ⟨λ _=>rfl,(λ t e=>by cases e),rfl⟩
  λ {g x _ _ _ _ _} _ ⟨k1,k2,k3⟩=>by
   rw [List.length_cons,List.length_cons,k3,List.lookup_cons,List.lookup_cons]
   cases f == g with
  |true=>exact ⟨(λ e=>by cases e),λ _ _=>⟨x,rfl⟩,rfl⟩
  |false=>exact ⟨k1,k2,rfl⟩).2.2 h
theorem zoy {F H:Hp} {x v:V} {t u:T} {p:Pth} (h:At H x t p v u):∀ {fp:List Addr},Rt K F H x t fp->fp.Nodup->∃ fn,Rt K F H v u fn/\(∀ a∈fn,a∈fp)/\fn.Nodup /\
  ∀ {F2 H2:Hp} {u2:T} {fq:List Addr},Same F F2->(∀ b∈fp,b ∉ fn->H2 b=H b/\F2 b=none)->Rt K F2 H2 v u2 fq->fq.Nodup->(∀ b∈fq,b∈fn \/ b ∉ fp)->∃ fp2,Rt K F2 H2 x (setP t p u2) fp2/\fp2.Nodup/\∀ b∈fp2,(b∈fp/\b ∉ fn) \/ b∈fq:=by
 induction h with
|nil =>
  intro fp hr nd
  refine ⟨fp,hr,λ a z=>z,nd,λ {F2 H2 u2 fq} _ _ h2 n2 _=>⟨fq,?_,n2,λ b hb=>.inr hb⟩⟩
  cases u2 <;> exact h2
|@ix a0 xs0 ts0 j0 x0 v0 t0 u0 p0 h1 h2 h3 _ ih =>
  intro fp hr nd
  cases hr with
 |ls g1 g2 g3 =>
   rw [h1] at g1;cases g1
   obtain ⟨fA,fj,fB,e,hj,rep⟩:=g3.split h2 h3
   subst e
   have ndR:=(List.nodup_cons.mp nd).2
   have nA:=(List.nodup_cons.mp nd).1
   obtain ⟨ndA,ndJB,djA⟩:=List.nodup_append.mp ndR
   obtain ⟨ndj,ndB,djB⟩:=List.nodup_append.mp ndJB
   obtain ⟨fn,hn,sub,ndn,back⟩:=ih hj ndj
   refine ⟨fn,hn,λ a ha=>by simp [sub a ha],ndn,λ {F2 H2 u2 fq} s k hu nq hq=>?_⟩
   obtain ⟨f2,r2,n2,m2⟩:=back s (λ b hb hnb=>k b (by simp [hb]) hnb) hu nq λ b hb=>by
    rcases hq b hb with z|z
    ·exact .inl z
    ·exact .inr λ y=>z (by simp [y])
   have notin:∀ b,b∈fA \/ b∈fB->b ∉ fn:=λ b hb hn'=>by
    have:=sub b hn'
    rcases hb with z|z
    ·exact djA b z b (by simp [this]) rfl
    ·exact djB b this b z rfl
   have rA:=rep s (λ b hb=>by
    have hb':=List.mem_append.mp hb
    refine k b (by rcases hb' with z|z <;> simp [z]) (notin b hb')) r2
   have hnotq:∀ b,(b∈fA \/ b∈fB \/ b=a0)->b ∉ fq:=λ b hb hbq=>by
    rcases hq b hbq with z|z
    ·rcases hb with y|y|y
     ·exact notin b (.inl y) z
     ·exact notin b (.inr y) z
     ·subst y;exact nA (by simp [sub _ z])
    ·apply z
     rcases hb with y|y|y
     ·simp [y]
     ·simp [y]
     ·simp [y]
   have ha2:=k _ (List.mem_cons_self) (λ z=>nA (by simp [sub _ z]))
   refine ⟨a0 :: (fA++(f2++fB)),?_,?_,?_⟩
   ·unfold setP
    rw [h3]
    exact .ls (by rw [ha2.1];exact h1) ha2.2 rA
   ·refine List.nodup_cons.mpr ⟨λ z=>?_,?_⟩
    ·rcases List.mem_append.mp z with y|y
     ·exact nA (by simp [y])
     ·rcases List.mem_append.mp y with y|y
      ·rcases m2 _ y with ⟨y1,_⟩|y1
       ·exact nA (by simp [y1])
       ·exact hnotq _ (.inr (.inr rfl)) y1
      ·exact nA (by simp [y])
    ·refine List.nodup_append.mpr ⟨ndA,List.nodup_append.mpr ⟨n2,ndB,λ a ha b hb=>?_⟩,λ a ha b hb=>?_⟩
     ·rcases m2 a ha with ⟨y,_⟩|y
      ·exact djB a y b hb
      ·intro z;subst z;exact hnotq a (.inr (.inl hb)) y
     ·rcases List.mem_append.mp hb with y|y
      ·rcases m2 b y with ⟨y,_⟩|y
       ·exact djA a ha b (by simp [y])
       ·intro z;subst z;exact hnotq a (.inl ha) y
      ·exact djA a ha b (by simp [y])
   ·intro b hb
    rcases List.mem_cons.mp hb with y|y
    ·subst y;exact .inl ⟨by simp,λ z=>nA (by simp [sub _ z])⟩
    ·rcases List.mem_append.mp y with y|y
     ·exact .inl ⟨by simp [y],notin b (.inl y)⟩
     ·rcases List.mem_append.mp y with y|y
      ·rcases m2 b y with ⟨y1,y2⟩|y1
       ·exact .inl ⟨by simp [y1],y2⟩
       ·exact .inr y1
      ·exact .inl ⟨by simp [y],notin b (.inr y)⟩
|@tx a0 xs0 ts0 j0 x0 v0 t0 u0 p0 h1 h2 h3 _ ih =>
  intro fp hr nd
  cases hr with
 |tp g1 g2 gk g3 =>
   rw [h1] at g1;cases g1
   obtain ⟨fA,fj,fB,e,hj,rep⟩:=g3.split h2 h3
   subst e
   have ndR:=(List.nodup_cons.mp nd).2
   have nA:=(List.nodup_cons.mp nd).1
   obtain ⟨ndA,ndJB,djA⟩:=List.nodup_append.mp ndR
   obtain ⟨ndj,ndB,djB⟩:=List.nodup_append.mp ndJB
   obtain ⟨fn,hn,sub,ndn,back⟩:=ih hj ndj
   refine ⟨fn,hn,λ a ha=>by simp [sub a ha],ndn,λ {F2 H2 u2 fq} s k hu nq hq=>?_⟩
   obtain ⟨f2,r2,n2,m2⟩:=back s (λ b hb hnb=>k b (by simp [hb]) hnb) hu nq λ b hb=>by
    rcases hq b hb with z|z
    ·exact .inl z
    ·exact .inr λ y=>z (by simp [y])
   have notin:∀ b,b∈fA \/ b∈fB->b ∉ fn:=λ b hb hn'=>by
    have:=sub b hn'
    rcases hb with z|z
    ·exact djA b z b (by simp [this]) rfl
    ·exact djB b this b z rfl
   have rA:=rep s (λ b hb=>by
    have hb':=List.mem_append.mp hb
    refine k b (by rcases hb' with z|z <;> simp [z]) (notin b hb')) r2
   have hnotq:∀ b,(b∈fA \/ b∈fB \/ b=a0)->b ∉ fq:=λ b hb hbq=>by
    rcases hq b hbq with z|z
    ·rcases hb with y|y|y
     ·exact notin b (.inl y) z
     ·exact notin b (.inr y) z
     ·subst y;exact nA (by simp [sub _ z])
    ·apply z
     rcases hb with y|y|y
     ·simp [y]
     ·simp [y]
     ·simp [y]
   have ha2:=k _ (List.mem_cons_self) (λ z=>nA (by simp [sub _ z]))
   refine ⟨a0 :: (fA++(f2++fB)),?_,?_,?_⟩
   ·unfold setP
    rw [h3]
    exact .tp (by rw [ha2.1];exact h1) ha2.2 gk rA
   ·refine List.nodup_cons.mpr ⟨λ z=>?_,?_⟩
    ·rcases List.mem_append.mp z with y|y
     ·exact nA (by simp [y])
     ·rcases List.mem_append.mp y with y|y
      ·rcases m2 _ y with ⟨y1,_⟩|y1
       ·exact nA (by simp [y1])
       ·exact hnotq _ (.inr (.inr rfl)) y1
      ·exact nA (by simp [y])
    ·refine List.nodup_append.mpr ⟨ndA,List.nodup_append.mpr ⟨n2,ndB,λ a ha b hb=>?_⟩,λ a ha b hb=>?_⟩
     ·rcases m2 a ha with ⟨y,_⟩|y
      ·exact djB a y b hb
      ·intro z;subst z;exact hnotq a (.inr (.inl hb)) y
     ·rcases List.mem_append.mp hb with y|y
      ·rcases m2 b y with ⟨y,_⟩|y
       ·exact djA a ha b (by simp [y])
       ·intro z;subst z;exact hnotq a (.inl ha) y
      ·exact djA a ha b (by simp [y])
   ·intro b hb
    rcases List.mem_cons.mp hb with y|y
    ·subst y;exact .inl ⟨by simp,λ z=>nA (by simp [sub _ z])⟩
    ·rcases List.mem_append.mp y with y|y
     ·exact .inl ⟨by simp [y],notin b (.inl y)⟩
     ·rcases List.mem_append.mp y with y|y
      ·rcases m2 b y with ⟨y1,y2⟩|y1
       ·exact .inl ⟨by simp [y1],y2⟩
       ·exact .inr y1
      ·exact .inl ⟨by simp [y],notin b (.inr y)⟩
|@fl a0 C0 dx0 fs0 ts0 f0 x0 v0 t0 u0 p0 h1 h2 h3 _ ih =>
  intro fp hr nd
  cases hr with
 |ob g1 g2 g3 g4 g5 =>
   rw [h1] at g1;cases g1
   obtain ⟨fA,fj,fB,e,hj,rep,_⟩:=g5.split h2 h3
   subst e
   have nd1:=List.nodup_cons.mp nd
   have nd2:=List.nodup_cons.mp nd1.2
   have ndR:=nd2.2
   have nA:_ ∉ fA++(fj++fB):=λ z=>nd1.1 (List.mem_cons_of_mem _ z)
   have nX:=nd2.1
   obtain ⟨ndA,ndJB,djA⟩:=List.nodup_append.mp ndR
   obtain ⟨ndj,ndB,djB⟩:=List.nodup_append.mp ndJB
   obtain ⟨fn,hn,sub,ndn,back⟩:=ih hj ndj
   refine ⟨fn,hn,λ a ha=>by simp [sub a ha],ndn,λ {F2 H2 u2 fq} s k hu nq hq=>?_⟩
   obtain ⟨f2,r2,n2,m2⟩:=back s (λ b hb hnb=>k b (by simp [hb]) hnb) hu nq λ b hb=>by
    rcases hq b hb with z|z
    ·exact .inl z
    ·exact .inr λ y=>z (by simp [y])
   have notin:∀ b,b∈fA \/ b∈fB->b ∉ fn:=λ b hb hn'=>by
    have:=sub b hn'
    rcases hb with z|z
    ·exact djA b z b (by simp [this]) rfl
    ·exact djB b this b z rfl
   have rA:=rep s (λ b hb=>by
    have hb':=List.mem_append.mp hb
    refine k b (by rcases hb' with z|z <;> simp [z]) (notin b hb')) r2
   have hnotq:∀ b,(b∈fA \/ b∈fB)->b ∉ fq:=λ b hb hbq=>by
    rcases hq b hbq with z|z
    ·exact notin b hb z
    ·apply z
     rcases hb with y|y <;> simp [y]
   have hnq2:∀ b,b∈fn->b∈fA++(fj++fB):=λ b hb=>by simp [sub _ hb]
   have ha2:=k _ (List.mem_cons_self) (λ z=>nA (hnq2 _ z))
   have hx2:=k _ (List.mem_cons_of_mem _ List.mem_cons_self) (λ z=>nX (hnq2 _ z))
   have hf2:∀ b∈f2,b∈fj \/ b∈fq:=λ b hb=>by
    rcases m2 b hb with ⟨y,_⟩|y
    ·exact .inl y
    ·exact .inr y
   refine ⟨a0 :: dx0 :: (fA++(f2++fB)),?_,?_,?_⟩
   ·unfold setP
    rw [h3]
    exact .ob (by rw [ha2.1];exact h1) (by rw [hx2.1];exact g2) ha2.2 hx2.2 rA
   ·have inR:∀ b,b∈fA++(f2++fB)->b∈fA++(fj++fB) \/ b∈fq:=λ b hb=>by
     rcases List.mem_append.mp hb with y|y
     ·exact .inl (by simp [y])
     ·rcases List.mem_append.mp y with y|y
      ·rcases hf2 b y with y|y
       ·exact .inl (by simp [y])
       ·exact .inr y
      ·exact .inl (by simp [y])
    refine List.nodup_cons.mpr ⟨λ z=>?_,List.nodup_cons.mpr ⟨λ z=>?_,?_⟩⟩
    ·rcases List.mem_cons.mp z with y|y
     ·exact nd1.1 (by rw [y];simp)
     ·rcases inR _ y with y|y
      ·exact nA y
      ·rcases hq _ y with w|w
       ·exact nA (hnq2 _ w)
       ·exact w (by simp)
    ·rcases inR _ z with y|y
     ·exact nX y
     ·rcases hq _ y with w|w
      ·exact nX (hnq2 _ w)
      ·exact w (by simp)
    ·refine List.nodup_append.mpr ⟨ndA,List.nodup_append.mpr ⟨n2,ndB,λ a ha b hb=>?_⟩,λ a ha b hb=>?_⟩
     ·rcases m2 a ha with ⟨y,_⟩|y
      ·exact djB a y b hb
      ·intro z;subst z;exact hnotq a (.inr hb) y
     ·rcases List.mem_append.mp hb with y|y
      ·rcases m2 b y with ⟨y,_⟩|y
       ·exact djA a ha b (by simp [y])
       ·intro z;subst z;exact hnotq a (.inl ha) y
      ·exact djA a ha b (by simp [y])
   ·intro b hb
    rcases List.mem_cons.mp hb with y|y
    ·subst y;exact .inl ⟨by simp,λ z=>nA (hnq2 _ z)⟩
    ·rcases List.mem_cons.mp y with y|y
     ·subst y;exact .inl ⟨by simp,λ z=>nX (hnq2 _ z)⟩
     ·rcases List.mem_append.mp y with y|y
      ·exact .inl ⟨by simp [y],notin b (.inl y)⟩
      ·rcases List.mem_append.mp y with y|y
       ·rcases m2 b y with ⟨y1,y2⟩|y1
        ·exact .inl ⟨by simp [y1],y2⟩
        ·exact .inr y1
       ·exact .inl ⟨by simp [y],notin b (.inr y)⟩
end
def AtS (H:Hp) (σ:L2.St) (δ:DSt) (i:Nat) (p:Pth) (v:V) (u:T):Prop:=∃ s t x,δ[i]?=some s/\s.tree=some t/\σ.getD i none=some x/\At H x t p v u
abbrev DP:=DSt->(Nat->Pth->T->Prop)->Prop
def RfP (K:Fg) (te:TE) (dp:DP):Prop:=∀ {F H:Hp} {σ:L2.St} {δ:DSt} {Qd:Nat->Pth->T->Prop} {Q:VK},Same F H->RV K F H σ δ->dp δ Qd->(∀ i p u,Qd i p u->∀ v F' H',Ext F H F' H'->AtS H' σ δ i p v u->Q v H')->te σ H Q
section
variable {K:Fg} {te ti:TE} {dp:DP} {di:DE}
theorem zm31 {F H:Hp} {x v:V} {t u:T} {p:Pth} (h:At H x t p v u):∀ {fp:List Addr},Rt K F H x t fp->∃ fn,Rt K F H v u fn:=by
 induction h with
|nil=>intro fp hr;exact ⟨fp,hr⟩
|ix h1 h2 h3 _ ih =>
  intro fp hr
  cases hr with
 |ls g1 g2 g3 =>
   rw [h1] at g1;cases g1
   obtain ⟨fA,fj,fB,e,hj,_⟩:=g3.split h2 h3
   exact ih hj
|tx h1 h2 h3 _ ih =>
  intro fp hr
  cases hr with
 |tp g1 g2 gk g3 =>
   rw [h1] at g1;cases g1
   obtain ⟨fA,fj,fB,e,hj,_⟩:=g3.split h2 h3
   exact ih hj
|fl h1 h2 h3 _ ih =>
  intro fp hr
  cases hr with
 |ob g1 g2 g3 g4 g5 =>
   rw [h1] at g1;cases g1
   obtain ⟨fA,fj,fB,e,hj,_⟩:=g5.split h2 h3
   exact ih hj
theorem AtS.rt {F H:Hp} {σ:L2.St} {δ:DSt} {i:Nat} {p:Pth} {v:V} {u:T} (h:AtS H σ δ i p v u) (r:RV K F H σ δ):∃ fn,Rt K F H v u fn:=by
 obtain ⟨s,t,x,h1,h2,h3,h4⟩:=h
 obtain ⟨y,fp,e,hr,_⟩:=(r.sl i s h1).rt h2
 rw [h3] at e;cases e
 exact zm31 h4 hr
theorem AtS.mono {H H':Hp} {σ:L2.St} {δ:DSt} {i:Nat} {p:Pth} {v:V} {u:T} (s:Same H H') (h:AtS H σ δ i p v u):AtS H' σ δ i p v u:=by
 obtain ⟨s',t,x,h1,h2,h3,h4⟩:=h
 exact ⟨s',t,x,h1,h2,h3,h4.mono s⟩
def pVar (i:Nat):DP:=λ δ Q=>∃ s t,δ[i]?=some s/\s.tree=some t/\Q i [] t
theorem zr0 (i:Nat):RfP K (tVar i) (pVar i):=by
 intro F H σ δ Qd Q s r h k
 obtain ⟨sl,t,q,et,f⟩:=h
 obtain ⟨x,fp,e,hr,_⟩:=(r.sl i _ q).rt et
 exact ⟨x,zb8 (F:=F) (H:=H) (δ:=δ) e,k i [] t f x F H (Ext.refl s) ⟨sl,t,x,q,et,e,.nil⟩⟩
def nFld (f:Str) (u:T) (Q:T->Prop):Prop:=match u with
|.ob _ fs=>∃ t,fs.lookup f=some t/\Q t
|_=>False
def nCls (C:Addr) (u:T):Prop:=match u with
|.ob C' _=>C'=C
|_=>False
def pFld (C:Addr) (f:Str) (dp:DP):DP:=λ δ Q=>dp δ λ i p u=>nCls C u/\nFld f u λ t=>Q i (p++[.fl f]) t
theorem zn3 {C:Addr} {f:Str} (c:Cls K C) (na:NoAttr K C f) (h:RfP K te dp):RfP K (zv11 K te f) (pFld C f dp):=by
 intro F H σ δ Qd Q s r hd k
 refine h s r hd λ i p u hu v F1 H1 e1 at1=>?_
 obtain ⟨hc,hf⟩:=hu
 obtain ⟨fn,hr⟩:=at1.rt (r.ext e1)
 cases hr with
|ob g1 g2 g3 g4 g5 =>
  cases (show _=C from hc)
  obtain ⟨t,et,q⟩:=hf
  obtain ⟨y,ey⟩:=(g5.keys f).2.1 t et
  refine ⟨_,_,_,_,y,rfl,g1,c,na,ey,k i _ t q y F1 H1 e1 ?_⟩
  obtain ⟨sl,t0,x,a1,a2,a3,a4⟩:=at1
  exact ⟨sl,t0,x,a1,a2,a3,a4.snoc_fl g1 ey et⟩
|fz _=>exact hc.elim
|li _ _ _=>exact hc.elim
|ls _ _ _=>exact hc.elim
|dk _ _ _=>exact hc.elim
|dt _ _ _=>exact hc.elim
|tp _ _ _ _=>exact hc.elim
|wh=>exact hc.elim
|dd _ _ _ _=>exact hc.elim
def nIx (u:T) (k:D) (Q:Nat->T->Prop):Prop:=match u,k with
|.ls ts,.int z=>∃ j t,ixN ts.length z=some j/\ts[j]?=some t/\Q j t
|.tp ts,.int z=>∃ j t,ixN ts.length z=some j/\ts[j]?=some t/\Q j t
|_,_=>False
def pIx (dp:DP) (di:DE):DP:=λ δ Q=>dp δ λ i p u=>di δ λ k=>nIx u k λ j t=>Q i (p++[.ix j]) t
theorem zru {w:World} (h:RfP K te dp) (hi:RfE K ti di):RfP K (tOp (rIxV w K) te ti) (pIx dp di):=by
 intro F H σ δ Qd Q s r hd k
 refine h s r hd λ i p u hu v F1 H1 e1 at1=>hi e1.fh (r.ext e1) hu λ kd hk kv F2 H2 e2 i2=>?_
 have e12:=e1.trans e2
 have at2:=at1.mono e2.h
 obtain ⟨fn,hr⟩:=at2.rt (r.ext e12)
 unfold nIx at hk
 split at hk
 ·rename_i ts z
  obtain ⟨j,t,ej,et,q⟩:=hk
  cases i2.int_inv
  cases hr with
 |ls g1 g2 g3 =>
   have el:=g3.len
   have hj:j < ts.length:=by
    rcases Nat.lt_or_ge j ts.length with y|y
    ·exact y
    ·rw [List.getElem?_eq_none y] at et;cases et
   rename_i a xs fp
   obtain ⟨y,hx⟩:∃ y,xs[j]?=some y:=⟨xs[j]'(by lia),List.getElem?_eq_getElem _⟩
   refine .inl (.inl (.inl ⟨a,xs,z,y,rfl,rfl,SqL.of g1,?_,k i _ t q _ F2 H2 e12 ?_⟩))
   ·unfold atI
    rw [el,ej]
    exact hx
   ·obtain ⟨sl,t0,x,a1,a2,a3,a4⟩:=at2
    exact ⟨sl,t0,x,a1,a2,a3,a4.snoc_ix (y:=x) g1 hx et⟩
 ·rename_i ts z
  obtain ⟨j,t,ej,et,q⟩:=hk
  cases i2.int_inv
  cases hr with
 |tp g1 g2 gk g3 =>
   have el:=g3.len
   have hj:j < ts.length:=by
    rcases Nat.lt_or_ge j ts.length with y|y
    ·exact y
    ·rw [List.getElem?_eq_none y] at et;cases et
   rename_i a xs fp
   obtain ⟨y,hx⟩:∃ y,xs[j]?=some y:=⟨xs[j]'(by lia),List.getElem?_eq_getElem _⟩
   refine .inl (zh31 (SqT.of g1) (v:=y) ?_ (k i _ t q _ F2 H2 e12 ?_))
   ·unfold atI
    rw [el,ej]
    exact hx
   ·obtain ⟨sl,t0,x,a1,a2,a3,a4⟩:=at2
    exact ⟨sl,t0,x,a1,a2,a3,a4.snoc_tx (y:=x) g1 hx et⟩
 ·exact hk.elim
def dPV (dp:DP):DE:=λ δ Q=>dp δ λ _ _ u=>vwT u Q
def dPE (dp:DP):DE:=λ δ Q=>dp δ λ _ _ u=>fzT u Q
theorem RfP.v (h:RfP K te dp):RfV K te (dPV dp):=λ s r d k=>h s r d λ i p u hu v F1 H1 e1 at1=>by
 obtain ⟨fn,hr⟩:=at1.rt (r.ext e1)
 obtain ⟨d,qd,vw⟩:=zj11 hr hu
 exact k d qd v F1 H1 e1 vw
theorem RfP.e (h:RfP K te dp):RfE K te (dPE dp):=λ s r d k=>h s r d λ i p u hu v F1 H1 e1 at1=>by
 obtain ⟨fn,hr⟩:=at1.rt (r.ext e1)
 obtain ⟨d,qd,vw⟩:=zcp hr hu
 exact k d qd v F1 H1 e1 vw
end
structure Bs where
 F0:Hp
 H0:Hp
 G:List Addr
def Sl.own:Sl->Bool
|.ow _=>true
|.io _ _=>true
|_=>false
def Sl.has:Sl->Bool
|.ow _=>true
|.io _ _=>true
|.bo _=>true
|_=>false
def Sl.wth:Sl->T->Sl
|.ow _,u=>.ow u
|.io a _,u=>.io a u
|s,_=>s
structure RS (K:Fg) (B:Bs) (F H:Hp) (σ:L2.St) (δ:DSt) (fps:Nat->List Addr):Prop where
 hh:∀ b o,b ∉ B.G->B.H0 b=some o->H b=some o
 ff:Same B.F0 F
 fh:Same F H
 nw:∀ b,HD (B.H0 b)->B.F0 b=none->F b=none
 al:∀ b,(B.H0 b≠none->H b≠none)/\(HD (B.H0 b)->HD (H b))
 len:σ.length=δ.length
 sh:∀ (i:Nat) d,δ[i]?=some (.sh d)->∃ x,σ.getD i none=some x/\Is K F x d
 rt:∀ (i:Nat) s,δ[i]?=some s->s.has=true->∃ x t,σ.getD i none=some x/\s.tree=some t/\Rt K F H x t (fps i)/\(∀ a u,s=.io a u->x=.ref a)/\(fps i).Nodup
 fr:∀ (i:Nat) s,δ[i]?=some s->s.own=true->∀ a∈fps i,B.H0 a=none \/ (a∈B.G/\∀ t,s≠.ow t)
 dj:∀ (i j:Nat) s s',i≠j->δ[i]?=some s->δ[j]?=some s'->s.own=true->s'.has=true->∀ a∈fps i,a ∉ fps j
section
variable {K:Fg} {B:Bs} {F H F' H':Hp} {σ:L2.St} {δ:DSt} {fps:Nat->List Addr}
theorem zm4:∀ {s:Sl},s.own=true->s.has=true
|.ow _,_=>rfl
|.io _ _,_=>rfl
|.un,e=>by cases e
|.sh _,e=>by cases e
|.bo _,e=>by cases e
theorem RS.rv (r:RS K B F H σ δ fps):RV K F H σ δ:=⟨r.len,λ i s e=>by
 cases s with
|un=>trivial
|sh d=>exact r.sh i d e
|ow t =>
  obtain ⟨x,t',h1,h2,h3,h4,h5⟩:=r.rt i _ e rfl
  cases h2;exact ⟨x,_,h1,h3,h5⟩
|bo t =>
  obtain ⟨x,t',h1,h2,h3,h4,h5⟩:=r.rt i _ e rfl
  cases h2;exact ⟨x,_,h1,h3,h5⟩
|io a t =>
  obtain ⟨x,t',h1,h2,h3,h4,h5⟩:=r.rt i _ e rfl
  cases h2
  cases h4 a t rfl
  exact ⟨_,h1,h3,h5⟩⟩
theorem RS.grow (r:RS K B F H σ δ fps) (e:Ext F H F' H'):RS K B F' H' σ δ fps where
 hh:=λ b o hb ho=>e.h b o (r.hh b o hb ho)
 ff:=r.ff.trans e.f
 fh:=e.fh
 nw:=λ b hb fb=>e.nw b ((r.al b).2 hb) (r.nw b hb fb)
 al:=λ b=>⟨(λ hb z=>by
  cases q:H b with
 |none=>exact (r.al b).1 hb q
 |some o=>rw [e.h b o q] at z;cases z),λ h=>((r.al b).2 h).mono e.h⟩
 len:=r.len
 sh:=λ i d h=>by obtain ⟨x,h1,h2⟩:=r.sh i d h;exact ⟨x,h1,h2.mono e.f⟩
 rt:=λ i s h1 h2=>by obtain ⟨x,t,a1,a2,a3,a4,a5⟩:=r.rt i s h1 h2;exact ⟨x,t,a1,a2,a3.ext e,a4,a5⟩
 fr:=r.fr
 dj:=r.dj
theorem RS.setS (r:RS K B F H σ δ fps) {i:Nat} {v:V} {d:D} (h:Is K F v d):RS K B F H (σ.set i (some v)) (δ.set i (.sh d)) fps:=by
 have key:∀ (j:Nat) s,(δ.set i (.sh d))[j]?=some s->(j=i/\s=.sh d/\(σ.set i (some v)).getD j none=some v) \/ (j≠i/\δ[j]?=some s/\(σ.set i (some v)).getD j none=σ.getD j none):=λ j s e=>by
  rw [List.getElem?_set] at e
  by_cases hij:i=j
  ·subst hij
   by_cases hl:i < δ.length
   ·simp [hl] at e;exact .inl ⟨rfl,e.symm,by rw [ze3,r.len,if_pos ⟨rfl,hl⟩]⟩
   ·simp [hl] at e
  ·simp [hij] at e
   exact .inr ⟨λ z=>hij z.symm,e,by rw [ze3,if_neg (by lia)]⟩
 refine ⟨r.hh,r.ff,r.fh,r.nw,r.al,by rw [List.length_set,List.length_set];exact r.len,λ j d' e=>?_,λ j s e hs=>?_,λ j s e hs=>?_,λ j k s s' hjk e1 e2 o1 o2=>?_⟩
 ·rcases key j _ e with ⟨_,e2,e3⟩|⟨_,e2,e3⟩
  ·cases e2;exact ⟨v,e3,h⟩
  ·obtain ⟨x,h1,h2⟩:=r.sh j d' e2;exact ⟨x,by rw [e3];exact h1,h2⟩
 ·rcases key j _ e with ⟨_,e2,e3⟩|⟨_,e2,e3⟩
  ·rw [e2] at hs;cases hs
  ·rw [e3];exact r.rt j s e2 hs
 ·rcases key j _ e with ⟨_,e2,e3⟩|⟨_,e2,e3⟩
  ·rw [e2] at hs;cases hs
  ·exact r.fr j s e2 hs
 ·rcases key j _ e1 with ⟨_,z,_⟩|⟨_,z1,_⟩
  ·rw [z] at o1;cases o1
  ·rcases key k _ e2 with ⟨_,z,_⟩|⟨_,z2,_⟩
   ·rw [z] at o2;cases o2
   ·exact r.dj j k s s' hjk z1 z2 o1 o2
theorem RS.byUpd {n:Nat} {σ':L2.St} {δ':DSt} (u:Upd K F n σ δ σ' δ') (r:RS K B F H σ δ fps):RS K B F H σ' δ' fps:=by
 induction u with
|refl=>exact r
|set hi hv _ ih=>exact ih (r.setS hv)
theorem RS.forget (r:RS K B F H σ δ fps) (i:Nat):RS K B F H σ (δ.set i .un) fps:=by
 have key:∀ (j:Nat) s,(δ.set i .un)[j]?=some s->s=.un \/ (j≠i/\δ[j]?=some s):=λ j s e=>by
  rw [List.getElem?_set] at e
  by_cases hij:i=j
  ·subst hij
   by_cases hl:i < δ.length
   ·simp [hl] at e;exact .inl e.symm
   ·simp [hl] at e
  ·simp [hij] at e;exact .inr ⟨λ z=>hij z.symm,e⟩
 refine ⟨r.hh,r.ff,r.fh,r.nw,r.al,by rw [List.length_set];exact r.len,λ j d' e=>?_,λ j s e hs=>?_,λ j s e hs=>?_,λ j k s s' hjk e1 e2 o1 o2=>?_⟩
 ·rcases key j _ e with z|⟨_,z⟩
  ·cases z
  ·exact r.sh j d' z
 ·rcases key j _ e with z|⟨_,z⟩
  ·rw [z] at hs;cases hs
  ·exact r.rt j s z hs
 ·rcases key j _ e with z|⟨_,z⟩
  ·rw [z] at hs;cases hs
  ·exact r.fr j s z hs
 ·rcases key j _ e1 with z|⟨_,z1⟩
  ·rw [z] at o1;cases o1
  ·rcases key k _ e2 with z|⟨_,z2⟩
   ·rw [z] at o2;cases o2
   ·exact r.dj j k s s' hjk z1 z2 o1 o2
def zeu (B:Bs) (δ:DSt) (fps:Nat->List Addr) (b:Addr):Prop:=B.H0 b=none/\∀ (j:Nat) s,δ[j]?=some s->s.has=true->b ∉ fps j
theorem RS.newOk (r:RS K B F H σ δ fps) {b:Addr} (h:H b=none):zeu B δ fps b:=by
 refine ⟨?_,λ j s ej hs hb=>?_⟩
 ·by_cases z:B.H0 b=none
  ·exact z
  ·exact absurd h ((r.al b).1 z)
 ·obtain ⟨x,t,a1,a2,a3,a4,a5⟩:=r.rt j s ej hs
  exact (a3.dom b hb).1 h
theorem RS.upd2 (r:RS K B F H σ δ fps) {i:Nat} {s:Sl} {x:V} {t2:T} {fp2:List Addr} {F2 H2:Hp} (hi:δ[i]?=some s) (ho:s.own=true) (hx:σ.getD i none=some x)
  (c1:∀ b o,b ∉ fps i->H b=some o->H2 b=some o) (c2:Same F F2) (c3:Same F2 H2) (c4:∀ b,HD (H b)->F b=none->b ∉ fps i->F2 b=none) (c5:∀ b,(H b≠none->H2 b≠none)/\(HD (H b)->HD (H2 b)))
  (h2:Rt K F2 H2 x t2 fp2) (n2:fp2.Nodup) (m2:∀ b∈fp2,b∈fps i \/ zeu B δ fps b) (c6:∀ b∈fps i,F2 b≠none->B.H0 b=none) :
  RS K B F2 H2 σ (δ.set i (s.wth t2)) (λ j=>if j=i then fp2 else fps j):=by
 have hlt:i < δ.length:=by
  rcases Nat.lt_or_ge i δ.length with z|z
  ·exact z
  ·rw [List.getElem?_eq_none z] at hi;cases hi
 have hs:=zm4 ho
 have wo:(s.wth t2).own=true/\(s.wth t2).has=true/\(s.wth t2).tree=some t2:=by
  cases s with
 |ow _=>exact ⟨rfl,rfl,rfl⟩
 |io _ _=>exact ⟨rfl,rfl,rfl⟩
 |un=>cases ho
 |sh _=>cases ho
 |bo _=>cases ho
 have key:∀ (j:Nat) s',(δ.set i (s.wth t2))[j]?=some s'->(j=i/\s'=s.wth t2) \/ (j≠i/\δ[j]?=some s'):=λ j s' e=>by
  rw [List.getElem?_set] at e
  by_cases hij:i=j
  ·subst hij;simp [hlt] at e;exact .inl ⟨rfl,e.symm⟩
  ·simp [hij] at e;exact .inr ⟨λ z=>hij z.symm,e⟩
 have old:∀ b∈fps i,H b≠none/\F b=none:=by
  obtain ⟨x',t',a1,a2,a3,a4,a5⟩:=r.rt i s hi hs
  exact a3.dom
 have own0:=r.fr i s hi ho
 refine ⟨λ b o hb h0=>?_,r.ff.trans c2,c3,λ b hb fb=>?_,λ b=>⟨λ hb=>(c5 b).1 ((r.al b).1 hb),λ hb=>(c5 b).2 ((r.al b).2 hb)⟩,by rw [List.length_set];exact r.len,λ j d e=>?_,λ j s' e hs'=>?_,λ j s' e ho' a ha=>?_,λ j k s1 s2 hjk e1 e2 o1 o2 a ha=>?_⟩
 ·refine c1 b o (λ z=>?_) (r.hh b o hb h0)
  rcases own0 b z with y|y
  ·rw [y] at h0;cases h0
  ·exact hb y.1
 ·by_cases hbi:b∈fps i
  ·cases z:F2 b with
  |none=>rfl
  |some o=>exact absurd (c6 b hbi (by rw [z];simp)) hb.1
  ·exact c4 b ((r.al b).2 hb) (r.nw b hb fb) hbi
 ·rcases key j _ e with ⟨_,z⟩|⟨_,z⟩
  ·rw [<- z] at wo;cases wo.1
  ·obtain ⟨y,h1,h2⟩:=r.sh j d z;exact ⟨y,h1,h2.mono c2⟩
 ·rcases key j _ e with ⟨zj,z⟩|⟨zj,z⟩
  ·subst zj
   rw [if_pos rfl]
   refine ⟨x,t2,hx,by rw [z];exact wo.2.2,h2,λ a u e'=>?_,n2⟩
   obtain ⟨x',t',a1,a2,a3,a4,a5⟩:=r.rt j s hi hs
   rw [hx] at a1;cases a1
   cases s with
  |ow _=>rw [z] at e';cases e'
  |io a' u'=>rw [z] at e';cases e';exact a4 _ _ rfl
  |un=>cases ho
  |sh _=>cases ho
  |bo _=>cases ho
  ·rw [if_neg zj]
   obtain ⟨y,t',a1,a2,a3,a4,a5⟩:=r.rt j s' z hs'
   refine ⟨y,t',a1,a2,a3.frame c2 λ a ha=>?_,a4,a5⟩
   obtain ⟨d1,d2⟩:=a3.dom a ha
   have na:a ∉ fps i:=λ w=>r.dj i j s s' (λ q=>zj q.symm) hi z ho hs' a w ha
   cases q:H a with
  |none=>exact absurd q d1
  |some o=>exact ⟨c1 a o na q,c4 a (a3.hdd a ha) d2 na⟩
 ·rcases key j _ e with ⟨zj,z⟩|⟨zj,z⟩
  ·rw [if_pos zj] at ha
   rcases m2 a ha with y|y
   ·rcases own0 a y with w|⟨w1,w2⟩
    ·exact .inl w
    ·refine .inr ⟨w1,λ t et=>?_⟩
     rw [z] at et
     cases s with
    |ow t'=>exact w2 t' rfl
    |io _ _=>cases et
    |un=>cases ho
    |sh _=>cases ho
    |bo _=>cases ho
   ·exact .inl y.1
  ·rw [if_neg zj] at ha;exact r.fr j s' z ho' a ha
 ·rcases key j _ e1 with ⟨zj,z1⟩|⟨zj,z1⟩ <;> rcases key k _ e2 with ⟨zk,z2⟩|⟨zk,z2⟩
  ·exact absurd (zj.trans zk.symm) hjk
  ·rw [if_pos zj] at ha;rw [if_neg zk]
   subst zj
   rcases m2 a ha with y|y
   ·exact r.dj j k s s2 hjk hi z2 ho o2 a y
   ·exact y.2 k s2 z2 o2
  ·rw [if_neg zj] at ha;rw [if_pos zk]
   subst zk
   intro w
   rcases m2 a w with y|y
   ·exact r.dj j k s1 s hjk z1 hi o1 hs a ha y
   ·exact y.2 j s1 z1 (zm4 o1) ha
  ·rw [if_neg zj] at ha;rw [if_neg zk]
   exact r.dj j k s1 s2 hjk z1 z2 o1 o2 a ha
theorem RS.setT (r:RS K B F H σ δ fps) {i:Nat} {v:V} {t:T} {fp:List Addr} (h:Rt K F H v t fp) (nd:fp.Nodup) (hf:∀ a∈fp,B.H0 a=none) (hd:∀ (j:Nat) s,δ[j]?=some s->s.has=true->∀ a∈fps j,a ∉ fp) :
  RS K B F H (σ.set i (some v)) (δ.set i (.ow t)) (λ j=>if j=i then fp else fps j):=by
 have key:∀ (j:Nat) s,(δ.set i (.ow t))[j]?=some s->(j=i/\s=.ow t/\(σ.set i (some v)).getD j none=some v) \/ (j≠i/\δ[j]?=some s/\(σ.set i (some v)).getD j none=σ.getD j none):=λ j s e=>by
  rw [List.getElem?_set] at e
  by_cases hij:i=j
  ·subst hij
   by_cases hl:i < δ.length
   ·simp [hl] at e;exact .inl ⟨rfl,e.symm,by rw [ze3,r.len,if_pos ⟨rfl,hl⟩]⟩
   ·simp [hl] at e
  ·simp [hij] at e
   exact .inr ⟨λ z=>hij z.symm,e,by rw [ze3,if_neg (by lia)]⟩
 refine ⟨r.hh,r.ff,r.fh,r.nw,r.al,by rw [List.length_set,List.length_set];exact r.len,λ j d' e=>?_,λ j s e hs=>?_,λ j s e hs a ha=>?_,λ j k s s' hjk e1 e2 o1 o2 a ha=>?_⟩
 ·rcases key j _ e with ⟨_,e2,e3⟩|⟨_,e2,e3⟩
  ·cases e2
  ·obtain ⟨x,h1,h2⟩:=r.sh j d' e2;exact ⟨x,by rw [e3];exact h1,h2⟩
 ·rcases key j _ e with ⟨zj,e2,e3⟩|⟨zj,e2,e3⟩
  ·rw [if_pos zj,e3,e2];exact ⟨v,t,rfl,rfl,h,λ a u z=>(by cases z),nd⟩
  ·rw [if_neg zj,e3];exact r.rt j s e2 hs
 ·rcases key j _ e with ⟨zj,e2,e3⟩|⟨zj,e2,e3⟩
  ·rw [if_pos zj] at ha;exact .inl (hf a ha)
  ·rw [if_neg zj] at ha;exact r.fr j s e2 hs a ha
 ·rcases key j _ e1 with ⟨zj,z1,_⟩|⟨zj,z1,_⟩ <;> rcases key k _ e2 with ⟨zk,z2,_⟩|⟨zk,z2,_⟩
  ·exact absurd (zj.trans zk.symm) hjk
  ·rw [if_pos zj] at ha;rw [if_neg zk]
   exact λ w=>hd k s' z2 o2 a w ha
  ·rw [if_neg zj] at ha;rw [if_pos zk]
   exact hd j s z1 (zm4 o1) a ha
  ·rw [if_neg zj] at ha;rw [if_neg zk]
   exact r.dj j k s s' hjk z1 z2 o1 o2 a ha
theorem RS.put (r:RS K B F H σ δ fps) {i:Nat} {s:Sl} {p:Pth} {v:V} {u:T} (hi:δ[i]?=some s) (ho:s.own=true) (ha:AtS H σ δ i p v u) :
  ∃ fn t,s.tree=some t/\Rt K F H v u fn/\fn.Nodup/\(∀ a∈fn,a∈fps i)/\∀ {F2 H2:Hp} {u2:T} {fq:List Addr},
   (∀ b o,b ∉ fn->H b=some o->H2 b=some o)->Same F F2->Same F2 H2->(∀ b,HD (H b)->F b=none->b ∉ fn->F2 b=none)->(∀ b,(H b≠none->H2 b≠none)/\(HD (H b)->HD (H2 b)))->(∀ b∈fn,F2 b≠none->B.H0 b=none) ->
   Rt K F2 H2 v u2 fq->fq.Nodup->(∀ b∈fq,b∈fn \/ zeu B δ fps b)->∃ fps2,RS K B F2 H2 σ (δ.set i (s.wth (setP t p u2))) fps2/\(∀ j,j≠i->fps2 j=fps j)/\∀ b∈fps2 i,b∈fps i \/ b∈fq:=by
 obtain ⟨s',t,x,h1,h2,h3,h4⟩:=ha
 rw [hi] at h1;cases h1
 obtain ⟨x',t',a1,a2,a3,a4,a5⟩:=r.rt i s hi (zm4 ho)
 rw [h3] at a1;cases a1
 rw [h2] at a2;cases a2
 obtain ⟨fn,hn,sub,ndn,back⟩:=zoy h4 a3 a5
 refine ⟨fn,t,h2,hn,ndn,sub,λ {F2 H2 u2 fq} c1 c2 c3 c4 c5 c6 hu nq mq=>?_⟩
 obtain ⟨fp2,r2,n2,m2⟩:=back c2 (λ b hb hnb=>by
  obtain ⟨d1,d2⟩:=a3.dom b hb
  cases q:H b with
 |none=>exact absurd q d1
 |some o=>exact ⟨c1 b o hnb q,c4 b (a3.hdd b hb) d2 hnb⟩) hu nq λ b hb=>by
   rcases mq b hb with z|z
   ·exact .inl z
   ·exact .inr (z.2 i s hi (zm4 ho))
 refine ⟨_,r.upd2 hi ho h3 (λ b o hb=>c1 b o λ z=>hb (sub b z)) c2 c3 (λ b hb fb hbi=>c4 b hb fb λ z=>hbi (sub b z)) c5 r2 n2 (λ b hb=>?_) (λ b hb f2=>?_),λ j hj=>if_neg hj,λ b hb=>?_⟩
 ·rcases m2 b hb with ⟨y,_⟩|y
  ·exact .inl y
  ·rcases mq b y with z|z
   ·exact .inl (sub b z)
   ·exact .inr z
 ·by_cases z:b∈fn
  ·exact c6 b z f2
  ·obtain ⟨d1,d2⟩:=a3.dom b hb
   exact absurd (c4 b (a3.hdd b hb) d2 z) f2
 ·rw [if_pos rfl] at hb
  rcases m2 b hb with ⟨y,_⟩|y
  ·exact .inl y
  ·exact .inr y
end
structure Res (K:Fg) (B:Bs) (F H:Hp) (σ:L2.St) (δ:DSt) (fps:Nat->List Addr) (v:V) (r:T) (fpr:List Addr):Prop where
 rs:RS K B F H σ δ fps
 rt:Rt K F H v r fpr
 nd:fpr.Nodup
 fr:∀ a∈fpr,B.H0 a=none
 dj:∀ (j:Nat) s,δ[j]?=some s->s.has=true->∀ a∈fps j,a ∉ fpr
abbrev DC:=DSt->(T->DSt->Prop)->Prop
def RfC (K:Fg) (te:TE) (dc:DC):Prop:=∀ {B:Bs} {F H:Hp} {σ:L2.St} {δ:DSt} {fps:Nat->List Addr} {Qd:T->DSt->Prop} {Q:VK},RS K B F H σ δ fps->dc δ Qd->(∀ r δ',Qd r δ'->∀ v F' H' fps' fpr,Res K B F' H' σ δ' fps' v r fpr->Q v H')->te σ H Q
structure DEnds where
 nx:DSt->Prop
 rt:T->DSt->Prop
 bk:DSt->Prop:=λ _=>False
 ct:DSt->Prop:=λ _=>False
abbrev DS:=DEnds->DSt->Prop
structure En (K:Fg) (B:Bs) (E:DEnds) (Z:Ends):Prop where
 nx:∀ {F H:Hp} {σ:L2.St} {δ:DSt} {fps:Nat->List Addr},RS K B F H σ δ fps->E.nx δ->Z.nx σ H
 bk:∀ {F H:Hp} {σ:L2.St} {δ:DSt} {fps:Nat->List Addr},RS K B F H σ δ fps->E.bk δ->Z.bk σ H
 ct:∀ {F H:Hp} {σ:L2.St} {δ:DSt} {fps:Nat->List Addr},RS K B F H σ δ fps->E.ct δ->Z.ct σ H
 rt:∀ {F H:Hp} {σ:L2.St} {δ:DSt} {fps:Nat->List Addr} {v:V} {r:T} {fpr:List Addr},Res K B F H σ δ fps v r fpr->E.rt r δ->Z.rt v H
def RfS (K:Fg) (ts:TS) (ds:DS):Prop:=∀ {B:Bs} {F H:Hp} {σ:L2.St} {δ:DSt} {fps:Nat->List Addr} {E:DEnds} {Z:Ends},RS K B F H σ δ fps->ds E δ->En K B E Z->ts Z σ H
section
variable {K:Fg} {te ta ti:TE} {de da di:DE} {dc:DC} {tt:TT} {dt:DT} {t u tb:TS} {d e db:DS} {tA:TA} {dA:DF} {g:TG} {dg:DG} {n:Nat} {dp:DP}
def cE (de:DE):DC:=λ δ Q=>de δ λ d=>Q (.fz d) δ
theorem RfE.c (h:RfE K te de):RfC K te (cE de):=by
 intro B F H σ δ fps Qd Q r hd k
 exact h r.fh r.rv hd λ d q v F1 H1 e1 i1=>k _ _ q v F1 H1 fps [] ⟨r.grow e1,.fz i1,.nil,λ a ha=>by simp at ha,λ _ _ _ _ a _ ha=>by simp at ha⟩
def cF (df:DF):DC:=λ δ Q=>df δ λ ds=>Q (.li ds) δ
theorem RfF.c {df:DF} (h:RfF K te df):RfC K te (cF df):=by
 intro B F H σ δ fps Qd Q r hd k
 refine h r.fh r.rv hd λ ds q a xs F1 H1 e1 hn h1 h2 h3=>k _ _ q (.ref a) F1 H1 fps [a] ⟨r.grow e1,.li h1 h2 h3,by simp,λ b hb=>?_,λ j s ej hs b hb hb2=>?_⟩
 ·simp at hb;subst hb
  by_cases z:B.H0 b=none
  ·exact z
  ·exact absurd hn ((r.al b).1 z)
 ·simp at hb2;subst hb2
  obtain ⟨x,t,a1,a2,a3,a4,a5⟩:=r.rt j s ej hs
  exact (a3.dom b hb).1 hn
def slot:T->Sl
|.fz d=>.sh d
|t=>.ow t
theorem Res.set {B:Bs} {F H:Hp} {σ:L2.St} {δ:DSt} {fps:Nat->List Addr} {v:V} {r:T} {fpr:List Addr} (h:Res K B F H σ δ fps v r fpr) (i:Nat):∃ fps',RS K B F H (σ.set i (some v)) (δ.set i (slot r)) fps':=by
 cases r with
|fz d=>cases h.rt with
 |fz hi=>exact ⟨_,h.rs.setS hi⟩
|li ds=>exact ⟨_,h.rs.setT h.rt h.nd h.fr h.dj⟩
|ls ds=>exact ⟨_,h.rs.setT h.rt h.nd h.fr h.dj⟩
|ob C ds=>exact ⟨_,h.rs.setT h.rt h.nd h.fr h.dj⟩
|dk ds=>exact ⟨_,h.rs.setT h.rt h.nd h.fr h.dj⟩
|dt ds=>exact ⟨_,h.rs.setT h.rt h.nd h.fr h.dj⟩
|tp ds=>exact ⟨_,h.rs.setT h.rt h.nd h.fr h.dj⟩
|wh=>exact ⟨_,h.rs.setT h.rt h.nd h.fr h.dj⟩
|dd _=>exact ⟨_,h.rs.setT h.rt h.nd h.fr h.dj⟩
def zyz:DS:=λ E δ=>E.nx δ
theorem zl1:RfS K ze01 zyz:=λ r h k=>k.nx r h
def dSeq (a b:DS):DS:=λ E δ=>∃ J:DSt->Prop,a { E with nx:=J } δ/\∀ δ',J δ'->b E δ'
theorem zl0 (h1:RfS K t d) (h2:RfS K u e):RfS K (tSeq t u) (dSeq d e):=by
 intro B F H σ δ fps E Z r h k
 obtain ⟨J,ha,hb⟩:=h
 exact h1 r ha ⟨λ r' q=>h2 r' (hb _ q) k,k.bk,k.ct,k.rt⟩
def dAsg (de:DE) (dg:DG):DS:=λ E δ=>de δ λ d=>dg d δ E.nx
theorem zh1 (he:RfE K te de) (hg:RfG K n g dg):RfS K (tAsg te g) (dAsg de dg):=by
 intro B F H σ δ fps E Z r h k
 exact he r.fh r.rv h λ d hd v F1 H1 e1 i1=>hg e1.fh i1 hd λ σ' δ' q u=>k.nx ((r.grow e1).byUpd u) q
def dSet (i:Nat) (dc:DC):DS:=λ E δ=>dc δ λ r δ'=>E.nx (δ'.set i (slot r))
theorem zy3 {i:Nat} (hc:RfC K te dc):RfS K (tAsg te (zni i)) (dSet i dc):=by
 intro B F H σ δ fps E Z r h k
 refine hc r h λ r2 δ' q v F1 H1 fps1 fpr res=>?_
 obtain ⟨fps2,r3⟩:=res.set i
 exact k.nx r3 q
def zd11 (dc:DC):DS:=λ E δ=>dc δ λ _ δ'=>E.nx δ'
theorem zg2 (hc:RfC K te dc):RfS K (zv01 te) (zd11 dc):=by
 intro B F H σ δ fps E Z r h k
 exact hc r h λ r2 δ' q v F1 H1 fps1 fpr res=>k.nx res.rs q
def dRet (dc:DC):DS:=λ E δ=>dc δ E.rt
theorem zj1 (hc:RfC K te dc):RfS K (tRet te) (dRet dc):=by
 intro B F H σ δ fps E Z r h k
 exact hc r h λ r2 δ' q v F1 H1 fps1 fpr res=>k.rt res q
def zfz (i:Nat):DS:=λ E δ=>match δ[i]? with
|some (.ow t)=>E.rt t (δ.set i .un)
|some (.sh d)=>E.rt (.fz d) δ
|_=>False
theorem zf8 {i:Nat}:RfS K (tRet (tVar i)) (zfz i):=by
 intro B F H σ δ fps E Z r h k
 unfold zfz at h
 split at h
 ·rename_i t q
  obtain ⟨x,t',a1,a2,a3,a4,a5⟩:=r.rt i _ q rfl
  cases a2
  refine ⟨x,zb8 (F:=F) (H:=H) (δ:=δ) a1,k.rt ⟨r.forget i,a3,a5,λ a ha=>(r.fr i _ q rfl a ha).elim id λ z=>absurd rfl (z.2 t),λ j s ej hs a ha hb=>?_⟩ h⟩
  rw [List.getElem?_set] at ej
  by_cases hij:i=j
  ·subst hij
   split at ej
   ·split at ej
    ·cases ej;cases hs
    ·cases ej
   ·rename_i z;exact absurd rfl z
  ·simp [hij] at ej
   exact r.dj i j _ s hij q ej rfl hs a hb ha
 ·rename_i d q
  obtain ⟨x,h1,h2⟩:=r.sh i d q
  exact ⟨x,zb8 (F:=F) (H:=H) (δ:=δ) h1,k.rt ⟨r,.fz h2,.nil,λ a ha=>by simp at ha,λ _ _ _ _ a _ ha=>by simp at ha⟩ h⟩
 ·exact h.elim
def dIf (dt:DT) (d e:DS):DS:=λ E δ=>dt δ λ b=>if b=true then d E δ else e E δ
theorem zn8 (ht:RfT K tt dt) (h1:RfS K t d) (h2:RfS K u e):RfS K (tIfS tt t u) (dIf dt d e):=by
 intro B F H σ δ fps E Z r h k
 refine ht r.fh r.rv h λ b hb F1 H1 e1=>?_
 cases b with
|true=>rw [if_pos rfl] at hb ⊢;exact h1 (r.grow e1) hb k
|false=>rw [if_neg Bool.false_ne_true] at hb ⊢;exact h2 (r.grow e1) hb k
def dFor (di:DF) (dg:DG) (db:DS):DS:=λ E δ=>di δ λ items=>∃ W:Nat->DSt->Prop,W 0 δ /\
 (∀ i d δ',items[i]?=some d->W i δ'->dg d δ' λ δ2=>db { E with nx:=W (i+1),ct:=W (i+1),bk:=E.nx } δ2)/\∀ δ',W items.length δ'->E.nx δ'
def Bs.rem (B:Bs) (F1:Hp):Bs:=⟨F1,B.H0,B.G⟩
theorem RS.rem {B:Bs} {F H F1:Hp} {σ:L2.St} {δ:DSt} {fps:Nat->List Addr} (r:RS K B F H σ δ fps) (s0:Same B.F0 F1) (s:Same F1 F):RS K (B.rem F1) F H σ δ fps :=
 ⟨r.hh,s,r.fh,λ b hb fb=>r.nw b hb (by
  cases q:B.F0 b with
 |none=>rfl
 |some o=>rw [show (B.rem F1).F0 b=F1 b from rfl,s0 b o q] at fb;cases fb),r.al,r.len,r.sh,r.rt,r.fr,r.dj⟩
theorem RS.unrem {B:Bs} {F H F1:Hp} {σ:L2.St} {δ:DSt} {fps:Nat->List Addr} (r:RS K (B.rem F1) F H σ δ fps) (s0:Same B.F0 F1) (n0:∀ b,HD (B.H0 b)->B.F0 b=none->F1 b=none):RS K B F H σ δ fps :=
 ⟨r.hh,s0.trans r.ff,r.fh,λ b hb fb=>r.nw b hb (n0 b hb fb),r.al,r.len,r.sh,r.rt,r.fr,r.dj⟩
theorem zea {wi:TI} {di:DF} (hi:RfI K wi di) (hg:RfG K n g dg) (hb:RfS K tb db):RfS K (tFor wi g tb) (dFor di dg db):=by
 intro B F H σ δ fps E Z r h k
 refine hi r.fh r.rv h λ items hx J F1 H1 e1 wj=>?_
 obtain ⟨W,w0,ws,we⟩:=hx
 have r1:=r.grow e1
 have s0:=r1.ff
 have n0:=r1.nw
 refine ⟨λ i m σ' H'=>m=items.length - i/\i<=items.length/\∃ F' δ' fps',RS K (B.rem F1) F' H' σ' δ' fps'/\W i δ',⟨items.length,rfl,Nat.zero_le _,F1,δ,fps,r1.rem s0 (λ _ _ z=>z),w0⟩,?_⟩
 rintro i m σ' H' ⟨rfl,hi',F',δ',fps',r',w'⟩
 obtain ⟨go,stop,yld⟩:=wj F' H' r'.ff r'.fh
 by_cases hlt:i < items.length
 ·refine .inr ⟨go i hlt,λ σ2 H2=>i+1<=items.length/\∃ F2 δ2 fps2,RS K (B.rem F1) F2 H2 σ2 δ2 fps2/\W (i+1) δ2,λ σ2 H2 p=>⟨_,by lia,rfl,p⟩,λ x H2 y=>?_⟩
  have hit:items[i]?=some items[i]:=List.getElem?_eq_getElem hlt
  obtain ⟨F2,ex2,ix2⟩:=yld i x H2 _ hit y
  refine hg ex2.fh ix2 (ws i _ δ' hit w') λ σ2 δ2 hd2 u2=>?_
  refine hb ((r'.grow ex2).byUpd u2) hd2 ⟨λ r3 q=>⟨hlt,_,_,_,r3,q⟩,λ r3 q=>k.nx (r3.unrem s0 n0) q,λ r3 q=>⟨hlt,_,_,_,r3,q⟩,λ res q=>k.rt ⟨res.rs.unrem s0 n0,res.rt,res.nd,res.fr,res.dj⟩ q⟩
 ·have e:i=items.length:=by lia
  subst e
  exact .inl ⟨stop,k.nx (r'.unrem s0 n0) (we _ w')⟩
def zav (dt:DT) (db:DS):DS:=λ E δ=>∃ W:Nat->DSt->Prop,(∃ m,W m δ)/\∀ m δ',W m δ'->dt δ' λ b=>if b=true then db { E with nx:=λ δ2=>∃ m',m' < m/\W m' δ2,ct:=λ δ2=>∃ m',m' < m/\W m' δ2,bk:=E.nx } δ' else E.nx δ'
theorem zy6 (ht:RfT K tt dt) (hb:RfS K tb db):RfS K (zir tt tb) (zav dt db):=by
 intro B F H σ δ fps E Z r h k
 obtain ⟨W,⟨m0,w0⟩,ws⟩:=h
 refine ⟨λ m σ' H'=>∃ F' δ' fps',RS K B F' H' σ' δ' fps'/\W m δ',⟨m0,F,δ,fps,r,w0⟩,?_⟩
 rintro m σ' H' ⟨F',δ',fps',r',w'⟩
 refine ht r'.fh r'.rv (ws m δ' w') λ b hb' F1 H1 e1=>?_
 cases b with
|true =>
  rw [if_pos rfl] at hb' ⊢
  refine ⟨λ σ2 H2=>∃ m',m' < m/\∃ F2 δ2 fps2,RS K B F2 H2 σ2 δ2 fps2/\W m' δ2,λ σ2 H2 p=>p,hb (r'.grow e1) hb' ⟨λ r3 q=>?_,λ r3 q=>k.nx r3 q,λ r3 q=>?_,k.rt⟩⟩
  ·obtain ⟨m',h1,h2⟩:=q;exact ⟨m',h1,_,_,_,r3,h2⟩
  ·obtain ⟨m',h1,h2⟩:=q;exact ⟨m',h1,_,_,_,r3,h2⟩
|false =>
  rw [if_neg Bool.false_ne_true] at hb' ⊢
  exact k.nx (r'.grow e1) hb'
def mutS (δ:DSt) (i:Nat) (p:Pth) (u:T) (N:DSt->Prop):Prop:=match δ[i]? with
|some (.ow t)=>N (δ.set i (.ow (setP t p u)))
|some (.io a t)=>N (δ.set i (.io a (setP t p u)))
|_=>False
theorem RS.mut {B:Bs} {F H:Hp} {σ:L2.St} {δ:DSt} {fps:Nat->List Addr} {i:Nat} {p:Pth} {v:V} {u u2:T} {N:DSt->Prop} (r:RS K B F H σ δ fps) (ha:AtS H σ δ i p v u) (hm:mutS δ i p u2 N) :
  ∃ fn,Rt K F H v u fn/\fn.Nodup/\(∀ a∈fn,a∈fps i)/\∀ {F2 H2:Hp} {fq:List Addr},
   (∀ b o,b ∉ fn->H b=some o->H2 b=some o)->Same F F2->Same F2 H2->(∀ b,HD (H b)->F b=none->b ∉ fn->F2 b=none)->(∀ b,(H b≠none->H2 b≠none)/\(HD (H b)->HD (H2 b)))->(∀ b∈fn,F2 b≠none->B.H0 b=none) ->
   Rt K F2 H2 v u2 fq->fq.Nodup->(∀ b∈fq,b∈fn \/ zeu B δ fps b)->∃ δ2 fps2,RS K B F2 H2 σ δ2 fps2/\N δ2/\(∀ j,j≠i->fps2 j=fps j/\δ2[j]?=δ[j]?)/\(∀ b∈fps2 i,b∈fps i \/ b∈fq)/\(∃ s,δ[i]?=some s/\s.own=true):=by
 obtain ⟨s,hi,ho,hN⟩:∃ s,δ[i]?=some s/\s.own=true/\∀ t,s.tree=some t->N (δ.set i (s.wth (setP t p u2))):=by
  unfold mutS at hm
  split at hm
  ·rename_i t q
   exact ⟨_,q,rfl,λ t' e=>by cases e;exact hm⟩
  ·rename_i a t q
   exact ⟨_,q,rfl,λ t' e=>by cases e;exact hm⟩
  ·exact hm.elim
 obtain ⟨fn,t,h1,h2,h3,h4,h5⟩:=r.put hi ho ha
 refine ⟨fn,h2,h3,h4,λ {F2 H2 fq} c1 c2 c3 c4 c5 c6 hu nq mq=>?_⟩
 obtain ⟨fps2,r2,e2⟩:=h5 c1 c2 c3 c4 c5 c6 hu nq mq
 refine ⟨_,fps2,r2,hN t h1,λ j hj=>⟨e2.1 j hj,?_⟩,e2.2,s,hi,ho⟩
 rw [List.getElem?_set_ne (λ z=>hj z.symm)]
theorem RS.one {B:Bs} {F H:Hp} {σ:L2.St} {δ:DSt} {fps:Nat->List Addr} {i:Nat} {p:Pth} {a:Addr} {u u2:T} {o o2:HO} {N:DSt->Prop} (r:RS K B F H σ δ fps) (ha:AtS H σ δ i p (.ref a) u) (hm:mutS δ i p u2 N) (ho:H a=some o)
  (hu:∀ fn,Rt K F H (.ref a) u fn->fn=[a]) (h2:F a=none->Rt K F (upd H a o2) (.ref a) u2 [a]):∃ δ2 fps2,RS K B F (upd H a o2) σ δ2 fps2/\N δ2/\(∀ j,j≠i->fps2 j=fps j/\δ2[j]?=δ[j]?):=by
 obtain ⟨fn,hr,nd,sub,back⟩:=r.mut ha hm
 have e:=hu fn hr
 subst e
 have fa:F a=none:=(hr.dom a (by simp)).2
 obtain ⟨δ2,fps2,g1,g2,g3,_⟩:=back (F2:=F) (H2:=upd H a o2) (fq:=[a]) (λ b o' hb ho'=>by rw [zp0 (λ z=>hb (by simp [z]))];exact ho') (λ _ _ z=>z) (λ b o' z=>by
   have:b≠a:=λ w=>by subst w;rw [fa] at z;cases z
   rw [zp0 this];exact r.fh b o' z) (λ b _ fb _=>fb) (zjt ((h2 fa).hdd a (by simp))) (λ b hb f=>by simp at hb;subst hb;exact absurd fa f) (h2 fa) (by simp) (λ b hb=>.inl hb)
 exact ⟨δ2,fps2,g1,g2,g3⟩
abbrev FM:=T->List D->(T->D->Prop)->Prop
def MO (K:Fg) (r:V->List V->Hp->VK->Prop) (f:FM):Prop:=∀ {F H:Hp} {v:V} {u:T} {fn:List Addr} {vs:List V} {ds:List D} {Kd:T->D->Prop} {Q:VK},Same F H->Rt K F H v u fn->IsAll K F vs ds->f u ds Kd ->
 ∃ u2 d y o o2 a,Kd u2 d/\v=.ref a/\fn=[a]/\H a=some o/\Is K F y d/\Rt K F (upd H a o2) (.ref a) u2 [a]/\(Q y (upd H a o2)->r v vs H Q)
def tyN (T:String):L4.T->Prop
|.li _=>T = "list"
|.ls _=>T = "list"
|.dk _=>T = "dict"
|.dt _=>T = "dict"
|_=>False
theorem zh01 {F H:Hp} {T:String} {v:V} {u:L4.T} {fn:List Addr} (h:Rt K F H v u fn) (k:tyN T u):tyV K T v H:=by
 cases h with
|fz _=>exact k.elim
|li h1 _ _=>exact .inl ⟨k,_,SqL.of h1⟩
|ls h1 _ _=>exact .inl ⟨k,_,SqL.of h1⟩
|ob _ _ _ _ _=>exact k.elim
|tp _ _ _ _=>exact k.elim
|wh=>exact k.elim
|dd _ _ _ _=>exact k.elim
|dk h1 _ _=>exact .inr (.inr (.inl ⟨k,.inl ⟨_,h1⟩⟩))
|dt h1 _ _=>exact .inr (.inr (.inl ⟨k,.inr ⟨_,h1⟩⟩))
theorem za11 {F H:Hp} {v:V} {u:T} {fn:List Addr} {r:V->List V->Hp->VK->Prop} {f:FM} (hm:MO K r f) {vs:List V} {ds:List D} {Kd:T->D->Prop} {B:Bs} {σ:L2.St} {δ:DSt} {fps:Nat->List Addr} {i:Nat} {p:Pth} {Qd:T->DSt->Prop} {Q:VK}
  (rs:RS K B F H σ δ fps) (ha:AtS H σ δ i p v u) (hv:IsAll K F vs ds) (hf:f u ds λ u2 d=>mutS δ i p u2 λ δ'=>Qd (.fz d) δ')
  (k:∀ r δ',Qd r δ'->∀ v F' H' fps' fpr,Res K B F' H' σ δ' fps' v r fpr->Q v H'):r v vs H Q:=by
 obtain ⟨fn,hr⟩:=ha.rt rs.rv
 obtain ⟨u2,d,y,o,o2,a,kd,rfl,e2,h3,h4,h5,h6⟩:=hm (Q:=Q) rs.fh hr hv hf
 refine h6 ?_
 obtain ⟨δ2,fps2,r2,q2,_⟩:=rs.one ha kd h3 (λ fn' hr'=>by
  obtain ⟨_,_,_,_,_,a',_,e1,e2',_⟩:=hm (Q:=Q) rs.fh hr' hv hf
  cases e1;exact e2') (λ _=>h5)
 exact k _ _ q2 _ _ _ fps2 [] ⟨r2,.fz h4,.nil,λ a ha=>by simp at ha,λ _ _ _ _ a _ ha=>by simp at ha⟩
def cBM (ty:String) (f:FM) (dp:DP) (dA:DF):DC:=λ δ Q=>dp δ λ i p u=>tyN ty u/\dA δ λ ds=>f u ds λ u2 d=>mutS δ i p u2 λ δ'=>Q (.fz d) δ'
theorem zeh {T:String} {r:V->List V->Hp->VK->Prop} {f:FM} (hm:MO K r f) (hp:RfP K te dp) (hA:RfA K tA dA):RfC K (tBMU K T r te tA) (cBM T f dp dA):=by
 intro B F H σ δ fps Qd Q rs hd k
 refine hp rs.fh rs.rv hd λ i p u hu v F1 H1 e1 at1=>?_
 have r1:=rs.grow e1
 obtain ⟨fn,hr⟩:=at1.rt r1.rv
 refine ⟨zh01 hr hu.1,hA e1.fh r1.rv hu.2 λ ds hds vs F2 H2 e2 i2=>?_⟩
 exact za11 hm (fn:=fn) (Kd:=λ _ _=>True) (r1.grow e2) (at1.mono e2.h) i2 hds k
def cBM0 (ty:String) (f:FM) (dp:DP):DC:=λ δ Q=>dp δ λ i p u=>tyN ty u/\f u [] λ u2 d=>mutS δ i p u2 λ δ'=>Q (.fz d) δ'
theorem zmn {T:String} {r:V->List V->Hp->VK->Prop} {f:FM} (hm:MO K r f) (hp:RfP K te dp):RfC K (zpz K T r te) (cBM0 T f dp):=by
 intro B F H σ δ fps Qd Q rs hd k
 refine hp rs.fh rs.rv hd λ i p u hu v F1 H1 e1 at1=>?_
 have r1:=rs.grow e1
 obtain ⟨fn,hr⟩:=at1.rt r1.rv
 exact ⟨zh01 hr hu.1,za11 hm (fn:=fn) (Kd:=λ _ _=>True) r1 at1 .nil hu.2 k⟩
def mApp:FM:=λ u ds N=>match u,ds with
|.li xs,[d]=>xs.length < sizeLine/\N (.li (xs++[d])) .none
|_,_=>False
theorem zde:MO K zsj mApp:=by
 intro F H v u fn vs ds Kd Q s hr hv hf
 unfold mApp at hf
 split at hf
 ·obtain ⟨y,rfl,iy⟩:=all1 hv
  cases hr with
 |li h1 h2 h3 =>
   have el:=h3.dlen
   exact ⟨_,_,.non,_,.lst (_++[y]),_,hf.2,rfl,rfl,h1,.non,.li zi0 h2 (h3.dapp (.cons iy .nil)),λ q=>⟨_,_,y,rfl,rfl,h1,by lia,q⟩⟩
 ·exact hf.elim
def mExt:FM:=λ u ds N=>match u,ds with
|.li xs,[.list es]=>xs.length+es.length<=sizeLine/\N (.li (xs++es)) .none
|_,_=>False
theorem zai:MO K (zre K) mExt:=by
 intro F H v u fn vs ds Kd Q s hr hv hf
 unfold mExt at hf
 split at hf
 ·obtain ⟨y,rfl,iy⟩:=all1 hv
  obtain ⟨b,ys,rfl,g1,g2⟩:=iy.list_inv
  cases hr with
 |li h1 h2 h3 =>
   have el:=h3.dlen
   have el2:=g2.dlen
   exact ⟨_,_,.non,_,.lst (_++ys),_,hf.2,rfl,rfl,h1,.non,.li zi0 h2 (h3.dapp g2),λ q=>⟨_,b,_,ys,rfl,rfl,h1,s.seq g1,by lia,q⟩⟩
 ·exact hf.elim
def zvw:FM:=λ u ds N=>match u,ds with
|.li xs,[]=>N (.li []) .none
|_,_=>False
def mPop:FM:=λ u ds N=>match u,ds with
|.li xs,[]=>∃ d,xs[xs.length - 1]?=some d/\N (.li xs.dropLast) d
|_,_=>False
theorem zic {F:Hp} {xs:List V} {ds:List D} (h:IsAll K F xs ds):IsAll K F xs.dropLast ds.dropLast:=by
 rw [List.dropLast_eq_take,List.dropLast_eq_take,h.dlen]
 exact h.dtake _
theorem zlm:MO K rPop mPop:=by
 intro F H v u fn vs ds Kd Q s hr hv hf
 unfold mPop at hf
 split at hf
 ·cases hv
  cases hr with
 |li h1 h2 h3 =>
   obtain ⟨d,ed,q⟩:=hf
   obtain ⟨y,hy,iy⟩:=h3.dget ed
   have el:=h3.dlen
   rw [<- el] at hy
   exact ⟨_,_,y,_,.lst _,_,q,rfl,rfl,h1,iy,.li zi0 h2 (zic h3),λ q=>⟨_,_,y,rfl,rfl,h1,hy,q⟩⟩
 ·exact hf.elim
end
section
variable {K:Fg} {te ta ti tv:TE} {de da di dk:DE} {dc:DC} {tt:TT} {dt:DT} {t u tb:TS} {d e db:DS} {tA:TA} {dA:DF} {g:TG} {dg:DG} {n:Nat} {dp:DP} {w:World}
def keyD:D->Option Key
|.int i=>some (.inl i)
|.str x=>some (.inr x)
|_=>none
theorem zag {F:Hp} {v:V} {d:D} {k:Key} (h:Is K F v d) (e:keyD d=some k):v=kV k:=by
 cases h <;> simp [keyD] at e <;> subst e <;> rfl
def ztg:List D->Option (List Key)
|[]=>some []
|d :: ds=>match keyD d,ztg ds with
 |some k,some ks=>some (k :: ks)
 |_,_=>none
def keyT:D->Option (List Key)
|.tuple ds=>ztg ds
|_=>none
theorem zl6 {F:Hp}:∀ {xs:List V} {ds:List D} {k:List Key},IsAll K F xs ds->ztg ds=some k->xs=k.map kV/\ds.all zcu=true
|_,_,_,.nil,e=>by simp [ztg] at e;subst e;exact ⟨rfl,rfl⟩
|_,_,_,.cons (d:=d) h r,e=>by
  unfold ztg at e
  split at e
  ·rename_i k ks h1 h2
   cases e
   obtain ⟨e1,e2⟩:=zl6 r h2
   have:=zag h h1
   rw [List.map_cons,this,e1,List.all_cons,e2]
   refine ⟨rfl,?_⟩
   cases d <;> simp [keyD] at h1 <;> rfl
  ·cases e
theorem zch {F:Hp} {v:V} {d:D} {k:List Key} (h:Is K F v d) (e:keyT d=some k):∃ b,v=.ref b/\F b=some (.tup (k.map kV)):=by
 cases h with
|tup h1 h2 =>
  obtain ⟨e1,_⟩:=zl6 h2 e
  subst e1
  exact ⟨_,rfl,h1⟩
|tuc h1 h2 h3 =>
  obtain ⟨_,e2⟩:=zl6 h2 e
  rw [e2] at h3;cases h3
|_=>simp [keyT] at e
def getA {κ:Type} [DecidableEq κ] (kvs:List (κ×D)) (k:κ):Option D:=(kvs.find? λ kv=>decide (kv.1=k)).map (·.2)
def putD {κ:Type} [DecidableEq κ] (kvs:List (κ×D)) (k:κ) (d:D):List (κ×D) :=
 if (kvs.any λ kv=>decide (kv.1=k))=true then kvs.map (λ kv=>if kv.1=k then (kv.1,d) else kv) else kvs++[(k,d)]
theorem KvIs.len {F:Hp} {κ:Type}:∀ {r:List (κ×V)} {s:List (κ×D)},KvIs K F r s->r.length=s.length
|_,_,.nil=>rfl
|_,_,.cons _ r=>congrArg (·+1) (KvIs.len r)
theorem KvIs.get {F:Hp} {κ:Type} [DecidableEq κ] {k:κ}:∀ {r:List (κ×V)} {s:List (κ×D)},KvIs K F r s->(getA s k=none/\valV r k=none) \/ ∃ d v,getA s k=some d/\valV r k=some v/\Is K F v d
|_,_,.nil=>.inl ⟨rfl,rfl⟩
|_,_,.cons (k:=k') (v:=v) (d:=d) h r=>by
  by_cases e:k'=k
  ·exact .inr ⟨d,v,by simp [getA,e],by simp [valV,e],h⟩
  ·rcases KvIs.get (k:=k) r with ⟨h1,h2⟩|⟨d',v',h1,h2,h3⟩
   ·exact .inl ⟨by simp [getA,e];simpa [getA] using h1,by simp [valV,e];simpa [valV] using h2⟩
   ·refine .inr ⟨d',v',?_,?_,h3⟩
    ·simp [getA,e];simpa [getA] using h1
    ·simp [valV,e];simpa [valV] using h2
theorem KvIs.any {F:Hp} {κ:Type} [DecidableEq κ] {k:κ}:∀ {r:List (κ×V)} {s:List (κ×D)},KvIs K F r s->(r.any λ kv=>decide (kv.1=k))=(s.any λ kv=>decide (kv.1=k))
|_,_,.nil=>rfl
|_,_,.cons _ r=>by rw [List.any_cons,List.any_cons,KvIs.any r]
theorem KvIs.app {F:Hp} {κ:Type}:∀ {r r':List (κ×V)} {s s':List (κ×D)},KvIs K F r s->KvIs K F r' s'->KvIs K F (r++r') (s++s')
|_,_,_,_,.nil,h=>h
|_,_,_,_,.cons h r,h'=>.cons h (r.app h')
theorem KvIs.map {F:Hp} {κ:Type} [DecidableEq κ] {k:κ} {v:V} {d:D} (hv:Is K F v d):∀ {r:List (κ×V)} {s:List (κ×D)},KvIs K F r s->KvIs K F (r.map λ kv=>if kv.1=k then (kv.1,v) else kv) (s.map λ kv=>if kv.1=k then (kv.1,d) else kv)
|_,_,.nil=>.nil
|_,_,.cons (k:=k') h r=>by
  by_cases e:k'=k
  ·simp only [List.map_cons,e,if_true];exact .cons hv (r.map hv)
  ·simp only [List.map_cons,e,if_false];exact .cons h (r.map hv)
theorem KvIs.put {F:Hp} {κ:Type} [DecidableEq κ] {k:κ} {v:V} {d:D} (hv:Is K F v d) {r:List (κ×V)} {s:List (κ×D)} (h:KvIs K F r s):KvIs K F (putK r k v) (putD s k d):=by
 unfold putK putD
 rw [h.any]
 split
 ·exact h.map hv
 ·exact h.app (.cons hv .nil)
def fPut (u:T) (k d:D) (N:T->Prop):Prop:=match u with
|.li ds=>match k with
 |.int z=>∃ j,ixN ds.length z=some j/\N (.li (ds.set j d))
 |_=>False
|.dk kvs=>∃ key,keyD k=some key/\kvs.length < sizeLine/\N (.dk (putD kvs key d))
|.dt kvs=>∃ key,keyT k=some key/\kvs.length < sizeLine/\N (.dt (putD kvs key d))
|_=>False
theorem zhq {B:Bs} {F H:Hp} {σ:L2.St} {δ:DSt} {fps:Nat->List Addr} {i:Nat} {p:Pth} {v kv y:V} {u:T} {k d:D} {N:DSt->Prop} {Q:Hp->Prop} (rs:RS K B F H σ δ fps) (ha:AtS H σ δ i p v u) (hk:Is K F kv k) (hy:Is K F y d)
  (hf:fPut u k d λ u2=>mutS δ i p u2 N) (q:∀ δ2 fps2 H2,RS K B F H2 σ δ2 fps2->N δ2->Q H2):ziu v kv y H Q:=by
 obtain ⟨fn,hr⟩:=ha.rt rs.rv
 cases hr with
|li h1 h2 h3 =>
  simp only [fPut] at hf
  split at hf
  ·rename_i z
   obtain ⟨j,ej,hm⟩:=hf
   cases hk.int_inv
   have el:=h3.dlen
   obtain ⟨δ2,fps2,r2,n2,_⟩:=rs.one (o2:=.lst (_)) ha hm h1 (λ fn' hr'=>by cases hr';rfl) (λ fa=>.li zi0 fa (h3.dset hy j))
   exact .inl ⟨_,_,z,j,rfl,rfl,h1,by rw [el];exact ej,q _ _ _ r2 n2⟩
  ·exact hf.elim
|dk h1 h2 h3 =>
  simp only [fPut] at hf
  obtain ⟨key,ek,hl,hm⟩:=hf
  have:=zag hk ek
  subst this
  have el:=h3.len
  obtain ⟨δ2,fps2,r2,n2,_⟩:=rs.one (o2:=.dK _) ha hm h1 (λ fn' hr'=>by cases hr';rfl) (λ fa=>.dk zi0 fa (h3.put (k:=key) hy))
  exact .inr ⟨_,_,rfl,DPut.k h1 (by lia),q _ _ _ r2 n2⟩
|fz _=>exact hf.elim
|ls _ _ _=>exact hf.elim
|ob _ _ _ _ _=>exact hf.elim
|tp _ _ _ _=>exact hf.elim
|wh=>exact hf.elim
|dd _ _ _ _=>exact hf.elim
|dt h1 h2 h3 =>
  simp only [fPut] at hf
  obtain ⟨key,ek,hl,hm⟩:=hf
  obtain ⟨kb,rfl,hb⟩:=zch hk ek
  have el:=h3.len
  obtain ⟨δ2,fps2,r2,n2,_⟩:=rs.one (o2:=.dT _) ha hm h1 (λ fn' hr'=>by cases hr';rfl) (λ fa=>.dt zi0 fa (h3.put (k:=key) hy))
  exact .inr ⟨_,_,rfl,DPut.t h1 (rs.fh _ _ hb) (by lia),q _ _ _ r2 n2⟩
def dPut (dp:DP) (dk de:DE):DS:=λ E δ=>de δ λ d=>dp δ λ i p u=>dk δ λ k=>fPut u k d λ u2=>mutS δ i p u2 E.nx
theorem zmx (he:RfE K te de) (hp:RfP K ta dp) (hk:RfE K ti dk):RfS K (tAsg te (gSub ta ti ziu)) (dPut dp dk de):=by
 intro B F H σ δ fps E Z r h k
 refine he r.fh r.rv h λ d hd y F1 H1 e1 i1=>?_
 have r1:=r.grow e1
 refine hp r1.fh r1.rv hd λ i p u hu v F2 H2 e2 at2=>?_
 have r2:=r1.grow e2
 refine hk r2.fh r2.rv hu λ kd hkd kv F3 H3 e3 i3=>?_
 exact zhq (r2.grow e3) (at2.mono e3.h) i3 (i1.mono (e2.f.trans e3.f)) hkd λ δ2 fps2 H4 r4 n4=>k.nx r4 n4
def fGet (u:T) (k:D) (Q:D->Prop):Prop:=match u with
|.li ds=>match k with
 |.int z=>0<=z/\∃ d,ds[z.toNat]?=some d/\Q d
 |_=>False
|.dk kvs=>∃ key d,keyD k=some key/\getA kvs key=some d/\Q d
|.dt kvs=>∃ key d,keyT k=some key/\getA kvs key=some d/\Q d
|_=>False
theorem zas {F H:Hp} {v kv:V} {u:T} {fn:List Addr} {k:D} {Qd:D->Prop} {Q:VK} (s:Same F H) (hr:Rt K F H v u fn) (hk:Is K F kv k) (hf:fGet u k Qd) (q:∀ d y,Qd d->Is K F y d->Q y H):zxx K v kv H Q:=by
 cases hr with
|li h1 h2 h3 =>
  simp only [fGet] at hf
  split at hf
  ·rename_i z
   obtain ⟨z0,d,ed,qd⟩:=hf
   cases hk.int_inv
   obtain ⟨y,hy,iy⟩:=h3.dget ed
   exact .inl ⟨_,_,z,y,rfl,rfl,z0,SqL.of h1,hy,q d y qd iy⟩
  ·exact hf.elim
|dk h1 h2 h3 =>
  simp only [fGet] at hf
  obtain ⟨key,d,ek,ed,qd⟩:=hf
  have:=zag hk ek
  subst this
  rcases h3.get (k:=key) with ⟨g1,_⟩|⟨d',y,g1,g2,g3⟩
  ·rw [g1] at ed;cases ed
  ·rw [g1] at ed;cases ed
   exact .inr ⟨_,y,rfl,by rw [<- g2];exact DGet.k h1,q d y qd g3⟩
|fz _=>exact hf.elim
|ls _ _ _=>exact hf.elim
|ob _ _ _ _ _=>exact hf.elim
|tp _ _ _ _=>exact hf.elim
|wh=>exact hf.elim
|dd _ _ _ _=>exact hf.elim
|dt h1 h2 h3 =>
  simp only [fGet] at hf
  obtain ⟨key,d,ek,ed,qd⟩:=hf
  obtain ⟨kb,rfl,hb⟩:=zch hk ek
  rcases h3.get (k:=key) with ⟨g1,_⟩|⟨d',y,g1,g2,g3⟩
  ·rw [g1] at ed;cases ed
  ·rw [g1] at ed;cases ed
   exact .inr ⟨_,y,rfl,by rw [<- g2];exact DGet.t h1 (s _ _ hb),q d y qd g3⟩
def fII (f:Int->Int->Int) (x y:D) (Q:D->Prop):Prop:=match x,y with
|.int i,.int j=>Q (.int (f i j))
|_,_=>False
def zp11 (f:Int->Int->Int) (dp:DP) (dk de:DE):DS:=λ E δ=>dp δ λ i p u=>dk δ λ k=>fGet u k λ x=>de δ λ y=>fII f x y λ z=>fPut u k z λ u2=>mutS δ i p u2 E.nx
theorem zhk {f:Int->Int->Int} (hp:RfP K ta dp) (hk:RfE K ti dk) (he:RfE K te de):RfS K (zi01 ta ti te (zxx K) (ipI f) ziu) (zp11 f dp dk de):=by
 intro B F H σ δ fps E Z r h k
 refine hp r.fh r.rv h λ i p u hu v F1 H1 e1 at1=>?_
 have r1:=r.grow e1
 refine hk r1.fh r1.rv hu λ kd hkd kv F2 H2 e2 i2=>?_
 have r2:=r1.grow e2
 have at2:=at1.mono e2.h
 obtain ⟨fn,hr⟩:=at2.rt r2.rv
 refine zas r2.fh hr i2 hkd λ x xv hx ix=>he r2.fh r2.rv hx λ y hy yv F3 H3 e3 i3=>?_
 unfold fII at hy
 split at hy
 ·cases ix.int_inv
  cases i3.int_inv
  refine ⟨_,_,rfl,rfl,?_⟩
  exact zhq (r2.grow e3) (at2.mono e3.h) (i2.mono e3.f) (.int _) hy λ δ2 fps2 H4 r4 n4=>k.nx r4 n4
 ·exact hy.elim
def nGet (dp:DP) (dk:DE):DE:=λ δ Q=>dp δ λ _ _ u=>dk δ λ k=>fGet u k Q
theorem zng (hp:RfP K ta dp) (hk:RfE K ti dk):RfE K (tOp (rIxV w K) ta ti) (nGet dp dk):=by
 intro F H σ δ Qd Q s rv h k
 refine hp s rv h λ i p u hu v F1 H1 e1 at1=>hk e1.fh (rv.ext e1) hu λ kd hkd kv F2 H2 e2 i2=>?_
 have e12:=e1.trans e2
 obtain ⟨fn,hr⟩:=(at1.mono e2.h).rt (rv.ext e12)
 rcases zas (Q:=Q) e12.fh hr i2 hkd λ d y qd iy=>k d qd y F2 H2 e12 iy with ⟨a,xs,j,y,rfl,rfl,j0,h1,h2,q⟩|q
 ·exact .inl (.inl (.inl ⟨a,xs,j,y,rfl,rfl,h1,at_nat' j0 h2,q⟩))
 ·exact .inr q
end
section
variable {K:Fg} {te ta ti tv:TE} {de da di dk:DE} {dc:DC} {tt:TT} {dt:DT} {t u tb:TS} {d e db:DS} {tA:TA} {dA:DF} {g:TG} {dg:DG} {n:Nat} {dp:DP} {w:World}
theorem zqf {F H:Hp} {p:Addr} {o:HO} (s:Same F H) (hn:H p=none):Ext F H F (upd H p o) :=
 ⟨zo1 hn _,λ _ _ z=>z,λ b o z=>zo1 hn _ b o (s b o z),λ _ _ z=>z⟩
def fHas (neg:Bool) (u:T) (k:D) (Q:D->Prop):Prop:=match u with
|.dk kvs=>∃ key,keyD k=some key/\Q (.bool (if neg then !(getA kvs key).isSome else (getA kvs key).isSome))
|.dt kvs=>∃ key,keyT k=some key/\Q (.bool (if neg then !(getA kvs key).isSome else (getA kvs key).isSome))
|_=>False
def nIn (neg:Bool) (dk:DE) (dp:DP):DE:=λ δ Q=>dk δ λ k=>dp δ λ _ _ u=>fHas neg u k Q
theorem zxt {F H:Hp} {v kv:V} {u:T} {fn:List Addr} {k:D} {Qd:D->Prop} {neg:Bool} (s:Same F H) (hr:Rt K F H v u fn) (hk:Is K F kv k) (hf:fHas neg u k Qd):∃ a o,v=.ref a/\DGet H a kv o/\Qd (.bool (if neg then !o.isSome else o.isSome)):=by
 cases hr with
|dk h1 h2 h3 =>
  obtain ⟨key,ek,q⟩:=hf
  have:=zag hk ek
  subst this
  rcases h3.get (k:=key) with ⟨g1,g2⟩|⟨d',y,g1,g2,g3⟩
  ·rw [g1] at q;exact ⟨_,none,rfl,by rw [<- g2];exact DGet.k h1,q⟩
  ·rw [g1] at q;exact ⟨_,some y,rfl,by rw [<- g2];exact DGet.k h1,q⟩
|fz _=>exact hf.elim
|li _ _ _=>exact hf.elim
|ls _ _ _=>exact hf.elim
|ob _ _ _ _ _=>exact hf.elim
|tp _ _ _ _=>exact hf.elim
|wh=>exact hf.elim
|dd _ _ _ _=>exact hf.elim
|dt h1 h2 h3 =>
  obtain ⟨key,ek,q⟩:=hf
  obtain ⟨kb,rfl,hb⟩:=zch hk ek
  rcases h3.get (k:=key) with ⟨g1,g2⟩|⟨d',y,g1,g2,g3⟩
  ·rw [g1] at q;exact ⟨_,none,rfl,by rw [<- g2];exact DGet.t h1 (s _ _ hb),q⟩
  ·rw [g1] at q;exact ⟨_,some y,rfl,by rw [<- g2];exact DGet.t h1 (s _ _ hb),q⟩
theorem zsw (hk:RfE K ti dk) (hp:RfP K ta dp):RfE K (tOp (rInV w K) ti ta) (nIn false dk dp):=by
 intro F H σ δ Qd Q s rv h k
 refine hk s rv h λ kd hkd kv F1 H1 e1 i1=>hp e1.fh (rv.ext e1) hkd λ i p u hu v F2 H2 e2 at2=>?_
 have e12:=e1.trans e2
 obtain ⟨fn,hr⟩:=at2.rt (rv.ext e12)
 obtain ⟨a,o,rfl,g,q⟩:=zxt e12.fh hr (i1.mono e2.f) hu
 exact .inr ⟨a,o,rfl,g,k _ q _ F2 H2 e12 (.bl _)⟩
theorem zfr (hk:RfE K ti dk) (hp:RfP K ta dp):RfE K (tOp (zse w K) ti ta) (nIn true dk dp):=by
 intro F H σ δ Qd Q s rv h k
 refine hk s rv h λ kd hkd kv F1 H1 e1 i1=>hp e1.fh (rv.ext e1) hkd λ i p u hu v F2 H2 e2 at2=>?_
 have e12:=e1.trans e2
 obtain ⟨fn,hr⟩:=at2.rt (rv.ext e12)
 obtain ⟨a,o,rfl,g,q⟩:=zxt e12.fh hr (i1.mono e2.f) hu
 exact .inr ⟨a,o,rfl,g,k _ q _ F2 H2 e12 (.bl _)⟩
abbrev DN:=DSt->(T->Prop)->Prop
def RfN (K:Fg) (te:TE) (dn:DN):Prop:=∀ {F H:Hp} {σ:L2.St} {δ:DSt} {Qd:T->Prop} {Q:VK},Same F H->RV K F H σ δ->dn δ Qd->(∀ r,Qd r->∀ v F' H' fp,Ext F H F' H'->Rt K F' H' v r fp->fp.Nodup->(∀ a∈fp,H a=none)->Q v H')->te σ H Q
def nE (de:DE):DN:=λ δ Q=>de δ λ d=>Q (.fz d)
def nF (df:DF):DN:=λ δ Q=>df δ λ ds=>Q (.li ds)
theorem RfE.new (h:RfE K te de):RfN K te (nE de):=λ s r d k=>h s r d λ x q v F' H' e i=>k _ q v F' H' [] e (.fz i) .nil λ a ha=>by simp at ha
theorem RfF.new {df:DF} (h:RfF K te df):RfN K te (nF df):=λ s r d k=>h s r d λ ds q a xs F' H' e hn h1 h2 h3=>k _ q (.ref a) F' H' [a] e (.li h1 h2 h3) (by simp) λ b hb=>by simp at hb;subst hb;exact hn
def cN (dn:DN):DC:=λ δ Q=>dn δ λ r=>Q r δ
theorem RfN.c {dn:DN} (h:RfN K te dn):RfC K te (cN dn):=by
 intro B F H σ δ fps Qd Q r hd k
 refine h r.fh r.rv hd λ r2 q v F1 H1 fp e1 hr nd fr=>k _ _ q v F1 H1 fps fp ⟨r.grow e1,hr,nd,λ a ha=>?_,λ j s ej hs b hb hb2=>?_⟩
 ·by_cases z:B.H0 a=none
  ·exact z
  ·exact absurd (fr a ha) ((r.al a).1 z)
 ·obtain ⟨x,t,a1,a2,a3,a4,a5⟩:=r.rt j s ej hs
  exact (a3.dom b hb).1 (fr b hb2)
theorem RtAll.app {F H:Hp}:∀ {xs ys:List V} {ts us:List T} {fp fq:List Addr},RtAll K F H xs ts fp->RtAll K F H ys us fq->RtAll K F H (xs++ys) (ts++us) (fp++fq)
|_,_,_,_,_,_,.nil,h=>h
|_,_,_,_,_,_,.cons h r,h'=>by rw [List.append_assoc];exact .cons h (r.app h')
def zm01 (di:DF) (n:Nat) (ix:List Nat) (dg:DG) (dn:DN):DN:=λ δ Q=>di δ λ items=>items.length<=sizeLine/\∃ R:Nat->T->Prop,
 (∀ i d,items[i]?=some d->dg d (cST n ix δ) λ δ'=>dn δ' λ r=>R i r)/\∀ rs:List T,rs.length=items.length->(∀ (j:Nat) r,rs[j]?=some r->R j r)->Q (.ls rs)
theorem zdk {wi:TI} {di:DF} {ix:List Nat} {dn:DN} (hi:RfJ K wi di) (hg:RfG K n g dg) (he:RfN K te dn):RfN K (zuu wi n ix g ziw te) (zm01 di n ix dg dn):=by
 intro F H σ δ Qd Q s rv hd k
 refine hi s rv hd λ items hx J F1 H1 e1 wj D hD=>?_
 obtain ⟨hz,R,hR,hQ⟩:=hx
 have rv1:=zpp n ix (rv.ext e1)
 have F1D:F1 D=none:=by
  cases q:F1 D with
 |none=>rfl
 |some o=>rw [e1.fh D o q] at hD;cases hD
 refine ⟨λ i m acc σ' H'=>m=items.length - i/\i<=items.length/\σ'.length=(compσ n ix σ).length/\(∀ j,n<=j->σ'.getD j none=(compσ n ix σ).getD j none)/\∃ (F':Hp) (rs:List T) (fpA:List Addr),Ext F1 H1 F' H'/\F' D=none/\H' D=some (.lst acc)/\rs.length=i/\(∀ (j:Nat) r,rs[j]?=some r->R j r)/\RtAll K F' H' acc rs fpA/\fpA.Nodup/\(∀ a∈fpA,H1 a=none/\a≠D),
  ⟨items.length,rfl,Nat.zero_le _,rfl,λ _ _=>rfl,F1,[],[],?_,F1D,zi0,rfl,λ j o e=>by simp at e,.nil,.nil,λ a ha=>by simp at ha⟩,?_⟩
 ·exact (zz2 (xs:=[]) e1.fh hD).1
 rintro i m acc σ' H' ⟨rfl,hi',hl,hk,F',rs,fpA,ex,fD,hDD,hrs,hRs,hall,ndA,frA⟩
 obtain ⟨go,stop,yld⟩:=wj F' H' ex
 by_cases hlt:i < items.length
 ·refine .inr ⟨go i hlt,λ acc' σ2 H2=>i+1<=items.length/\σ2.length=(compσ n ix σ).length/\(∀ j,n<=j->σ2.getD j none=(compσ n ix σ).getD j none)/\∃ (F':Hp) (rs:List T) (fpA:List Addr),Ext F1 H1 F' H2/\F' D=none/\H2 D=some (.lst acc')/\rs.length=i+1/\(∀ (j:Nat) r,rs[j]?=some r->R j r)/\RtAll K F' H2 acc' rs fpA/\fpA.Nodup/\(∀ a∈fpA,H1 a=none/\a≠D),λ acc' σ2 H2 p=>⟨items.length - (i+1),by lia,rfl,p⟩,λ x H2 y=>?_⟩
  have hit:items[i]?=some items[i]:=List.getElem?_eq_getElem hlt
  obtain ⟨F2,ex2,ix2⟩:=yld i x H2 _ hit y
  have rv2:RV K F2 H2 σ' (cST n ix δ):=RV.caps (rv1.ext (ex.trans ex2)) hl hk
  refine hg ex2.fh ix2 (hR i _ hit) λ σ2 δ2 hd2 u2=>?_
  have rv3:=u2.rv rv2
  have kp:=u2.keep
  have hl2:σ2.length=(compσ n ix σ).length:=by rw [kp.1,hl]
  have hk2:∀ j,n<=j->σ2.getD j none=(compσ n ix σ).getD j none:=λ j hj=>by rw [kp.2 j hj,hk j hj]
  show te σ2 H2 _
  refine he ex2.fh rv3 hd2 λ r hr v F5 H5 fp e5 i5 nd5 fr5=>?_
  have e25:=ex2.trans e5
  have hD2:H2 D=some (.lst acc):=ex2.h _ _ hDD
  have hD5:H5 D=some (.lst acc):=e25.h _ _ hDD
  have fD5:F5 D=none:=e25.nwo hDD (λ _=>nofun) fD
  have hlen:acc.length<=i:=by rw [hall.len,hrs];exact Nat.le_refl _
  have e15:=ex.trans e25
  have hall5:RtAll K F5 H5 acc rs fpA:=hall.frame e25.f λ a ha=>by
   obtain ⟨d1,d2⟩:=hall.dom a ha
   cases q:H' a with
  |none=>exact absurd q d1
  |some o=>exact ⟨e25.h a o q,e25.nw a (hall.hdd a ha) d2⟩
  have frN:∀ a∈fp,H1 a=none/\a≠D:=λ a ha=>⟨zu1 (ex.trans ex2) (fr5 a ha),λ z=>by subst z;rw [fr5 a ha] at hD2;cases hD2⟩
  refine ⟨hD5,by lia,hlt,hl2,hk2,F5,rs++[r],fpA++fp,⟨λ b o hb=>?_,e15.f,λ b o hb=>?_,e15.nw⟩,fD5,zi0,by simp [hrs],λ j r' e=>?_,?_,?_,λ a ha=>?_⟩
  ·have:b≠D:=λ z=>by subst z;rw [hD] at hb;cases hb
   rw [zp0 this];exact e15.h b o hb
  ·have:b≠D:=λ z=>by subst z;rw [fD5] at hb;cases hb
   rw [zp0 this];exact e15.fh b o hb
  ·rcases Nat.lt_trichotomy j rs.length with h|h|h
   ·rw [List.getElem?_append_left h] at e;exact hRs j r' e
   ·subst h;rw [List.getElem?_append_right (Nat.le_refl _)] at e;simp at e;subst e;rw [hrs];exact hr
   ·rw [List.getElem?_append_right (Nat.le_of_lt h)] at e
    cases q:j - rs.length with
   |zero=>lia
   |succ z=>rw [q] at e;simp at e
  ·have z1:RtAll K F5 (upd H5 D (.lst (acc++[v]))) acc rs fpA:=hall5.frame (λ _ _ z=>z) λ a ha=>⟨zp0 (frA a ha).2,(hall5.dom a ha).2⟩
   have z2:Rt K F5 (upd H5 D (.lst (acc++[v]))) v r fp:=i5.frame (λ _ _ z=>z) λ a ha=>⟨zp0 (frN a ha).2,(i5.dom a ha).2⟩
   have:=z1.app (RtAll.cons z2 .nil)
   rwa [List.append_nil] at this
  ·refine List.nodup_append.mpr ⟨ndA,nd5,λ a ha b hb z=>?_⟩
   subst z
   have:=(hall.dom a ha).1
   exact this (zu1 ex2 (fr5 a hb))
  ·rcases List.mem_append.mp ha with z|z
   ·exact frA a z
   ·exact frN a z
 ·have e:i=items.length:=by lia
  refine .inl ⟨by rw [e];exact stop,k _ (hQ rs (by lia) hRs) (.ref D) F' H' (D :: fpA) (e1.trans ex) (.ls hDD fD hall) (List.nodup_cons.mpr ⟨λ z=>(frA D z).2 rfl,ndA⟩) λ a ha=>?_⟩
  rcases List.mem_cons.mp ha with z|z
  ·rw [z];exact zu1 e1 hD
  ·exact zu1 e1 (frA a z).1
end
section
variable {K:Fg} {te ta ti tv:TE} {de da di dk:DE} {dc:DC} {tt:TT} {dt:DT} {t u tb:TS} {d e db:DS} {tA:TA} {dA:DF} {g:TG} {dg:DG} {n:Nat} {dp:DP} {w:World}
def nSet (f:Str) (u r:T) (N:T->Prop):Prop:=match u with
|.ob C fs=>fs.length < 1000/\N (.ob C (putA f r fs))
|_=>False
theorem Res.grow {B:Bs} {F H F' H':Hp} {σ:L2.St} {δ:DSt} {fps:Nat->List Addr} {v:V} {r:T} {fpr:List Addr} (h:Res K B F H σ δ fps v r fpr) (e:Ext F H F' H'):Res K B F' H' σ δ fps v r fpr :=
 ⟨h.rs.grow e,h.rt.ext e,h.nd,h.fr,h.dj⟩
theorem zny {B:Bs} {F H:Hp} {σ:L2.St} {δ:DSt} {fps:Nat->List Addr} {y:V} {r:T} {fpr:List Addr} {i:Nat} {p:Pth} {a C dx:Addr} {fs:List (Str×V)} {ts:List (Str×T)} {f:Str} {N:DSt->Prop}
  (res:Res K B F H σ δ fps y r fpr) (ha:AtS H σ δ i p (.ref a) (.ob C ts)) (hH:H a=some (.ins C dx fs)) (hm:mutS δ i p (.ob C (putA f r ts)) N):∃ δ2 fps2,RS K B F (upd H a (.ins C dx (putF f y fs))) σ δ2 fps2/\N δ2:=by
 obtain ⟨fn,hr,nd,sub,back⟩:=res.rs.mut ha hm
 obtain ⟨s,hs,ho⟩:∃ s,δ[i]?=some s/\s.own=true:=by
  unfold mutS at hm
  split at hm
  ·rename_i t q;exact ⟨_,q,rfl⟩
  ·rename_i a t q;exact ⟨_,q,rfl⟩
  ·exact hm.elim
 have dis:∀ b∈fn,b ∉ fpr:=λ b hb=>res.dj i s hs (zm4 ho) b (sub b hb)
 cases hr with
|ob g1 g2 g3 g4 g5 =>
  rename_i dx' fs' fp
  rw [hH] at g1;cases g1
  have nd1:=List.nodup_cons.mp nd
  have nd2:=List.nodup_cons.mp nd1.2
  have na:a ∉ fp:=λ z=>nd1.1 (List.mem_cons_of_mem _ z)
  have nx:dx≠a:=λ z=>nd1.1 (by rw [z];simp)
  have nxf:dx ∉ fp:=nd2.1
  have dp':∀ b∈fp,b ∉ fpr:=λ b hb=>dis b (by simp [hb])
  have ra:a ∉ fpr:=dis a (by simp)
  have rx:dx ∉ fpr:=dis dx (by simp)
  have hy:Rt K F (upd H a (.ins C dx (putF f y fs))) y r fpr:=res.rt.frame (λ _ _ z=>z) λ b hb=>⟨zp0 λ z=>by subst z;exact ra hb,(res.rt.dom b hb).2⟩
  have fr0:∀ b∈fp,upd H a (.ins C dx (putF f y fs)) b=H b/\F b=none:=λ b hb=>⟨zp0 λ z=>by subst z;exact na hb,(g5.dom b hb).2⟩
  obtain ⟨fq,hq,ndq,mq⟩:∃ fq,RtFs K F (upd H a (.ins C dx (putF f y fs))) (putF f y fs) (putA f r ts) fq/\fq.Nodup/\∀ b∈fq,b∈fp \/ b∈fpr:=by
   cases q:ts.lookup f with
  |none =>
    refine ⟨fp++fpr,RtFs.add (λ _ _ z=>z) hy g5 q fr0,List.nodup_append.mpr ⟨nd2.2,res.nd,λ b hb c hc z=>?_⟩,λ b hb=>List.mem_append.mp hb⟩
    subst z;exact dp' b hb hc
  |some t0 =>
    obtain ⟨x0,ex⟩:=(g5.keys f).2.1 t0 q
    obtain ⟨fA,fj,fB,e,hj,_,rep⟩:=g5.split ex q
    subst e
    obtain ⟨ndA,ndJB,djA⟩:=List.nodup_append.mp nd2.2
    obtain ⟨ndj,ndB,djB⟩:=List.nodup_append.mp ndJB
    refine ⟨fA++(fpr++fB),rep (λ _ _ z=>z) (λ b hb=>fr0 b (by rcases List.mem_append.mp hb with z|z <;> simp [z])) hy,List.nodup_append.mpr ⟨ndA,List.nodup_append.mpr ⟨res.nd,ndB,λ b hb c hc z=>?_⟩,λ b hb c hc z=>?_⟩,λ b hb=>?_⟩
    ·subst z;exact dp' b (by simp [hc]) hb
    ·subst z
     rcases List.mem_append.mp hc with z|z
     ·exact dp' b (by simp [hb]) z
     ·exact djA b hb b (by simp [z]) rfl
    ·rcases List.mem_append.mp hb with z|z
     ·exact .inl (by simp [z])
     ·rcases List.mem_append.mp z with z|z
      ·exact .inr z
      ·exact .inl (by simp [z])
  obtain ⟨δ2,fps2,r2,n2,_⟩:=back (F2:=F) (H2:=upd H a (.ins C dx (putF f y fs))) (fq:=a :: dx :: fq) (λ b o hb hbo=>by rw [zp0 (λ z=>hb (by simp [z]))];exact hbo) (λ _ _ z=>z) (λ b o z=>by
    have:b≠a:=λ q=>by subst q;rw [g3] at z;cases z
    rw [zp0 this];exact res.rs.fh b o z) (λ b _ fb _=>fb) (zjt (.of zi0 λ _=>nofun)) (λ b hb hf=>by
    have:F b=none:=by
     rcases List.mem_cons.mp hb with z|z
     ·rw [z];exact g3
     ·rcases List.mem_cons.mp z with z|z
      ·rw [z];exact g4
      ·exact (g5.dom b z).2
    exact absurd this hf) (.ob zi0 (by rw [zp0 nx];exact g2) g3 g4 hq) (List.nodup_cons.mpr ⟨λ z=>by
    rcases List.mem_cons.mp z with y|y
    ·exact nx y.symm
    ·rcases mq a y with y|y
     ·exact na y
     ·exact ra y,List.nodup_cons.mpr ⟨λ z=>by
    rcases mq dx z with y|y
    ·exact nxf y
    ·exact rx y,ndq⟩⟩) (λ b hb=>by
    rcases List.mem_cons.mp hb with z|z
    ·exact .inl (by simp [z])
    ·rcases List.mem_cons.mp z with z|z
     ·exact .inl (by simp [z])
     ·rcases mq b z with z|z
      ·exact .inl (by simp [z])
      ·exact .inr ⟨res.fr b z,λ j s' ej hs' hbj=>res.dj j s' ej hs' b hbj z⟩)
  exact ⟨δ2,fps2,r2,n2⟩
def dFld (C:Addr) (f:Str) (dc:DC) (dp:DP):DS:=λ E δ=>dc δ λ r δ1=>dp δ1 λ i p u=>nCls C u/\nSet f u r λ u2=>mutS δ1 i p u2 E.nx
theorem zvn {C:Addr} {f:Str} (c:Cls K C) (na:NoAttr K C f) (hc:RfC K tv dc) (hp:RfP K ta dp):RfS K (sFld K ta tv f) (dFld C f dc dp):=by
 intro B F H σ δ fps E Z r h k
 refine hc r h λ r2 δ1 q y F1 H1 fps1 fpr res=>hp res.rs.fh res.rs.rv q λ i p u hu v F2 H2 e2 at2=>?_
 have res2:=res.grow e2
 obtain ⟨fn,hr⟩:=at2.rt res2.rs.rv
 cases hr with
|ob g1 g2 g3 g4 g5 =>
  obtain ⟨hcl,hl,hm⟩:=hu
  cases (show _=C from hcl)
  have len:=(g5.keys f).2.2
  obtain ⟨δ2,fps2,r3,n3⟩:=zny res2 at2 g1 hm
  exact ⟨_,_,_,_,rfl,g1,c,na,by lia,k.nx r3 n3⟩
|fz _=>exact hu.1.elim
|li _ _ _=>exact hu.1.elim
|ls _ _ _=>exact hu.1.elim
|dk _ _ _=>exact hu.1.elim
|dt _ _ _=>exact hu.1.elim
|tp _ _ _ _=>exact hu.1.elim
|wh=>exact hu.1.elim
|dd _ _ _ _=>exact hu.1.elim
def zjl:List T->Option (List (List D))
|[]=>some []
|.li ds :: r=>(zjl r).map (ds :: ·)
|_ :: _=>none
def toD:T->Option D
|.fz d=>some d
|.li ds=>some (.list ds)
|.ls ts=>(zjl ts).map λ dss=>.list (dss.map PyData.list)
|_=>none
theorem zsk {F H:Hp} (s:Same F H):∀ {xs:List V} {ts:List T} {fp:List Addr} {dss:List (List D)},RtAll K F H xs ts fp->zjl ts=some dss->fp.Nodup->∃ F2,Same F F2/\Same F2 H/\(∀ b,b ∉ fp->F2 b=F b)/\IsAll K F2 xs (dss.map PyData.list)
|_,_,_,_,.nil,e,_=>by cases e;exact ⟨F,λ _ _ z=>z,s,λ _ _=>rfl,.nil⟩
|_,_,_,_,.cons (fp:=fp) (fq:=fq) h r,e,nd=>by
  cases h with
 |li h1 h2 h3 =>
   rename_i a xs0 ds0
   unfold zjl at e
   obtain ⟨dss',e1,rfl⟩:=Option.map_eq_some_iff.mp e
   have nd':=List.nodup_cons.mp nd
   obtain ⟨F1,s1,s2,s3,s4⟩:=zsk s r e1 nd'.2
   have fa:F1 a=none:=by rw [s3 a nd'.1];exact h2
   have sn:Same F1 (upd F1 a (.lst xs0)):=zo1 fa _
   refine ⟨upd F1 a (.lst xs0),s1.trans sn,λ b o z=>?_,λ b hb=>?_,.cons (.lst (SqL.of zi0) (h3.mono (s1.trans sn))) (s4.mono sn)⟩
   ·by_cases q:b=a
    ·subst q;rw [zi0] at z;cases z;exact h1
    ·rw [zp0 q] at z;exact s2 b o z
   ·have hb1:b≠a:=λ z=>hb (by simp [z])
    rw [zp0 hb1];exact s3 b λ z=>hb (by simp [z])
 |_=>cases e
theorem zuz {F H:Hp} (s:Same F H) {v:V} {t:T} {fp:List Addr} {d:D} (h:Rt K F H v t fp) (e:toD t=some d) (nd:fp.Nodup):∃ F2,Same F F2/\Same F2 H/\(∀ b,b ∉ fp->F2 b=F b)/\Is K F2 v d:=by
 cases h with
|fz i=>cases e;exact ⟨F,λ _ _ z=>z,s,λ _ _=>rfl,i⟩
|li h1 h2 h3 =>
  cases e
  rename_i a xs ds
  have sn:=zo1 (H:=F) h2 (.lst xs)
  refine ⟨_,sn,λ b o z=>?_,λ b hb=>zp0 λ q=>hb (by simp [q]),.lst (SqL.of zi0) (h3.mono sn)⟩
  by_cases q:b=a
  ·subst q;rw [zi0] at z;cases z;exact h1
  ·rw [zp0 q] at z;exact s b o z
|ls h1 h2 h3 =>
  rename_i a xs ts fp
  unfold toD at e
  obtain ⟨dss,e1,rfl⟩:=Option.map_eq_some_iff.mp e
  have nd':=List.nodup_cons.mp nd
  obtain ⟨F1,s1,s2,s3,s4⟩:=zsk s h3 e1 nd'.2
  have fa:F1 a=none:=by rw [s3 a nd'.1];exact h2
  have sn:Same F1 (upd F1 a (.lst xs)):=zo1 fa _
  refine ⟨upd F1 a (.lst xs),s1.trans sn,λ b o z=>?_,λ b hb=>?_,.lst (SqL.of zi0) (s4.mono sn)⟩
  ·by_cases q:b=a
   ·subst q;rw [zi0] at z;cases z;exact h1
   ·rw [zp0 q] at z;exact s2 b o z
  ·have hb1:b≠a:=λ z=>hb (by simp [z])
   rw [zp0 hb1];exact s3 b λ z=>hb (by simp [z])
|ob _ _ _ _ _=>cases e
|dk _ _ _=>cases e
|dt _ _ _=>cases e
|tp _ _ _ _=>cases e
|wh=>cases e
|dd _ _ _ _=>cases e
def getP:T->Pth->Option T
|t,[]=>some t
|.ls ts,.ix j :: p=>(ts[j]?).bind λ t=>getP t p
|.tp ts,.ix j :: p=>(ts[j]?).bind λ t=>getP t p
|.ob _ fs,.fl f :: p=>(fs.lookup f).bind λ t=>getP t p
|_,_=>none
theorem zpv {F H:Hp} {p:Pth}:∀ {x:V} {t u:T} {fp:List Addr},Rt K F H x t fp->getP t p=some u->∃ v,At H x t p v u:=by
 induction p with
|nil=>intro x t u fp _ e;unfold getP at e;cases e;exact ⟨x,.nil⟩
|cons q p ih =>
  intro x t u fp h e
  cases h with
 |ls h1 h2 h3 =>
   cases q with
  |ix j =>
    unfold getP at e
    obtain ⟨t1,e1,e2⟩:=Option.bind_eq_some_iff.mp e
    rename_i xs ts fp'
    have el:=h3.len
    have hj:j < ts.length:=by
     rcases Nat.lt_or_ge j ts.length with y|y
     ·exact y
     ·rw [List.getElem?_eq_none y] at e1;cases e1
    obtain ⟨y,hy⟩:∃ y,xs[j]?=some y:=⟨xs[j]'(by lia),List.getElem?_eq_getElem _⟩
    obtain ⟨fA,fj,fB,_,hr,_⟩:=h3.split hy e1
    obtain ⟨v,hv⟩:=ih hr e2
    exact ⟨v,.ix h1 hy e1 hv⟩
  |fl f=>cases e
 |tp h1 h2 gk h3 =>
   cases q with
  |ix j =>
    unfold getP at e
    obtain ⟨t1,e1,e2⟩:=Option.bind_eq_some_iff.mp e
    rename_i xs ts fp'
    have el:=h3.len
    have hj:j < ts.length:=by
     rcases Nat.lt_or_ge j ts.length with y|y
     ·exact y
     ·rw [List.getElem?_eq_none y] at e1;cases e1
    obtain ⟨y,hy⟩:∃ y,xs[j]?=some y:=⟨xs[j]'(by lia),List.getElem?_eq_getElem _⟩
    obtain ⟨fA,fj,fB,_,hr,_⟩:=h3.split hy e1
    obtain ⟨v,hv⟩:=ih hr e2
    exact ⟨v,.tx h1 hy e1 hv⟩
  |fl f=>cases e
 |ob h1 h2 h3 h4 h5 =>
   cases q with
  |fl f =>
    unfold getP at e
    obtain ⟨t1,e1,e2⟩:=Option.bind_eq_some_iff.mp e
    obtain ⟨y,hy⟩:=(h5.keys f).2.1 t1 e1
    obtain ⟨fA,fj,fB,_,hr,_⟩:=h5.split hy e1
    obtain ⟨v,hv⟩:=ih hr e2
    exact ⟨v,.fl h1 hy e1 hv⟩
  |ix j=>cases e
 |fz _=>cases q <;> cases e
 |li _ _ _=>cases q <;> cases e
 |dk _ _ _=>cases q <;> cases e
 |dt _ _ _=>cases q <;> cases e
 |wh=>cases q <;> cases e
 |dd _ _ _ _=>cases q <;> cases e
def fzS (δ:DSt) (i:Nat) (p:Pth) (N:DSt->Prop):Prop:=match δ[i]? with
|some (.ow t)=>∃ u d,getP t p=some u/\toD u=some d/\N (δ.set i (slot (setP t p (.fz d))))
|some (.sh _)=>N δ
|_=>False
def dFrz (i:Nat) (p:Pth) (d:DS):DS:=λ E δ=>fzS δ i p λ δ'=>d E δ'
theorem RS.frz {B:Bs} {F H:Hp} {σ:L2.St} {δ:DSt} {fps:Nat->List Addr} {i:Nat} {p:Pth} {N:DSt->Prop} (r:RS K B F H σ δ fps) (h:fzS δ i p N):∃ F2 δ2 fps2,RS K B F2 H σ δ2 fps2/\N δ2:=by
 unfold fzS at h
 split at h
 ·rename_i t q
  obtain ⟨u,d,eg,ed,hN⟩:=h
  obtain ⟨x,t',a1,a2,a3,a4,a5⟩:=r.rt i _ q rfl
  cases a2
  obtain ⟨v,hv⟩:=zpv a3 eg
  obtain ⟨fn,t1,h1,h2,h3,h4,back⟩:=r.put q rfl ⟨_,_,x,q,rfl,a1,hv⟩
  cases h1
  obtain ⟨F2,s1,s2,s3,s4⟩:=zuz r.fh h2 ed h3
  obtain ⟨fps2,r2,_⟩:=back (F2:=F2) (H2:=H) (fq:=[]) (λ _ _ _ z=>z) s1 s2 (λ b _ fb hb=>by rw [s3 b hb];exact fb) (λ _=>⟨id,id⟩) (λ b hb _=>(r.fr i _ q rfl b (h4 b hb)).elim id λ z=>absurd rfl (z.2 t)) (.fz s4) .nil (λ b hb=>by simp at hb)
  have hw:(Sl.ow t).wth (setP t p (.fz d))=.ow (setP t p (.fz d)):=rfl
  rw [hw] at r2
  -- a slot whose whole is frozen becomes a plain one
  cases hs:setP t p (.fz d) with
 |fz d' =>
   rw [hs] at r2 hN
   obtain ⟨x',t'',b1,b2,b3,b4,b5⟩:=r2.rt i _ (List.getElem?_set_self (by
    rcases Nat.lt_or_ge i δ.length with z|z
    ·exact z
    ·rw [List.getElem?_eq_none z] at q;cases q)) rfl
   cases b2
   obtain ⟨d2,hd2,hi⟩:=zcp (Q:=λ z=>z=d') b3 rfl
   subst hd2
   ·have r3:=r2.setS (i:=i) hi
    rw [List.set_set] at r3
    have eσ:σ.set i (some x')=σ:=by
     apply List.ext_getElem?
     intro j
     rw [List.getElem?_set]
     by_cases hij:i=j
     ·subst hij
      have hlt:i < σ.length:=by
       rw [r.len]
       rcases Nat.lt_or_ge i δ.length with z|z
       ·exact z
       ·rw [List.getElem?_eq_none z] at q;cases q
      simp [hlt]
      have:=zb8 (F:=F) (H:=H) (δ:=δ) b1
      rw [List.getElem?_eq_getElem hlt] at this
      exact (Option.some.inj this).symm
     ·simp [hij]
    rw [eσ] at r3
    exact ⟨F2,_,fps2,r3,hN⟩
 |li _=>rw [hs] at r2 hN;exact ⟨F2,_,fps2,r2,hN⟩
 |ls _=>rw [hs] at r2 hN;exact ⟨F2,_,fps2,r2,hN⟩
 |ob _ _=>rw [hs] at r2 hN;exact ⟨F2,_,fps2,r2,hN⟩
 |dk _=>rw [hs] at r2 hN;exact ⟨F2,_,fps2,r2,hN⟩
 |dt _=>rw [hs] at r2 hN;exact ⟨F2,_,fps2,r2,hN⟩
 |tp _=>rw [hs] at r2 hN;exact ⟨F2,_,fps2,r2,hN⟩
 |wh=>rw [hs] at r2 hN;exact ⟨F2,_,fps2,r2,hN⟩
 |dd _=>rw [hs] at r2 hN;exact ⟨F2,_,fps2,r2,hN⟩
 ·exact ⟨F,δ,fps,r,h⟩
 ·exact h.elim
theorem zxd (i:Nat) (p:Pth) (h:RfS K t d):RfS K t (dFrz i p d):=by
 intro B F H σ δ fps E Z r hd k
 obtain ⟨F2,δ2,fps2,r2,h2⟩:=r.frz hd
 exact h r2 h2 k
end
inductive Arg where
|d (d:D)|b (t:T)|o (t:T)
inductive ArgP where
|d (d:D)|b (i:Nat) (p:Pth) (t:T)|o (i:Nat) (p:Pth) (t:T)
def ArgP.arg:ArgP->Arg
|.d x=>.d x
|.b _ _ x=>.b x
|.o _ _ x=>.o x
inductive ArgsR (K:Fg) (F H:Hp):List V->List Arg->List Addr->Option (Addr×List Addr)->Prop
|nil:ArgsR K F H [] [] [] none
|d {v:V} {d:D} {vs:List V} {as:List Arg} {bf:List Addr} {oo:Option (Addr×List Addr)}:Is K F v d->ArgsR K F H vs as bf oo->ArgsR K F H (v :: vs) (.d d :: as) bf oo
|b {v:V} {t:T} {fp:List Addr} {vs:List V} {as:List Arg} {bf:List Addr} {oo:Option (Addr×List Addr)}:Rt K F H v t fp->fp.Nodup->ArgsR K F H vs as bf oo->ArgsR K F H (v :: vs) (.b t :: as) (fp++bf) oo
|o {a:Addr} {t:T} {fp:List Addr} {vs:List V} {as:List Arg} {bf:List Addr}:Rt K F H (.ref a) t fp->fp.Nodup->ArgsR K F H vs as bf none->ArgsR K F H (.ref a :: vs) (.o t :: as) bf (some (a,fp))
def ofp:Option (Addr×List Addr)->List Addr
|none=>[]
|some x=>x.2
structure Post (K:Fg) (F H:Hp) (oo:Option (Addr×List Addr)) (F' H':Hp) (v:V) (r:T) (fpr:List Addr) (t':T) (fpo:List Addr):Prop where
 hh:∀ b o,b ∉ ofp oo->H b=some o->H' b=some o
 ff:Same F F'
 fh:Same F' H'
 nw:∀ b,HD (H b)->F b=none->F' b=none
 al:∀ b,(H b≠none->H' b≠none)/\(HD (H b)->HD (H' b))
 rt:Rt K F' H' v r fpr
 nd:fpr.Nodup
 fr:∀ a∈fpr,H a=none
 io:∀ a fp,oo=some (a,fp)->Rt K F' H' (.ref a) t' fpo/\fpo.Nodup/\(∀ b∈fpo,b∈fp \/ H b=none)/\∀ b∈fpo,b ∉ fpr
abbrev DSpT:=List Arg->(T->T->Prop)->Prop
def spT (K:Fg) (p:DSpT):Sp:=λ vs H Q _=>∃ F as bf oo Qd,Same F H/\ArgsR K F H vs as bf oo/\(∀ b∈ofp oo,b ∉ bf)/\p as Qd/\∀ r t',Qd r t'->∀ v F' H' fpr fpo,Post K F H oo F' H' v r fpr t' fpo->Q v H'
section
variable {K:Fg} {te ta ti tv:TE} {de da di dk:DE} {dc:DC} {tt:TT} {dt:DT} {t u tb:TS} {d e db:DS} {tA:TA} {dA:DF} {g:TG} {dg:DG} {n:Nat} {dp:DP} {w:World}
inductive ArgsP (K:Fg) (F H:Hp) (σ:L2.St) (δ:DSt):List V->List ArgP->Prop
|nil:ArgsP K F H σ δ [] []
|d {v:V} {d:D} {vs:List V} {as:List ArgP}:Is K F v d->ArgsP K F H σ δ vs as->ArgsP K F H σ δ (v :: vs) (.d d :: as)
|b {v:V} {i:Nat} {p:Pth} {t:T} {vs:List V} {as:List ArgP}:AtS H σ δ i p v t->ArgsP K F H σ δ vs as->ArgsP K F H σ δ (v :: vs) (.b i p t :: as)
|o {v:V} {i:Nat} {p:Pth} {t:T} {vs:List V} {as:List ArgP}:AtS H σ δ i p v t->ArgsP K F H σ δ vs as->ArgsP K F H σ δ (v :: vs) (.o i p t :: as)
abbrev DAT:=DSt->(List ArgP->Prop)->Prop
def RfAT (K:Fg) (ta:TA) (da:DAT):Prop:=∀ {F H:Hp} {σ:L2.St} {δ:DSt} {Qd:List ArgP->Prop} {Q:List V->Hp->Prop},Same F H->RV K F H σ δ->da δ Qd->(∀ as,Qd as->∀ vs F' H',Ext F H F' H'->ArgsP K F' H' σ δ vs as->Q vs H')->ta σ H Q
variable {dA':DAT}
def aNil:DAT:=λ _ Q=>Q []
def aD (de:DE) (dr:DAT):DAT:=λ δ Q=>de δ λ x=>dr δ λ as=>Q (.d x :: as)
def aB (dp:DP) (dr:DAT):DAT:=λ δ Q=>dp δ λ i p t=>dr δ λ as=>Q (.b i p t :: as)
def aO (dp:DP) (dr:DAT):DAT:=λ δ Q=>dp δ λ i p t=>dr δ λ as=>Q (.o i p t :: as)
theorem ze7:RfAT K tNil aNil:=λ s rv h k=>k _ h _ _ _ (Ext.refl s) .nil
theorem at_d (ha:RfE K ta da) (hr:RfAT K tA dA'):RfAT K (zfe ta tA) (aD da dA'):=by
 intro F H σ δ Qd Q s rv h k
 refine ha s rv h λ x hx v F1 H1 e1 i1=>hr e1.fh (rv.ext e1) hx λ as has vs F2 H2 e2 i2=>?_
 exact k _ has _ F2 H2 (e1.trans e2) (.d (i1.mono e2.f) i2)
theorem at_b (ha:RfP K ta dp) (hr:RfAT K tA dA'):RfAT K (zfe ta tA) (aB dp dA'):=by
 intro F H σ δ Qd Q s rv h k
 refine ha s rv h λ i p t hx v F1 H1 e1 i1=>hr e1.fh (rv.ext e1) hx λ as has vs F2 H2 e2 i2=>?_
 exact k _ has _ F2 H2 (e1.trans e2) (.b (i1.mono e2.h) i2)
theorem at_o (ha:RfP K ta dp) (hr:RfAT K tA dA'):RfAT K (zfe ta tA) (aO dp dA'):=by
 intro F H σ δ Qd Q s rv h k
 refine ha s rv h λ i p t hx v F1 H1 e1 i1=>hr e1.fh (rv.ext e1) hx λ as has vs F2 H2 e2 i2=>?_
 exact k _ has _ F2 H2 (e1.trans e2) (.o (i1.mono e2.h) i2)
def noO:List ArgP->Prop
|[]=>True
|.o _ _ _ :: _=>False
|.d _ :: r=>noO r
|.b _ _ _ :: r=>noO r
def noS (i:Nat):List ArgP->Prop
|[]=>True
|.b j _ _ :: r=>j≠i/\noS i r
|.d _ :: r=>noS i r
|.o _ _ _ :: r=>noS i r
def zek:List ArgP->Option (Nat×Pth×T)
|[]=>none
|.o i p t :: _=>some (i,p,t)
|.d _ :: r=>zek r
|.b _ _ _ :: r=>zek r
def oneO (i:Nat):List ArgP->Prop
|[]=>False
|.o _ _ _ :: r=>noO r/\noS i r
|.d _ :: r=>oneO i r
|.b j _ _ :: r=>j≠i/\oneO i r
def zfo (δ:DSt) (i:Nat):Prop:=match δ[i]? with
|some (.ow _)=>True
|some (.io _ _)=>True
|_=>False
def zko:T->Prop
|.fz _=>False
|_=>True
theorem znd {F H:Hp} {σ:L2.St} {δ:DSt} {fps:Nat->List Addr} (rt:∀ {i:Nat} {p:Pth} {v:V} {u:T},AtS H σ δ i p v u->∃ fn,Rt K F H v u fn/\fn.Nodup/\∀ a∈fn,a∈fps i/\∃ s,δ[i]?=some s/\s.has=true):∀ {vs:List V} {as:List ArgP},ArgsP K F H σ δ vs as->noO as->∃ bf,ArgsR K F H vs (as.map ArgP.arg) bf none/\∀ i,noS i as->∀ b∈bf,∃ j,j≠i/\b∈fps j/\∃ s,δ[j]?=some s/\s.has=true
|_,_,.nil,_=>⟨[],.nil,λ i _ b hb=>by simp at hb⟩
|_,_,.d h r,hn=>by
  obtain ⟨bf,h1,h2⟩:=znd rt r hn
  exact ⟨bf,.d h h1,h2⟩
|_,_,.b (i:=i') h r,hn=>by
  obtain ⟨bf,h1,h2⟩:=znd rt r hn
  obtain ⟨fn,g1,g2,g3⟩:=rt h
  refine ⟨fn++bf,.b g1 g2 h1,λ i hi b hb=>?_⟩
  rcases List.mem_append.mp hb with z|z
  ·exact ⟨i',hi.1,(g3 b z).1,(g3 b z).2⟩
  ·exact h2 i hi.2 b z
|_,_,.o h r,hn=>hn.elim
theorem zhc {F H:Hp} {σ:L2.St} {δ:DSt} {fps:Nat->List Addr} (rt:∀ {i:Nat} {p:Pth} {v:V} {u:T},AtS H σ δ i p v u->∃ fn,Rt K F H v u fn/\fn.Nodup/\∀ a∈fn,a∈fps i/\∃ s,δ[i]?=some s/\s.has=true) {i:Nat} {p:Pth} {u:T}:∀ {vs:List V} {as:List ArgP},ArgsP K F H σ δ vs as->zek as=some (i,p,u)->oneO i as->zko u ->
  ∃ a,AtS H σ δ i p (.ref a) u/\∀ fn,Rt K F H (.ref a) u fn->fn.Nodup->∃ bf,ArgsR K F H vs (as.map ArgP.arg) bf (some (a,fn))/\∀ b∈bf,∃ j,j≠i/\b∈fps j/\∃ s,δ[j]?=some s/\s.has=true
|_,_,.nil,e,_,_=>by cases e
|_,_,.d h r,e,hn,hf=>by
  obtain ⟨a,h1,h2⟩:=zhc rt r e hn hf
  refine ⟨a,h1,λ fn g1 g2=>?_⟩
  obtain ⟨bf,k1,k2⟩:=h2 fn g1 g2
  exact ⟨bf,.d h k1,k2⟩
|_,_,.b (i:=i') h r,e,hn,hf=>by
  obtain ⟨a,h1,h2⟩:=zhc rt r e hn.2 hf
  obtain ⟨fb,g1,g2,g3⟩:=rt h
  refine ⟨a,h1,λ fn k1 k2=>?_⟩
  obtain ⟨bf,m1,m2⟩:=h2 fn k1 k2
  refine ⟨fb++bf,.b g1 g2 m1,λ b hb=>?_⟩
  rcases List.mem_append.mp hb with z|z
  ·exact ⟨i',hn.1,(g3 b z).1,(g3 b z).2⟩
  ·exact m2 b z
|_,_,.o h r,e,hn,hf=>by
  cases e
  obtain ⟨bf,m1,m2⟩:=znd rt r hn.1
  obtain ⟨fn0,g1,_,_⟩:=rt h
  cases g1 with
 |fz _=>exact hf.elim
 |li _ _ _=>exact ⟨_,h,λ fn k1 k2=>⟨bf,.o k1 k2 m1,m2 i hn.2⟩⟩
 |ls _ _ _=>exact ⟨_,h,λ fn k1 k2=>⟨bf,.o k1 k2 m1,m2 i hn.2⟩⟩
 |ob _ _ _ _ _=>exact ⟨_,h,λ fn k1 k2=>⟨bf,.o k1 k2 m1,m2 i hn.2⟩⟩
 |dk _ _ _=>exact ⟨_,h,λ fn k1 k2=>⟨bf,.o k1 k2 m1,m2 i hn.2⟩⟩
 |dt _ _ _=>exact ⟨_,h,λ fn k1 k2=>⟨bf,.o k1 k2 m1,m2 i hn.2⟩⟩
 |tp _ _ _ _=>exact ⟨_,h,λ fn k1 k2=>⟨bf,.o k1 k2 m1,m2 i hn.2⟩⟩
 |wh=>exact ⟨_,h,λ fn k1 k2=>⟨bf,.o k1 k2 m1,m2 i hn.2⟩⟩
 |dd _ _ _ _=>exact ⟨_,h,λ fn k1 k2=>⟨bf,.o k1 k2 m1,m2 i hn.2⟩⟩
theorem RS.rtS {B:Bs} {F H:Hp} {σ:L2.St} {δ:DSt} {fps:Nat->List Addr} (r:RS K B F H σ δ fps) {i:Nat} {p:Pth} {v:V} {u:T} (h:AtS H σ δ i p v u):∃ fn,Rt K F H v u fn/\fn.Nodup/\∀ a∈fn,a∈fps i/\∃ s,δ[i]?=some s/\s.has=true:=by
 obtain ⟨s,t,x,h1,h2,h3,h4⟩:=h
 by_cases hs:s.has=true
 ·obtain ⟨x',t',a1,a2,a3,a4,a5⟩:=r.rt i s h1 hs
  rw [h3] at a1;cases a1
  rw [h2] at a2;cases a2
  obtain ⟨fn,g1,g2,g3,_⟩:=zoy h4 a3 a5
  exact ⟨fn,g1,g3,λ a ha=>⟨g2 a ha,s,h1,hs⟩⟩
 ·cases s with
 |sh d =>
   cases h2
   obtain ⟨y,b1,b2⟩:=r.sh i d h1
   rw [h3] at b1;cases b1
   cases h4
   exact ⟨[],.fz b2,.nil,λ a ha=>by simp at ha⟩
 |un=>cases h2
 |ow _=>exact absurd rfl hs
 |bo _=>exact absurd rfl hs
 |io _ _=>exact absurd rfl hs
theorem zyl {δ:DSt} {i:Nat} {p:Pth} {u t0:T} {s:Sl} {N:DSt->Prop} (hi:δ[i]?=some s) (ho:s.own=true) (ht:s.tree=some t0) (h:mutS δ i p u N):N (δ.set i (s.wth (setP t0 p u))):=by
 unfold mutS at h
 rw [hi] at h
 cases s with
|ow t=>cases ht;exact h
|io a t=>cases ht;exact h
|un=>cases ho
|sh _=>cases ho
|bo _=>cases ho
def zdr (p:DSpT) (δ:DSt) (as:List ArgP) (Q:T->DSt->Prop):Prop:=match zek as with
|some (i,q,t)=>zfo δ i/\oneO i as/\zko t/\p (as.map ArgP.arg) λ r t2=>mutS δ i q t2 λ δ'=>Q r δ'
|none=>noO as/\p (as.map ArgP.arg) λ r _=>Q r δ
theorem zqj {B:Bs} {F H:Hp} {σ:L2.St} {δ:DSt} {fps:Nat->List Addr} {p:DSpT} {vs:List V} {as:List ArgP} {Qd:T->DSt->Prop} {Q:VK} {E:XK} (r:RS K B F H σ δ fps) (ha:ArgsP K F H σ δ vs as) (hc:zdr p δ as Qd)
  (k:∀ r δ',Qd r δ'->∀ v F' H' fps' fpr,Res K B F' H' σ δ' fps' v r fpr->Q v H'):spT K p vs H Q E:=by
 unfold zdr at hc
 split at hc
 ·rename_i i q t0 eo
  obtain ⟨ho,h1,hf,hp⟩:=hc
  obtain ⟨s,hs,hso⟩:∃ s,δ[i]?=some s/\s.own=true:=by
   unfold zfo at ho
   split at ho
   ·rename_i q;exact ⟨_,q,rfl⟩
   ·rename_i q;exact ⟨_,q,rfl⟩
   ·exact ho.elim
  obtain ⟨a,hat,hargs⟩:=zhc (λ h=>r.rtS h) ha eo h1 hf
  obtain ⟨fn,t1,g1,g2,g3,g4,back⟩:=r.put hs hso hat
  obtain ⟨bf,m1,m2⟩:=hargs fn g2 g3
  refine ⟨F,_,bf,some (a,fn),_,r.fh,m1,λ b hb hbf=>?_,hp,λ r2 t2 q2 v F' H' fpr fpo post=>?_⟩
  ·obtain ⟨j,hj,hbj,sj,e1,hh⟩:=m2 b hbf
   exact r.dj i j s sj (λ z=>hj z.symm) hs e1 hso hh b (g4 b hb) hbj
  ·obtain ⟨io1,io2,io3,io4⟩:=post.io a fn rfl
   obtain ⟨fps2,r2',e2,e3⟩:=back (F2:=F') (H2:=H') (u2:=t2) (fq:=fpo) post.hh post.ff post.fh (λ b hb fb _=>post.nw b hb fb) post.al (λ b hb f=>absurd (post.nw b (g2.hdd b hb) (g2.dom b hb).2) f) io1 io2 (λ b hb=>(io3 b hb).elim .inl λ z=>.inr (r.newOk z))
   have qd:=zyl hs hso g1 q2
   refine k _ _ qd v F' H' fps2 fpr ⟨r2',post.rt,post.nd,λ b hb=>(r.newOk (post.fr b hb)).1,λ j s' ej hs' b hb hbr=>?_⟩
   have fresh:=post.fr b hbr
   by_cases hji:j=i
   ·subst hji
    rcases e3 b hb with z|z
    ·obtain ⟨x',t',a1,a2,a3,a4,a5⟩:=r.rt j s hs (zm4 hso)
     exact (a3.dom b z).1 fresh
    ·exact io4 b z hbr
   ·rw [e2 j hji] at hb
    rw [List.getElem?_set_ne (λ z=>hji z.symm)] at ej
    exact (r.newOk fresh).2 j s' ej hs' hb
 ·rename_i eo
  obtain ⟨hn,hp⟩:=hc
  obtain ⟨bf,m1,_⟩:=znd (λ h=>r.rtS h) ha hn
  refine ⟨F,_,bf,none,_,r.fh,m1,λ b hb=>by simp [ofp] at hb,hp,λ r2 t2 q2 v F' H' fpr fpo post=>?_⟩
  have ex:Ext F H F' H':=⟨λ b o hb=>post.hh b o (by simp [ofp]) hb,post.ff,post.fh,post.nw⟩
  exact k _ _ q2 v F' H' fps fpr ⟨r.grow ex,post.rt,post.nd,λ b hb=>(r.newOk (post.fr b hb)).1,λ j s' ej hs' b hb hbr=>(r.newOk (post.fr b hbr)).2 j s' ej hs' hb⟩
def noM (m:Str) (u:T):Prop:=match u with
|.ob _ fs=>fs.lookup m=none
|_=>False
def zd01 (o:Bool) (C:Addr) (m:Str) (p:DSpT) (dp:DP) (da:DAT):DC:=λ δ Q=>dp δ λ i q u=>nCls C u/\noM m u/\da δ λ as=>zdr p δ ((if o then .o i q u else .b i q u) :: as) Q
theorem zod {F H:Hp} {v:V} {u:T} {fn:List Addr} {C:Addr} {m:Str} (hr:Rt K F H v u fn) (hc:nCls C u) (hm:noM m u):∃ a dx fs,v=.ref a/\H a=some (.ins C dx fs)/\fs.lookup m=none:=by
 cases hr with
|ob g1 g2 g3 g4 g5 =>
  cases (show _=C from hc)
  exact ⟨_,_,_,rfl,g1,(g5.keys m).1 hm⟩
|fz _=>exact hc.elim
|li _ _ _=>exact hc.elim
|ls _ _ _=>exact hc.elim
|dk _ _ _=>exact hc.elim
|dt _ _ _=>exact hc.elim
|tp _ _ _ _=>exact hc.elim
|wh=>exact hc.elim
|dd _ _ _ _=>exact hc.elim
theorem zc5 {p:DSpT} {E:XK} {C:Addr} {m:Str} (o:Bool) (hp:RfP K ta dp) (h:RfAT K tA dA'):RfC K (zeo C m (spT K p) [] E ta tA) (zd01 o C m p dp dA'):=by
 intro B F H σ δ fps Qd Q r hd k
 refine hp r.fh r.rv hd λ i q u hu v F1 H1 e1 at1=>?_
 have r1:=r.grow e1
 obtain ⟨fn,hr⟩:=at1.rt r1.rv
 obtain ⟨a,dx,fs,rfl,h1,h2⟩:=zod hr hu.1 hu.2.1
 refine ⟨a,dx,fs,rfl,h1,h2,h r1.fh r1.rv hu.2.2 λ as has vs F2 H2 e2 i2=>?_⟩
 rw [List.append_nil]
 have at2:=at1.mono e2.h
 cases o with
|true=>exact zqj (r1.grow e2) (.o at2 i2) has k
|false=>exact zqj (r1.grow e2) (.b at2 i2) has k
def zhu (p:DSpT) (as:List ArgP) (Q:T->Prop):Prop:=noO as/\p (as.map ArgP.arg) λ r _=>Q r
theorem AtS.rtV {F H:Hp} {σ:L2.St} {δ:DSt} (r:RV K F H σ δ) {i:Nat} {p:Pth} {v:V} {u:T} (h:AtS H σ δ i p v u):∃ fn,Rt K F H v u fn/\fn.Nodup:=by
 obtain ⟨s,t,x,h1,h2,h3,h4⟩:=h
 obtain ⟨y,fp,e,hr,nd⟩:=(r.sl i s h1).rt h2
 rw [h3] at e;cases e
 obtain ⟨fn,g1,_,g3,_⟩:=zoy h4 hr nd
 exact ⟨fn,g1,g3⟩
theorem zbd {F H:Hp} {σ:L2.St} {δ:DSt} (r:RV K F H σ δ):∀ {vs:List V} {as:List ArgP},ArgsP K F H σ δ vs as->noO as->∃ bf,ArgsR K F H vs (as.map ArgP.arg) bf none
|_,_,.nil,_=>⟨[],.nil⟩
|_,_,.d h q,hn=>by
  obtain ⟨bf,h1⟩:=zbd r q hn
  exact ⟨bf,.d h h1⟩
|_,_,.b h q,hn=>by
  obtain ⟨bf,h1⟩:=zbd r q hn
  obtain ⟨fn,g1,g2⟩:=h.rtV r
  exact ⟨fn++bf,.b g1 g2 h1⟩
|_,_,.o h r,hn=>hn.elim
theorem zxn {F H:Hp} {σ:L2.St} {δ:DSt} {p:DSpT} {vs:List V} {as:List ArgP} {Qd:T->Prop} {Q:VK} {E:XK} (s:Same F H) (r:RV K F H σ δ) (ha:ArgsP K F H σ δ vs as) (hc:zhu p as Qd)
  (k:∀ r,Qd r->∀ v F' H' fp,Ext F H F' H'->Rt K F' H' v r fp->fp.Nodup->(∀ a∈fp,H a=none)->Q v H'):spT K p vs H Q E:=by
 obtain ⟨bf,m1⟩:=zbd r ha hc.1
 refine ⟨F,_,bf,none,_,s,m1,λ b hb=>by simp [ofp] at hb,hc.2,λ r2 t2 q2 v F' H' fpr fpo post=>?_⟩
 exact k _ q2 v F' H' fpr ⟨λ b o hb=>post.hh b o (by simp [ofp]) hb,post.ff,post.fh,post.nw⟩ post.rt post.nd post.fr
def zl11 (C:Addr) (m:Str) (p:DSpT) (dp:DP) (da:DAT):DN:=λ δ Q=>dp δ λ i q u=>nCls C u/\noM m u/\da δ λ as=>zhu p (.b i q u :: as) Q
theorem zpo {p:DSpT} {E:XK} {C:Addr} {m:Str} (hp:RfP K ta dp) (h:RfAT K tA dA'):RfN K (zeo C m (spT K p) [] E ta tA) (zl11 C m p dp dA'):=by
 intro F H σ δ Qd Q s rv hd k
 refine hp s rv hd λ i q u hu v F1 H1 e1 at1=>?_
 have rv1:=rv.ext e1
 obtain ⟨fn,hr⟩:=at1.rt rv1
 obtain ⟨a,dx,fs,rfl,h1,h2⟩:=zod hr hu.1 hu.2.1
 refine ⟨a,dx,fs,rfl,h1,h2,h e1.fh rv1 hu.2.2 λ as has vs F2 H2 e2 i2=>?_⟩
 rw [List.append_nil]
 have e12:=e1.trans e2
 exact zxn e2.fh (rv.ext e12) (.b (at1.mono e2.h) i2) has λ r q v F' H' fp e3 h1 h2 h3=>k r q v F' H' fp (e12.trans e3) h1 h2 λ a ha=>zu1 e12 (h3 a ha)
def eN (dn:DN):DE:=λ δ Q=>dn δ λ r=>fzT r Q
theorem RfN.ex {dn:DN} (h:RfN K te dn):RfE K te (eN dn):=λ s rv hd k=>h s rv hd λ r q v F' H' fp e1 h1 h2 h3=>by
 obtain ⟨d,qd,i⟩:=zcp h1 q
 exact k d qd v F' H' e1 i
def zf11 (C:Addr) (p:DSpT) (da:DAT):DN:=λ δ Q=>da δ λ as=>noO as/\p (.o (.ob C []) :: as.map ArgP.arg) λ r t2=>(match r with|.fz .none=>True|_=>False)/\Q t2
theorem zsp {p:DSpT} {E:XK} {C:Addr} (h:RfAT K tA dA'):RfN K (zdz C (spT K p) [] E tA) (zf11 C p dA'):=by
 intro F H σ δ Qd Q s rv hd k
 refine h s rv hd λ as has vs F1 H1 e1 i1=>?_
 intro x dx hx hdx hne
 obtain ⟨bf,m1⟩:=zbd (rv.ext e1) i1 has.1
 have hH:∀ b,b≠x->b≠dx->upd (upd H1 dx (.own x)) x (.ins C dx []) b=H1 b:=λ b h1 h2=>by rw [zp0 h1,zp0 h2]
 have s2:Same H1 (upd (upd H1 dx (.own x)) x (.ins C dx [])):=λ b o z=>by
  rw [hH b (λ q=>by subst q;rw [hx] at z;cases z) (λ q=>by subst q;rw [hdx] at z;cases z)];exact z
 have fx:F1 x=none:=by
  cases q:F1 x with
 |none=>rfl
 |some o=>rw [e1.fh x o q] at hx;cases hx
 have fdx:F1 dx=none:=by
  cases q:F1 dx with
 |none=>rfl
 |some o=>rw [e1.fh dx o q] at hdx;cases hdx
 have m2:ArgsR K F1 (upd (upd H1 dx (.own x)) x (.ins C dx [])) vs (as.map ArgP.arg) bf none/\∀ b∈bf,H1 b≠none:=by
  have key:∀ {vs:List V} {as:List Arg} {bf:List Addr} {oo:Option (Addr×List Addr)},ArgsR K F1 H1 vs as bf oo->oo=none->ArgsR K F1 (upd (upd H1 dx (.own x)) x (.ins C dx [])) vs as bf none/\∀ b∈bf,H1 b≠none:=λ {vs as bf oo} hh=>by
   induction hh with
  |nil=>intro _;exact ⟨.nil,λ b hb=>by simp at hb⟩
  |d h1 _ ih=>intro e;exact ⟨.d h1 (ih e).1,(ih e).2⟩
  |b h1 h2 _ ih =>
    intro e
    refine ⟨.b (h1.frame (λ _ _ z=>z) λ b hb=>⟨?_,(h1.dom b hb).2⟩) h2 (ih e).1,λ b hb=>?_⟩
    ·exact hH b (λ q=>by subst q;exact (h1.dom b hb).1 hx) (λ q=>by subst q;exact (h1.dom b hb).1 hdx)
    ·rcases List.mem_append.mp hb with z|z
     ·exact (h1.dom b z).1
     ·exact (ih e).2 b z
  |o _ _ _ _=>intro e;cases e
  exact key m1 rfl
 refine ⟨F1,_,bf,some (x,[x,dx]),_,e1.fh.trans s2,.o (.ob zi0 (by rw [zp0 hne,zi0]) fx fdx .nil) (by simp [Ne.symm hne]) (by rw [List.append_nil];exact m2.1),λ b hb hbf=>?_,has.2,λ r t2 q2 v F' H' fpr fpo post=>?_⟩
 ·have:=m2.2 b hbf
  simp [ofp] at hb
  rcases hb with z|z
  ·exact this (by rw [z];exact hx)
  ·exact this (by rw [z];exact hdx)
 ·obtain ⟨q0,q1⟩:=q2
  obtain ⟨io1,io2,io3,io4⟩:=post.io x [x,dx] rfl
  refine ⟨?_,k _ q1 (.ref x) F' H' fpo (e1.trans ⟨λ b o z=>?_,post.ff,post.fh,λ b hb fb=>post.nw b (hb.mono s2) fb⟩) io1 io2 λ b hb=>zu1 e1 ?_⟩
  ·split at q0
   ·cases post.rt with
   |fz i=>exact i.non_inv
   ·exact q0.elim
  ·refine post.hh b o (λ w=>?_) (s2 b o z)
   simp [ofp] at w
   rcases w with w|w
   ·rw [w,hx] at z;cases z
   ·rw [w,hdx] at z;cases z
  ·rcases io3 b hb with z|z
   ·simp at z
    rcases z with z|z
    ·rw [z];exact hx
    ·rw [z];exact hdx
   ·cases q:H1 b with
   |none=>rfl
   |some o=>rw [s2 b o q] at z;cases z
end
section
variable {P:Program} {w:World} {K:Fg} {mg:Str->Option Value} {base:Heap}
def zcy (a:Addr):Arg->Sl
|.d x=>.sh x
|.b x=>.bo x
|.o x=>.io a x
def zsd (N:List Str) (a:Addr) (as:List Arg):DSt:=as.map (zcy a)++List.replicate (N.length - as.length) .un
def oIx:List Arg->Option Nat
|[]=>none
|.o _ :: _=>some 0
|.d _ :: r=>(oIx r).map (·+1)
|.b _ :: r=>(oIx r).map (·+1)
def exA (as:List Arg) (a:Addr) (Qd:T->T->Prop) (r:T) (δ:DSt):Prop:=match oIx as with
|none=>Qd r (.fz .none)
|some k=>∃ t',δ[k]?=some (.io a t')/\Qd r t'
def zl01 (as:List Arg) (a:Addr) (Qd:T->T->Prop):DEnds:={ nx:=exA as a Qd (.fz .none),rt:=exA as a Qd }
theorem zla {F H:Hp}:∀ {vs:List V} {as:List Arg} {bf:List Addr} {oo:Option (Addr×List Addr)},ArgsR K F H vs as bf oo->vs.length=as.length/\∃ fl:Nat->List Addr,
  (∀ (k:Nat) x,as[k]?=some (.d x)->∃ v,vs[k]?=some v/\Is K F v x) /\
  (∀ (k:Nat) x,as[k]?=some (.b x)->∃ v,vs[k]?=some v/\Rt K F H v x (fl k)/\(fl k).Nodup/\∀ b∈fl k,b∈bf) /\
  (∀ (k:Nat) x,as[k]?=some (.o x)->∃ a,vs[k]?=some (.ref a)/\oo=some (a,fl k)/\Rt K F H (.ref a) x (fl k)/\(fl k).Nodup/\oIx as=some k)/\(oo=none->oIx as=none)/\(∀ a fp,oo=some (a,fp)->∃ k x,as[k]?=some (.o x)/\fl k=fp/\oIx as=some k)
|_,_,_,_,.nil=>⟨rfl,λ _=>[],λ k x e=>by simp at e,λ k x e=>by simp at e,λ k x e=>by simp at e,λ _=>rfl,λ a fp e=>by cases e⟩
|_,_,_,_,.d h r=>by
  obtain ⟨hl,fl,h1,h2,h3,h4,h5⟩:=zla r
  refine ⟨by simp [hl],λ k=>fl (k - 1),λ k x e=>?_,λ k x e=>?_,λ k x e=>?_,λ e=>?_,λ a fp e=>?_⟩
  ·cases k with
  |zero=>simp at e;subst e;exact ⟨_,rfl,h⟩
  |succ k=>obtain ⟨v,g1,g2⟩:=h1 k x (by simpa using e);exact ⟨v,by simpa using g1,g2⟩
  ·cases k with
  |zero=>simp at e
  |succ k=>obtain ⟨v,g1,g2⟩:=h2 k x (by simpa using e);exact ⟨v,by simpa using g1,g2⟩
  ·cases k with
  |zero=>simp at e
  |succ k=>obtain ⟨v,g1,g2,g3,g4,g5⟩:=h3 k x (by simpa using e);exact ⟨v,by simpa using g1,g2,g3,g4,by simp [oIx,g5]⟩
  ·simp [oIx,h4 e]
  ·obtain ⟨k,x,g1,g2,g3⟩:=h5 a fp e
   exact ⟨k+1,x,by simpa using g1,g2,by simp [oIx,g3]⟩
|_,_,_,_,.b (fp:=fp) (bf:=bf) h nd r=>by
  obtain ⟨hl,fl,h1,h2,h3,h4,h5⟩:=zla r
  refine ⟨by simp [hl],λ k=>if k=0 then fp else fl (k - 1),λ k x e=>?_,λ k x e=>?_,λ k x e=>?_,λ e=>?_,λ a fp' e=>?_⟩
  ·cases k with
  |zero=>simp at e
  |succ k=>obtain ⟨v,g1,g2⟩:=h1 k x (by simpa using e);exact ⟨v,by simpa using g1,g2⟩
  ·cases k with
  |zero=>simp at e;subst e;exact ⟨_,rfl,h,nd,λ b hb=>by simp at hb ⊢;exact .inl hb⟩
  |succ k=>obtain ⟨v,g1,g2,g3,g4⟩:=h2 k x (by simpa using e);exact ⟨v,by simpa using g1,g2,g3,λ b hb=>by have:=g4 b (by simpa using hb);simp [this]⟩
  ·cases k with
  |zero=>simp at e
  |succ k=>obtain ⟨v,g1,g2,g3,g4,g5⟩:=h3 k x (by simpa using e);exact ⟨v,by simpa using g1,g2,g3,g4,by simp [oIx,g5]⟩
  ·simp [oIx,h4 e]
  ·obtain ⟨k,x,g1,g2,g3⟩:=h5 a fp' e
   exact ⟨k+1,x,by simpa using g1,by simpa using g2,by simp [oIx,g3]⟩
|_,_,_,_,.o (a:=a) (fp:=fp) h nd r=>by
  obtain ⟨hl,fl,h1,h2,h3,h4,h5⟩:=zla r
  refine ⟨by simp [hl],λ k=>if k=0 then fp else fl (k - 1),λ k x e=>?_,λ k x e=>?_,λ k x e=>?_,λ e=>(by cases e),λ a' fp' e=>?_⟩
  ·cases k with
  |zero=>simp at e
  |succ k=>obtain ⟨v,g1,g2⟩:=h1 k x (by simpa using e);exact ⟨v,by simpa using g1,g2⟩
  ·cases k with
  |zero=>simp at e
  |succ k=>obtain ⟨v,g1,g2,g3,g4⟩:=h2 k x (by simpa using e);exact ⟨v,by simpa using g1,g2,g3,λ b hb=>g4 b (by simpa using hb)⟩
  ·cases k with
  |zero=>simp at e;subst e;exact ⟨a,rfl,rfl,h,nd,rfl⟩
  |succ k =>
    obtain ⟨v,g1,g2,g3,g4,g5⟩:=h3 k x (by simpa using e)
    cases g2
  ·cases e
   exact ⟨0,_,rfl,rfl,rfl⟩
theorem zqa {qual:Str} {st:Stmt} {N:List Str} {k:Nat} {p:DSpT}
  (body:∀ (f:Addr) (cdv:Value) (A:Around) (outer:List Env) (s:Shared) (H:Hp) (E:XK),Room k (A.deeper (envOfC qual (zf0 st) s.heap.objs.size f cdv))->∃ t d,PSs (cxOf CX0 P w K mg base N qual (zf0 st) f cdv A outer s H E).nox (zs1 st) t/\RfS K t d/\∀ as Qd a,p as Qd->d (zl01 as a Qd) (zsd N a as)) :
  zw3 P w K mg base qual st N k (spT K p):=by
 intro f cdv A outer s H vs Q E hr h
 obtain ⟨F,as,bf,oo,Qd,sf,ha,hd,hp,hq⟩:=h
 obtain ⟨t,d,h1,h2,h3⟩:=body f cdv A outer s H E hr
 obtain ⟨hl,fl,a1,a2,a3,a4,a5⟩:=zla ha
 obtain ⟨a,haa⟩:∃ a:Addr,∀ a' fp,oo=some (a',fp)->a'=a:=by
  cases oo with
 |none=>exact ⟨0,λ a' fp e=>by cases e⟩
 |some x=>exact ⟨x.1,λ a' fp e=>by cases e;rfl⟩
 have slot:∀ (i:Nat) sl,(zsd N a as)[i]?=some sl->(sl=.un/\as.length<=i) \/ ∃ g,as[i]?=some g/\sl=zcy a g:=λ i sl e=>by
  unfold zsd at e
  by_cases hi:i < as.length
  ·rw [List.getElem?_append_left (by simpa using hi),List.getElem?_map] at e
   obtain ⟨g,h1,h2⟩:=Option.map_eq_some_iff.mp e
   exact .inr ⟨g,h1,h2.symm⟩
  ·rw [List.getElem?_append_right (by simpa using hi),List.getElem?_replicate] at e
   split at e
   ·cases e;exact .inl ⟨rfl,by lia⟩
   ·cases e
 have val:∀ (i:Nat) v,vs[i]?=some v->(L2.start N vs).getD i none=some v:=λ i v e=>by
  have hi:i < vs.length:=by
   rcases Nat.lt_or_ge i vs.length with z|z
   ·exact z
   ·rw [List.getElem?_eq_none z] at e;cases e
  unfold L2.start
  rw [List.getD_eq_getElem?_getD,List.getElem?_append_left (by simpa using hi),List.getElem?_map,e]
  rfl
 have rs:RS K ⟨F,H,ofp oo⟩ F H (L2.start N vs) (zsd N a as) fl:=by
  refine ⟨λ b o _ z=>z,λ _ _ z=>z,sf,λ b _ z=>z,λ b=>⟨id,id⟩,by simp [L2.start,zsd,hl],λ i x e=>?_,λ i sl e hs=>?_,λ i sl e ho b hb=>?_,λ i j sl sl' hij e1 e2 o1 o2 b hb hb2=>?_⟩
  ·rcases slot i _ e with ⟨z,_⟩|⟨g,e1,e2⟩
   ·cases z
   ·cases g with
   |d x'=>cases e2;obtain ⟨v,g1,g2⟩:=a1 i x e1;exact ⟨v,val i v g1,g2⟩
   |b _=>cases e2
   |o _=>cases e2
  ·rcases slot i _ e with ⟨z,_⟩|⟨g,e1,e2⟩
   ·rw [z] at hs;cases hs
   ·cases g with
   |d x'=>rw [e2] at hs;cases hs
   |b x' =>
     obtain ⟨v,g1,g2,g3,g4⟩:=a2 i x' e1
     rw [e2]
     exact ⟨v,x',val i v g1,rfl,g2,λ a u z=>(by cases z),g3⟩
   |o x' =>
     obtain ⟨a',g1,g2,g3,g4,g5⟩:=a3 i x' e1
     have:=haa a' _ g2
     subst this
     rw [e2]
     exact ⟨_,x',val i _ g1,rfl,g3,λ a u z=>(by cases z;rfl),g4⟩
  ·rcases slot i _ e with ⟨z,_⟩|⟨g,e1,e2⟩
   ·rw [z] at ho;cases ho
   ·cases g with
   |d x'=>rw [e2] at ho;cases ho
   |b x'=>rw [e2] at ho;cases ho
   |o x' =>
     obtain ⟨a',g1,g2,g3,g4,g5⟩:=a3 i x' e1
     refine .inr ⟨?_,λ t z=>?_⟩
     ·show b∈ofp oo
      rw [g2];exact hb
     ·rw [e2] at z;cases z
  ·rcases slot i _ e1 with ⟨z,_⟩|⟨g,f1,f2⟩
   ·rw [z] at o1;cases o1
   ·cases g with
   |d x'=>rw [f2] at o1;cases o1
   |b x'=>rw [f2] at o1;cases o1
   |o x' =>
     obtain ⟨a',g1,g2,g3,g4,g5⟩:=a3 i x' f1
     rcases slot j _ e2 with ⟨z,_⟩|⟨g',f1',f2'⟩
     ·rw [z] at o2;cases o2
     ·cases g' with
     |d x''=>rw [f2'] at o2;cases o2
     |b x'' =>
       obtain ⟨v,k1,k2,k3,k4⟩:=a2 j x'' f1'
       exact hd b (by rw [g2];exact hb) (k4 b hb2)
     |o x'' =>
       obtain ⟨a'',k1,k2,k3,k4,k5⟩:=a3 j x'' f1'
       rw [g5] at k5
       exact hij (Option.some.inj k5)
 have fin:∀ {F' H':Hp} {σ':L2.St} {δ':DSt} {fps':Nat->List Addr} {v:V} {r:T} {fpr:List Addr},Res K ⟨F,H,ofp oo⟩ F' H' σ' δ' fps' v r fpr->exA as a Qd r δ'->Q v H':=λ {F' H' σ' δ' fps' v r fpr} res ex=>by
  unfold exA at ex
  split at ex
  ·rename_i eo
   refine hq r (.fz .none) ex v F' H' fpr [] ⟨res.rs.hh,res.rs.ff,res.rs.fh,res.rs.nw,res.rs.al,res.rt,res.nd,res.fr,λ a' fp e=>?_⟩
   obtain ⟨k,x,g1,g2,g3⟩:=a5 a' fp e
   rw [eo] at g3;cases g3
  ·rename_i ko eo
   obtain ⟨t',et,qd⟩:=ex
   obtain ⟨x',t'',b1,b2,b3,b4,b5⟩:=res.rs.rt ko _ et rfl
   cases b2
   have:=b4 a t' rfl
   subst this
   refine hq r t' qd v F' H' fpr (fps' ko) ⟨res.rs.hh,res.rs.ff,res.rs.fh,res.rs.nw,res.rs.al,res.rt,res.nd,res.fr,λ a' fp e=>?_⟩
   have ea:=haa a' fp e
   subst ea
   refine ⟨b3,b5,λ b hb=>?_,λ b hb=>res.dj ko _ et rfl b hb⟩
   rcases res.rs.fr ko _ et rfl b hb with z|⟨z,_⟩
   ·exact .inr z
   ·have:b∈ofp oo:=z
    rw [e] at this
    exact .inl this
 refine ⟨t,h1,h2 rs (h3 as Qd a hp) ⟨λ r q=>fin ⟨r,.fz .non,.nil,λ a ha=>by simp at ha,λ _ _ _ _ a _ ha=>by simp at ha⟩ q,λ _ z=>z.elim,λ _ z=>z.elim,λ res q=>fin res q⟩⟩
theorem zsm {F H:Hp} {vs:List V} {as:List Arg} {bf:List Addr} {oo:Option (Addr×List Addr)} (h:ArgsR K F H vs as bf oo):vs.length=as.length:=(zla h).1
theorem zak {p:DSpT} {ps:List Str} (h:∀ as Qd,p as Qd->as.length=ps.length):∀ vs H Q E,spT K p vs H Q E->vs.length=ps.length:=λ vs H Q E z=>by
 obtain ⟨F,as,bf,oo,Qd,_,ha,_,hp,_⟩:=z
 rw [zsm ha];exact h as Qd hp
def zy8 (N:List Str) (ds:List D):DSt:=ds.map Sl.sh++List.replicate (N.length - ds.length) .un
def rD (Qd:D->Prop) (r:T) (_:DSt):Prop:=match r with
|.fz d=>Qd d
|.li ds=>Qd (.list ds)
|.ls ts=>∃ d,toD (.ls ts)=some d/\Qd d
|_=>False
theorem zft {Qd:D->Prop} {r:T} {δ:DSt} (h:rD Qd r δ):∃ d,toD r=some d/\Qd d:=by
 cases r with
|fz d=>exact ⟨d,rfl,h⟩
|li ds=>exact ⟨_,rfl,h⟩
|ls ts=>exact h
|ob _ _=>exact h.elim
|dk _=>exact h.elim
|dt _=>exact h.elim
|tp _=>exact h.elim
|wh=>exact h.elim
|dd _=>exact h.elim
theorem zkg {F H:Hp} {N:List Str} {vs:List V} {ds:List D} (s:Same F H) (h:IsAll K F vs ds):RS K ⟨F,H,[]⟩ F H (L2.start N vs) (zy8 N ds) (λ _=>[]):=by
 have el:=h.dlen
 have no:∀ (i:Nat) sl,(zy8 N ds)[i]?=some sl->sl.has=true->False:=λ i sl e hs=>by
  unfold zy8 at e
  by_cases hi:i < ds.length
  ·rw [List.getElem?_append_left (by simpa using hi),List.getElem?_map] at e
   obtain ⟨x,_,z⟩:=Option.map_eq_some_iff.mp e
   subst z;cases hs
  ·rw [List.getElem?_append_right (by simpa using hi),List.getElem?_replicate] at e
   split at e
   ·cases e;cases hs
   ·cases e
 refine ⟨λ b o _ z=>z,λ _ _ z=>z,s,λ b _ z=>z,λ b=>⟨id,id⟩,by simp [L2.start,zy8,el],λ i x e=>?_,λ i sl e hs=>(no i sl e hs).elim,λ i sl e ho=>(no i sl e (zm4 ho)).elim,λ i j sl sl' _ e _ o _=>(no i sl e (zm4 o)).elim⟩
 unfold zy8 at e
 unfold L2.start
 by_cases hi:i < ds.length
 ·rw [List.getElem?_append_left (by simpa using hi),List.getElem?_map] at e
  obtain ⟨y,hx,z⟩:=Option.map_eq_some_iff.mp e
  cases z
  obtain ⟨v,hv,iv⟩:=h.dget hx
  refine ⟨v,?_,iv⟩
  rw [List.getD_eq_getElem?_getD,List.getElem?_append_left (by simp;lia),List.getElem?_map,hv]
  rfl
 ·rw [List.getElem?_append_right (by simpa using hi),List.getElem?_replicate] at e
  split at e <;> cases e
theorem zxz {F0 H0 F H:Hp} {σ:L2.St} {δ:DSt} {fps:Nat->List Addr} {v:V} {r:T} {fpr:List Addr} {d:D} (res:Res K ⟨F0,H0,[]⟩ F H σ δ fps v r fpr) (e:toD r=some d):∃ F',Ext F0 H0 F' H/\Is K F' v d:=by
 obtain ⟨F2,s1,s2,s3,s4⟩:=zuz res.rs.fh res.rt e res.nd
 refine ⟨F2,⟨λ b o z=>res.rs.hh b o (by simp) z,res.rs.ff.trans s1,s2,λ b hb fb=>?_⟩,s4⟩
 have:b ∉ fpr:=λ z=>hb.1 (res.fr b z)
 rw [s3 b this]
 exact res.rs.nw b hb fb
theorem zp4 {qual:Str} {st:Stmt} {N:List Str} {k:Nat} {p:DSp}
  (body:∀ (f:Addr) (cdv:Value) (A:Around) (outer:List Env) (s:Shared) (H:Hp) (E:XK),Room k (A.deeper (envOfC qual (zf0 st) s.heap.objs.size f cdv))->∃ t d,PSs (cxOf CX0 P w K mg base N qual (zf0 st) f cdv A outer s H E).nox (zs1 st) t/\RfS K t d/\∀ ds Qd,p ds Qd->d { nx:=λ _=>Qd .none,rt:=rD Qd } (zy8 N ds)) :
  zw3 P w K mg base qual st N k (spD K p):=by
 intro f cdv A outer s H vs Q E hr h
 obtain ⟨F,ds,Qd,sf,i,hp,hq⟩:=h
 obtain ⟨t,d,h1,h2,h3⟩:=body f cdv A outer s H E hr
 refine ⟨t,h1,h2 (zkg sf i) (h3 ds Qd hp) ⟨λ r q=>hq _ q _ _ _ ⟨λ b o z=>r.hh b o (by simp) z,r.ff,r.fh,r.nw⟩ .non,λ _ z=>z.elim,λ _ z=>z.elim,λ res q=>?_⟩⟩
 obtain ⟨d',e1,e2⟩:=zft (δ:=[]) q
 obtain ⟨F',ex,is⟩:=zxz res e1
 exact hq _ e2 _ _ _ ex is
theorem zyr {F:Hp} {vs:List V} {ds:List D} (h:IsAll K F vs ds):vs.length=ds.length:=h.dlen
theorem zbe {p:DSp} {ps:List Str} (h:∀ ds Qd,p ds Qd->ds.length=ps.length):∀ vs H Q E,spD K p vs H Q E->vs.length=ps.length:=λ vs H Q E z=>by
 obtain ⟨F,ds,Qd,_,i,hp,_⟩:=z
 rw [zyr i];exact h ds Qd hp
theorem ztj {F:Hp}:∀ ns:List Int,IsAll K F (ns.map V.int) (ns.map PyData.int)
|[]=>.nil
|n :: r=>.cons (.int n) (ztj r)
theorem zk21 {st:Stmt} {N:List Str} {k:Nat} {fa:Addr} (M:Md K mg) (T:TopDef K "law" st) (hfa:mg "law"=some (.ref fa)) (S:FnScope N ["script"] (zf0 st)) (hb:ze6 "law" "law" st ["script"])
  (body:∀ base:Heap,K.In base->base.Ns mainGlobals mg->∀ (f:Addr) (cdv:Value) (A:Around) (outer:List Env) (s:Shared) (H:Hp) (E:XK),Room k (A.deeper (envOfC "law" (zf0 st) s.heap.objs.size f cdv)) ->
   ∃ t d,PSs (cxOf CX0 P w K mg base N "law" (zf0 st) f cdv A outer s H E).nox (zs1 st) t/\RfS K t d/\∀ (ns:List Int) (Qd:D->Prop),ns.length<=63->Qd (.bool true)->d { nx:=λ _=>Qd .none,rt:=rD Qd } (zy8 N [.list (ns.map .int)])) :
  ∃ fd:FuncData,(∀ (s:Shared) (v:Value),BindsTo s fd ⟨[v],[]⟩ [("script",v)])/\∀ base:Heap,K.In base->base.Ns mainGlobals mg->FnOk P w K mg base CX0 (k+1) fa fd ["script"] (zgu K):=by
 refine zov M T hfa S hb (λ vs H Q E h=>by obtain ⟨a,ns,rfl,_⟩:=h;rfl) λ base kb nb=>?_
 intro f cdv A outer s H vs Q E hr h
 obtain ⟨a,ns,rfl,hS,hl,hq⟩:=h
 obtain ⟨t,d,h1,h2,h3⟩:=body base kb nb f cdv A outer s H E hr
 refine ⟨t,h1,h2 (zkg (F:=H) (λ _ _ z=>z) (.cons (.lst hS (ztj ns)) .nil)) (h3 ns (λ d=>d=.bool true) hl rfl) ⟨λ r q=>(by cases q),λ _ z=>z.elim,λ _ z=>z.elim,λ res q=>?_⟩⟩
 obtain ⟨d',e1,e2⟩:=zft (δ:=[]) q
 obtain ⟨F',ex,is⟩:=zxz res e1
 subst e2
 cases is
 exact hq _
end
end L4
namespace L3
open PySem PySem.Spec PyProof.Rows L2
section
variable {X:Cx} {tg:Expr}
end
end L3
namespace L4
open PySem PySem.Spec PyProof.Rows L2 L3
section
variable {K:Fg} {tA:TA} {dA:DF}
def zwz (lo st:Int) (n:Nat):List D:=(List.range n).map λ i=>.int (lo+(i:Nat) * st)
def zw31 (dA:DF):DF:=λ δ Q=>dA δ λ ds=>match ds with
|[.int i,.int j,.int c]=>c≠0/\(-(2 ^ 40)<=i/\i < 2 ^ 40/\-(2 ^ 40)<=j/\j < 2 ^ 40/\-(2 ^ 20)<=c/\c < 2 ^ 20)/\∃ n:Nat,Builtin.Range.rangeSize i j c=(n:Int)/\n < 2 ^ 41/\Q (zwz i c n)
|_=>False
def zzy:List D->(D->Prop)->Prop
|[.int i,.int j],Q=>Q (.int (if j < i then j else i))
|_,_=>False
theorem ziy:CB K (λ xs H Q=>∃ i j,xs=[V.int i,V.int j]/\Q (V.int (if j < i then j else i)) H) zzy:=by
 intro F H vs ds Qd Q s hv h k
 unfold zzy at h
 split at h
 ·obtain ⟨v,u,rfl,h1,h2⟩:=vw2 hv
  cases h1.int;cases h2.int
  exact ⟨_,_,rfl,k _ h _ F H (Ext.refl s) (.int _)⟩
 ·exact h.elim
end
theorem e_dF (df:DF) (δ:DSt) (Q:D->Prop):dF df δ Q=( df δ λ ds=>Q (.list ds)):=rfl
theorem e_dC (d:D) (x_0:DSt) (Q:D->Prop):dC d x_0 Q=( Q d):=rfl
theorem zw21 (f:D->D->(D->Prop)->Prop) (da db:DE) (δ:DSt) (Q:D->Prop):dOp f da db δ Q=( da δ λ x=>db δ λ y=>f x y Q):=rfl
theorem zhy (df:DF) (db:DE) (δ:DSt) (Q:List D->Prop):dRep df db δ Q=( df δ λ ds=>db δ λ y=>fRep ds y Q):=rfl
theorem zxo (da:DE) (δ:DSt) (Q:D->Prop):zu01 da δ Q=( da δ λ x=>fB x λ b=>Q (.bool (!b))):=rfl
theorem zks (da db:DE) (δ:DSt) (Q:D->Prop):ze11 da db δ Q=( da δ λ x=>fB x λ b=>if b=true then db δ Q else Q (.bool false)):=rfl
theorem zup (de:DE) (δ:DSt) (Q:Bool->Prop):zzz de δ Q=( de δ λ d=>fB d Q):=rfl
theorem zrv (de:DE) (δ:DSt) (Q:Bool->Prop):dTru de δ Q=( de δ λ d=>fTru d Q):=rfl
theorem zev (dt du:DT) (δ:DSt) (Q:Bool->Prop):dAnd dt du δ Q=( dt δ λ b=>if b=true then du δ Q else Q false):=rfl
theorem zy11 (dt du:DT) (δ:DSt) (Q:Bool->Prop):dOr dt du δ Q=( dt δ λ b=>if b=true then Q true else du δ Q):=rfl
theorem zvx (dt:DT) (δ:DSt) (Q:Bool->Prop):dNot dt δ Q=( dt δ λ b=>Q (!b)):=rfl
theorem zow (dt:DT) (da db:DE) (δ:DSt) (Q:D->Prop):dIfE dt da db δ Q=( dt δ λ b=>if b=true then da δ Q else db δ Q):=rfl
theorem zsx (x_0:DSt) (Q:List D->Prop):dNil x_0 Q=( Q []):=rfl
theorem zbr (da:DE) (dr:DF) (δ:DSt) (Q:List D->Prop):zwu da dr δ Q=( da δ λ x=>dr δ λ xs=>Q (x :: xs)):=rfl
theorem zty (dA:DF) (δ:DSt) (Q:D->Prop):dTup dA δ Q=( dA δ λ xs=>xs.length<=sizeLine/\Q (.tuple xs)):=rfl
theorem zkw (dA:DF) (δ:DSt) (Q:List D->Prop):dLst dA δ Q=( dA δ λ xs=>xs.length<=sizeLine/\Q xs):=rfl
theorem zpt (p:DSp) (dA:DF) (δ:DSt) (Q:D->Prop):zw11 p dA δ Q=( dA δ λ ds=>p ds Q):=rfl
theorem zm21 (f:List D->(D->Prop)->Prop) (dA:DF) (δ:DSt) (Q:D->Prop):dCB f dA δ Q=( dA δ λ ds=>f ds Q):=rfl
theorem zt21 (f:List D->(List D->Prop)->Prop) (dA:DF) (δ:DSt) (Q:List D->Prop):dCF f dA δ Q=( dA δ λ ds=>f ds Q):=rfl
theorem zf31 (T:String) (da:DE) (δ:DSt) (Q:D->Prop):dIs T da δ Q=( da δ λ d=>(∀ kvs,d≠.dict kvs)/\Q (.bool (isT T d))):=rfl
theorem zbi (x_0:DSt) (Q:Option Int->Prop):zkk x_0 Q=( Q none):=rfl
theorem zau (de:DE) (δ:DSt) (Q:Option Int->Prop):zu11 de δ Q=( de δ λ d=>match d with
|.int i=>Q (some i)
|_=>False):=rfl
theorem zy21 (de:DE) (dl dh:DO) (δ:DSt) (Q:D->Prop):dSl de dl dh δ Q=( de δ λ d=>dl δ λ lo=>dh δ λ hi=>fSl d lo hi Q):=rfl
theorem zby (de:DE) (dl dh dk:DO) (δ:DSt) (Q:List D->Prop):dSl3 de dl dh dk δ Q=( de δ λ d=>dl δ λ lo=>dh δ λ hi=>dk δ λ st=>match d with
|.list ds=>st≠some 0/\Q (zge ds lo hi st)
|_=>False):=rfl
theorem zg21 (de:DE) (δ:DSt) (Q:List D->Prop):dIt de δ Q=( de δ λ d=>zvs d Q):=rfl
theorem zlr (dA:DF) (δ:DSt) (Q:List D->Prop):zb01 dA δ Q=( dA δ λ ds=>match ds with
|[.int j]=>-(2 ^ 62)<=j/\j < 2 ^ 62/\Q (rngD 0 j.toNat)
|_=>False):=rfl
theorem zcz (dA:DF) (δ:DSt) (Q:List D->Prop):dZip dA δ Q=( dA δ λ ds=>fZip ds Q):=rfl
theorem zxr (dA:DF) (δ:DSt) (Q:List D->Prop):zvy dA δ Q=( dA δ λ ds=>match ds with
|[.list a]=>Q (zjj a)
|_=>False):=rfl
theorem e_gN (i:Nat) (d:D) (δ:DSt) (G:DSt->Prop):gN i d δ G=( G (δ.set i (.sh d))):=rfl
theorem zkp (ds:List D) (δ:DSt) (G:DSt->Prop):zkz ds δ G=( match ds with
|[]=>G δ
|_=>False):=rfl
theorem zim (g:DG) (gs:DGs) (ds:List D) (δ:DSt) (G:DSt->Prop):zen g gs ds δ G=( match ds with
|d :: r=>g d δ λ δ'=>gs r δ' G
|[]=>False):=rfl
theorem e_gT (n:Nat) (gs:DGs) (d:D) (δ:DSt) (G:DSt->Prop):gT n gs d δ G=( match d with
|.tuple ds=>ds.length=n/\gs ds δ G
|_=>False):=rfl
theorem zqp (x_0:DSt) (Q:Bool->Prop):zlu x_0 Q=( Q true):=rfl
theorem zkv (C:Addr) (f:Str) (dp:DP) (δ:DSt) (Q:Nat->Pth->T->Prop):pFld C f dp δ Q=( dp δ λ i p u=>nCls C u/\nFld f u λ t=>Q i (p++[.fl f]) t):=rfl
theorem zf21 (dp:DP) (di:DE) (δ:DSt) (Q:Nat->Pth->T->Prop):pIx dp di δ Q=( dp δ λ i p u=>di δ λ k=>nIx u k λ j t=>Q i (p++[.ix j]) t):=rfl
theorem zb31 (dp:DP) (δ:DSt) (Q:D->Prop):dPV dp δ Q=( dp δ λ _ _ u=>vwT u Q):=rfl
theorem zj21 (dp:DP) (δ:DSt) (Q:D->Prop):dPE dp δ Q=( dp δ λ _ _ u=>fzT u Q):=rfl
theorem e_cE (de:DE) (δ:DSt) (Q:T->DSt->Prop):cE de δ Q=( de δ λ d=>Q (.fz d) δ):=rfl
theorem e_cF (df:DF) (δ:DSt) (Q:T->DSt->Prop):cF df δ Q=( df δ λ ds=>Q (.li ds) δ):=rfl
theorem zet (E:DEnds) (δ:DSt):zyz E δ=( E.nx δ):=rfl
theorem zxy (de:DE) (dg:DG) (E:DEnds) (δ:DSt):dAsg de dg E δ=( de δ λ d=>dg d δ E.nx):=rfl
theorem zay (i:Nat) (dc:DC) (E:DEnds) (δ:DSt):dSet i dc E δ=( dc δ λ r δ'=>E.nx (δ'.set i (slot r))):=rfl
theorem zrs (dc:DC) (E:DEnds) (δ:DSt):zd11 dc E δ=( dc δ λ _ δ'=>E.nx δ'):=rfl
theorem zlz (dc:DC) (E:DEnds) (δ:DSt):dRet dc E δ=( dc δ E.rt):=rfl
theorem zyo (i:Nat) (E:DEnds) (δ:DSt):zfz i E δ=( match δ[i]? with
|some (.ow t)=>E.rt t (δ.set i .un)
|some (.sh d)=>E.rt (.fz d) δ
|_=>False):=rfl
theorem zz11 (dt:DT) (d e:DS) (E:DEnds) (δ:DSt):dIf dt d e E δ=( dt δ λ b=>if b=true then d E δ else e E δ):=rfl
theorem zo31 (ty:String) (f:FM) (dp:DP) (dA:DF) (δ:DSt) (Q:T->DSt->Prop):cBM ty f dp dA δ Q=( dp δ λ i p u=>tyN ty u/\dA δ λ ds=>f u ds λ u2 d=>mutS δ i p u2 λ δ'=>Q (.fz d) δ'):=rfl
theorem zuv (ty:String) (f:FM) (dp:DP) (δ:DSt) (Q:T->DSt->Prop):cBM0 ty f dp δ Q=( dp δ λ i p u=>tyN ty u/\f u [] λ u2 d=>mutS δ i p u2 λ δ'=>Q (.fz d) δ'):=rfl
theorem zww (dp:DP) (dk de:DE) (E:DEnds) (δ:DSt):dPut dp dk de E δ=( de δ λ d=>dp δ λ i p u=>dk δ λ k=>fPut u k d λ u2=>mutS δ i p u2 E.nx):=rfl
theorem zbu (f:Int->Int->Int) (dp:DP) (dk de:DE) (E:DEnds) (δ:DSt):zp11 f dp dk de E δ=( dp δ λ i p u=>dk δ λ k=>fGet u k λ x=>de δ λ y=>fII f x y λ z=>fPut u k z λ u2=>mutS δ i p u2 E.nx):=rfl
theorem zhz (dp:DP) (dk:DE) (δ:DSt) (Q:D->Prop):nGet dp dk δ Q=( dp δ λ _ _ u=>dk δ λ k=>fGet u k Q):=rfl
theorem zg31 (neg:Bool) (dk:DE) (dp:DP) (δ:DSt) (Q:D->Prop):nIn neg dk dp δ Q=( dk δ λ k=>dp δ λ _ _ u=>fHas neg u k Q):=rfl
theorem e_nE (de:DE) (δ:DSt) (Q:T->Prop):nE de δ Q=( de δ λ d=>Q (.fz d)):=rfl
theorem e_nF (df:DF) (δ:DSt) (Q:T->Prop):nF df δ Q=( df δ λ ds=>Q (.li ds)):=rfl
theorem e_cN (dn:DN) (δ:DSt) (Q:T->DSt->Prop):cN dn δ Q=( dn δ λ r=>Q r δ):=rfl
theorem zgv (C:Addr) (f:Str) (dc:DC) (dp:DP) (E:DEnds) (δ:DSt):dFld C f dc dp E δ=( dc δ λ r δ1=>dp δ1 λ i p u=>nCls C u/\nSet f u r λ u2=>mutS δ1 i p u2 E.nx):=rfl
theorem ziv (i:Nat) (p:Pth) (d:DS) (E:DEnds) (δ:DSt):dFrz i p d E δ=( fzS δ i p λ δ'=>d E δ'):=rfl
theorem zpw (x_0:DSt) (Q:List ArgP->Prop):aNil x_0 Q=( Q []):=rfl
theorem e_aD (de:DE) (dr:DAT) (δ:DSt) (Q:List ArgP->Prop):aD de dr δ Q=( de δ λ x=>dr δ λ as=>Q (.d x :: as)):=rfl
theorem e_aB (dp:DP) (dr:DAT) (δ:DSt) (Q:List ArgP->Prop):aB dp dr δ Q=( dp δ λ i p t=>dr δ λ as=>Q (.b i p t :: as)):=rfl
theorem e_aO (dp:DP) (dr:DAT) (δ:DSt) (Q:List ArgP->Prop):aO dp dr δ Q=( dp δ λ i p t=>dr δ λ as=>Q (.o i p t :: as)):=rfl
theorem zzt (o:Bool) (C:Addr) (m:Str) (p:DSpT) (dp:DP) (da:DAT) (δ:DSt) (Q:T->DSt->Prop):zd01 o C m p dp da δ Q=( dp δ λ i q u=>nCls C u/\noM m u/\da δ λ as=>zdr p δ ((if o then .o i q u else .b i q u) :: as) Q):=rfl
theorem zer (C:Addr) (m:Str) (p:DSpT) (dp:DP) (da:DAT) (δ:DSt) (Q:T->Prop):zl11 C m p dp da δ Q=( dp δ λ i q u=>nCls C u/\noM m u/\da δ λ as=>zhu p (.b i q u :: as) Q):=rfl
theorem e_eN (dn:DN) (δ:DSt) (Q:D->Prop):eN dn δ Q=( dn δ λ r=>fzT r Q):=rfl
theorem zxs (C:Addr) (p:DSpT) (da:DAT) (δ:DSt) (Q:T->Prop):zf11 C p da δ Q=( da δ λ as=>noO as/\p (.o (.ob C []) :: as.map ArgP.arg) λ r t2=>(match r with|.fz .none=>True|_=>False)/\Q t2):=rfl
theorem zqq (dA:DF) (δ:DSt) (Q:List D->Prop):zw31 dA δ Q=(dA δ λ ds=>match ds with
|[.int i,.int j,.int c]=>c≠0/\(-(2 ^ 40)<=i/\i < 2 ^ 40/\-(2 ^ 40)<=j/\j < 2 ^ 40/\-(2 ^ 20)<=c/\c < 2 ^ 20)/\∃ n:Nat,Builtin.Range.rangeSize i j c=(n:Int)/\n < 2 ^ 41/\Q (zwz i c n)
|_=>False):=rfl
def slT:Sl->(T->Prop)->Prop
|.sh d,N=>N (.fz d)
|.ow t,N=>N t
|.bo t,N=>N t
|.io _ t,N=>N t
|.un,_=>False
def pAt (δ:DSt) (i:Nat) (N:T->Prop):Prop:=∃ s t,δ[i]?=some s/\s.tree=some t/\N t
theorem zlw (i:Nat) (δ:DSt) (Q:D->Prop):dVar i δ Q=pAt δ i λ t=>fzT t Q:=rfl
theorem zms (i:Nat) (δ:DSt) (Q:D->Prop):zk11 i δ Q=pAt δ i λ t=>vwT t Q:=rfl
theorem zwy (i:Nat) (δ:DSt) (Q:Nat->Pth->T->Prop):pVar i δ Q=pAt δ i λ t=>Q i [] t:=rfl
theorem zdx (s:Sl) (δ:DSt) (N:T->Prop):pAt (s :: δ) 0 N=slT s N:=by
 apply propext
 cases s <;> simp [pAt,slT,Sl.tree]
theorem zaw (i:Nat) (s:Sl) (δ:DSt) (N:T->Prop):pAt (s :: δ) (i+1) N=pAt δ i N:=by simp [pAt]
theorem zsy (δ:DSt) (i:Nat) (p:Pth) (u:T) (N:DSt->Prop):mutS δ i p u N=(match δ[i]? with
|some (.ow t)=>N (δ.set i (.ow (setP t p u)))
|some (.io a t)=>N (δ.set i (.io a (setP t p u)))
|_=>False):=rfl
theorem zl21 (δ:DSt) (i:Nat) (p:Pth) (N:DSt->Prop):fzS δ i p N=(match δ[i]? with
|some (.ow t)=>∃ u d,getP t p=some u/\toD u=some d/\N (δ.set i (slot (setP t p (.fz d))))
|some (.sh _)=>N δ
|_=>False):=rfl
theorem zmr (δ:DSt) (i:Nat):zfo δ i=(match δ[i]? with
|some (.ow _)=>True
|some (.io _ _)=>True
|_=>False):=rfl
theorem zro (t u:T):setP t [] u=u:=by cases t <;> rfl
theorem znz (ds:List D):tyN "list" (.li ds)=True:=by simp [tyN]
theorem zcx (ds:List T):tyN "list" (.ls ds)=True:=by simp [tyN]
theorem zpx (ds:List (Key×D)):tyN "dict" (.dk ds)=True:=by simp [tyN]
theorem zyy (ds:List (List Key×D)):tyN "dict" (.dt ds)=True:=by simp [tyN]
theorem ze31 (Qd:D->Prop) (d:D) (δ:DSt):rD Qd (.fz d) δ=Qd d:=rfl
theorem zi31 (Qd:D->Prop) (d:List D) (δ:DSt):rD Qd (.li d) δ=Qd (.list d):=rfl
theorem za31 (Qd:D->Prop) (d:List T) (δ:DSt):rD Qd (.ls d) δ=∃ e,toD (.ls d)=some e/\Qd e:=rfl
theorem zls (p:DSpT) (δ:DSt) (as:List ArgP) (Q:T->DSt->Prop):zdr p δ as Q=(match zek as with
|some (i,q,t)=>zfo δ i/\oneO i as/\zko t/\p (as.map ArgP.arg) λ r t2=>mutS δ i q t2 λ δ'=>Q r δ'
|none=>noO as/\p (as.map ArgP.arg) λ r _=>Q r δ):=rfl
theorem zgt (p:DSpT) (as:List ArgP) (Q:T->Prop):zhu p as Q=(noO as/\p (as.map ArgP.arg) λ r _=>Q r):=rfl
def zzo (items:List D) (n:Nat) (ix:List Nat) (dg:DG) (dn:DN) (δ:DSt) (Q:T->Prop):Prop:=items.length<=sizeLine/\∃ R:Nat->T->Prop,
 (∀ i d,items[i]?=some d->dg d (cST n ix δ) λ δ'=>dn δ' λ r=>R i r)/\∀ rs:List T,rs.length=items.length->(∀ (j:Nat) r,rs[j]?=some r->R j r)->Q (.ls rs)
theorem zlq (di:DF) (n:Nat) (ix:List Nat) (dg:DG) (dn:DN) (δ:DSt) (Q:T->Prop):zm01 di n ix dg dn δ Q=di δ λ items=>zzo items n ix dg dn δ Q:=rfl
theorem zhr {α:Type} {xs:List α} {enc:α->D} (f:α->T) {n:Nat} {ix:List Nat} {dg:DG} {dn:DN} {δ:DSt} {Q:T->Prop} (hz:xs.length<=sizeLine)
  (h:∀ x∈xs,dg (enc x) (cST n ix δ) λ δ'=>dn δ' λ r=>r=f x) (q:Q (.ls (xs.map f))):zzo (xs.map enc) n ix dg dn δ Q:=by
 refine ⟨by rw [List.length_map];exact hz,λ i r=>∀ x,xs[i]?=some x->r=f x,λ i d e=>?_,λ rs hl hR=>?_⟩
 ·rw [List.getElem?_map] at e
  obtain ⟨x,hx,rfl⟩:=Option.map_eq_some_iff.mp e
  have e1:(λ r=>∀ y,xs[i]?=some y->r=f y)=λ r=>r=f x:=by funext r;rw [hx];simp
  show dg (enc x) (cST n ix δ) λ δ'=>dn δ' λ r=>∀ y,xs[i]?=some y->r=f y
  rw [e1]
  exact h x (List.mem_of_getElem? hx)
 ·rw [List.length_map] at hl
  have:rs=xs.map f:=by
   apply List.ext_getElem?
   intro i
   rw [List.getElem?_map]
   by_cases hi:i < rs.length
   ·have e1:rs[i]?=some rs[i]:=List.getElem?_eq_getElem hi
    have e2:xs[i]?=some (xs[i]'(by lia)):=List.getElem?_eq_getElem _
    rw [e1,e2,hR i _ e1 _ e2];rfl
   ·rw [List.getElem?_eq_none (by lia),List.getElem?_eq_none (by lia)];rfl
  rw [this];exact q
def zku (items:List D) (n:Nat) (ix:List Nat) (dg:DG) (dt:DT) (de:DE) (δ:DSt) (Q:List D->Prop):Prop:=items.length<=sizeLine/\∃ R:Nat->Option D->Prop,
 (∀ i d,items[i]?=some d->dg d (cST n ix δ) λ δ'=>dt δ' λ b=>if b=true then de δ' λ r=>R i (some r) else R i none) /\
 ∀ os:List (Option D),os.length=items.length->(∀ (j:Nat) o,os[j]?=some o->R j o)->Q (os.filterMap id)
theorem zjw (di:DF) (n:Nat) (ix:List Nat) (dg:DG) (dt:DT) (de:DE) (δ:DSt) (Q:List D->Prop):zk01 di n ix dg dt de δ Q=di δ λ items=>zku items n ix dg dt de δ Q:=rfl
def ForB (items:List D) (dg:DG) (db:DS) (E:DEnds) (δ:DSt):Prop:=∃ W:Nat->DSt->Prop,W 0 δ /\
 (∀ i d δ',items[i]?=some d->W i δ'->dg d δ' λ δ2=>db { E with nx:=W (i+1),ct:=W (i+1),bk:=E.nx } δ2)/\∀ δ',W items.length δ'->E.nx δ'
theorem zi21 (di:DF) (dg:DG) (db:DS) (E:DEnds) (δ:DSt):dFor di dg db E δ=di δ λ items=>ForB items dg db E δ:=rfl
theorem zbh {a b:DS} {E:DEnds} {δ:DSt} (h:a { E with nx:=b E } δ):dSeq a b E δ:=⟨b E,h,λ _ z=>z⟩
theorem zmb {a b:DS} {E:DEnds} {δ:DSt} (J:DSt->Prop) (h:a { E with nx:=J } δ) (hj:∀ δ',J δ'->b E δ'):dSeq a b E δ:=⟨J,h,hj⟩
theorem zg0 {a b:DS} {E:DEnds} {δ:DSt} (h:∀ J:DSt->Prop,(∀ δ',b E δ'->J δ')->a { E with nx:=J } δ):dSeq a b E δ:=⟨b E,h (b E) λ _ z=>z,λ _ z=>z⟩
theorem zg11 {α:Type} {f:α->Option D}:∀ {xs:List α} {os:List (Option D)},os.length=xs.length->(∀ (j:Nat) o x,os[j]?=some o->xs[j]?=some x->o=f x)->os.filterMap id=xs.filterMap f
|[],[],_,_=>rfl
|x :: xs,o :: os,hl,h=>by
  have e:o=f x:=h 0 o x rfl rfl
  have ih:=zg11 (f:=f) (xs:=xs) (os:=os) (by simpa using hl) λ j o' x' h1 h2=>h (j+1) o' x' (by simpa using h1) (by simpa using h2)
  rw [List.filterMap_cons,List.filterMap_cons,e,ih]
  rfl
theorem zpu {α:Type} {xs:List α} {enc:α->D} (f:α->Option D) {n:Nat} {ix:List Nat} {dg:DG} {dt:DT} {de:DE} {δ:DSt} {Q:List D->Prop} (hz:xs.length<=sizeLine)
  (h:∀ x∈xs,dg (enc x) (cST n ix δ) λ δ'=>dt δ' λ b=>if b=true then de δ' λ r=>some r=f x else none=f x) (q:Q (xs.filterMap f)):zku (xs.map enc) n ix dg dt de δ Q:=by
 refine ⟨by rw [List.length_map];exact hz,λ i o=>∀ x,xs[i]?=some x->o=f x,λ i d e=>?_,λ os hl hR=>?_⟩
 ·rw [List.getElem?_map] at e
  obtain ⟨x,hx,rfl⟩:=Option.map_eq_some_iff.mp e
  have:=h x (List.mem_of_getElem? hx)
  have e1:(λ r=>∀ y,xs[i]?=some y->some r=f y)=λ r=>some r=f x:=by
   funext r;rw [hx];simp
  have e2:(∀ y,xs[i]?=some y->(none:Option D)=f y)=(none=f x):=by rw [hx];simp
  show dg (enc x) (cST n ix δ) λ δ'=>dt δ' λ b=>if b=true then de δ' λ r=>∀ y,xs[i]?=some y->some r=f y else ∀ y,xs[i]?=some y->(none:Option D)=f y
  rw [e1,e2]
  exact this
 ·rw [List.length_map] at hl
  rw [zg11 hl λ j o x h1 h2=>hR j o h1 x h2]
  exact q
theorem zhp {α:Type} {xs:List α} {enc:α->D} (g:α->D) {n:Nat} {ix:List Nat} {dg:DG} {de:DE} {δ:DSt} {Q:List D->Prop} (hz:xs.length<=sizeLine)
  (h:∀ x∈xs,dg (enc x) (cST n ix δ) λ δ'=>de δ' λ r=>r=g x) (q:Q (xs.map g)):zku (xs.map enc) n ix dg zlu de δ Q:=by
 refine zpu (λ x=>some (g x)) hz (λ x hx=>?_) ?_
 ·have:=h x hx
  have e:(λ r=>some r=some (g x))=λ r=>r=g x:=by funext r;simp
  show dg (enc x) (cST n ix δ) λ δ'=>if true=true then de δ' λ r=>some r=some (g x) else none=some (g x)
  rw [e]
  simp only [if_true]
  exact this
 ·rw [show xs.filterMap (λ x=>some (g x))=xs.map g from congrFun List.filterMap_eq_map' xs]
  exact q
theorem zo6 {α:Type} {xs:List α} {enc:α->D} (W:Nat->DSt->Prop) {dg:DG} {db:DS} {E:DEnds} {δ:DSt} (h0:W 0 δ)
  (hs:∀ (i:Nat) x δ',xs[i]?=some x->W i δ'->dg (enc x) δ' λ δ2=>db { E with nx:=W (i+1),ct:=W (i+1),bk:=E.nx } δ2) (he:∀ δ',W xs.length δ'->E.nx δ'):ForB (xs.map enc) dg db E δ:=by
 refine ⟨W,h0,λ i d δ' e w=>?_,λ δ' w=>he δ' (by rw [List.length_map] at w;exact w)⟩
 rw [List.getElem?_map] at e
 obtain ⟨x,hx,rfl⟩:=Option.map_eq_some_iff.mp e
 exact hs i x δ' hx w
theorem two {c:Prop} [Decidable c] {A B:Prop} (h1:c->A) (h2:¬c->B):if c then A else B:=by
 by_cases h:c
 ·rw [if_pos h];exact h1 h
 ·rw [if_neg h];exact h2 h
def cutG {α:Type} (xs:List α) (lo hi:Option Int):List α:=(xs.drop (HT.sIx xs.length 0 lo)).take (HT.sIx xs.length xs.length hi - HT.sIx xs.length 0 lo)
theorem zsn {α:Type} (f:α->D) (xs:List α) (lo hi:Option Int):cutD (xs.map f) lo hi=(cutG xs lo hi).map f:=by
 unfold cutD cutG
 rw [List.length_map,List.map_take,List.map_drop]
theorem zfl {α β:Type} (f:α->D) (g:β->D) (xs:List α) (ys:List β):zipD (xs.map f) (ys.map g)=(xs.zip ys).map λ p=>.tuple [f p.1,g p.2]:=by
 unfold zipD
 rw [List.zipWith_map,List.zip_eq_zipWith,List.map_zipWith]
theorem zed {α:Type} (f:α->D) (xs:List α):zjj (xs.map f)=(xs.mapIdx λ i x=>(i,x)).map λ p=>.tuple [.int (p.1:Nat),f p.2]:=by
 unfold zjj
 apply List.ext_getElem?
 intro i
 rw [List.getElem?_mapIdx,List.getElem?_map,List.getElem?_map,List.getElem?_mapIdx]
 cases xs[i]? <;> rfl
theorem zk7 {α:Type} {xs:List α} {i:Int} {x:α} (h0:0<=i) (h:xs[i.toNat]?=some x):atI xs i=some x:=by
 have e:((i.toNat:Nat):Int)=i:=by lia
 have:=zrk (xs:=xs) (j:=i.toNat) (v:=x) h
 rwa [e] at this
theorem zq21 {α:Type} {xs:List α} {i:Int} (h0:0<=i) (h1:i < (xs.length:Int)):∃ x,xs[i.toNat]?=some x/\atI xs i=some x:=by
 have h:i.toNat < xs.length:=by lia
 exact ⟨xs[i.toNat],List.getElem?_eq_getElem h,zk7 h0 (List.getElem?_eq_getElem h)⟩
theorem zki {α:Type} {xs:List α} (f:α->D) {i:Int} (h0:0<=i) (h1:i < (xs.length:Int)):∃ x,xs[i.toNat]?=some x/\atI (xs.map f) i=some (f x):=by
 have h:i.toNat < xs.length:=by lia
 exact ⟨xs[i.toNat],List.getElem?_eq_getElem h,zk7 h0 (by rw [List.getElem?_map,List.getElem?_eq_getElem h];rfl)⟩
section
variable (K:Fg)
def RfH (te:TE) (de:DE):Prop:=∀ {F H:Hp} {σ:L2.St} {δ:DSt} {Qd:D->Prop} {Q:VK},Same F H->RV K F H σ δ->de δ Qd->(∀ d,Qd d->∀ v F' H',Ext F H F' H'->Is K H' v d->Q v H')->te σ H Q
def RfAH (ta:TA) (da:DF):Prop:=∀ {F H:Hp} {σ:L2.St} {δ:DSt} {Qd:List D->Prop} {Q:List V->Hp->Prop},Same F H->RV K F H σ δ->da δ Qd->(∀ ds,Qd ds->∀ vs F' H',Ext F H F' H'->IsAll K H' vs ds->Q vs H')->ta σ H Q
end
section
variable {K:Fg} {te ta tb:TE} {de da db:DE} {tA:TA} {dA:DF}
theorem RfV.h (h:RfV K te de):RfH K te de:=λ s r d k=>h s r d λ x q v F' H' e i=>k x q v F' H' e (i.is e.fh)
theorem zxq:RfAH K tNil dNil:=λ s rv h k=>k _ h _ _ _ (Ext.refl s) .nil
theorem zgd (ha:RfH K ta da) (hr:RfAH K tA dA):RfAH K (zfe ta tA) (zwu da dA):=by
 intro F H σ δ Qd Q s rv h k
 refine ha s rv h λ x hx v F1 H1 e1 i1=>hr e1.fh (rv.ext e1) hx λ xs hxs vs F2 H2 e2 i2=>?_
 exact k _ hxs _ F2 H2 (e1.trans e2) (.cons (i1.mono e2.h) i2)
theorem zbm {F H:Hp} {p:Addr} {o:HO} (s:Same F H) (hn:H p=none):Ext F H F (upd H p o) :=
 ⟨zo1 hn _,λ _ _ z=>z,λ b o z=>zo1 hn _ b o (s b o z),λ _ _ z=>z⟩
theorem zss (h:RfAH K tA dA):RfH K (zhv tA) (dTup dA):=by
 intro F H σ δ Qd Q s rv hd k
 refine h s rv hd λ xs hx vs F1 H1 e1 i1=>⟨by rw [i1.dlen];exact hx.1,λ p hp=>?_⟩
 exact k _ hx.2 _ _ _ (e1.trans (zbm e1.fh hp)) (.tup zi0 (i1.mono (zo1 hp _)))
def R2H (K:Fg) (r:R2) (f:D->D->(D->Prop)->Prop):Prop:=∀ {F H:Hp} {x y:V} {d e:D} {Qd:D->Prop} {Q:VK},Same F H->Is K H x d->Is K H y e->f d e Qd->(∀ z,Qd z->∀ v F' H',Ext F H F' H'->Is K F' v z->Q v H')->r x y H Q
theorem zt4 {r:R2} {f:D->D->(D->Prop)->Prop} (hr:R2H K r f) (ha:RfH K ta da) (hb:RfH K tb db):RfE K (tOp r ta tb) (dOp f da db):=by
 intro F H σ δ Qd Q s rv h k
 refine ha s rv h λ x hx v F1 H1 e1 i1=>hb e1.fh (rv.ext e1) hx λ y hy u F2 H2 e2 i2=>?_
 exact hr e2.fh (i1.mono e2.h) i2 hy λ z hz w F3 H3 e3 i3=>k z hz w F3 H3 ((e1.trans e2).trans e3) i3
theorem q_eq:R2H K (rEqU K) fEq:=by
 intro F H x y d e Qd Q s hx hy h k
 unfold fEq at h
 split at h
 ·cases hx.int_inv;cases hy.int_inv
  refine .inl ⟨rfl,k _ h _ F H (Ext.refl s) ?_⟩
  rw [zaa];exact .bl _
 ·cases hx.str_inv;cases hy.str_inv
  refine .inl ⟨rfl,k _ h _ F H (Ext.refl s) ?_⟩
  rw [zu9];exact .bl _
 ·cases hx.bl_inv;cases hy.bl_inv
  refine .inl ⟨rfl,k _ h _ F H (Ext.refl s) ?_⟩
  rw [zog];exact .bl _
 ·exact .inr ⟨_,_,hx,hy,h.1,h.2.1,k _ h.2.2 _ F H (Ext.refl s) (.bl _)⟩
theorem q_ne:R2H K (rNeU K) fNe:=by
 intro F H x y d e Qd Q s hx hy h k
 unfold fNe at h
 split at h
 ·cases hx.int_inv;cases hy.int_inv
  refine .inl ⟨rfl,k _ h _ F H (Ext.refl s) ?_⟩
  rw [zaa];exact .bl _
 ·cases hx.str_inv;cases hy.str_inv
  refine .inl ⟨rfl,k _ h _ F H (Ext.refl s) ?_⟩
  rw [zu9];exact .bl _
 ·cases hx.bl_inv;cases hy.bl_inv
  refine .inl ⟨rfl,k _ h _ F H (Ext.refl s) ?_⟩
  rw [zog];exact .bl _
 ·exact .inr ⟨_,_,hx,hy,h.1,h.2.1,k _ h.2.2 _ F H (Ext.refl s) (.bl _)⟩
end
theorem zyv (i:Int):isT "int" (.int i)=true:=rfl
theorem zry (i:Int):isT "bool" (.int i)=false:=by simp [isT,tyD]
theorem zhw (i:List D):isT "list" (.list i)=true:=rfl
theorem zvv (i:List D):isT "tuple" (.tuple i)=true:=rfl
theorem zsv (i:Str):isT "str" (.str i)=true:=rfl
theorem zrw (i:Int):(∀ kvs,PyData.int i≠.dict kvs)=True:=by simp
theorem zpq (i:List D):(∀ kvs,PyData.list i≠.dict kvs)=True:=by simp
theorem zex (i:List D):(∀ kvs,PyData.tuple i≠.dict kvs)=True:=by simp
theorem znw (i:Str):(∀ kvs,PyData.str i≠.dict kvs)=True:=by simp
theorem zq31 (i:Bool):(∀ kvs,PyData.bool i≠.dict kvs)=True:=by simp
theorem zdv:(∀ kvs,PyData.none≠.dict kvs)=True:=by simp
theorem eqv_refl {n:Nat} {d:D} (h:Fit n d):PyData.eqv d d=true:=h.eqv
theorem zun (ns:List Int) {n:Nat}:Fit (n+1) (.list (ns.map .int)):=Fit.lst λ d h=>by
 obtain ⟨i,_,rfl⟩:=List.mem_map.mp h
 exact Fit.int i
theorem znf {α:Type} {xs:List α} {f:α->D} {n:Nat} (h:∀ x∈xs,Fit n (f x)):Fit (n+1) (.list (xs.map f)):=Fit.lst λ d hd=>by
 obtain ⟨x,hx,rfl⟩:=List.mem_map.mp hd
 exact h x hx
end L4
namespace L3
open PySem PySem.Spec PyProof.Rows L2
section
variable {X:Cx}
theorem zph {C:Addr} {m:Str} {k:Nat} {ps:List Str} {sp:Sp} {o:Expr} {ta:TE} {apos pos:Pos} {pl:Sem Bool} (d:MethD X.prog X.w X.K X.mg X.base C m k ps sp) (hr:Room k X.A) (he:PE X o ta)
  (ht:eval (.Call (.Attribute o m apos) [] [] pos) X.env=(do
   let ov <- eval o X.env
   standAt apos.atName
   let (f,first) <- holding [ov] (getMethod ov m pl)
   callWith pos f first (backTo pos (starEach [] X.env)) (backToKw pos (keywordEach [] X.env))):=by rfl) :
  PE X (.Call (.Attribute o m apos) [] [] pos) (zeo C m sp [] E0 ta tNil):=by
 obtain ⟨f,fd,c,M,F,b⟩:=d
 exact zil he c M F hr b .nil zep ht
def zt11 (K:Fg) (le:Int->Int->Prop):List V->Hp->VK->Prop:=λ vs H Q=>∃ (a:Addr) (ns:List Int),vs=[.ref a]/\SqL K H a (ns.map V.int)/\ns≠[]/\∀ M∈ns,(∀ x∈ns,le M x)->Q (.int M) H
theorem zsi {K:Fg} (h:X.K=K) (hc:X.calm=true):CallR X (.builtin "min") (zt11 K λ M x=>M<=x):=by
 subst h
 intro pins s σ H xs us Q I r h
 obtain ⟨a,ns,rfl,hx,hne,q⟩:=h
 obtain ⟨u,rfl,r1⟩:=zqk r
 cases r1
 obtain ⟨its,rv,p,hz⟩:=I.list hx
 have hi:IntsAre its ns:=zi4 rv
 obtain ⟨ys,hy⟩:=hi.allInts.items
 have hl:s.heap.IsList a (intItems ys):=hy ▸ p.isList
 have e1:ns=ys.toList.map (·.1):=by
  rw [<- nums_intItems,<- hy]
  exact (show numsOf its.toArray.toList=ns from hi.numsOf).symm
 have hsz:0 < ys.size:=by
  rcases Nat.eq_zero_or_pos ys.size with z|z
  ·exact absurd (by rw [e1];exact List.map_eq_nil_iff.mpr (List.eq_nil_of_length_eq_zero (by simpa using z))) hne
  ·exact z
 refine min_intList (I.ok.hd hc) hl hsz λ v h' tk hv hk=>?_
 obtain ⟨t,rfl⟩:=intItems_at hv
 obtain ⟨h1,h2⟩:=argBest_lt (numAt ys) (ys.size - 1)
 refine ⟨.int _,H,I.kept hk,⟨_,rfl⟩,q _ ?_ λ x hx'=>?_⟩
 ·rw [numAt_eq,e1];exact getD_mem (by rw [List.length_map,Array.length_toList];lia)
 ·rw [e1] at hx'
  obtain ⟨j,hj,rfl⟩:=mem_getD hx'
  rw [List.length_map,Array.length_toList] at hj
  rw [<- numAt_eq];exact h2 j (by lia)
end
end L3
namespace L4
open PySem PySem.Spec PyProof.Rows L2 L3
section
variable {K:Fg} {te ta ti tv tk tb:TE} {de da di dk db:DE} {dc:DC} {tA:TA} {dA:DF}
abbrev fXor:=fI0 λ i j=>.int (Builtin.bitXor i j)
theorem zf01:R2E K (rI0 λ i j=>V.int (Builtin.bitXor i j)) fXor:=r_I0 λ _ _ _=>.int _
theorem zuq (x:Int):Builtin.bitXor x 1=x+1 - 2 * (x % 2):=by
 rw [PyProof.Rows.bitXor_and,PyProof.Rows.bitAnd_m1]
def zmv:List D->(D->Prop)->Prop
|[.list ds],Q=>∃ ns,zdh ds=some ns/\ns≠[]/\∀ M∈ns,(∀ x∈ns,M<=x)->Q (.int M)
|_,_=>False
theorem zgy:CB K (zt11 K λ M x=>M<=x) zmv:=by
 intro F H vs ds Qd Q s hv h k
 unfold zmv at h
 split at h
 ·obtain ⟨v,rfl,hw⟩:=vw1 hv
  obtain ⟨p,xs,rfl,h1,i1⟩:=hw.list s
  obtain ⟨ns,e,hne,q⟩:=h
  have:=zu8 i1 e
  subst this
  exact ⟨p,ns,rfl,h1,hne,λ M hM hx=>k _ (q M hM hx) _ F H (Ext.refl s) (.int _)⟩
 ·exact h.elim
def cDK1 (dk de:DE):DC:=λ δ Q=>dk δ λ k=>de δ λ v=>∃ key,keyD k=some key/\Q (.dk [(key,v)]) δ
theorem zyw (dk de:DE) (δ:DSt) (Q:T->DSt->Prop):cDK1 dk de δ Q=(dk δ λ k=>de δ λ v=>∃ key,keyD k=some key/\Q (.dk [(key,v)]) δ):=rfl
theorem zgx (hk:RfE K tk dk) (he:RfE K tv de):RfC K (zi11 [(tk,tv)]) (cDK1 dk de):=by
 intro B F H σ δ fps Qd Q r hd k p hp
 have r1:=r.grow (zqf (o:=.dK []) r.fh hp)
 have fp:F p=none:=by
  cases e:F p with
 |none=>rfl
 |some o=>rw [r.fh p o e] at hp;cases hp
 show tk σ _ _
 refine hk r1.fh r1.rv hd λ kd hkd kv F1 H1 e1 i1=>he e1.fh (r1.grow e1).rv hkd λ v hv vv F2 H2 e2 i2=>?_
 obtain ⟨key,ek,q⟩:=hv
 have:=zag i1 ek
 subst this
 have e12:=e1.trans e2
 have hp2:H2 p=some (.dK []):=e12.h _ _ zi0
 have fp2:F2 p=none:=e12.nwo zi0 (λ _=>nofun) fp
 refine ⟨hp2,[(key,vv)],rfl,by simp,?_⟩
 have ex:Ext F H F2 (upd H2 p (.dK (zsb [] [(key,vv)]))):=by
  have e0:=(zqf (o:=.dK []) r.fh hp).trans e12
  refine ⟨λ b o z=>?_,e0.f,λ b o z=>?_,e0.nw⟩
  ·have:b≠p:=λ y=>by subst y;rw [hp] at z;cases z
   rw [zp0 this];exact e0.h b o z
  ·have:b≠p:=λ y=>by subst y;rw [fp2] at z;cases z
   rw [zp0 this];exact e0.fh b o z
 have hm:zsb [] [(key,vv)]=[(key,vv)]:=rfl
 rw [hm] at ex ⊢
 refine k _ _ q (.ref p) F2 _ fps [p] ⟨r.grow ex,.dk zi0 fp2 (.cons i2 .nil),by simp,λ b hb=>?_,λ j s ej hs b hb hb2=>?_⟩
 ·simp at hb;subst hb
  exact (r.newOk hp).1
 ·simp at hb2;subst hb2
  exact (r.newOk hp).2 j s ej hs hb
def zs11 (de:DE) (f:D->D->(D->Prop)->Prop) (dc:DC) (db:DE):DC:=λ δ Q=>de δ λ x=>dc δ λ r δ1=>fzT r λ y=>db δ1 λ z=>f y z λ w=>fIx x w λ d=>Q (.fz d) δ1
theorem zgq (de:DE) (f:D->D->(D->Prop)->Prop) (dc:DC) (db:DE) (δ:DSt) (Q:T->DSt->Prop):zs11 de f dc db δ Q=(de δ λ x=>dc δ λ r δ1=>fzT r λ y=>db δ1 λ z=>f y z λ w=>fIx x w λ d=>Q (.fz d) δ1):=rfl
theorem zfp {w:World} {r:R2} {f:D->D->(D->Prop)->Prop} (he:RfE K te de) (hr:R2E K r f) (hc:RfC K ta dc) (hb:RfE K tb db):RfC K (tOp (rIxV w K) te (tOp r ta tb)) (zs11 de f dc db):=by
 intro B F H σ δ fps Qd Q rs hd k
 refine he rs.fh rs.rv hd λ x hx xv F1 H1 e1 i1=>?_
 have r1:=rs.grow e1
 -- what is frozen stays: the base remembers F1
 have s0:=r1.ff
 have n0:=r1.nw
 refine hc (r1.rem s0 (λ _ _ z=>z)) hx λ t δ1 ht yv F2 H2 fps2 fpr res=>?_
 obtain ⟨y,hy,iy⟩:=zcp res.rt ht
 refine hb res.rs.fh res.rs.rv hy λ z hz zv F3 H3 e3 i3=>?_
 refine hr e3.fh (.inl (iy.mono e3.f)) (.inl i3) hz λ wd hw wv F4 H4 e4 i4=>?_
 have e34:=e3.trans e4
 have sF:Same F1 F4:=(show Same F1 F2 from res.rs.ff).trans e34.f
 refine r_ix (w:=w) e4.fh (.inl (i1.mono sF)) (.inl i4) hw λ d hd' v F5 H5 e5 i5=>?_
 refine k _ _ hd' v F5 H5 fps2 [] ⟨((res.rs.grow (e34.trans e5)).unrem s0 n0),.fz i5,.nil,λ a ha=>by simp at ha,λ _ _ _ _ a _ ha=>by simp at ha⟩
end
end L4
namespace L3
open PySem PySem.Spec PyProof.Rows L2
section
variable {X:Cx}
def zwj (K:Fg):List V->Hp->VK->Prop:=λ vs H Q=>∃ (a:Addr) (ns:List Int),vs=[.ref a]/\(SqL K H a (ns.map V.int) \/ ∃ kvs:List (Key×V),H a=some (.dK kvs)/\kvs.map (·.1)=ns.map Sum.inl)/\ns.length < 64 /\
 ∀ ns':List Int,ns'.Perm ns->ns'.Pairwise (·<=·)->∀ l,H l=none->Q (.ref l) (upd H l (.lst (ns'.map V.int)))
theorem zm8 {P:Program} {w:World} {i:Int} {v:Value} (h:(zi1 P w).is (.inl i) v=true):∃ t,v=.int i t:=by
 have h:Value.isInt i v=true:=h
 cases v <;> first
 |(simp [Value.isInt] at h;subst h;exact ⟨_,rfl⟩)
 |(simp [Value.isInt] at h)
theorem zi6:∀ {vs:List Value} {ns:List Int},vs.length=ns.length->(∀ (j:Nat) v i,vs[j]?=some v->ns[j]?=some i->∃ t,v=.int i t)->IntsAre vs ns
|[],[],_,_=>.nil
|[],_ :: _,h,_=>by simp at h
|_ :: _,[],h,_=>by simp at h
|v :: vs,i :: ns,h,q=>by
  obtain ⟨t,rfl⟩:=q 0 v i rfl rfl
  exact .cons i t (zi6 (by simpa using h) λ j v i a b=>q (j+1) v i (by simpa using a) (by simpa using b))
theorem ztb {K:Fg} (h:X.K=K) (hc:X.calm=true):CallR X (.builtin "sorted") (zwj K):=by
 subst h
 intro pins s σ H xs us Q I r h
 obtain ⟨a,ns,rfl,hx,hz,q⟩:=h
 obtain ⟨u,rfl,r1⟩:=zqk r
 cases r1
 rcases hx with hx|⟨kvs,hx,hk⟩
 ·obtain ⟨its,rv,p,hz'⟩:=I.list hx
  have hi:IntsAre its ns:=zi4 rv
  refine sorted_ints p.isList hi (by rw [rv.length.symm,List.length_map];exact hz) λ out ns' a1 a2 a3=>?_
  obtain ⟨e,he⟩:=sortedAll_at s.heap its out
  refine ⟨.ref _,upd H (s.heap.objs.size+1) (.lst (ns'.map V.int)),I.laid (a:=s.heap.objs.size+1) (t':=s.toks) (λ b o=>sortedAll_old) (Nat.le_succ _) ?_,rfl,q ns' a2 a3 _ (I.hok.fresh (Nat.le_succ _))⟩
  refine ⟨by rw [List.length_map,a2.length_eq,sizeLine_eq];lia,out.toList,e,zh4 a1,?_⟩
  simpa [seqObj] using he
 ·obtain ⟨z,hd,vs0,r0,dd⟩:=zjy I.hok hx
  obtain ⟨ep,hat⟩:=dd.dictAt
  have hlen:vs0.length=ns.length:=by
   have h1:=r0.length
   have h2:=congrArg List.length hk
   rw [List.length_map,List.length_map] at h2
   lia
  refine Calls.call_function_entry kind_sorted plain_sorted entry_sorted (args_sorted1 _) ?_
  unfold Builtin.«sorted»
  refine wpAny_bind (m:=checkCount "sorted" 1 1 _) (wpAny_pure ?_)
  refine wpAny_bind (PySem.W.kdu_collect (A:=X.A.in1) (PySem.W.kdl_dict (knd:=zi1 X.prog X.w) (kvs:=vs0) (ep:=ep) hd) (I.ok.hd hc) hat (by rw [sizeLine_eq];lia) λ h' tk acc hk' hacc=>?_)
  have hl:acc.toList.length=vs0.length:=by rw [Array.length_toList];exact hacc.1
  have hI:IntsAre acc.toList ns:=zi6 (by rw [hl,hlen]) λ j v i e1 e2=>by
   obtain ⟨k,x,e3,e4⟩:=hacc.2 j v (by rw [<- Array.getElem?_toList];exact e1)
   have:k=.inl i:=by
    have e5:(kvs.map (·.1))[j]?=some k:=by
     have kk:∀ {l:List (Key×V)} {m:List (Key×Value)} {j:Nat} {k x},KV l m->m[j]?=some (k,x)->(l.map (·.1))[j]?=some k:=by
      intro l m j k x r
      unfold KV at r
      induction r generalizing j with
     |nil=>intro e;simp at e
     |cons h t ih =>
       intro e
       cases j with
      |zero=>simp at e;simp [h.1,e]
      |succ j=>simp at e ⊢;simpa using ih e
     exact kk r0 e3
    rw [hk,List.getElem?_map,e2] at e5
    simpa using e5.symm
   subst this
   exact zm8 e4
  refine wpAny_bind (wpAny_newList ?_ (by rw [hl,sizeLine_eq];lia))
  have hoL:(h'.push { cls:=.type "list",data:=.seq acc.toList.toArray }).get? h'.objs.size=some (seqObj "list" acc.toList.toArray 0):=Heap.get?_push_size _ rfl
  refine wpAny_bind (wpAny_holding (wpAny_call_entry slot_list_sort ⟨_,hoL,rfl⟩ entry_list_sort (list_sort_tree hoL hI (by rw [hl];lia) λ out ns' a1 a2 a3=>⟨_,rfl,?_⟩) (args_list_sort _)))
  refine wpAny_pure ⟨_,rfl,?_⟩
  obtain ⟨e,he⟩:=sortedHeap_at (out:=out) hoL
  have I2:=I.kept (t':=tk) hk'
  refine ⟨.ref _,upd H h'.objs.size (.lst (ns'.map V.int)),I2.laid (a:=h'.objs.size) (t':=tk) (λ b o ho=>?_) (Nat.le_refl _) ?_,rfl,q ns' a2 a3 _ (I2.hok.fresh (Nat.le_refl _))⟩
  ·have hlt:=Heap.lt_size ho
   rw [sortedHeap_old (Nat.ne_of_lt hlt) (by rw [size_push'];exact Nat.lt_succ_of_lt hlt)]
   exact Heap.get?_push_of_some _ ho
  ·refine ⟨by rw [List.length_map,a2.length_eq,sizeLine_eq];lia,out.toList,e,zh4 a1,?_⟩
   simpa [seqObj] using he
end
end L3
namespace L4
open PySem PySem.Spec PyProof.Rows L2 L3
section
variable {K:Fg} {te ta ti tv tk tb:TE} {de da di dk db:DE} {dc:DC} {dp:DP} {tA:TA} {dA:DF}
theorem zpg {F:Hp}:∀ (ns:List Int),IsAll K F (ns.map V.int) (ns.map PyData.int)
|[]=>.nil
|n :: r=>.cons (.int n) (zpg r)
theorem KvIs.keys {F:Hp}:∀ {kvs:List (Key×V)} {ds:List (Key×D)},KvIs K F kvs ds->kvs.map (·.1)=ds.map (·.1):=by
 intro kvs ds h
 induction h with
|nil=>rfl
|cons a r ih=>simp_all
def zpl (u:T) (Q:List D->Prop):Prop:=match u with
|.dk kvs=>∃ ns:List Int,kvs.map (·.1)=ns.map Sum.inl/\ns.length < 64/\∀ ns':List Int,ns'.Perm ns->ns'.Pairwise (·<=·)->Q (ns'.map .int)
|_=>False
def zbt (dp:DP):DF:=λ δ Q=>dp δ λ _ _ u=>zpl u Q
theorem zel (hp:RfP K ta dp):RfF K (tCB (zwj K) (zfe ta tNil)) (zbt dp):=by
 intro F H σ δ Qd Q s rv h k
 refine hp s rv h λ i p u hu v F2 H2 e2 at2=>?_
 obtain ⟨fn,hr⟩:=at2.rt (rv.ext e2)
 cases hr with
|dk h1 h2 h3 =>
  obtain ⟨ns,ek,hz,q⟩:=hu
  refine ⟨_,ns,rfl,.inr ⟨_,h1,by rw [<- ek];exact h3.keys⟩,hz,λ ns' p1 p2 l hl=>?_⟩
  obtain ⟨ex,fn⟩:=zz2 (xs:=ns'.map V.int) e2.fh hl
  have hn:H l=none:=by
   cases z:H l with
  |none=>rfl
  |some o=>rw [e2.h l o z] at hl;cases hl
  exact k _ (q ns' p1 p2) l _ F2 _ (e2.trans ex) hn zi0 fn (zpg ns')
|fz _=>exact hu.elim
|li _ _ _=>exact hu.elim
|ls _ _ _=>exact hu.elim
|ob _ _ _ _ _=>exact hu.elim
|dt _ _ _=>exact hu.elim
|tp _ _ _ _=>exact hu.elim
|wh=>exact hu.elim
|dd _ _ _ _=>exact hu.elim
theorem zpn (dp:DP) (δ:DSt) (Q:List D->Prop):zbt dp δ Q=(dp δ λ _ _ u=>zpl u Q):=rfl
theorem zdn (kvs:List (Key×D)) (Q:List D->Prop):zpl (.dk kvs) Q=∃ ns:List Int,kvs.map (·.1)=ns.map Sum.inl/\ns.length < 64/\∀ ns':List Int,ns'.Perm ns->ns'.Pairwise (·<=·)->Q (ns'.map .int):=rfl
end
end L4
namespace L3
open PySem PySem.Spec PyProof.Rows L2
structure TopDefN (K:Fg) (x:Str) (st:Stmt):Prop where
 ex:∃ (f T:Addr) (oc:Value) (od:Option Addr) (kV doc pm:Value) (an:Option Addr) (cdv ct:Value) (osl:Array (Option Value)) (o:Obj) (n:Nat),PySem.W.nsIn K mainGlobals x=some (some (.ref f)) /\
  K.lookup f=some ⟨oc,od,.func (PySem.W.fnOf x x (zr3 st) (zs1 st) (zf0 st) (.ref T) kV doc pm an cdv ct),osl⟩/\PySem.W.codeIn K cdv x=true/\PySem.W.keepIn K (.ref f)=true/\K.lookup T=some o/\o.data=.seq #[.none] n
theorem zxg {K:Fg} {x:Str} {st:Stmt} {f T:Addr} {oc:Value} {od an:Option Addr} {osl:Array (Option Value)} {kV doc pm cdv ct:Value} {o:Obj} {n:Nat} (a:PySem.W.nsIn K mainGlobals x=some (some (.ref f)))
  (l:K.lookup f=some ⟨oc,od,.func (PySem.W.fnOf x x (zr3 st) (zs1 st) (zf0 st) (.ref T) kV doc pm an cdv ct),osl⟩) (c:PySem.W.codeIn K cdv x=true) (k:PySem.W.keepIn K (.ref f)=true) (lt:K.lookup T=some o) (hd:o.data=.seq #[.none] n):TopDefN K x st :=
 ⟨f,T,oc,od,kV,doc,pm,an,cdv,ct,osl,o,n,a,l,c,k,lt,hd⟩
def DefN (P:Program) (w:World) (K:Fg) (mg:Str->Option Value) (base:Heap) (x:Str) (k:Nat) (ps:List Str) (sp:Sp):Prop :=
 ∃ f fd,FnOk P w K mg base CX0 k f fd ps sp/\Binds K fd ps []/\Binds K fd ps [.none]/\PySem.W.keepIn K (.ref f)=true/\mg x=some (.ref f)
theorem DefN.d {P:Program} {w:World} {K:Fg} {mg:Str->Option Value} {base:Heap} {x:Str} {k:Nat} {ps:List Str} {sp:Sp} (h:DefN P w K mg base x k ps sp):Def P w K mg base x k ps sp:=by
 obtain ⟨f,fd,F,b,_,kp,m⟩:=h
 exact ⟨f,fd,F,b,kp,m⟩
abbrev zxc (x:Str) (st:Stmt) (ps:List Str) (ds:List Value) (qs:List Str):Prop :=
 ∀ (T:Addr) (kV doc pm:Value) (an:Option Addr) (cdv ct:Value) (us:List Value),us.length=qs.length->∃ k:Option (Array Value)->Sem (List (Str×Value)),bindArgs (PySem.W.fnOf x x (zr3 st) (zs1 st) (zf0 st) (.ref T) kV doc pm an cdv ct) ⟨us,[]⟩=seqItems? (.ref T) >>= k/\k (some #[.none])=pure (ps.zip (us++ds))
section
variable {P:Program} {w:World} {K:Fg} {mg:Str->Option Value} {base:Heap}
theorem zrr {x:Str} {st:Stmt} {N ps:List Str} {k:Nat} {sp:Sp} (M:Md K mg) (T:TopDefN K x st) (S:FnScope N ps (zf0 st)) {qs:List Str} (hq:ps.length=qs.length+1) (hb:zxc x st ps [] ps) (hn:zxc x st ps [.none] qs) (len:∀ vs H Q E,sp vs H Q E->vs.length=ps.length)
  (body:zw3 P w K mg base x st N k sp):DefN P w K mg base x (k+1) ps sp:=by
 obtain ⟨f,t,oc,od,kV,doc,pm,an,cdv,ct,osl,o,n,a,lk,hcd,kp,lt,hd⟩:=T.ex
 refine ⟨f,_,zh11 lk hcd S len λ A outer s H vs Q E hr hsp=>?_,λ s us kin hl=>?_,λ s us kin hl=>?_,kp,M.got a⟩
 ·obtain ⟨t,h,q⟩:=body f cdv A outer s H vs Q E hr hsp
  exact ⟨t,PSs.nox h,q⟩
 ·obtain ⟨kk,e1,e2⟩:=hb t kV doc pm an cdv ct us (by simpa using hl)
  exact PySem.W.binds_K kin rfl lt hd e1 e2
 ·obtain ⟨kk,e1,e2⟩:=hn t kV doc pm an cdv ct us (by rw [List.length_append] at hl;simp only [List.length_singleton] at hl;lia)
  exact PySem.W.binds_K kin rfl lt hd e1 e2
end
section
variable {X:Cx} {k:Nat} {C:Addr} {ps:List Str} {sp:Sp} {x m:Str} {p pos apos:Pos} {e o:Expr} {es:List Expr} {ta:TE} {t:TA}
theorem zhn (d:DefN X.prog X.w X.K X.mg X.base x k ps sp) (hr:Room k X.A) (hg:Gl X x) (ha:PA X (e :: es) t) (hdb:(x == ("__debug__":Str))=false:=by decide)
  (he:starEach (e :: es) X.env=(false,eval e X.env) :: starEach es X.env:=by rfl) (hpl:(backTo pos (starEach es X.env)).any (·.1)=false:=by rfl):PE X (.Call (.Name x p) (e :: es) [] pos) (zwq sp [.non] E0 t):=by
 obtain ⟨f,fd,F,_,b,kp,m⟩:=d
 exact zfk F hr hg m kp b (.cons rfl .nil) zep ha hdb he hpl
end
end L3
namespace L4
open PySem PySem.Spec PyProof.Rows L2 L3
section
variable {K:Fg} {te ta ti tv tk tb:TE} {de da di dk db:DE} {dc:DC} {dp:DP} {tA:TA} {dA:DF}
def zws (p:DSp) (dA:DF):DE:=λ δ Q=>dA δ λ ds=>p (ds++[.none]) Q
theorem zkr {F:Hp}:∀ {vs us:List V} {ds es:List D},IsAll K F vs ds->IsAll K F us es->IsAll K F (vs++us) (ds++es)
|_,_,_,_,.nil,h=>h
|_,_,_,_,.cons a r,h=>.cons a (zkr r h)
theorem zwn {p:DSp} {E:XK} (h:RfA K tA dA):RfE K (zwq (spD K p) [.non] E tA) (zws p dA):=by
 intro F H σ δ Qd Q s rv hd k
 refine h s rv hd λ ds hp vs F1 H1 e1 i1=>?_
 exact ⟨F1,ds++[.none],Qd,e1.fh,zkr i1 (.cons .non .nil),hp,λ d q v F' H' e2 i2=>k d q v F' H' (e1.trans e2) i2⟩
theorem zol (p:DSp) (dA:DF) (δ:DSt) (Q:D->Prop):zws p dA δ Q=(dA δ λ ds=>p (ds++[.none]) Q):=rfl
end
section
variable {K:Fg} {tA:TA} {dA:DF}
end
end L4
namespace L5
open PySem PySem.Spec PyProof.Rows L2 L3 L4
theorem ar1 {α:Type} {us:List α} (h:us.length=1):∃ a,us=[a]:=by
 rcases us with _|⟨a,_|⟨b,us⟩⟩
 ·cases h
 ·exact ⟨a,rfl⟩
 ·cases h
theorem ars {α:Type} {n:Nat} {us:List α} (h:us.length=n+1):∃ a r,us=a :: r/\r.length=n:=by
 rcases us with _|⟨a,us⟩
 ·cases h
 ·exact ⟨a,us,rfl,Nat.succ.inj h⟩
theorem ar2 {α:Type} {us:List α} (h:us.length=2):∃ a b,us=[a,b]:=by
 obtain ⟨a,r,rfl,k⟩:=ars h
 obtain ⟨b,rfl⟩:=ar1 k
 exact ⟨a,b,rfl⟩
theorem ar3 {α:Type} {us:List α} (h:us.length=3):∃ a b c,us=[a,b,c]:=by
 obtain ⟨a,r,rfl,k⟩:=ars h
 obtain ⟨b,c,rfl⟩:=ar2 k
 exact ⟨a,b,c,rfl⟩
theorem ar4 {α:Type} {us:List α} (h:us.length=4):∃ a b c d,us=[a,b,c,d]:=by
 obtain ⟨a,r,rfl,k⟩:=ars h
 obtain ⟨b,c,d,rfl⟩:=ar3 k
 exact ⟨a,b,c,d,rfl⟩
theorem ar5 {α:Type} {us:List α} (h:us.length=5):∃ a b c d e,us=[a,b,c,d,e]:=by
 obtain ⟨a,r,rfl,k⟩:=ars h
 obtain ⟨b,c,d,e,rfl⟩:=ar4 k
 exact ⟨a,b,c,d,e,rfl⟩
section
variable {prog:Program} {w:World} {A:Around} {E:Value->Shared->Prop}
end
section
variable {prog:Program} {w:World} {A:Around} {R:Result->Shared->Prop} {I:Addr} {fp wr:List Addr} {n:Nat} {P:Nat->Value->Prop} {St:Nat->Heap->Prop} {d:Value}
end
section
variable {X:Cx} {x:Str} {p pos kp:Pos} {e e2:Expr} {te te2:TE}
end
section
variable {K:Fg} {te te2:TE} {df:DE} {dd:DE}
end
section
variable {P:Program} {w:World} {K:Fg} {mg:Str->Option Value} {base:Heap} {m:Str} {k:Nat} {ta:TE} {tA:TA} {dn:DN} {dA:DF}
end
section
variable {P:Program} {w:World} {K:Fg} {mg:Str->Option Value} {base:Heap} {m:Str} {k:Nat} {ta tk tx:TE} {tA:TA} {dp:DP} {dk dx:DE} {dA:DF}
end
end L5
namespace L3
open PySem PySem.Spec PyProof.Rows L2
section
variable {s:Shared} {w:World} {prog:Program} {E:Value->Shared->Prop} {A:Around}
end
section
variable {X:Cx} {pins:List (Addr×Obj)} {σ:L2.St} {H:Hp} {s:Shared} {a:Addr} {u:HO} {o:Obj}
end
section
variable {X:Cx} {elts:List Expr}
end
end L3
namespace L4
open PySem PySem.Spec PyProof.Rows L2 L3
section
variable {K:Fg} {ta:TE} {dp:DP}
end
end L4
namespace L3
open PySem PySem.Spec PyProof.Rows L2
section
variable {s:Shared} {w:World} {prog:Program} {E:Value->Shared->Prop} {A:Around}
end
end L3
namespace L4
open PySem PySem.Spec PyProof.Rows L2 L3
section
variable {K:Fg}
end
end L4
namespace L3
open PySem PySem.Spec PyProof.Rows L2
section
variable {s:Shared} {w:World} {prog:Program} {E:Value->Shared->Prop} {A:Around} {Ky:Type} [DecidableEq Ky] {knd:HeapKind prog w Ky}
end
end L3
namespace L4
open PySem PySem.Spec PyProof.Rows L2 L3
section
variable {K:Fg} {ta tb ti tk tx:TE} {dp dq:DP} {dk dy dz:DE}
end
end L4
namespace L5
def xr (s:Nat):Nat:=if s % 2=0 then s+1 else s - 1
theorem znx (s:Nat):xr (xr s)=s:=by unfold xr;split <;> split <;> lia
theorem zju {s m:Nat} (h:s < 2 * m):xr s < 2 * m:=by unfold xr;split <;> lia
theorem zew (s:Nat):xr s≠s:=by unfold xr;split <;> lia
def hd (E:List Nat) (s:Nat):Nat:=E.getD s 0
def tl (E:List Nat) (s:Nat):Nat:=hd E (xr s)
theorem zfu (E:List Nat) (s:Nat):tl E (xr s)=hd E s:=by unfold tl;rw [znx]
theorem ziq (E:List Nat) (s:Nat):hd E (xr s)=tl E s:=rfl
def lf (L:List Int) (s:Nat):Int:=L.getD s 0
structure Net (n m:Nat) (E:List Nat) (S:List (List Nat)):Prop where
 lE:E.length=2 * m
 bE:∀ s,s < 2 * m->hd E s < n
 lS:S.length=n
 s1:∀ (v:Nat) l,S[v]?=some l->∀ s∈l,s < 2 * m/\tl E s=v
 s2:∀ s,s < 2 * m->∃ l,S[tl E s]?=some l/\s∈l
def lkp (lv:List (Nat×Nat)) (v:Nat):Option Nat:=(lv.find? λ p=>decide (p.1=v)).map (·.2)
theorem zc8 {lv:List (Nat×Nat)} {u a v:Nat}:lkp (lv++[(u,a)]) v=match lkp lv v with
 |some b=>some b
 |none=>if u=v then some a else none:=by
 unfold lkp
 rw [List.find?_append]
 cases h:lv.find? λ p=>decide (p.1=v) with
|some x=>simp
|none =>
  by_cases e:u=v
  ·simp [e]
  ·simp [e]
theorem zlg {lv:List (Nat×Nat)} {v a:Nat} (h:lkp lv v=some a):(v,a)∈lv:=by
 unfold lkp at h
 obtain ⟨p,hp,e⟩:=Option.map_eq_some_iff.mp h
 have h1:=List.mem_of_find?_eq_some hp
 have h2:=List.find?_some hp
 simp at h2
 obtain ⟨p1,p2⟩:=p
 simp at h2 e
 subst h2 e
 exact h1
theorem zqc {lv:List (Nat×Nat)} {v:Nat} (h:lkp lv v=none):v ∉ lv.map (·.1):=by
 unfold lkp at h
 rw [Option.map_eq_none_iff,List.find?_eq_none] at h
 intro hm
 obtain ⟨p,hp,e⟩:=List.mem_map.mp hm
 have:=h p hp
 simp [e] at this
theorem zq0:∀ (n:Nat) (l:List Nat),l.Nodup->(∀ x∈l,x < n)->l.length<=n
|0,[],_,_=>Nat.le_refl _
|0,x :: r,_,h=>absurd (h x (by simp)) (by lia)
|n+1,l,nd,h=>by
  by_cases hm:n∈l
  ·have h1:(l.erase n).length=l.length - 1:=List.length_erase_of_mem hm
   have h2:(l.erase n).Nodup:=nd.erase n
   have h3:∀ x∈l.erase n,x < n:=λ x hx=>by
    have hx1:=(List.Nodup.mem_erase_iff nd).mp hx
    have:=h x hx1.2
    lia
   have:=zq0 n _ h2 h3
   lia
  ·have h3:∀ x∈l,x < n:=λ x hx=>by
    have:=h x hx
    have:x≠n:=λ e=>hm (e ▸ hx)
    lia
   have:=zq0 n l nd h3
   lia
structure Lev (n m:Nat) (E:List Nat) (L:List Int) (src:Nat) (lv:List (Nat×Nat)):Prop where
 nd:(lv.map (·.1)).Nodup
 bd:∀ p∈lv,p.1 < n
 l0:lkp lv src=some 0
 z0:∀ v,lkp lv v=some 0->v=src
 cl:∀ s,s < 2 * m->0 < lf L s->(lkp lv (tl E s)).isSome=true->(lkp lv (hd E s)).isSome=true
 pr:∀ v a,lkp lv v=some (a+1)->∃ s,s < 2 * m/\0 < lf L s/\hd E s=v/\lkp lv (tl E s)=some a
def Adm (E:List Nat) (L:List Int) (lv:List (Nat×Nat)) (s:Nat):Prop:=0 < lf L s/\∃ a,lkp lv (tl E s)=some a/\lkp lv (hd E s)=some (a+1)
inductive Rch (m:Nat) (E:List Nat) (L:List Int) (lv:List (Nat×Nat)) (t:Nat):Nat->Prop
|here:Rch m E L lv t t
|step {s:Nat}:s < 2 * m->Adm E L lv s->Rch m E L lv t (hd E s)->Rch m E L lv t (tl E s)
theorem zja {n m:Nat} {E:List Nat} {L:List Int} {src:Nat} {lv:List (Nat×Nat)} (h:Lev n m E L src lv) {t:Nat}:∀ (a v:Nat),lkp lv v=some a->Rch m E L lv t v->Rch m E L lv t src
|0,v,e,r=>by rw [<- h.z0 v e];exact r
|a+1,v,e,r=>by
  obtain ⟨s,h1,h2,h3,h4⟩:=h.pr v a e
  refine zja h a (tl E s) h4 (.step h1 ⟨h2,a,h4,by rw [h3];exact e⟩ (by rw [h3];exact r))
theorem Rch.mono {m:Nat} {E:List Nat} {L L':List Int} {lv:List (Nat×Nat)} {t v:Nat} (h:∀ s,s < 2 * m->Adm E L' lv s->Adm E L lv s) (r:Rch m E L' lv t v):Rch m E L lv t v:=by
 induction r with
|here=>exact .here
|step h1 h2 _ ih=>exact .step h1 (h _ h1 h2) ih
structure Tri (m:Nat) (E:List Nat) (S:List (List Nat)) (L:List Int) (lv:List (Nat×Nat)) (t:Nat) (TT:List (List Nat)):Prop where
 len:TT.length=S.length
 pre:∀ (v:Nat) l,TT[v]?=some l->∃ k,S[v]?=some k/\l <+: k
 vain:∀ (v:Nat) l k,TT[v]?=some l->S[v]?=some k->∀ (j:Nat) s,l.length<=j->k[j]?=some s->¬(Adm E L lv s/\Rch m E L lv t (hd E s))
theorem Tri.mono {m:Nat} {E:List Nat} {S:List (List Nat)} {L L':List Int} {lv:List (Nat×Nat)} {t:Nat} {TT:List (List Nat)} (h:∀ s,s < 2 * m->Adm E L' lv s->Adm E L lv s) (hS:∀ (v:Nat) k,S[v]?=some k->∀ s∈k,s < 2 * m) (r:Tri m E S L lv t TT):Tri m E S L' lv t TT :=
 ⟨r.len,r.pre,λ v l k h1 h2 j s hj hs z=>r.vain v l k h1 h2 j s hj hs ⟨h s (hS v k h2 s (List.mem_of_getElem? hs)) z.1,z.2.mono h⟩⟩
theorem Tri.all {m:Nat} {E:List Nat} {S:List (List Nat)} {L:List Int} {lv:List (Nat×Nat)} {t:Nat}:Tri m E S L lv t S :=
 ⟨rfl,λ v l h=>⟨l,h,List.prefix_refl _⟩,λ v l k h1 h2 j s hj hs=>by
  rw [h1] at h2;cases h2
  rw [List.getElem?_eq_none hj] at hs;cases hs⟩
theorem Tri.dead {n m:Nat} {E:List Nat} {S:List (List Nat)} {L:List Int} {lv:List (Nat×Nat)} {t:Nat} {TT:List (List Nat)} (N:Net n m E S) (r:Tri m E S L lv t TT) {v:Nat} (h:TT[v]?=some []) (hv:v≠t):¬ Rch m E L lv t v:=by
 intro z
 cases z with
|here=>exact hv rfl
|step h1 h2 h3 =>
  obtain ⟨l,hl,hm⟩:=N.s2 _ h1
  obtain ⟨j,hj,e⟩:=List.getElem_of_mem hm
  exact r.vain _ [] l h hl j _ (Nat.zero_le _) (by rw [<- e];exact List.getElem?_eq_getElem hj) ⟨h2,h3⟩
theorem Tri.cut {m:Nat} {E:List Nat} {S:List (List Nat)} {L:List Int} {lv:List (Nat×Nat)} {t:Nat} {TT:List (List Nat)} (r:Tri m E S L lv t TT) {v:Nat} {l:List Nat} (h:TT[v]?=some l) {k:Nat} (hk:k<=l.length)
  (hv:∀ (j:Nat) s,k<=j->l[j]?=some s->¬(Adm E L lv s/\Rch m E L lv t (hd E s))):Tri m E S L lv t (TT.set v (l.take k)):=by
 have hlt:v < TT.length:=by
  rcases Nat.lt_or_ge v TT.length with z|z
  ·exact z
  ·rw [List.getElem?_eq_none z] at h;cases h
 have key:∀ (u:Nat) x,(TT.set v (l.take k))[u]?=some x->(u=v/\x=l.take k) \/ (u≠v/\TT[u]?=some x):=λ u x e=>by
  rw [List.getElem?_set] at e
  by_cases z:v=u
  ·subst z;simp [hlt] at e;exact .inl ⟨rfl,e.symm⟩
  ·simp [z] at e;exact .inr ⟨λ y=>z y.symm,e⟩
 refine ⟨by rw [List.length_set];exact r.len,λ u x e=>?_,λ u x y e e2 j s hj hs=>?_⟩
 ·rcases key u x e with ⟨rfl,rfl⟩|⟨_,e'⟩
  ·obtain ⟨kk,h1,h2⟩:=r.pre u l h
   exact ⟨kk,h1,(List.take_prefix _ _).trans h2⟩
  ·exact r.pre u x e'
 ·rcases key u x e with ⟨rfl,rfl⟩|⟨_,e'⟩
  ·by_cases hjl:j < l.length
   ·obtain ⟨kk,h1,h2⟩:=r.pre u l h
    rw [h1] at e2;cases e2
    have hs':l[j]?=some s:=by
     rw [<- hs]
     exact (List.prefix_iff_getElem?.mp h2 j hjl) ▸ List.getElem?_eq_getElem hjl
    refine hv j s ?_ hs'
    rw [List.length_take] at hj;lia
   ·exact r.vain u l y h e2 j s (by lia) hs
  ·exact r.vain u x y e' e2 j s hj hs
def Way (m:Nat) (E:List Nat) (L:List Int) (lv:List (Nat×Nat)):Nat->List Nat->Nat->Prop
|v,[],t=>v=t
|v,s :: p,t=>s < 2 * m/\tl E s=v/\Adm E L lv s/\Way m E L lv (hd E s) p t
theorem Way.snoc {m:Nat} {E:List Nat} {L:List Int} {lv:List (Nat×Nat)}:∀ {v:Nat} {p:List Nat} {u s:Nat},Way m E L lv v p u->s < 2 * m->tl E s=u->Adm E L lv s->Way m E L lv v (p++[s]) (hd E s)
|v,[],u,s,h,h1,h2,h3=>⟨h1,by rw [h2];exact h.symm,h3,rfl⟩
|v,x :: p,u,s,h,h1,h2,h3=>⟨h.1,h.2.1,h.2.2.1,Way.snoc h.2.2.2 h1 h2 h3⟩
theorem Way.unsnoc {m:Nat} {E:List Nat} {L:List Int} {lv:List (Nat×Nat)}:∀ {v:Nat} {p:List Nat} {u s:Nat},Way m E L lv v (p++[s]) u->Way m E L lv v p (tl E s)/\hd E s=u/\s < 2 * m/\Adm E L lv s
|v,[],u,s,h=>⟨h.2.1.symm,h.2.2.2,h.1,h.2.2.1⟩
|v,x :: p,u,s,h=>by
  obtain ⟨a,b,c,d⟩:=Way.unsnoc h.2.2.2
  exact ⟨⟨h.1,h.2.1,h.2.2.1,a⟩,b,c,d⟩
theorem Way.level {m:Nat} {E:List Nat} {L:List Int} {lv:List (Nat×Nat)}:∀ {v:Nat} {p:List Nat} {u a:Nat},Way m E L lv v p u->lkp lv v=some a->lkp lv u=some (a+p.length)
|v,[],u,a,h,e=>by rw [show v=u from h] at e;exact e
|v,x :: p,u,a,h,e=>by
  obtain ⟨h1,h2,⟨_,b,h3,h4⟩,h5⟩:=h
  rw [h2,e] at h3;cases h3
  have:=Way.level h5 h4
  rw [this];congr 1;simp;lia
theorem Way.tails {m:Nat} {E:List Nat} {L:List Int} {lv:List (Nat×Nat)}:∀ {v:Nat} {p:List Nat} {u a:Nat},Way m E L lv v p u->lkp lv v=some a->∀ s∈p,∃ b,a<=b/\lkp lv (tl E s)=some b/\lkp lv (hd E s)=some (b+1)
|v,[],u,a,_,_,s,hs=>by simp at hs
|v,x :: p,u,a,h,e,s,hs=>by
  obtain ⟨h1,h2,⟨_,b,h3,h4⟩,h5⟩:=h
  rw [h2,e] at h3;cases h3
  rcases List.mem_cons.mp hs with z|z
  ·subst z;exact ⟨a,Nat.le_refl _,by rw [h2];exact e,h4⟩
  ·obtain ⟨c,k1,k2,k3⟩:=Way.tails h5 h4 s z
   exact ⟨c,by lia,k2,k3⟩
theorem Way.nodup {m:Nat} {E:List Nat} {L:List Int} {lv:List (Nat×Nat)}:∀ {v:Nat} {p:List Nat} {u a:Nat},Way m E L lv v p u->lkp lv v=some a->p.Nodup/\∀ s∈p,xr s ∉ p
|v,[],u,a,_,_=>⟨.nil,λ s hs=>by simp at hs⟩
|v,x :: p,u,a,h,e=>by
  obtain ⟨h1,h2,⟨_,b,h3,h4⟩,h5⟩:=h
  rw [h2,e] at h3;cases h3
  obtain ⟨n1,n2⟩:=Way.nodup h5 h4
  have tx:lkp lv (tl E x)=some a:=by rw [h2];exact e
  refine ⟨List.nodup_cons.mpr ⟨λ z=>?_,n1⟩,λ s hs hx=>?_⟩
  ·obtain ⟨c,k1,k2,_⟩:=Way.tails h5 h4 x z
   rw [tx] at k2;cases k2;lia
  ·rcases List.mem_cons.mp hs with z|z
   ·subst z
    rcases List.mem_cons.mp hx with y|y
    ·exact zew _ y
    ·obtain ⟨c,k1,k2,k3⟩:=Way.tails h5 h4 _ y
     rw [zfu,h4] at k2;cases k2
     rw [ziq,tx] at k3;injection k3 with k3;lia
   ·rcases List.mem_cons.mp hx with y|y
    ·obtain ⟨c,k1,k2,k3⟩:=Way.tails h5 h4 s z
     have e1:x=xr s:=y.symm
     subst e1
     rw [ziq,k2] at h4;cases h4
     rw [zfu,k3] at tx;injection tx with tx;lia
    ·exact n2 s z y
end L5
namespace L5
def zjc (L:List Int) (s:Nat) (a:Int):List Int:=(L.set s (lf L s - a)).set (xr s) (lf L (xr s)+a)
def zx1 (L:List Int) (p:List Nat) (a:Int):List Int:=p.foldl (λ L s=>zjc L s a) L
theorem zt8 (L:List Int) (s:Nat) (a:Int):(zjc L s a).length=L.length:=by simp [zjc]
theorem zb6 (a:Int):∀ (p:List Nat) (L:List Int),(zx1 L p a).length=L.length
|[],L=>rfl
|s :: p,L=>by show (zx1 (zjc L s a) p a).length=_;rw [zb6 a p,zt8]
theorem zrl {L:List Int} {i j:Nat} {x:Int} (h:i < L.length):lf (L.set i x) j=if i=j then x else lf L j:=by
 unfold lf
 rw [List.getD_eq_getElem?_getD,List.getD_eq_getElem?_getD,List.getElem?_set]
 by_cases e:i=j
 ·subst e;simp [h]
 ·simp [e]
theorem zvc {L:List Int} {s j m:Nat} {a:Int} (hl:L.length=2 * m) (hs:s < 2 * m):lf (zjc L s a) j=if j=s then lf L s - a else if j=xr s then lf L (xr s)+a else lf L j:=by
 unfold zjc
 rw [zrl (by rw [List.length_set,hl];exact zju hs),zrl (by lia)]
 by_cases e1:j=s
 ·subst e1
  rw [if_neg (zew j),if_pos rfl,if_pos rfl]
 ·rw [if_neg e1]
  by_cases e2:j=xr s
  ·rw [if_pos e2.symm,if_pos e2]
  ·rw [if_neg (λ z=>e2 z.symm),if_neg e2,if_neg (λ z=>e1 z.symm)]
theorem zt6 {m:Nat} {a:Int}:∀ {p:List Nat} {L:List Int} {j:Nat},L.length=2 * m->(∀ s∈p,s < 2 * m)->p.Nodup->(∀ s∈p,xr s ∉ p)->lf (zx1 L p a) j=if j∈p then lf L j - a else if xr j∈p then lf L j+a else lf L j
|[],L,j,_,_,_,_=>by simp [zx1]
|s :: p,L,j,hl,hb,nd,nx=>by
  have hs:=hb s (by simp)
  have nd':=List.nodup_cons.mp nd
  have xsp:xr s ∉ p:=λ z=>nx s (by simp) (by simp [z])
  have ih:=zt6 (a:=a) (p:=p) (L:=zjc L s a) (j:=j) (by rw [zt8];exact hl) (λ t ht=>hb t (by simp [ht])) nd'.2 (λ t ht z=>nx t (by simp [ht]) (by simp [z]))
  show lf (zx1 (zjc L s a) p a) j=_
  rw [ih,zvc hl hs]
  by_cases e1:j=s
  ·subst e1
   rw [if_neg nd'.1,if_pos rfl,if_neg xsp,if_pos (by simp)]
  ·by_cases e2:j=xr s
   ·subst e2
    have n1:xr s ∉ s :: p:=nx s (by simp)
    rw [if_neg xsp,znx,if_neg nd'.1,if_neg e1,if_pos rfl,if_neg n1,if_pos (by simp)]
   ·have e3:xr j≠s:=λ z=>e2 (by rw [<- z,znx])
    simp only [List.mem_cons,e1,e2,e3,if_false,false_or]
def term (E:List Nat) (L:List Int) (v k:Nat):Int:=(if hd E (2 * k)=v then lf L (2 * k+1) else 0) - (if hd E (2 * k+1)=v then lf L (2 * k+1) else 0)
def bal (m:Nat) (E:List Nat) (L:List Int) (v:Nat):Int:=((List.range m).map (term E L v)).sum
theorem zi9 {f g:Nat->Int} {d:Int} {k0:Nat}:∀ (m:Nat),k0 < m->(∀ k,k≠k0->g k=f k)->g k0=f k0+d->((List.range m).map g).sum=((List.range m).map f).sum+d
|0,h,_,_=>by lia
|m+1,h,h1,h2=>by
  rw [List.range_succ,List.map_append,List.map_append,List.sum_append,List.sum_append]
  by_cases e:k0=m
  ·subst e
   have:(List.range k0).map g=(List.range k0).map f:=List.map_congr_left λ k hk=>h1 k (by have:=List.mem_range.mp hk;lia)
   rw [this]
   simp [h2];lia
  ·have ih:=zi9 m (by lia) h1 h2
   rw [ih]
   simp [h1 m (λ z=>e z.symm)];lia
theorem zgn {m:Nat} {E:List Nat} {L:List Int} {s:Nat} {a:Int} {v:Nat} (hl:L.length=2 * m) (hs:s < 2 * m):bal m E (zjc L s a) v=bal m E L v+((if hd E s=v then a else 0) - (if tl E s=v then a else 0)):=by
 unfold bal
 refine zi9 (k0:=s / 2) m (by lia) (λ k hk=>?_) ?_
 ·unfold term
  have:lf (zjc L s a) (2 * k+1)=lf L (2 * k+1):=by
   rw [zvc hl hs,if_neg (by lia),if_neg (by unfold xr;split <;> lia)]
  rw [this]
 ·unfold term
  by_cases e:s % 2=0
  ·have e1:2 * (s / 2)=s:=by lia
   have e2:xr s=s+1:=by unfold xr;rw [if_pos e]
   have h1:lf (zjc L s a) (2 * (s / 2)+1)=lf L (2 * (s / 2)+1)+a:=by
    rw [zvc hl hs,e1,if_neg (by lia),if_pos e2.symm,e2]
   rw [h1,e1]
   have e3:tl E s=hd E (s+1):=by unfold tl;rw [e2]
   rw [e3]
   split <;> split <;> lia
  ·have e1:2 * (s / 2)+1=s:=by lia
   have e2:xr s=2 * (s / 2):=by unfold xr;rw [if_neg e];lia
   have h1:lf (zjc L s a) (2 * (s / 2)+1)=lf L (2 * (s / 2)+1) - a:=by
    rw [zvc hl hs,e1,if_pos rfl]
   rw [h1,e1]
   have e3:tl E s=hd E (2 * (s / 2)):=by unfold tl;rw [e2]
   rw [e3]
   split <;> split <;> lia
theorem zb4 {m:Nat} {E:List Nat} {LA:List Int} {lv:List (Nat×Nat)} {a:Int} {w:Nat}:∀ {p:List Nat} {L:List Int} {v t:Nat},L.length=2 * m->Way m E LA lv v p t->bal m E (zx1 L p a) w=bal m E L w+((if t=w then a else 0) - (if v=w then a else 0))
|[],L,v,t,_,h=>by
  rw [show v=t from h]
  show bal m E L w=_
  lia
|s :: p,L,v,t,hl,h=>by
  have ih:=zb4 (a:=a) (w:=w) (p:=p) (L:=zjc L s a) (by rw [zt8];exact hl) h.2.2.2
  show bal m E (zx1 (zjc L s a) p a) w=_
  rw [ih,zgn hl h.1,h.2.1]
  lia
structure Cap (m:Nat) (most:Nat->Int) (L:List Int):Prop where
 len:L.length=2 * m
 nn:∀ s,s < 2 * m->0<=lf L s
 sm:∀ k,k < m->lf L (2 * k)+lf L (2 * k+1)=most k
theorem Cap.carry {m:Nat} {most:Nat->Int} {E:List Nat} {L:List Int} {lv:List (Nat×Nat)} {v t a0:Nat} {p:List Nat} {a:Int} (c:Cap m most L) (h:Way m E L lv v p t) (hv:lkp lv v=some a0) (ha:0<=a) (hm:∀ s∈p,a<=lf L s):Cap m most (zx1 L p a):=by
 obtain ⟨nd,nx⟩:=h.nodup hv
 have hb:∀ {v p t},Way m E L lv v p t->∀ s∈p,s < 2 * m:=λ {v p t} h=>by
  induction p generalizing v with
 |nil=>intro s hs;simp at hs
 |cons x p ih =>
   intro s hs
   rcases List.mem_cons.mp hs with z|z
   ·subst z;exact h.1
   ·exact ih h.2.2.2 s z
 have hb:=hb h
 have lc:∀ j,lf (zx1 L p a) j=if j∈p then lf L j - a else if xr j∈p then lf L j+a else lf L j:=λ j=>zt6 c.len hb nd nx
 refine ⟨by rw [zb6];exact c.len,λ s hs=>?_,λ k hk=>?_⟩
 ·rw [lc]
  have:=c.nn s hs
  split
  ·rename_i z;have:=hm s z;lia
  ·split <;> lia
 ·rw [lc,lc]
  have e1:xr (2 * k)=2 * k+1:=by unfold xr;rw [if_pos (by lia)]
  have e2:xr (2 * k+1)=2 * k:=by unfold xr;rw [if_neg (by lia)];lia
  rw [e1,e2]
  have:=c.sm k hk
  by_cases h1:2 * k∈p
  ·have h2:2 * k+1 ∉ p:=λ z=>nx _ h1 (by rw [e1];exact z)
   rw [if_pos h1,if_neg h2,if_pos h1];lia
  ·by_cases h2:2 * k+1∈p
   ·rw [if_neg h1,if_pos h2,if_pos h2];lia
   ·rw [if_neg h1,if_neg h2,if_neg h2,if_neg h1];lia
theorem zzi {m:Nat} {E:List Nat} {L:List Int} {lv:List (Nat×Nat)} {v t a0:Nat} {p:List Nat} {a:Int} (hl:L.length=2 * m) (h:Way m E L lv v p t) (hv:lkp lv v=some a0) (ha:0<=a):∀ s,s < 2 * m->Adm E (zx1 L p a) lv s->Adm E L lv s:=by
 intro s hs ⟨h1,b,h2,h3⟩
 refine ⟨?_,b,h2,h3⟩
 obtain ⟨nd,nx⟩:=h.nodup hv
 have hb:∀ {v p t},Way m E L lv v p t->∀ s∈p,s < 2 * m:=λ {v p t} h=>by
  induction p generalizing v with
 |nil=>intro s hs;simp at hs
 |cons x p ih =>
   intro s hs
   rcases List.mem_cons.mp hs with z|z
   ·subst z;exact h.1
   ·exact ih h.2.2.2 s z
 rw [zt6 hl (hb h) nd nx] at h1
 by_cases e1:s∈p
 ·rw [if_pos e1] at h1;lia
 ·rw [if_neg e1] at h1
  by_cases e2:xr s∈p
  ·-- the step against one of the way leads down
   obtain ⟨c,k1,k2,k3⟩:=h.tails hv (xr s) e2
   rw [zfu,h3] at k2
   rw [ziq,h2] at k3
   injection k2 with k2;injection k3 with k3;lia
  ·rw [if_neg e2] at h1;exact h1
theorem zbj {m:Nat} {E:List Nat} {L:List Int} {lv:List (Nat×Nat)} {v t a0:Nat} {p:List Nat} {a:Int} (hl:L.length=2 * m) (h:Way m E L lv v p t) (hv:lkp lv v=some a0)
  (cl:∀ s,s < 2 * m->0 < lf L s->(lkp lv (tl E s)).isSome=true->(lkp lv (hd E s)).isSome=true) (ha:0<=a):∀ s,s < 2 * m->0 < lf (zx1 L p a) s->(lkp lv (tl E s)).isSome=true->(lkp lv (hd E s)).isSome=true:=by
 intro s hs h1 h2
 obtain ⟨nd,nx⟩:=h.nodup hv
 have hb:∀ {v p t},Way m E L lv v p t->∀ s∈p,s < 2 * m:=λ {v p t} h=>by
  induction p generalizing v with
 |nil=>intro s hs;simp at hs
 |cons x p ih =>
   intro s hs
   rcases List.mem_cons.mp hs with z|z
   ·subst z;exact h.1
   ·exact ih h.2.2.2 s z
 rw [zt6 hl (hb h) nd nx] at h1
 by_cases e1:s∈p
 ·rw [if_pos e1] at h1;exact cl s hs (by lia) h2
 ·rw [if_neg e1] at h1
  by_cases e2:xr s∈p
  ·obtain ⟨c,k1,k2,k3⟩:=h.tails hv (xr s) e2
   rw [ziq] at k3
   rw [zfu] at k2
   rw [k2];rfl
  ·rw [if_neg e2] at h1;exact cl s hs h1 h2
def tot (m:Nat) (most:Nat->Int):Int:=((List.range m).map most).sum
theorem zbq {m:Nat} {most:Nat->Int} {E:List Nat} {L:List Int} (c:Cap m most L) (v:Nat):bal m E L v<=tot m most:=by
 unfold bal tot
 have:∀ j,j<=m->((List.range j).map (term E L v)).sum<=((List.range j).map most).sum:=λ j=>by
  induction j with
 |zero=>intro _;simp
 |succ j ih =>
   intro hj
   have:=ih (by lia)
   rw [List.range_succ,List.map_append,List.map_append,List.sum_append,List.sum_append]
   have h1:=c.nn (2 * j) (by lia)
   have h2:=c.nn (2 * j+1) (by lia)
   have h3:=c.sm j (by lia)
   have h4:term E L v j<=most j:=by unfold term;split <;> split <;> lia
   simp;lia
 exact this m (Nat.le_refl _)
end L5
namespace L5
open PySem
theorem zf6:((Str.ofString "ends") == (Str.ofString "left"))=false:=by decide +kernel
theorem zl5:((Str.ofString "ends") == (Str.ofString "steps"))=false:=by decide +kernel
theorem zx6:((Str.ofString "left") == (Str.ofString "ends"))=false:=by decide +kernel
theorem zi5:((Str.ofString "left") == (Str.ofString "steps"))=false:=by decide +kernel
theorem za5:((Str.ofString "steps") == (Str.ofString "ends"))=false:=by decide +kernel
theorem ze5:((Str.ofString "steps") == (Str.ofString "left"))=false:=by decide +kernel
theorem zj7:((Str.ofString "amounts") == (Str.ofString "ends"))=false:=by decide +kernel
theorem zg7:((Str.ofString "amounts") == (Str.ofString "left"))=false:=by decide +kernel
theorem zb7:((Str.ofString "amounts") == (Str.ofString "steps"))=false:=by decide +kernel
theorem zx8:((Str.ofString "levels") == (Str.ofString "ends"))=false:=by decide +kernel
theorem zs8:((Str.ofString "levels") == (Str.ofString "left"))=false:=by decide +kernel
theorem zf7:((Str.ofString "levels") == (Str.ofString "steps"))=false:=by decide +kernel
theorem zu4:((Str.ofString "row_behind") == (Str.ofString "ends"))=false:=by decide +kernel
theorem zx4:((Str.ofString "row_behind") == (Str.ofString "left"))=false:=by decide +kernel
theorem zd4:((Str.ofString "row_behind") == (Str.ofString "steps"))=false:=by decide +kernel
theorem zl7:((Str.ofString "push_up") == (Str.ofString "ends"))=false:=by decide +kernel
theorem zh7:((Str.ofString "push_up") == (Str.ofString "left"))=false:=by decide +kernel
theorem zw5:((Str.ofString "push_up") == (Str.ofString "steps"))=false:=by decide +kernel
theorem zk8:((Str.ofString "way_up") == (Str.ofString "ends"))=false:=by decide +kernel
theorem zw8:((Str.ofString "way_up") == (Str.ofString "left"))=false:=by decide +kernel
theorem zo7:((Str.ofString "way_up") == (Str.ofString "steps"))=false:=by decide +kernel
theorem zp7:((Str.ofString "step_up") == (Str.ofString "ends"))=false:=by decide +kernel
theorem zq7:((Str.ofString "step_up") == (Str.ofString "left"))=false:=by decide +kernel
theorem zg6:((Str.ofString "step_up") == (Str.ofString "steps"))=false:=by decide +kernel
theorem zn9:((Str.ofString "carry") == (Str.ofString "ends"))=false:=by decide +kernel
theorem zwa:((Str.ofString "carry") == (Str.ofString "left"))=false:=by decide +kernel
theorem zp8:((Str.ofString "carry") == (Str.ofString "steps"))=false:=by decide +kernel
theorem zcc:((Str.ofString "ends")=(Str.ofString "left"))=False:=eq_false (by intro h;have:=zf6;rw [h] at this;simp at this)
theorem zya:((Str.ofString "ends")=(Str.ofString "steps"))=False:=eq_false (by intro h;have:=zl5;rw [h] at this;simp at this)
theorem zub:((Str.ofString "left")=(Str.ofString "ends"))=False:=eq_false (by intro h;have:=zx6;rw [h] at this;simp at this)
theorem zca:((Str.ofString "left")=(Str.ofString "steps"))=False:=eq_false (by intro h;have:=zi5;rw [h] at this;simp at this)
theorem zw9:((Str.ofString "steps")=(Str.ofString "ends"))=False:=eq_false (by intro h;have:=za5;rw [h] at this;simp at this)
theorem zx9:((Str.ofString "steps")=(Str.ofString "left"))=False:=eq_false (by intro h;have:=ze5;rw [h] at this;simp at this)
end L5
namespace L5
open PySem PySem.Spec PyProof.Rows L2 L3 L4
def nI (x:Nat):D:=.int (x:Int)
abbrev dSt (S:List (List Nat)):D:=.list (S.map λ l=>.list (l.map nI))
abbrev oS (C:Addr) (E:List Nat) (L:List Int) (S:List (List Nat)):T:=.ob C [("ends",.fz (.list (E.map nI))),("left",.li (L.map .int)),("steps",.fz (dSt S))]
def kN (lv:List (Nat×Nat)):List (Key×D):=lv.map λ p=>(.inl (p.1:Int),nI p.2)
theorem zwr (p v:Nat):((Sum.inl (p:Int):Key)=Sum.inl (v:Int))=(p=v):=by
 apply propext
 constructor
 ·intro z;injection z with z;exact_mod_cast z
 ·intro z;rw [z]
theorem zwc (lv:List (Nat×Nat)) (v:Nat):getA (kN lv) (.inl (v:Int))=(lkp lv v).map nI:=by
 unfold getA kN lkp
 induction lv with
|nil=>rfl
|cons p r ih =>
  by_cases e:p.1=v
  ·simp [e]
  ·have e2:¬ (Sum.inl (p.1:Int):Key)=Sum.inl (v:Int):=by rw [zwr];exact e
   simp only [List.map_cons,List.find?_cons]
   simp only [e,e2,decide_false]
   exact ih
theorem zts {lv:List (Nat×Nat)} {v a:Nat} (h:lkp lv v=none):putD (kN lv) (.inl (v:Int)) (nI a)=kN (lv++[(v,a)]):=by
 unfold putD
 have:((kN lv).any λ kv=>decide (kv.1=(Sum.inl (v:Int):Key)))=false:=by
  rw [List.any_eq_false]
  intro kv hk
  unfold kN at hk
  obtain ⟨p,hp,rfl⟩:=List.mem_map.mp hk
  have h1:=zqc h
  have:p.1≠v:=λ e=>h1 (by rw [<- e];exact List.mem_map_of_mem hp)
  simp only [decide_eq_true_eq]
  rw [zwr];exact this
 rw [this]
 simp [kN]
theorem zj01 {l:List Nat} {i s:Nat} (h:l[i]?=some s):atI (l.map nI) (i:Int)=some (nI s):=zk7 (by lia) (by rw [Int.toNat_natCast,List.getElem?_map,h];rfl)
theorem zyu {E:List Nat} {s m:Nat} (hl:E.length=2 * m) (hs:s < 2 * m):atI (E.map nI) (s:Int)=some (nI (hd E s)):=by
 refine zj01 ?_
 unfold hd
 rw [List.getD_eq_getElem?_getD,List.getElem?_eq_getElem (by lia)];rfl
theorem zwx {L:List Int} {s m:Nat} (hl:L.length=2 * m) (hs:s < 2 * m):atI (L.map PyData.int) (s:Int)=some (.int (lf L s)):=by
 refine zk7 (by lia) ?_
 rw [Int.toNat_natCast,List.getElem?_map]
 unfold lf
 rw [List.getD_eq_getElem?_getD,List.getElem?_eq_getElem (by lia)];rfl
theorem ze21 {S:List (List Nat)} {v:Nat} {l:List Nat} (h:S[v]?=some l):atI (S.map λ l=>(PyData.list (l.map nI))) (v:Int)=some (.list (l.map nI)):=zk7 (by lia) (by rw [Int.toNat_natCast,List.getElem?_map,h];rfl)
theorem zpr (s:Nat):(s:Int)+1 - 2 * ((s:Int) % 2)=((xr s:Nat):Int):=by unfold xr;split <;> lia
end L5
namespace L5
structure Bfs (n m:Nat) (E:List Nat) (L:List Int) (src:Nat) (lv:List (Nat×Nat)) (row:List Nat) (lev:Nat):Prop where
 nd:(lv.map (·.1)).Nodup
 bd:∀ p∈lv,p.1 < n
 l0:lkp lv src=some 0
 z0:∀ v,lkp lv v=some 0->v=src
 ro:∀ v∈row,lkp lv v=some lev
 le:∀ v b,lkp lv v=some b->b<=lev/\(b=lev->v∈row)
 cl:∀ v b,lkp lv v=some b->b < lev->∀ s,s < 2 * m->tl E s=v->0 < lf L s->(lkp lv (hd E s)).isSome=true
 pr:∀ v a,lkp lv v=some (a+1)->∃ s,s < 2 * m/\0 < lf L s/\hd E s=v/\lkp lv (tl E s)=some a
theorem Bfs.start {n m:Nat} {E:List Nat} {L:List Int} {src:Nat} (h:src < n):Bfs n m E L src [(src,0)] [src] 0:=by
 have e:∀ v,lkp [(src,0)] v=if src=v then some 0 else none:=λ v=>by
  by_cases z:src=v
  ·simp [lkp,z]
  ·simp [lkp,z]
 refine ⟨by simp,λ p hp=>?_,by rw [e];simp,λ v hv=>?_,λ v hv=>?_,λ v b hv=>?_,λ v b _ hb=>by lia,λ v a hv=>?_⟩
 ·simp at hp;subst hp;exact h
 ·rw [e] at hv
  split at hv
  ·rename_i z;exact z.symm
  ·cases hv
 ·simp at hv;subst hv;rw [e];simp
 ·rw [e] at hv
  split at hv
  ·rename_i z;cases hv;exact ⟨Nat.le_refl _,λ _=>by simp [z]⟩
  ·cases hv
 ·rw [e] at hv
  split at hv <;> cases hv
theorem Bfs.lev {n m:Nat} {E:List Nat} {L:List Int} {src:Nat} {lv:List (Nat×Nat)} {lev:Nat} (h:Bfs n m E L src lv [] lev):Lev n m E L src lv:=by
 refine ⟨h.nd,h.bd,h.l0,h.z0,λ s hs hp ht=>?_,h.pr⟩
 obtain ⟨b,hb⟩:=Option.isSome_iff_exists.mp ht
 have:=h.le _ b hb
 have hlt:b < lev:=by
  rcases Nat.lt_or_ge b lev with z|z
  ·exact z
  ·have:=this.2 (by lia);simp at this
 exact h.cl _ b hb hlt s hs rfl hp
structure Mid (n m:Nat) (E:List Nat) (L:List Int) (lv:List (Nat×Nat)) (lev:Nat) (lv1:List (Nat×Nat)) (beh:List Nat):Prop where
 nd:(lv1.map (·.1)).Nodup
 bd:∀ p∈lv1,p.1 < n
 old:∀ v b,lkp lv v=some b->lkp lv1 v=some b
 new:∀ v b,lkp lv1 v=some b->lkp lv v=some b \/ (b=lev+1/\v∈beh)
 ro:∀ v∈beh,lkp lv1 v=some (lev+1)
 pr:∀ v a,lkp lv1 v=some (a+1)->∃ s,s < 2 * m/\0 < lf L s/\hd E s=v/\lkp lv1 (tl E s)=some a
 len:lv1.length=lv.length+beh.length
theorem Mid.start {n m:Nat} {E:List Nat} {L:List Int} {src:Nat} {lv:List (Nat×Nat)} {row:List Nat} {lev:Nat} (h:Bfs n m E L src lv row lev):Mid n m E L lv lev lv [] :=
 ⟨h.nd,h.bd,λ _ _ z=>z,λ _ _ z=>.inl z,λ v hv=>by simp at hv,h.pr,by simp⟩
theorem Mid.put {n m:Nat} {E:List Nat} {L:List Int} {lv lv1:List (Nat×Nat)} {lev:Nat} {beh:List Nat} {s:Nat} (h:Mid n m E L lv lev lv1 beh) (hs:s < 2 * m) (hp:0 < lf L s) (ht:lkp lv1 (tl E s)=some lev) (hn:hd E s < n) (hg:lkp lv1 (hd E s)=none):Mid n m E L lv lev (lv1++[(hd E s,lev+1)]) (beh++[hd E s]):=by
 have keep:∀ v b,lkp lv1 v=some b->lkp (lv1++[(hd E s,lev+1)]) v=some b:=λ v b e=>by rw [zc8,e]
 have me:lkp (lv1++[(hd E s,lev+1)]) (hd E s)=some (lev+1):=by rw [zc8,hg];simp
 have back:∀ v b,lkp (lv1++[(hd E s,lev+1)]) v=some b->lkp lv1 v=some b \/ (v=hd E s/\b=lev+1):=λ v b e=>by
  rw [zc8] at e
  cases q:lkp lv1 v with
 |some c=>rw [q] at e;exact .inl e
 |none =>
   rw [q] at e
   simp only at e
   split at e
   ·rename_i z;cases e;exact .inr ⟨z.symm,rfl⟩
   ·cases e
 refine ⟨?_,λ p hp'=>?_,λ v b e=>keep v b (h.old v b e),λ v b e=>?_,λ v hv=>?_,λ v a e=>?_,by simp [h.len];lia⟩
 ·rw [List.map_append]
  refine List.nodup_append.mpr ⟨h.nd,by simp,λ x hx y hy z=>?_⟩
  simp at hy;subst hy;subst z
  exact zqc hg hx
 ·rcases List.mem_append.mp hp' with z|z
  ·exact h.bd p z
  ·simp at z;subst z;exact hn
 ·rcases back v b e with z|⟨z1,z2⟩
  ·rcases h.new v b z with y|⟨y1,y2⟩
   ·exact .inl y
   ·exact .inr ⟨y1,by simp [y2]⟩
  ·exact .inr ⟨z2,by simp [z1]⟩
 ·rcases List.mem_append.mp hv with z|z
  ·exact keep v _ (h.ro v z)
  ·simp at z;rw [z];exact me
 ·rcases back v (a+1) e with z|⟨z1,z2⟩
  ·obtain ⟨s',k1,k2,k3,k4⟩:=h.pr v a z
   exact ⟨s',k1,k2,k3,keep _ _ k4⟩
  ·have:a=lev:=by lia
   subst this
   exact ⟨s,hs,hp,z1.symm,keep _ _ ht⟩
theorem Mid.bfs {n m:Nat} {E:List Nat} {S:List (List Nat)} {L:List Int} {src:Nat} {lv lv1:List (Nat×Nat)} {row:List Nat} {lev:Nat} {beh:List Nat} (N:Net n m E S) (h0:Bfs n m E L src lv row lev) (h:Mid n m E L lv lev lv1 beh)
  (cl:∀ v∈row,∀ l,S[v]?=some l->∀ s∈l,0 < lf L s->(lkp lv1 (hd E s)).isSome=true):Bfs n m E L src lv1 beh (lev+1):=by
 refine ⟨h.nd,h.bd,h.old _ _ h0.l0,λ v hv=>?_,h.ro,λ v b hv=>?_,λ v b hv hb s hs ht hp=>?_,h.pr⟩
 ·rcases h.new v 0 hv with z|⟨z,_⟩
  ·exact h0.z0 v z
  ·lia
 ·rcases h.new v b hv with z|⟨z1,z2⟩
  ·have:=h0.le v b z;exact ⟨by lia,λ e=>by lia⟩
  ·exact ⟨by lia,λ _=>z2⟩
 ·rcases h.new v b hv with z|⟨z1,_⟩
  ·have le:=h0.le v b z
   by_cases e:b=lev
   ·have hr:=le.2 e
    obtain ⟨l,hl,hm⟩:=N.s2 s hs
    rw [ht] at hl
    exact cl v hr l hl s hm hp
   ·have:=h0.cl v b z (by lia) s hs ht hp
    obtain ⟨c,hc⟩:=Option.isSome_iff_exists.mp this
    rw [h.old _ c hc];rfl
  ·lia
end L5
namespace L5
open PySem PySem.Spec PyProof.Rows L2 L3 L4
structure Go (m:Nat) (E:List Nat) (S:List (List Nat)) (L:List Int) (lv:List (Nat×Nat)) (t src:Nat) (p:List Nat) (here:Nat) (TT:List (List Nat)):Prop where
 tri:Tri m E S L lv t TT
 way:Way m E L lv src p here
 l0:lkp lv src=some 0
 last:∀ s∈p,∃ l,TT[tl E s]?=some (l++[s])
def szT (TT:List (List Nat)):Nat:=(TT.map List.length).sum
theorem zv6:∀ {TT:List (List Nat)} {v:Nat} {l:List Nat} (k:List Nat),TT[v]?=some l->szT (TT.set v k)+l.length=szT TT+k.length
|[],v,l,k,h=>by simp at h
|x :: r,0,l,k,h=>by simp at h;subst h;simp [szT];lia
|x :: r,v+1,l,k,h=>by
  have:=zv6 (TT:=r) (v:=v) k (by simpa using h)
  simp [szT] at this ⊢;lia
theorem Go.lev {m:Nat} {E:List Nat} {S:List (List Nat)} {L:List Int} {lv:List (Nat×Nat)} {t src:Nat} {p:List Nat} {here:Nat} {TT:List (List Nat)} (g:Go m E S L lv t src p here TT):lkp lv here=some p.length:=by
 have:=g.way.level g.l0
 rwa [Nat.zero_add] at this
theorem Go.short {m:Nat} {E:List Nat} {S:List (List Nat)} {L:List Int} {lv:List (Nat×Nat)} {t src:Nat} {p:List Nat} {here:Nat} {TT:List (List Nat)} (g:Go m E S L lv t src p here TT) (hb:∀ s∈p,s < 2 * m):p.length<=2 * m :=
 zq0 _ p (g.way.nodup g.l0).1 hb
theorem Way.lt {m:Nat} {E:List Nat} {L:List Int} {lv:List (Nat×Nat)}:∀ {v:Nat} {p:List Nat} {t:Nat},Way m E L lv v p t->∀ s∈p,s < 2 * m
|_,[],_,_,s,hs=>by simp at hs
|v,x :: p,t,h,s,hs=>by
  rcases List.mem_cons.mp hs with z|z
  ·rw [z];exact h.1
  ·exact h.2.2.2.lt s z
theorem Go.tails {m:Nat} {E:List Nat} {S:List (List Nat)} {L:List Int} {lv:List (Nat×Nat)} {t src:Nat} {p:List Nat} {here:Nat} {TT:List (List Nat)} (g:Go m E S L lv t src p here TT):∀ s∈p,tl E s≠here:=by
 have key:∀ {v:Nat} {p:List Nat} {u a:Nat},Way m E L lv v p u->lkp lv v=some a->∀ s∈p,∃ b,b < a+p.length/\lkp lv (tl E s)=some b:=by
  intro v p
  induction p generalizing v with
 |nil=>intro u a _ _ s hs;simp at hs
 |cons x r ih =>
   intro u a h e s hs
   obtain ⟨h1,h2,⟨h3,b,h4,h5⟩,h6⟩:=h
   have:b=a:=by rw [h2,e] at h4;injection h4 with h4;exact h4.symm
   subst this
   rcases List.mem_cons.mp hs with z|z
   ·subst z;exact ⟨b,by simp,h4⟩
   ·obtain ⟨c,c1,c2⟩:=ih h6 h5 s z
    exact ⟨c,by simp;lia,c2⟩
 intro s hs e
 obtain ⟨b,h1,h2⟩:=key g.way g.l0 s hs
 rw [e,g.lev] at h2
 injection h2 with h2
 lia
theorem Go.vain {m:Nat} {E:List Nat} {S:List (List Nat)} {L:List Int} {lv:List (Nat×Nat)} {t src:Nat} {p:List Nat} {here n:Nat} {TT:List (List Nat)} (N:Net n m E S) (g:Go m E S L lv t src p here TT) {l:List Nat} {j:Nat} (h:TT[here]?=some l)
  (bad:∀ (i:Nat) s,j<=i->l[i]?=some s->¬(0 < lf L s/\lkp lv (hd E s)=some (p.length+1))):∀ (i:Nat) s,j<=i->l[i]?=some s->¬(Adm E L lv s/\Rch m E L lv t (hd E s)):=λ i s hi e z=>by
 obtain ⟨k,h1,h2⟩:=g.tri.pre here l h
 obtain ⟨_,hs⟩:=N.s1 here k h1 s (h2.subset (List.mem_of_getElem? e))
 obtain ⟨z1,a,z2,z3⟩:=z.1
 rw [hs,g.lev] at z2
 injection z2 with z2
 subst z2
 exact bad i s hi e ⟨z1,z3⟩
theorem Go.cut {m:Nat} {E:List Nat} {S:List (List Nat)} {L:List Int} {lv:List (Nat×Nat)} {t src:Nat} {p:List Nat} {here n:Nat} {TT:List (List Nat)} (N:Net n m E S) (g:Go m E S L lv t src p here TT) {l:List Nat} {j:Nat} (h:TT[here]?=some l) (hj:j<=l.length)
  (bad:∀ (i:Nat) s,j<=i->l[i]?=some s->¬(0 < lf L s/\lkp lv (hd E s)=some (p.length+1))):Go m E S L lv t src p here (TT.set here (l.take j)) :=
 ⟨g.tri.cut h hj (g.vain N h bad),g.way,g.l0,λ s hs=>by
  obtain ⟨k,hk⟩:=g.last s hs
  refine ⟨k,?_⟩
  rw [List.getElem?_set_ne (λ z=>g.tails s hs z.symm)]
  exact hk⟩
theorem zz9 {TT:List (List Nat)} {v:Nat} {l:List Nat} (h:TT[v]?=some l):v < TT.length:=by
 rcases Nat.lt_or_ge v TT.length with z|z
 ·exact z
 ·rw [List.getElem?_eq_none z] at h;cases h
theorem Go.fwd {m:Nat} {E:List Nat} {S:List (List Nat)} {L:List Int} {lv:List (Nat×Nat)} {t src:Nat} {p:List Nat} {here n:Nat} {TT:List (List Nat)} (N:Net n m E S) (g:Go m E S L lv t src p here TT) {l:List Nat} {j s:Nat} (h:TT[here]?=some l) (h0:0 < j) (hj:j<=l.length)
  (bad:∀ (i:Nat) s,j<=i->l[i]?=some s->¬(0 < lf L s/\lkp lv (hd E s)=some (p.length+1))) (hs:l[j - 1]?=some s) (hp:0 < lf L s) (hl:lkp lv (hd E s)=some (p.length+1)) :
  Go m E S L lv t src (p++[s]) (hd E s) (TT.set here (l.take j))/\szT (TT.set here (l.take j))<=szT TT/\s < 2 * m:=by
 have g1:=g.cut N h hj bad
 obtain ⟨k,k1,k2⟩:=g.tri.pre here l h
 obtain ⟨hsm,hst⟩:=N.s1 here k k1 s (k2.subset (List.mem_of_getElem? hs))
 refine ⟨⟨g1.tri,g.way.snoc hsm hst ⟨hp,_,by rw [hst];exact g.lev,hl⟩,g.l0,λ x hx=>?_⟩,?_,hsm⟩
 ·rcases List.mem_append.mp hx with z|z
  ·exact g1.last x z
  ·simp at z;subst z
   refine ⟨l.take (j - 1),?_⟩
   rw [hst,List.getElem?_set_self (zz9 h)]
   congr 1
   have:j=(j - 1)+1:=by lia
   rw [this,List.take_succ,Nat.add_sub_cancel,hs];rfl
 ·have:=zv6 (l.take j) h
  rw [List.length_take] at this
  lia
theorem Go.back {m:Nat} {E:List Nat} {S:List (List Nat)} {L:List Int} {lv:List (Nat×Nat)} {t src:Nat} {p:List Nat} {s here n:Nat} {TT:List (List Nat)} (N:Net n m E S) (g:Go m E S L lv t src (p++[s]) here TT) {l:List Nat} (h:TT[here]?=some l) (ht:here≠t)
  (bad:∀ (i:Nat) s',0<=i->l[i]?=some s'->¬(0 < lf L s'/\lkp lv (hd E s')=some ((p++[s]).length+1))) :
  s < 2 * m/\∃ k,(TT.set here [])[tl E s]?=some (k++[s])/\Go m E S L lv t src p (tl E s) ((TT.set here []).set (tl E s) k)/\szT ((TT.set here []).set (tl E s) k)+1<=szT TT:=by
 have g1:=g.cut (j:=0) N h (Nat.zero_le _) bad
 rw [List.take_zero] at g1
 obtain ⟨k,hk⟩:=g1.last s (by simp)
 obtain ⟨w1,w2,w3,w4⟩:=g.way.unsnoc
 have dead:¬ Rch m E L lv t here:=g1.tri.dead N (v:=here) (by rw [List.getElem?_set_self (zz9 h)]) ht
 have tri2:=g1.tri.cut hk (k:=k.length) (by simp) (λ j x hj e z=>by
  have hjl:j < (k++[s]).length:=by
   rcases Nat.lt_or_ge j (k++[s]).length with y|y
   ·exact y
   ·rw [List.getElem?_eq_none y] at e;cases e
  have:j=k.length:=by rw [List.length_append] at hjl;simp at hjl;lia
  subst this
  rw [List.getElem?_concat_length] at e
  injection e with e
  subst e
  rw [w2] at z
  exact dead z.2)
 rw [List.take_left] at tri2
 have sz1:=zv6 (TT:=TT) [] h
 have sz2:=zv6 k hk
 have g2:Go m E S L lv t src p (tl E s) (TT.set here []):=⟨g1.tri,w1,g.l0,λ x hx=>g1.last x (by simp [hx])⟩
 refine ⟨w3,k,hk,⟨tri2,w1,g.l0,λ x hx=>?_⟩,?_⟩
 ·obtain ⟨q,hq⟩:=g2.last x hx
  refine ⟨q,?_⟩
  rw [List.getElem?_set_ne (λ z=>g2.tails x hx z.symm)]
  exact hq
 ·rw [List.length_append] at sz2
  simp at sz1 sz2
  lia
theorem Go.dead {m:Nat} {E:List Nat} {S:List (List Nat)} {L:List Int} {lv:List (Nat×Nat)} {t src:Nat} {here n:Nat} {TT:List (List Nat)} (N:Net n m E S) (g:Go m E S L lv t src [] here TT) {l:List Nat} (h:TT[here]?=some l) (ht:here≠t)
  (bad:∀ (i:Nat) s',0<=i->l[i]?=some s'->¬(0 < lf L s'/\lkp lv (hd E s')=some (([]:List Nat).length+1))):¬ Rch m E L lv t src:=by
 have g1:=g.cut (j:=0) N h (Nat.zero_le _) bad
 have e:src=here:=g.way
 rw [e]
 exact g1.tri.dead N (v:=here) (by rw [List.getElem?_set_self (zz9 h)];rfl) ht
theorem zyc {n j:Nat} (h:j < n):ixN n ((j:Nat):Int)=some j:=by
 unfold ixN
 rw [if_pos (by lia),if_pos (by lia),Int.toNat_natCast]
end L5
namespace L5
structure Up (m:Nat) (most:Nat->Int) (E:List Nat) (L L':List Int) (src snk:Nat):Prop where
 cap:Cap m most L'
 eqb:∀ v,v≠src->v≠snk->bal m E L' v=bal m E L v
 out:∀ k,k < m->hd E (2 * k+1)=src->lf L (2 * k+1)<=lf L' (2 * k+1)
 inn:∀ k,k < m->hd E (2 * k)=snk->lf L (2 * k+1)<=lf L' (2 * k+1)
 bs:bal m E L' src<=bal m E L src
 bt:bal m E L snk<=bal m E L' snk
theorem Up.refl {m:Nat} {most:Nat->Int} {E:List Nat} {L:List Int} {src snk:Nat} (c:Cap m most L):Up m most E L L src snk :=
 ⟨c,λ _ _ _=>rfl,λ _ _ _=>Int.le_refl _,λ _ _ _=>Int.le_refl _,Int.le_refl _,Int.le_refl _⟩
theorem Up.trans {m:Nat} {most:Nat->Int} {E:List Nat} {L L' L2:List Int} {src snk:Nat} (h:Up m most E L L' src snk) (k:Up m most E L' L2 src snk):Up m most E L L2 src snk :=
 ⟨k.cap,λ v a b=>(k.eqb v a b).trans (h.eqb v a b),λ i a b=>Int.le_trans (h.out i a b) (k.out i a b),λ i a b=>Int.le_trans (h.inn i a b) (k.inn i a b),Int.le_trans k.bs h.bs,Int.le_trans h.bt k.bt⟩
theorem Up.carry {m:Nat} {most:Nat->Int} {E:List Nat} {L:List Int} {lv:List (Nat×Nat)} {src snk:Nat} {p:List Nat} {a:Int} (c:Cap m most L) (h:Way m E L lv src p snk) (l0:lkp lv src=some 0) (ha:0<=a) (hm:∀ s∈p,a<=lf L s):Up m most E L (zx1 L p a) src snk:=by
 obtain ⟨nd,nx⟩:=h.nodup l0
 have lev:=h.level l0
 have ft:∀ {v:Nat} {p:List Nat} {u a:Nat},Way m E L lv v p u->lkp lv v=some a->∀ s∈p,∃ b,b < a+p.length/\lkp lv (tl E s)=some b:=by
  intro v p
  induction p generalizing v with
 |nil=>intro u a _ _ s hs;simp at hs
 |cons x r ih =>
   intro u a h e s hs
   obtain ⟨h1,h2,⟨h3,b,h4,h5⟩,h6⟩:=h
   have:b=a:=by rw [h2,e] at h4;injection h4 with h4;exact h4.symm
   subst this
   rcases List.mem_cons.mp hs with z|z
   ·subst z;exact ⟨b,by simp,h4⟩
   ·obtain ⟨c,c1,c2⟩:=ih h6 h5 s z
    exact ⟨c,by simp;lia,c2⟩
 have keep:∀ j,j ∉ p->lf L j<=lf (zx1 L p a) j:=λ j hj=>by
  rw [zt6 c.len h.lt nd nx,if_neg hj]
  split <;> lia
 refine ⟨c.carry h l0 ha hm,λ v v1 v2=>?_,λ k hk e=>keep _ λ z=>?_,λ k hk e=>keep _ λ z=>?_,by rw [zb4 c.len h,if_pos rfl];split <;> lia,by rw [zb4 c.len h,if_pos rfl];split <;> lia⟩
 ·rw [zb4 c.len h,if_neg (λ z=>v2 z.symm),if_neg (λ z=>v1 z.symm)];lia
 ·obtain ⟨b,_,_,z3⟩:=h.tails l0 _ z
  rw [e,l0] at z3
  injection z3 with z3
  lia
 ·obtain ⟨b,z1,z2⟩:=ft h l0 _ z
  have:tl E (2 * k+1)=snk:=by
   unfold tl xr
   rw [if_neg (by lia),Nat.add_sub_cancel];exact e
  rw [this,lev] at z2
  injection z2 with z2
  lia
end L5
namespace L5
open PySem PySem.Spec PyProof.Rows L2 L3 L4
abbrev Ar:=Nat×Nat×Int
def dAr (a:Ar):D:=.tuple [nI a.1,nI a.2.1,.int a.2.2]
def zo3 (A:List Ar):List Nat:=A.flatMap λ a=>[a.2.1,a.1]
def zc6 (A:List Ar) (f:List Int):List Int:=(A.zip f).flatMap λ x=>[x.1.2.2 - x.2,x.2]
theorem zme (A:List Ar) (a:Ar):zo3 (A++[a])=zo3 A++[a.2.1,a.1]:=by simp [zo3]
theorem zur {E X:List Nat} {s:Nat} (h:s < E.length):hd (E++X) s=hd E s:=by
 unfold hd
 rw [List.getD_eq_getElem?_getD,List.getD_eq_getElem?_getD,List.getElem?_append_left h]
theorem zs31 {E:List Nat} {m x y:Nat} (h:E.length=2 * m):hd (E++[x,y]) (2 * m)=x/\hd (E++[x,y]) (2 * m+1)=y:=by
 unfold hd
 constructor
 ·rw [List.getD_eq_getElem?_getD,List.getElem?_append_right (by lia),h];simp
 ·rw [List.getD_eq_getElem?_getD,List.getElem?_append_right (by lia),h];simp
theorem Net.nil (n:Nat):Net n 0 [] (List.replicate n []):=⟨rfl,λ s hs=>by lia,by simp,(λ v l h s hs=>by
 rw [List.getElem?_replicate] at h
 split at h
 ·cases h;simp at hs
 ·cases h),λ s hs=>by lia⟩
theorem Net.push {n m:Nat} {E:List Nat} {S:List (List Nat)} {u v:Nat} {l1 l2:List Nat} (N:Net n m E S) (hu:u < n) (hv:v < n) (h1:S[u]?=some l1) (h2:(S.set u (l1++[2 * m]))[v]?=some l2) :
  Net n (m+1) (E++[v,u]) ((S.set u (l1++[2 * m])).set v (l2++[2 * m+1])):=by
 obtain ⟨e1,e2⟩:=zs31 (x:=v) (y:=u) N.lE
 have x1:xr (2 * m)=2 * m+1:=by unfold xr;rw [if_pos (by lia)]
 have x2:xr (2 * m+1)=2 * m:=by unfold xr;rw [if_neg (by lia)];lia
 have old:∀ s,s < 2 * m->tl (E++[v,u]) s=tl E s:=λ s hs=>zur (by rw [N.lE];exact zju hs)
 have t1:tl (E++[v,u]) (2 * m)=u:=by unfold tl;rw [x1];exact e2
 have t2:tl (E++[v,u]) (2 * m+1)=v:=by unfold tl;rw [x2];exact e1
 have A1:∀ (w:Nat) l,(S.set u (l1++[2 * m]))[w]?=some l->∀ s∈l,(s < 2 * m/\tl E s=w) \/ (s=2 * m/\w=u):=λ w l h s hs=>by
  by_cases z:u=w
  ·subst z
   rw [List.getElem?_set_self (by rw [N.lS];exact hu)] at h
   cases h
   rcases List.mem_append.mp hs with y|y
   ·exact .inl (N.s1 u l1 h1 s y)
   ·simp at y;exact .inr ⟨y,rfl⟩
  ·rw [List.getElem?_set_ne z] at h
   exact .inl (N.s1 w l h s hs)
 have B1:∀ s,s < 2 * m->∃ l,(S.set u (l1++[2 * m]))[tl E s]?=some l/\s∈l:=λ s hs=>by
  obtain ⟨l,k1,k2⟩:=N.s2 s hs
  by_cases z:u=tl E s
  ·rw [<- z] at k1 ⊢
   rw [h1] at k1;cases k1
   exact ⟨_,List.getElem?_set_self (by rw [N.lS];exact hu),by simp [k2]⟩
  ·exact ⟨l,by rw [List.getElem?_set_ne z];exact k1,k2⟩
 have B2:∃ l,(S.set u (l1++[2 * m]))[u]?=some l/\2 * m∈l:=⟨_,List.getElem?_set_self (by rw [N.lS];exact hu),by simp⟩
 have B3:∀ (w s:Nat),(∃ l,(S.set u (l1++[2 * m]))[w]?=some l/\s∈l)->∃ l,((S.set u (l1++[2 * m])).set v (l2++[2 * m+1]))[w]?=some l/\s∈l:=λ w s ⟨l,k1,k2⟩=>by
  by_cases z:v=w
  ·subst z
   rw [h2] at k1;cases k1
   exact ⟨_,List.getElem?_set_self (by rw [List.length_set,N.lS];exact hv),by simp [k2]⟩
  ·exact ⟨l,by rw [List.getElem?_set_ne z];exact k1,k2⟩
 refine ⟨by rw [List.length_append,N.lE];simp;lia,λ s hs=>?_,by rw [List.length_set,List.length_set];exact N.lS,λ w l h s hs=>?_,λ s hs=>?_⟩
 ·by_cases z:s < 2 * m
  ·rw [zur (by rw [N.lE];exact z)];exact N.bE s z
  ·have:s=2 * m \/ s=2 * m+1:=by lia
   rcases this with y|y
   ·rw [y,e1];exact hv
   ·rw [y,e2];exact hu
 ·have key:(s < 2 * m/\tl E s=w) \/ (s=2 * m/\w=u) \/ (s=2 * m+1/\w=v):=by
   by_cases z:v=w
   ·subst z
    rw [List.getElem?_set_self (by rw [List.length_set,N.lS];exact hv)] at h
    cases h
    rcases List.mem_append.mp hs with y|y
    ·rcases A1 v l2 h2 s y with k|k
     ·exact .inl k
     ·exact .inr (.inl k)
    ·simp at y;exact .inr (.inr ⟨y,rfl⟩)
   ·rw [List.getElem?_set_ne z] at h
    rcases A1 w l h s hs with k|k
    ·exact .inl k
    ·exact .inr (.inl k)
  rcases key with ⟨k1,k2⟩|⟨rfl,rfl⟩|⟨rfl,rfl⟩
  ·exact ⟨by lia,by rw [old s k1];exact k2⟩
  ·exact ⟨by lia,t1⟩
  ·exact ⟨by lia,t2⟩
 ·by_cases z:s < 2 * m
  ·rw [old s z];exact B3 _ _ (B1 s z)
  ·have:s=2 * m \/ s=2 * m+1:=by lia
   rcases this with y|y
   ·subst y;rw [t1];exact B3 _ _ B2
   ·subst y;rw [t2]
    exact ⟨_,List.getElem?_set_self (by rw [List.length_set,N.lS];exact hv),by simp⟩
theorem zj8:∀ {A:List Ar} {f:List Int},f.length=A.length->(zc6 A f).length=2 * A.length
|[],f,h=>by simp [zc6]
|a :: r,[],h=>by simp at h
|a :: r,x :: f,h=>by have:=zj8 (A:=r) (f:=f) (by simpa using h);simp [zc6] at this ⊢;lia
theorem za9:∀ {A:List Ar} {f:List Int} {k:Nat} {a:Ar} {x:Int},A[k]?=some a->f[k]?=some x->lf (zc6 A f) (2 * k)=a.2.2 - x/\lf (zc6 A f) (2 * k+1)=x
|[],f,k,a,x,h,_=>by simp at h
|b :: r,[],k,a,x,_,h=>by simp at h
|b :: r,y :: f,0,a,x,h1,h2=>by simp at h1 h2;subst h1;subst h2;simp [zc6,lf]
|b :: r,y :: f,k+1,a,x,h1,h2=>by
  have:=za9 (A:=r) (f:=f) (k:=k) (by simpa using h1) (by simpa using h2)
  rw [show 2 * (k+1)=2 * k+1+1 by lia]
  simp [zc6,lf] at this ⊢;exact this
theorem zvb:∀ {A:List Ar} {k:Nat} {a:Ar},A[k]?=some a->hd (zo3 A) (2 * k)=a.2.1/\hd (zo3 A) (2 * k+1)=a.1
|[],k,a,h=>by simp at h
|b :: r,0,a,h=>by simp at h;subst h;simp [zo3,hd]
|b :: r,k+1,a,h=>by
  have:=zvb (A:=r) (k:=k) (by simpa using h)
  rw [show 2 * (k+1)=2 * k+1+1 by lia]
  simp [zo3,hd] at this ⊢;exact this
def ze9 (A:List Ar) (k:Nat):Int:=((A[k]?).map λ a=>a.2.2).getD 0
theorem zxi {A:List Ar} {f:List Int} (hl:f.length=A.length) (hf:∀ (k:Nat) a x,A[k]?=some a->f[k]?=some x->0<=x/\x<=a.2.2):Cap A.length (ze9 A) (zc6 A f):=by
 have get:∀ k,k < A.length->∃ a x,A[k]?=some a/\f[k]?=some x:=λ k hk=>⟨A[k],f[k],List.getElem?_eq_getElem _,List.getElem?_eq_getElem _⟩
 refine ⟨zj8 hl,λ s hs=>?_,λ k hk=>?_⟩
 ·obtain ⟨a,x,h1,h2⟩:=get (s / 2) (by lia)
  obtain ⟨e1,e2⟩:=za9 h1 h2
  have:=hf _ a x h1 h2
  rcases Nat.mod_two_eq_zero_or_one s with z|z
  ·rw [show s=2 * (s / 2) by lia,e1];lia
  ·rw [show s=2 * (s / 2)+1 by lia,e2];lia
 ·obtain ⟨a,x,h1,h2⟩:=get k hk
  obtain ⟨e1,e2⟩:=za9 h1 h2
  rw [e1,e2,ze9,h1];simp
theorem zpm {L:List Int} {m:Nat} (h:L.length=2 * m):zge (L.map PyData.int) (some 1) none (some 2)=(List.range m).map λ k=>.int (lf L (2 * k+1)):=by
 unfold zge
 rw [List.length_map,h]
 have e1:sliceBounds (some 1) none (some 2) (2 * m)=(max 0 (min (1:Int) ((2 * m:Nat):Int)),((2 * m:Nat):Int),2):=by
  unfold sliceBounds
  rfl
 rw [e1]
 show List.filterMap _ (sliceRange (max 0 (min (1:Int) ((2 * m:Nat):Int))) ((2 * m:Nat):Int) 2)=_
 have e2:sliceRange (max 0 (min (1:Int) ((2 * m:Nat):Int))) ((2 * m:Nat):Int) 2=(List.range m).map λ k=>2 * k+1:=by
  unfold sliceRange
  cases m with
 |zero=>rfl
 |succ m =>
   have e3:max 0 (min (1:Int) ((2 * (m+1):Nat):Int))=1:=by lia
   rw [e3]
   have:(if (2:Int) > 0 then (if (1:Int) < ((2 * (m+1):Nat):Int) then (((2 * (m+1):Nat):Int) - 1+2 - 1) / 2 else 0) else (if (1:Int) > ((2 * (m+1):Nat):Int) then (1 - ((2 * (m+1):Nat):Int) - 2 - 1) / (-2) else 0))=((m+1:Nat):Int):=by
    rw [if_pos (by decide),if_pos (by lia)];lia
   simp only [this]
   rw [Int.toNat_natCast]
   refine List.map_congr_left λ k hk=>?_
   lia
 rw [e2,List.filterMap_map]
 have:∀ l:List Nat,(∀ k∈l,k < m)->List.filterMap ((λ x=>(L.map PyData.int)[x]?) ∘ λ k=>2 * k+1) l=l.map λ k=>PyData.int (lf L (2 * k+1)):=by
  intro l
  induction l with
 |nil=>intro _;rfl
 |cons k r ih =>
   intro hk
   have hk0:=hk k (by simp)
   have e:(L.map PyData.int)[2 * k+1]?=some (.int (lf L (2 * k+1))):=by
    rw [List.getElem?_map]
    unfold lf
    rw [List.getD_eq_getElem?_getD,List.getElem?_eq_getElem (by lia)];rfl
   rw [List.filterMap_cons]
   simp only [Function.comp]
   rw [e]
   simp only [List.map_cons]
   congr 1
   exact ih λ x hx=>hk x (by simp [hx])
 exact this _ λ k hk=>List.mem_range.mp hk
theorem zaq {S:List (List Nat)} {v:Nat} {l:List Nat} (h:S[v]?=some l):l.length<=szT S:=by
 have:=zv6 [] h
 simp at this;lia
theorem zwt (i:Nat):CMul 2 (i:Int):=by
 unfold CMul
 exact .inl (by decide)
theorem zrf:∀ {A:List Ar} {f:List Int} {a:Ar} {x:Int},f.length=A.length->zc6 (A++[a]) (f++[x])=zc6 A f++[a.2.2 - x,x]:=by
 intro A f a x h
 unfold zc6
 rw [List.zip_append h.symm,List.flatMap_append]
 rfl
structure Best (n:Nat) (A:List Ar) (f:List Int) (src snk:Nat) (L:List Int) (side:List Nat):Prop where
 up:Up A.length (ze9 A) (zo3 A) (zc6 A f) L src snk
 inn:src∈side
 out:snk ∉ side
 bd:∀ v∈side,v < n
 ris:side.Pairwise (· < ·)
 cl:∀ s,s < 2 * A.length->0 < lf L s->tl (zo3 A) s∈side->hd (zo3 A) s∈side
 rc:∃ lv,Lev n A.length (zo3 A) L src lv/\∀ v,v∈side ↔ (lkp lv v).isSome=true
theorem zdu {lv:List (Nat×Nat)} {v:Nat}:(lkp lv v).isSome=true ↔ v∈lv.map (·.1):=by
 constructor
 ·intro h
  obtain ⟨b,hb⟩:=Option.isSome_iff_exists.mp h
  exact List.mem_map_of_mem (f:=(·.1)) (zlg hb)
 ·intro h
  cases e:lkp lv v with
 |some b=>rfl
 |none=>exact absurd h (zqc e)
theorem zkq {n:Nat} {A:List Ar} {f:List Int} {src snk:Nat} {L:List Int} {lv:List (Nat×Nat)} (up:Up A.length (ze9 A) (zo3 A) (zc6 A f) L src snk) (hv:Lev n A.length (zo3 A) L src lv) (ht:(lkp lv snk).isSome=false)
  {ns:List Int} (hp:ns.Perm (lv.map λ p=>((p.1:Nat):Int))) (hs:ns.Pairwise (·<=·)):∃ side:List Nat,ns.map PyData.int=side.map nI/\Best n A f src snk L side:=by
 have hmem:∀ x∈ns,∃ p∈lv,x=((p.1:Nat):Int):=λ x hx=>by
  obtain ⟨p,h1,h2⟩:=List.mem_map.mp (hp.mem_iff.mp hx)
  exact ⟨p,h1,h2.symm⟩
 refine ⟨ns.map Int.toNat,?_,?_⟩
 ·rw [List.map_map]
  refine List.map_congr_left λ x hx=>?_
  obtain ⟨p,_,rfl⟩:=hmem x hx
  simp [nI]
 have iff:∀ v,v∈ns.map Int.toNat ↔ (lkp lv v).isSome=true:=λ v=>by
  rw [zdu]
  constructor
  ·intro h
   obtain ⟨x,hx,rfl⟩:=List.mem_map.mp h
   obtain ⟨p,hp',rfl⟩:=hmem x hx
   rw [Int.toNat_natCast]
   exact List.mem_map_of_mem (f:=(·.1)) hp'
  ·intro h
   obtain ⟨p,hp',rfl⟩:=List.mem_map.mp h
   refine List.mem_map.mpr ⟨((p.1:Nat):Int),hp.mem_iff.mpr (List.mem_map.mpr ⟨p,hp',rfl⟩),Int.toNat_natCast _⟩
 have nd:ns.Nodup:=by
  refine hp.nodup_iff.mpr ?_
  have h1:=hv.nd
  have:(lv.map λ p=>((p.1:Nat):Int))=(lv.map (·.1)).map λ x=>((x:Nat):Int):=by rw [List.map_map];rfl
  rw [this]
  exact h1.map (λ x:Nat=>(x:Int)) (λ a b hne z=>hne (by exact_mod_cast z))
 refine ⟨up,(iff _).mpr (by rw [hv.l0];rfl),(λ z=>by rw [(iff _).mp z] at ht;cases ht),λ v hvm=>?_,?_,λ s h1 h2 h3=>(iff _).mpr (hv.cl s h1 h2 ((iff _).mp h3)),lv,hv,iff⟩
 ·obtain ⟨b,hb⟩:=Option.isSome_iff_exists.mp ((iff v).mp hvm)
  exact hv.bd _ (zlg hb)
 ·have key:∀ (l:List Int),l.Pairwise (·<=·)->l.Nodup->(∀ x∈l,0<=x)->(l.map Int.toNat).Pairwise (· < ·):=by
   intro l
   induction l with
  |nil=>intros;exact .nil
  |cons x r ih =>
    intro h1 h2 h3
    obtain ⟨a1,a2⟩:=List.pairwise_cons.mp h1
    obtain ⟨b1,b2⟩:=List.nodup_cons.mp h2
    refine List.pairwise_cons.mpr ⟨λ y hy=>?_,ih a2 b2 λ z hz=>h3 z (by simp [hz])⟩
    obtain ⟨z,hz,rfl⟩:=List.mem_map.mp hy
    have c1:=a1 z hz
    have c2:x≠z:=λ e=>b1 (e ▸ hz)
    have c3:=h3 x (by simp)
    lia
  exact key ns hs nd λ x hx=>by obtain ⟨p,_,rfl⟩:=hmem x hx;lia
def sm (m:Nat) (g:Nat->Int):Int:=((List.range m).map g).sum
theorem zc2 (m:Nat) (g:Nat->Int):sm (m+1) g=sm m g+g m:=by
 unfold sm
 rw [List.range_succ,List.map_append,List.sum_append]
 simp
theorem zs0 {m:Nat} {g h:Nat->Int} (e:∀ k,k < m->g k=h k):sm m g=sm m h:=by
 unfold sm
 rw [List.map_congr_left λ k hk=>e k (List.mem_range.mp hk)]
theorem zfi (g h:Nat->Int):∀ m,sm m (λ k=>g k+h k)=sm m g+sm m h
|0=>rfl
|m+1=>by rw [zc2,zc2,zc2,zfi g h m];lia
theorem zgc (g h:Nat->Int):∀ m,sm m (λ k=>g k - h k)=sm m g - sm m h
|0=>rfl
|m+1=>by rw [zc2,zc2,zc2,zgc g h m];lia
theorem zq1:∀ m,sm m (λ _=>0)=0
|0=>rfl
|m+1=>by rw [zc2,zq1 m];rfl
theorem zpj {g h:Nat->Int}:∀ {m:Nat},(∀ k,k < m->g k<=h k)->sm m g<=sm m h
|0,_=>Int.le_refl _
|m+1,e=>by
  rw [zc2,zc2]
  have:=zpj (m:=m) λ k hk=>e k (by lia)
  have:=e m (by lia)
  lia
theorem za8 {g h:Nat->Int}:∀ {m:Nat},(∀ k,k < m->g k<=h k)->sm m g=sm m h->∀ k,k < m->g k=h k
|0,_,_,k,hk=>by lia
|m+1,e,q,k,hk=>by
  rw [zc2,zc2] at q
  have a:=zpj (m:=m) λ k hk=>e k (by lia)
  have b:=e m (by lia)
  by_cases z:k=m
  ·subst z;lia
  ·exact za8 (m:=m) (λ k hk=>e k (by lia)) (by lia) k (by lia)
theorem zvm {j:Nat} (d:Int):∀ {m:Nat},j < m->sm m (λ k=>if k=j then d else 0)=d
|0,h=>by lia
|m+1,h=>by
  rw [zc2]
  by_cases z:m=j
  ·subst z
   rw [if_pos rfl,zs0 (h:=λ _=>0) λ k hk=>if_neg (by lia),zq1];lia
  ·rw [zvm d (m:=m) (by lia),if_neg z];lia
def trm (u v:Nat) (x:Int) (w:Nat):Int:=(if v=w then x else 0) - (if u=w then x else 0)
def bl (m:Nat) (eu ev:Nat->Nat) (x:Nat->Int) (w:Nat):Int:=sm m λ k=>trm (eu k) (ev k) (x k) w
def flux (m:Nat) (eu ev:Nat->Nat) (x:Nat->Int) (side:List Nat):Int:=sm m λ k=>(if ev k∈side then x k else 0) - (if eu k∈side then x k else 0)
theorem zdc (m:Nat) (eu ev:Nat->Nat) (x:Nat->Int):∀ {side:List Nat},side.Nodup->flux m eu ev x side=(side.map (bl m eu ev x)).sum
|[],_=>by
  unfold flux
  rw [zs0 (h:=λ _=>0) λ k _=>by simp,zq1];rfl
|w :: r,h=>by
  obtain ⟨h1,h2⟩:=List.nodup_cons.mp h
  rw [List.map_cons,List.sum_cons,<- zdc m eu ev x h2]
  unfold bl flux
  rw [<- zfi]
  refine zs0 λ k _=>?_
  unfold trm
  have a:∀ z:Nat,(if z∈w :: r then x k else 0)=(if z=w then x k else 0)+(if z∈r then x k else 0):=λ z=>by
   by_cases e:z=w
   ·subst e;simp [h1]
   ·simp [e]
  rw [a,a];lia
theorem zbk {g:Nat->Int} {s:Nat}:∀ {side:List Nat},side.Nodup->s∈side->(∀ w∈side,w≠s->g w=0)->(side.map g).sum=g s
|[],_,h,_=>by simp at h
|w :: r,nd,h,z=>by
  obtain ⟨h1,h2⟩:=List.nodup_cons.mp nd
  rw [List.map_cons,List.sum_cons]
  by_cases e:w=s
  ·subst e
   have:∀ l:List Nat,(∀ y∈l,g y=0)->(l.map g).sum=0:=by
    intro l
    induction l with
   |nil=>intro _;rfl
   |cons y t ih=>intro k;rw [List.map_cons,List.sum_cons,k y (by simp),ih λ u hu=>k u (by simp [hu])];rfl
   rw [this r λ y hy=>z y (by simp [hy]) λ q=>h1 (q ▸ hy)];lia
  ·have hs:s∈r:=by
    rcases List.mem_cons.mp h with q|q
    ·exact absurd q.symm e
    ·exact q
   rw [zbk h2 hs λ y hy=>z y (by simp [hy]),z w (by simp) e];lia
theorem ztf {m:Nat} {eu ev:Nat->Nat} {x:Nat->Int} {s t:Nat} {side:List Nat} (nd:side.Nodup) (hs:s∈side) (ht:t ∉ side) (h:∀ w,w≠s->w≠t->bl m eu ev x w=0):bl m eu ev x s=flux m eu ev x side:=by
 rw [zdc m eu ev x nd,zbk nd hs λ w hw hn=>h w hn λ q=>ht (q ▸ hw)]
def tight (m:Nat) (eu ev:Nat->Nat) (cap x:Nat->Int) (side:List Nat):Prop:=∀ k,k < m->(eu k∈side->ev k ∉ side->x k=cap k)/\(ev k∈side->eu k ∉ side->x k=0)
def within (m:Nat) (cap x:Nat->Int):Prop:=∀ k,k < m->0<=x k/\x k<=cap k
theorem zin {m:Nat} {eu ev:Nat->Nat} {cap x:Nat->Int} {side:List Nat} (hx:tight m eu ev cap x side):flux m eu ev x side=- sm m λ k=>if eu k∈side/\ev k ∉ side then x k else 0:=by
 have:flux m eu ev x side=sm m λ k=>0 - (if eu k∈side/\ev k ∉ side then x k else 0):=by
  refine zs0 λ k hk=>?_
  obtain ⟨a,b⟩:=hx k hk
  by_cases h1:ev k∈side
  ·by_cases h2:eu k∈side
   ·simp [h1,h2]
   ·simp [h1,h2,b h1 h2]
  ·by_cases h2:eu k∈side
   ·simp [h1,h2]
   ·simp [h1,h2]
 rw [this,zgc,zq1];lia
def aU (A:List Ar) (k:Nat):Nat:=((A[k]?).map λ a=>a.1).getD 0
def aV (A:List Ar) (k:Nat):Nat:=((A[k]?).map λ a=>a.2.1).getD 0
theorem zrp {A:List Ar} {L:List Int} (w:Nat):bal A.length (zo3 A) L w=bl A.length (aU A) (aV A) (λ k=>lf L (2 * k+1)) w:=by
 show sm _ _=sm _ _
 refine zs0 λ k hk=>?_
 have ga:A[k]?=some A[k]:=List.getElem?_eq_getElem hk
 obtain ⟨e1,e2⟩:=zvb ga
 unfold term trm aU aV
 rw [e1,e2,ga];rfl
theorem zuc {l:List Nat} (h:l.Pairwise (· < ·)):l.Nodup:=h.imp λ h=>by lia
theorem Best.tight {n:Nat} {A:List Ar} {f L:List Int} {src snk:Nat} {side:List Nat} (b:Best n A f src snk L side):tight A.length (aU A) (aV A) (ze9 A) (λ k=>lf L (2 * k+1)) side:=λ k hk=>by
 have ga:A[k]?=some A[k]:=List.getElem?_eq_getElem hk
 obtain ⟨e1,e2⟩:=zvb ga
 have s1:=b.up.cap.sm k hk
 have n1:=b.up.cap.nn (2 * k) (by lia)
 have n2:=b.up.cap.nn (2 * k+1) (by lia)
 have x1:xr (2 * k)=2 * k+1:=by unfold xr;rw [if_pos (by lia)]
 have x2:xr (2 * k+1)=2 * k:=by unfold xr;rw [if_neg (by lia)];lia
 have u1:aU A k=A[k].1:=by unfold aU;rw [ga];rfl
 have v1:aV A k=A[k].2.1:=by unfold aV;rw [ga];rfl
 rw [u1,v1]
 refine ⟨λ h1 h2=>?_,λ h1 h2=>?_⟩
 ·by_cases z:0 < lf L (2 * k)
  ·have:=b.cl (2 * k) (by lia) z (by unfold tl;rw [x1,e2];exact h1)
   rw [e1] at this;exact absurd this h2
  ·show lf L (2 * k+1)=_;lia
 ·by_cases z:0 < lf L (2 * k+1)
  ·have:=b.cl (2 * k+1) (by lia) z (by unfold tl;rw [x2,e1];exact h1)
   rw [e2] at this;exact absurd this h2
  ·show lf L (2 * k+1)=_;lia
theorem Best.within {n:Nat} {A:List Ar} {f L:List Int} {src snk:Nat} {side:List Nat} (b:Best n A f src snk L side):within A.length (ze9 A) (λ k=>lf L (2 * k+1)):=λ k hk=>by
 have s1:=b.up.cap.sm k hk
 have n1:=b.up.cap.nn (2 * k) (by lia)
 have n2:=b.up.cap.nn (2 * k+1) (by lia)
 show 0<=lf L (2 * k+1)/\lf L (2 * k+1)<=_
 lia
abbrev Pr:=Nat×Nat
def pU (P:List Pr) (k:Nat):Nat:=((P[k]?).map λ a=>a.1).getD 0
def pV (P:List Pr) (k:Nat):Nat:=((P[k]?).map λ a=>a.2).getD 0
def fx (f:List Int) (k:Nat):Int:=(f[k]?).getD 0
def nb (P:List Pr) (f:List Int) (w:Nat):Int:=bl P.length (pU P) (pV P) (fx f) w
theorem zxl (u v w:Nat):trm u v 0 w=0:=by unfold trm;simp
theorem zj3 {κ:Type} [DecidableEq κ] (p:κ×D) (r:List (κ×D)) (k:κ):getA (p :: r) k=if p.1=k then some p.2 else getA r k:=by
 unfold getA
 rw [List.find?_cons]
 by_cases e:p.1=k
 ·simp [e]
 ·simp [e]
theorem zib {κ:Type} [DecidableEq κ] (k k':κ) (d:D):∀ l:List (κ×D),getA (l++[(k,d)]) k'=match getA l k' with|some x=>some x|none=>if k=k' then some d else none
|[]=>by
  rw [List.nil_append,zj3]
  rfl
|p :: r=>by
  rw [List.cons_append,zj3,zj3,zib k k' d r]
  by_cases e:p.1=k'
  ·rw [if_pos e,if_pos e]
  ·rw [if_neg e,if_neg e]
theorem zxe {κ:Type} [DecidableEq κ] (k:κ):∀ l:List (κ×D),(l.any λ kv=>decide (kv.1=k))=(getA l k).isSome
|[]=>rfl
|p :: r=>by
  rw [List.any_cons,zj3,zxe k r]
  by_cases e:p.1=k
  ·simp [e]
  ·simp [e]
theorem zhb {κ:Type} [DecidableEq κ] (k k':κ) (d:D):∀ l:List (κ×D),getA (l.map λ kv=>if kv.1=k then (kv.1,d) else kv) k'=if k=k' then (getA l k').map (λ _=>d) else getA l k'
|[]=>by simp [getA]
|p :: r=>by
  rw [List.map_cons,zj3,zj3,zhb k k' d r]
  by_cases e1:p.1=k
  ·rw [if_pos e1]
   by_cases e2:k=k'
   ·rw [if_pos (e1.trans e2),if_pos e2,if_pos (e1.trans e2)];rfl
   ·have:¬ p.1=k':=λ z=>e2 (e1.symm.trans z)
    rw [if_neg this,if_neg e2,if_neg e2,if_neg this]
  ·rw [if_neg e1]
   by_cases e2:p.1=k'
   ·have:¬ k=k':=λ z=>e1 (e2.trans z.symm)
    rw [if_pos e2,if_neg this,if_pos e2]
   ·rw [if_neg e2,if_neg e2]
theorem zwk {κ:Type} [DecidableEq κ] (kvs:List (κ×D)) (k k':κ) (d:D):getA (putD kvs k d) k'=if k=k' then some d else getA kvs k':=by
 unfold putD
 rw [zxe]
 by_cases e:k=k'
 ·subst e
  rw [if_pos rfl]
  cases h:getA kvs k with
 |some x=>rw [if_pos (by simp),zhb,if_pos rfl,h];rfl
 |none=>rw [if_neg (by simp),zib,h];simp
 ·rw [if_neg e]
  split
  ·rw [zhb,if_neg e]
  ·rw [zib]
   cases getA kvs k' with
  |none=>simp [e]
  |some y=>rfl
theorem zqt {κ:Type} [DecidableEq κ] (kvs:List (κ×D)) (k:κ) (d:D):(putD kvs k d).length<=kvs.length+1:=by
 unfold putD
 split
 ·rw [List.length_map];lia
 ·simp
def kP (u v:Nat):List Key:=[.inl (u:Int),.inl (v:Int)]
def Th (kvs:List (List Key×D)) (P:List Pr):Prop:=∀ (u v:Nat) d,getA kvs (kP u v)=some d->∃ j:Nat,d=nI j/\P[j]?=some (u,v)
theorem Th.nil:Th [] []:=λ u v d h=>by simp [getA] at h
theorem Th.put {kvs:List (List Key×D)} {P:List Pr} (h:Th kvs P) (u v:Nat):Th (putD kvs (kP u v) (nI P.length)) (P++[(u,v)]):=λ u' v' d e=>by
 rw [zwk] at e
 split at e
 ·next z =>
  cases e
  simp [kP] at z
  obtain ⟨z1,z2⟩:=z
  have z1:u=u':=by lia
  have z2:v=v':=by lia
  subst z1;subst z2
  exact ⟨P.length,rfl,by simp⟩
 ·obtain ⟨j,e1,e2⟩:=h u' v' d e
  exact ⟨j,e1,by rw [List.getElem?_append_left (List.getElem?_eq_some_iff.mp e2).1];exact e2⟩
structure Dr (n src snk:Nat) (P:List Pr) (f sl:List Int) (kvs:List (List Key×D)):Prop where
 lf:f.length=P.length
 ls:sl.length=P.length
 lk:kvs.length<=P.length
 bd:∀ p∈P,p.1 < n/\p.2 < n
 f0:∀ x∈f,0<=x
 s0:∀ x∈sl,0<=x
 th:Th kvs P
theorem Dr.nil (n src snk:Nat):Dr n src snk [] [] [] []:=⟨rfl,rfl,Nat.le_refl _,λ p h=>by simp at h,λ p h=>by simp at h,λ p h=>by simp at h,Th.nil⟩
theorem Dr.push {n src snk:Nat} {P:List Pr} {f sl:List Int} {kvs:List (List Key×D)} (h:Dr n src snk P f sl kvs) {u v:Nat} {x y:Int} (hu:u < n) (hv:v < n) (hx:0<=x) (hy:0<=y):Dr n src snk (P++[(u,v)]) (f++[x]) (sl++[y]) (putD kvs (kP u v) (nI P.length)):=by
 refine ⟨by simp [h.lf],by simp [h.ls],?_,λ p hp=>?_,λ z hz=>?_,λ z hz=>?_,h.th.put u v⟩
 ·have:=zqt kvs (kP u v) (nI P.length)
  have:=h.lk
  simp;lia
 ·rcases List.mem_append.mp hp with q|q
  ·exact h.bd p q
  ·simp at q;subst q;exact ⟨hu,hv⟩
 ·rcases List.mem_append.mp hz with q|q
  ·exact h.f0 z q
  ·simp at q;lia
 ·rcases List.mem_append.mp hz with q|q
  ·exact h.s0 z q
  ·simp at q;lia
def zuj (P:List Pr) (f sl:List Int):List Ar:=(List.range P.length).map λ k=>(pU P k,pV P k,fx f k+fx sl k)
theorem zxh (P:List Pr) (f sl:List Int):(zuj P f sl).length=P.length:=by simp [zuj]
theorem zcm {P:List Pr} {f sl:List Int} {k:Nat} (h:k < P.length):(zuj P f sl)[k]?=some (pU P k,pV P k,fx f k+fx sl k):=by
 unfold zuj
 rw [List.getElem?_map,List.getElem?_range h];rfl
theorem zco {f:List Int} (h:∀ x∈f,0<=x) (k:Nat):0<=fx f k:=by
 unfold fx
 cases e:f[k]? with
|none=>exact Int.le_refl _
|some x=>exact h x (List.mem_of_getElem? e)
theorem Dr.ar {n src snk:Nat} {P:List Pr} {f sl:List Int} {kvs:List (List Key×D)} (h:Dr n src snk P f sl kvs):∀ a∈zuj P f sl,a.1 < n/\a.2.1 < n/\0<=a.2.2:=λ a ha=>by
 unfold zuj at ha
 obtain ⟨k,hk,rfl⟩:=List.mem_map.mp ha
 rw [List.mem_range] at hk
 have e:P[k]?=some P[k]:=List.getElem?_eq_getElem hk
 have b:=h.bd _ (List.mem_of_getElem? e)
 have s1:=zco h.f0 k
 have s2:=zco h.s0 k
 refine ⟨?_,?_,?_⟩
 ·show pU P k < n;unfold pU;rw [e];exact b.1
 ·show pV P k < n;unfold pV;rw [e];exact b.2
 ·show 0<=fx f k+fx sl k;lia
theorem Dr.within {n src snk:Nat} {P:List Pr} {f sl:List Int} {kvs:List (List Key×D)} (h:Dr n src snk P f sl kvs):within (zuj P f sl).length (ze9 (zuj P f sl)) (fx f):=λ k hk=>by
 rw [zxh] at hk
 have s1:=zco h.f0 k
 have s2:=zco h.s0 k
 unfold ze9
 rw [zcm hk]
 show 0<=fx f k/\fx f k<=fx f k+fx sl k
 lia
theorem zzh (v:Nat):∀ l:List Nat,(l.map nI).any (λ y=>eqF y (nI v))=decide (v∈l)
|[]=>rfl
|x :: r=>by
  rw [List.map_cons,List.any_cons,zzh v r]
  have:eqF (nI x) (nI v)=decide (x=v):=by
   show decide ((x:Int)=(v:Int))=decide (x=v)
   exact decide_eq_decide.mpr (by lia)
  rw [this]
  by_cases h:x=v
  ·subst h;simp
  ·have:¬ v=x:=λ y=>h y.symm
   simp [h,this]
theorem zaf (l:List Nat):(l.map nI).all zcb=true:=by
 rw [List.all_map];simp [zcb,nI]
theorem zqg {α:Type} (p:α->Prop) [DecidablePred p] (x:α->Int):∀ l:List α,∃ xs,zdh (l.filterMap λ a=>if p a then some (.int (x a)) else none)=some xs/\xs.sum=(l.map λ a=>if p a then x a else 0).sum
|[]=>⟨[],rfl,rfl⟩
|a :: r=>by
  obtain ⟨xs,h1,h2⟩:=zqg p x r
  rw [List.filterMap_cons,List.map_cons,List.sum_cons]
  by_cases h:p a
  ·simp only [if_pos h]
   refine ⟨x a :: xs,?_,by rw [List.sum_cons,h2]⟩
   show (zdh _).map (x a :: ·)=_
   rw [h1];rfl
  ·simp only [if_neg h]
   exact ⟨xs,h1,by rw [h2];lia⟩
theorem zzr {A:List Ar} {f:List Int} (h:f.length=A.length):A.zip f=(List.range A.length).map λ k=>((aU A k,aV A k,ze9 A k),fx f k):=by
 refine List.ext_getElem (by rw [List.length_zip,List.length_map,List.length_range];lia) λ j h1 h2=>?_
 rw [List.length_zip] at h1
 have ja:j < A.length:=by lia
 have jf:j < f.length:=by lia
 rw [List.getElem_zip,List.getElem_map,List.getElem_range]
 unfold aU aV ze9 fx
 rw [List.getElem?_eq_getElem ja,List.getElem?_eq_getElem jf];rfl
theorem zhl (m:Nat) (eu ev:Nat->Nat) (x:Nat->Int) (w:Nat):bl m eu ev x w=sm m (λ k=>if ev k=w then x k else 0) - sm m (λ k=>if eu k=w then x k else 0):=by
 unfold bl trm
 rw [zgc]
theorem zln {A:List Ar} (v:Nat):bal A.length (zo3 A) (zc6 A (List.replicate A.length 0)) v=0:=by
 rw [zrp]
 unfold bl
 rw [zs0 (h:=λ _=>0) λ k hk=>?_,zq1]
 have e:=(za9 (A:=A) (f:=List.replicate A.length 0) (k:=k) (a:=A[k]) (x:=0) (List.getElem?_eq_getElem hk) (by rw [List.getElem?_replicate,if_pos hk])).2
 show trm _ _ (lf (zc6 A (List.replicate A.length 0)) (2 * k+1)) v=0
 rw [e,zxl]
theorem zob (g:Nat->Int) (a:Nat):∀ b,sm (a+b) g=sm a g+sm b λ j=>g (a+j)
|0=>by simp [sm]
|b+1=>by rw [<- Nat.add_assoc,zc2,zc2,zob g a b];lia
def tA (fl:List Int) (ps:List (Nat×Nat)) (ws:List Int) (W:Int):List Ar :=
 (List.range fl.length).map (λ i=>(0,2+i,fx fl i))++ps.map (λ p=>(2+p.1,2+p.2,W))++(List.range ws.length).map (λ i=>(2+i,1,fx ws i))
theorem zza (fl:List Int) (ps:List (Nat×Nat)) (ws:List Int) (W:Int):(tA fl ps ws W).length=fl.length+ps.length+ws.length:=by simp [tA,Nat.add_assoc]
section
variable {fl:List Int} {ps:List (Nat×Nat)} {ws:List Int} {W:Int}
theorem tA1 {i:Nat} (h:i < fl.length):(tA fl ps ws W)[i]?=some (0,2+i,fx fl i):=by
 unfold tA
 rw [List.append_assoc,List.getElem?_append_left (by simpa using h),List.getElem?_map,List.getElem?_range h];rfl
theorem tA2 {j:Nat} {p:Nat×Nat} (h:ps[j]?=some p):(tA fl ps ws W)[fl.length+j]?=some (2+p.1,2+p.2,W):=by
 have hj:=(List.getElem?_eq_some_iff.mp h).1
 unfold tA
 rw [List.append_assoc,List.getElem?_append_right (by simp),List.length_map,List.length_range,Nat.add_sub_cancel_left,List.getElem?_append_left (by simpa using hj),List.getElem?_map,h];rfl
theorem tA3 {i:Nat} (h:i < ws.length):(tA fl ps ws W)[fl.length+ps.length+i]?=some (2+i,1,fx ws i):=by
 unfold tA
 rw [List.getElem?_append_right (by simp),List.length_append,List.length_map,List.length_range,List.length_map,Nat.add_sub_cancel_left,List.getElem?_map,List.getElem?_range h];rfl
theorem zgj {A:List Ar} {k:Nat} {a:Ar} (h:A[k]?=some a):aU A k=a.1/\aV A k=a.2.1/\ze9 A k=a.2.2:=by
 unfold aU aV ze9;rw [h];exact ⟨rfl,rfl,rfl⟩
theorem zrz (hw:ws.length=fl.length) (φ:Nat->Nat->Nat->Int):sm (tA fl ps ws W).length (λ k=>φ (aU (tA fl ps ws W) k) (aV (tA fl ps ws W) k) k) =
  sm fl.length (λ i=>φ 0 (2+i) i)+sm ps.length (λ j=>φ (2+pU ps j) (2+pV ps j) (fl.length+j))+sm fl.length (λ i=>φ (2+i) 1 (fl.length+ps.length+i)):=by
 rw [zza,zob,zob]
 congr 1
 ·congr 1
  ·refine zs0 λ i hi=>?_
   obtain ⟨e1,e2,_⟩:=zgj (tA1 (ps:=ps) (ws:=ws) (W:=W) hi)
   rw [e1,e2]
  ·refine zs0 λ j hj=>?_
   obtain ⟨e1,e2,_⟩:=zgj (tA2 (fl:=fl) (ws:=ws) (W:=W) (List.getElem?_eq_getElem hj))
   show φ _ _ _=_
   rw [e1,e2]
   unfold pU pV
   rw [List.getElem?_eq_getElem hj];rfl
 ·rw [hw]
  refine zs0 λ i hi=>?_
  obtain ⟨e1,e2,_⟩:=zgj (tA3 (fl:=fl) (ps:=ps) (W:=W) (i:=i) (by lia:i < ws.length))
  show φ _ _ _=_
  rw [e1,e2]
theorem zem {S:List Nat} (g:Nat->Int) {n:Nat} (nd:S.Nodup) (hb:∀ v∈S,v < n):sm n (λ i=>if i∈S then g i else 0)=(S.map g).sum:=by
 induction S with
|nil=>simp [zq1]
|cons v r ih =>
  obtain ⟨h1,h2⟩:=List.nodup_cons.mp nd
  rw [List.map_cons,List.sum_cons,<- ih h2 λ u hu=>hb u (by simp [hu]),<- zvm (j:=v) (g v) (hb v (by simp)),<- zfi]
  refine zs0 λ i hi=>?_
  by_cases e:i=v
  ·subst e;simp [h1]
  ·simp [e]
structure Cut (fl:List Int) (ps:List (Nat×Nat)) (ws:List Int) (W:Int) (x:Nat->Int):Prop where
 lw:ws.length=fl.length
 bp:∀ p∈ps,p.1 < fl.length/\p.2 < fl.length
 wi:within (tA fl ps ws W).length (ze9 (tA fl ps ws W)) x
 b0:∀ w,w≠0->w≠1->bl (tA fl ps ws W).length (aU (tA fl ps ws W)) (aV (tA fl ps ws W)) x w=0
variable {x:Nat->Int}
theorem Cut.x1 (c:Cut fl ps ws W x) {i:Nat} (h:i < fl.length):0<=x i/\x i<=fx fl i:=by
 have:=c.wi i (by rw [zza];lia)
 rw [(zgj (tA1 h)).2.2] at this;exact this
theorem Cut.x2 (c:Cut fl ps ws W x) {j:Nat} (h:j < ps.length):0<=x (fl.length+j)/\x (fl.length+j)<=W:=by
 have:=c.wi (fl.length+j) (by rw [zza];lia)
 rw [(zgj (tA2 (List.getElem?_eq_getElem h))).2.2] at this;exact this
theorem Cut.x3 (c:Cut fl ps ws W x) {i:Nat} (h:i < fl.length):0<=x (fl.length+ps.length+i)/\x (fl.length+ps.length+i)<=fx ws i:=by
 have hl:=c.lw
 have:=c.wi (fl.length+ps.length+i) (by rw [zza];lia)
 rw [(zgj (tA3 (by lia:i < ws.length))).2.2] at this;exact this
theorem Cut.flx (c:Cut fl ps ws W x) (S:List Nat):flux (tA fl ps ws W).length (aU (tA fl ps ws W)) (aV (tA fl ps ws W)) x S =
  sm fl.length (λ i=>(if 2+i∈S then x i else 0) - (if 0∈S then x i else 0))+sm ps.length (λ j=>(if 2+pV ps j∈S then x (fl.length+j) else 0) - (if 2+pU ps j∈S then x (fl.length+j) else 0)) +
  sm fl.length (λ i=>(if 1∈S then x (fl.length+ps.length+i) else 0) - (if 2+i∈S then x (fl.length+ps.length+i) else 0)):=zrz c.lw λ u v k=>(if v∈S then x k else 0) - (if u∈S then x k else 0)
theorem Cut.worth (c:Cut fl ps ws W x):bl (tA fl ps ws W).length (aU (tA fl ps ws W)) (aV (tA fl ps ws W)) x 0=- sm fl.length x/\bl (tA fl ps ws W).length (aU (tA fl ps ws W)) (aV (tA fl ps ws W)) x 0=- sm fl.length (λ i=>x (fl.length+ps.length+i)):=by
 constructor
 ·have nd:[0].Nodup:=by simp
  rw [ztf (t:=1) nd (by simp) (by simp) c.b0,c.flx]
  rw [zs0 (m:=fl.length) (h:=λ i=>0 - x i) λ i _=>by simp,zs0 (m:=ps.length) (h:=λ _=>0) λ i _=>by simp,zq1]
  rw [zs0 (m:=fl.length) (g:=λ i=>(if 1∈[0] then x (fl.length+ps.length+i) else 0) - (if 2+i∈[0] then x (fl.length+ps.length+i) else 0)) (h:=λ _=>0) λ i _=>by simp,zq1,zgc,zq1];lia
 ·have nd:(0 :: (List.range fl.length).map (2+·)).Nodup:=by
   refine List.nodup_cons.mpr ⟨by simp,?_⟩
   exact List.nodup_range.map (2+·) (λ a b h z=>h (by lia))
  have m2:∀ i,i < fl.length->2+i∈0 :: (List.range fl.length).map (2+·):=λ i hi=>List.mem_cons_of_mem _ (List.mem_map.mpr ⟨i,List.mem_range.mpr hi,rfl⟩)
  have m0:0∈0 :: (List.range fl.length).map (2+·):=List.mem_cons_self
  have m1:1 ∉ 0 :: (List.range fl.length).map (2+·):=by simp;lia
  have mp:∀ j,j < ps.length->pU ps j < fl.length/\pV ps j < fl.length:=λ j hj=>by
   unfold pU pV;rw [List.getElem?_eq_getElem hj];exact c.bp _ (List.getElem_mem hj)
  rw [ztf (t:=1) nd m0 m1 c.b0,c.flx]
  rw [zs0 (m:=fl.length) (h:=λ _=>0) λ i hi=>by rw [if_pos (m2 i hi),if_pos m0];lia,zq1,zs0 (m:=ps.length) (h:=λ _=>0) λ j hj=>by rw [if_pos (m2 _ (mp j hj).2),if_pos (m2 _ (mp j hj).1)];lia,zq1]
  rw [zs0 (m:=fl.length) (h:=λ i=>0 - x (fl.length+ps.length+i)) λ i hi=>by rw [if_neg m1,if_pos (m2 i hi)],zgc,zq1];lia
theorem zfj (l:List Int):l.sum=sm l.length (fx l):=by
 have:l=(List.range l.length).map (fx l):=by
  apply List.ext_getElem?
  intro j
  rw [List.getElem?_map]
  by_cases h:j < l.length
  ·rw [List.getElem?_range h,List.getElem?_eq_getElem h];show some l[j]=some (fx l j);unfold fx;rw [List.getElem?_eq_getElem h];rfl
  ·rw [List.getElem?_eq_none (by lia),List.getElem?_eq_none (by simpa using h)];rfl
 unfold sm
 rw [<- this]
theorem Cut.short (c:Cut fl ps ws W x) (full:- bl (tA fl ps ws W).length (aU (tA fl ps ws W)) (aV (tA fl ps ws W)) x 0=ws.sum) {S:List Nat} (nd:S.Nodup) (hb:∀ v∈S,v < fl.length) (cl:∀ p∈ps,p.2∈S->p.1∈S) :
  (S.map λ v=>fx ws v - fx fl v).sum<=0:=by
 have hl:=c.lw
 rw [c.worth.2,Int.neg_neg,zfj,hl] at full
 have eq:=za8 (m:=fl.length) (λ i hi=>(c.x3 hi).2) full
 have nd2:(S.map (2+·)).Nodup:=nd.map (2+·) (λ a b h z=>h (by lia))
 have z:flux (tA fl ps ws W).length (aU (tA fl ps ws W)) (aV (tA fl ps ws W)) x (S.map (2+·))=0:=by
  rw [zdc _ _ _ _ nd2]
  have:∀ l:List Nat,(∀ v∈l,bl (tA fl ps ws W).length (aU (tA fl ps ws W)) (aV (tA fl ps ws W)) x v=0)->(l.map (bl (tA fl ps ws W).length (aU (tA fl ps ws W)) (aV (tA fl ps ws W)) x)).sum=0:=by
   intro l
   induction l with
  |nil=>intro _;rfl
  |cons y r ih=>intro k;rw [List.map_cons,List.sum_cons,k y (by simp),ih λ u hu=>k u (by simp [hu])];rfl
  refine this _ λ v hv=>?_
  obtain ⟨u,_,rfl⟩:=List.mem_map.mp hv
  exact c.b0 _ (by lia) (by lia)
 have i2:∀ v,(2+v∈S.map (2+·)) ↔ v∈S:=λ v=>by
  constructor
  ·intro h;obtain ⟨u,hu,e⟩:=List.mem_map.mp h;have:u=v:=by lia
   exact this ▸ hu
  ·intro h;exact List.mem_map.mpr ⟨v,h,rfl⟩
 have n0:(0:Nat) ∉ S.map (2+·):=λ h=>by obtain ⟨u,_,e⟩:=List.mem_map.mp h;lia
 have n1:(1:Nat) ∉ S.map (2+·):=λ h=>by obtain ⟨u,_,e⟩:=List.mem_map.mp h;lia
 rw [c.flx] at z
 have e1:sm fl.length (λ i=>(if 2+i∈S.map (2+·) then x i else 0) - (if (0:Nat)∈S.map (2+·) then x i else 0))<=sm fl.length (λ i=>if i∈S then fx fl i else 0):=zpj λ i hi=>by
  have:=c.x1 hi
  rw [if_neg n0]
  by_cases h:i∈S
  ·rw [if_pos ((i2 i).mpr h),if_pos h];lia
  ·rw [if_neg (λ y=>h ((i2 i).mp y)),if_neg h];lia
 have e2:sm ps.length (λ j=>(if 2+pV ps j∈S.map (2+·) then x (fl.length+j) else 0) - (if 2+pU ps j∈S.map (2+·) then x (fl.length+j) else 0))<=sm ps.length (λ _=>0):=zpj λ j hj=>by
  have:=c.x2 hj
  have hc:=cl ps[j] (List.getElem_mem hj)
  have eu:pU ps j=ps[j].1:=by unfold pU;rw [List.getElem?_eq_getElem hj];rfl
  have ev:pV ps j=ps[j].2:=by unfold pV;rw [List.getElem?_eq_getElem hj];rfl
  rw [eu,ev]
  by_cases h:ps[j].2∈S
  ·rw [if_pos ((i2 _).mpr h),if_pos ((i2 _).mpr (hc h))];lia
  ·rw [if_neg (λ y=>h ((i2 _).mp y))]
   split <;> lia
 have e3:sm fl.length (λ i=>(if (1:Nat)∈S.map (2+·) then x (fl.length+ps.length+i) else 0) - (if 2+i∈S.map (2+·) then x (fl.length+ps.length+i) else 0))=sm fl.length (λ i=>0 - (if i∈S then fx ws i else 0)):=zs0 λ i hi=>by
  have hq:=eq i hi
  rw [if_neg n1]
  by_cases h:i∈S
  ·rw [if_pos ((i2 i).mpr h),if_pos h,hq]
  ·rw [if_neg (λ y=>h ((i2 i).mp y)),if_neg h]
 rw [zq1] at e2
 have e3:=e3.trans ((zgc (λ _=>0) (λ i=>if i∈S then fx ws i else 0) fl.length).trans (by rw [zq1,zem _ nd hb]))
 rw [zem _ nd hb] at e1
 have e4:(S.map λ v=>fx ws v - fx fl v).sum=(S.map (fx ws)).sum - (S.map (fx fl)).sum:=by
  have:∀ l:List Nat,(l.map λ v=>fx ws v - fx fl v).sum=(l.map (fx ws)).sum - (l.map (fx fl)).sum:=by
   intro l
   induction l with
  |nil=>rfl
  |cons y r ih=>simp only [List.map_cons,List.sum_cons,ih];lia
  exact this S
 lia
theorem Cut.beyond (c:Cut fl ps ws W x) (hW:fl.sum < W) {side:List Nat} (tg:tight (tA fl ps ws W).length (aU (tA fl ps ws W)) (aV (tA fl ps ws W)) (ze9 (tA fl ps ws W)) x side) (h0:0∈side) (h1:1 ∉ side) (nds:side.Nodup) :
  (∀ p∈ps,2+p.1∈side->2+p.2∈side)/\(- bl (tA fl ps ws W).length (aU (tA fl ps ws W)) (aV (tA fl ps ws W)) x 0≠ws.sum->0 < (((List.range fl.length).filter λ v=>decide (2+v ∉ side)).map λ v=>fx ws v - fx fl v).sum):=by
 have hl:=c.lw
 have w1:=c.worth.1
 have w2:=c.worth.2
 have le1:sm fl.length x<=fl.sum:=by rw [zfj];exact zpj λ i hi=>(c.x1 hi).2
 have fc:=zin tg
 rw [<- ztf nds h0 h1 c.b0] at fc
 have cutSum:sm (tA fl ps ws W).length (λ k=>if aU (tA fl ps ws W) k∈side/\aV (tA fl ps ws W) k ∉ side then x k else 0)=sm fl.length (λ i=>if 2+i ∉ side then x i else 0)+sm ps.length (λ j=>if 2+pU ps j∈side/\2+pV ps j ∉ side then x (fl.length+j) else 0)+sm fl.length (λ i=>if 2+i∈side then x (fl.length+ps.length+i) else 0):=by
  rw [zrz c.lw λ u v k=>if u∈side/\v ∉ side then x k else 0]
  congr 1
  ·congr 1
   exact zs0 λ i hi=>by simp [h0]
  ·exact zs0 λ i hi=>by simp [h1]
 rw [cutSum] at fc
 have nnS:∀ {g:Nat->Int} {m:Nat},(∀ i,i < m->0<=g i)->0<=sm m g:=λ {g m} h=>by
  have:=zpj (m:=m) (g:=λ _=>0) (h:=g) h
  rw [zq1] at this;exact this
 have p1:0<=sm fl.length (λ i=>if 2+i ∉ side then x i else 0):=nnS λ i hi=>by have:=c.x1 hi;split <;> lia
 have p3:0<=sm fl.length (λ i=>if 2+i∈side then x (fl.length+ps.length+i) else 0):=nnS λ i hi=>by have:=c.x3 hi;split <;> lia
 have noP:∀ j,j < ps.length->¬ (2+pU ps j∈side/\2+pV ps j ∉ side):=λ j hj h=>by
  have t:=tg (fl.length+j) (by rw [zza];lia)
  obtain ⟨a1,a2,a3⟩:=zgj (tA2 (fl:=fl) (ws:=ws) (W:=W) (List.getElem?_eq_getElem hj))
  rw [a1,a2,a3] at t
  have eu:pU ps j=ps[j].1:=by unfold pU;rw [List.getElem?_eq_getElem hj];rfl
  have ev:pV ps j=ps[j].2:=by unfold pV;rw [List.getElem?_eq_getElem hj];rfl
  have hx:=t.1 (by rw [<- eu];exact h.1) (by rw [<- ev];exact h.2)
  have hx:x (fl.length+j)=W:=hx
  have big:W<=sm ps.length (λ j=>if 2+pU ps j∈side/\2+pV ps j ∉ side then x (fl.length+j) else 0):=by
   rw [<- zvm (j:=j) W hj]
   exact zpj λ i hi=>by
    have:=c.x2 hi
    by_cases e:i=j
    ·subst e;rw [if_pos rfl,if_pos h,hx];lia
    ·rw [if_neg e];split <;> lia
  lia
 refine ⟨λ p hp hu=>?_,λ ne=>?_⟩
 ·obtain ⟨j,hj,e⟩:=List.getElem_of_mem hp
  have:=noP j hj
  have eu:pU ps j=p.1:=by unfold pU;rw [List.getElem?_eq_getElem hj,e];rfl
  have ev:pV ps j=p.2:=by unfold pV;rw [List.getElem?_eq_getElem hj,e];rfl
  rw [eu,ev] at this
  exact Classical.byContradiction λ h=>this ⟨hu,h⟩
 ·have z2:sm ps.length (λ j=>if 2+pU ps j∈side/\2+pV ps j ∉ side then x (fl.length+j) else 0)=0:=by
   rw [zs0 (h:=λ _=>0) λ j hj=>if_neg (noP j hj),zq1]
  have t1:sm fl.length (λ i=>if 2+i ∉ side then x i else 0)=sm fl.length (λ i=>if 2+i ∉ side then fx fl i else 0):=zs0 λ i hi=>by
   by_cases h:2+i∈side
   ·simp [h]
   ·have t:=tg i (by rw [zza];lia)
    obtain ⟨a1,a2,a3⟩:=zgj (tA1 (ps:=ps) (ws:=ws) (W:=W) hi)
    rw [a1,a2,a3] at t
    rw [if_pos h,if_pos h];exact t.1 h0 h
  have t3:sm fl.length (λ i=>if 2+i∈side then x (fl.length+ps.length+i) else 0)=sm fl.length (λ i=>if 2+i∈side then fx ws i else 0):=zs0 λ i hi=>by
   by_cases h:2+i∈side
   ·have t:=tg (fl.length+ps.length+i) (by rw [zza];lia)
    obtain ⟨a1,a2,a3⟩:=zgj (tA3 (fl:=fl) (ps:=ps) (W:=W) (i:=i) (by lia:i < ws.length))
    rw [a1,a2,a3] at t
    rw [if_pos h,if_pos h];exact t.1 h h1
   ·simp [h]
  have le3:sm fl.length (λ i=>x (fl.length+ps.length+i))<=ws.sum:=by rw [zfj,hl];exact zpj λ i hi=>(c.x3 hi).2
  have tot:ws.sum=sm fl.length (λ i=>if 2+i∈side then fx ws i else 0)+sm fl.length (λ i=>if 2+i ∉ side then fx ws i else 0):=by
   rw [zfj,hl,<- zfi]
   exact zs0 λ i hi=>by by_cases h:2+i∈side <;> simp [h]
  have nd:((List.range fl.length).filter λ v=>decide (2+v ∉ side)).Nodup:=List.nodup_range.filter _
  have hb:∀ v∈(List.range fl.length).filter λ v=>decide (2+v ∉ side),v < fl.length:=λ v hv=>List.mem_range.mp (List.mem_filter.mp hv).1
  rw [<- zem _ nd hb]
  have:sm fl.length (λ i=>if i∈(List.range fl.length).filter λ v=>decide (2+v ∉ side) then fx ws i - fx fl i else 0)=sm fl.length (λ i=>(if 2+i ∉ side then fx ws i else 0) - (if 2+i ∉ side then fx fl i else 0)):=zs0 λ i hi=>by
   by_cases h:2+i∈side
   ·simp [h]
   ·simp [h,hi]
  rw [this,zgc]
  lia
end
end L5
namespace L4
open PySem PySem.Spec PyProof.Rows L2 L3
section
variable {P:Program} {w:World} {K:Fg} {mg:Str->Option Value} {base:Heap}
end
section
variable {K:Fg} {g:TG} {dg:DG} {tb:TS} {db:DS} {n:Nat}
end
section
variable {K:Fg} {t1 t2 t3 te:TE} {d1 d2 d3:DE} {dn:DN}
end
end L4
namespace L5
open PySem PySem.W PyProof.Rows
def Whole (n:Nat) (p:Array Nat):Prop:=p.toList.Perm (List.range n)
section
variable {n:Nat} {lt:Nat->Nat->Bool} {cmp:Nat->Nat->(Bool->Shared->Prop)->Shared->Prop} {s:Shared} {p:Array Nat}
theorem Whole.size (h:Whole n p):p.size=n:=by have:=h.length_eq;simpa using this
end
end L5
namespace L3
open PySem PySem.W PySem.Spec PyProof.Rows L2 L5
section
variable {s:Shared} {w:World} {prog:Program} {E:Value->Shared->Prop} {A:Around}
inductive TupRows (h:Heap):List Value->List (List Int)->Prop
|nil:TupRows h [] []
|cons {v:Value} {r:List Int} {vs:List Value} {rows:List (List Int)}:(∃ b o its k,v=.ref b/\h.get? b=some o/\o.cls=.type "tuple"/\o.data=.seq its k/\IntsAre its.toList r/\r≠[])->TupRows h vs rows->TupRows h (v :: vs) (r :: rows)
theorem TupRows.mono {h h':Heap} {vs:List Value} {rows:List (List Int)} (t:TupRows h vs rows) (k:∀ b o,h.get? b=some o->o.cls=.type "tuple"->h'.get? b=some o):TupRows h' vs rows:=by
 induction t with
|nil=>exact .nil
|cons a t ih =>
  obtain ⟨b,o,its,n,e1,e2,e3,e4,e5,e6⟩:=a
  exact .cons ⟨b,o,its,n,e1,k b o e2 e3,e3,e4,e5,e6⟩ ih
end
inductive RowsV (K:Fg) (H:Hp):List V->List (List Int)->Prop
|nil:RowsV K H [] []
|cons {b:Addr} {r:List Int} {xs:List V} {rows:List (List Int)}:SqT K H b (r.map V.int)->r≠[]->RowsV K H xs rows->RowsV K H (.ref b :: xs) (r :: rows)
theorem RowsV.len {K:Fg} {H:Hp} {xs:List V} {rows:List (List Int)} (h:RowsV K H xs rows):xs.length=rows.length:=by
 induction h with
|nil=>rfl
|cons _ _ _ ih=>simp [ih]
theorem Vals.getP {xs:List V} {us:List Value} (h:Vals xs us) {i:Nat} (hi:i < xs.length):RelV (xs.getD i .non) (us.getD i .none):=by
 obtain ⟨u,e,r⟩:=Vals.get h (List.getElem?_eq_getElem hi)
 rw [List.getD_eq_getElem?_getD,List.getD_eq_getElem?_getD,List.getElem?_eq_getElem hi,e]
 exact r
end L3
namespace L4
open PySem PySem.Spec PyProof.Rows L2 L3
section
variable {K:Fg}
end
end L4
namespace L3
open PySem PySem.Spec PyProof.Rows L2
section
variable {s:Shared} {w:World} {prog:Program} {E:Value->Shared->Prop} {A:Around}
end
section
variable {X:Cx} {tg:Expr}
end
end L3
namespace L4
open PySem PySem.Spec PyProof.Rows L2 L3
section
variable {K:Fg} {w:World}
end
section
variable {K:Fg} {g:TG} {dg:DG} {tb:TS} {db:DS} {n:Nat} {B:Bs} {F H:Hp} {σ:L2.St} {δ:DSt} {fps:Nat->List Addr}
end
section
variable {K:Fg} {te:TE} {tA:TA} {dA:DF} {dc:DC} {tt tu:TT} {dt:DT} {t u:TS} {d e:DS}
variable {du:DU}
end
abbrev DX:=Addr->DSt->Prop
abbrev DSpX:=List Arg->(T->T->Prop)->(Addr->T->Prop)->Prop
def ExOk (K:Fg) (Eσ:L2.St->XK) (ex:DX) (B:Bs):Prop:=∀ {C:Addr} {F H:Hp} {σ:L2.St} {δ:DSt} {fps:Nat->List Addr},RS K B F H σ δ fps->ex C δ->Eσ σ (.ref C) none H
abbrev DCX:=DSt->(T->DSt->Prop)->DX->Prop
structure RfCx (K:Fg) (Eσ:L2.St->XK) (te:TE) (dc:DCX):Prop where
 of:∀ {B:Bs} {F H:Hp} {σ:L2.St} {δ:DSt} {fps:Nat->List Addr} {Qd:T->DSt->Prop} {Xd:DX} {Q:VK},RS K B F H σ δ fps->dc δ Qd Xd->(∀ r δ',Qd r δ'->∀ v F' H' fps' fpr,Res K B F' H' σ δ' fps' v r fpr->Q v H') ->
 (∀ C δ',Xd C δ'->∀ F' H' fps',RS K B F' H' σ δ' fps'->Eσ σ (.ref C) none H')->te σ H Q
section
variable {K:Fg} {Eσ:L2.St->XK} {ex:DX} {te ta:TE} {tA:TA} {dA:DF} {dc:DCX} {tt:TT} {dt:DT} {t u tb:TS} {d e db:DS} {g:TG} {dg:DG} {n:Nat} {dp:DP} {dA':DAT}
theorem ExOk.mono {B B':Bs} (h:ExOk K Eσ ex B) (k:∀ {F H:Hp} {σ:L2.St} {δ:DSt} {fps:Nat->List Addr},RS K B' F H σ δ fps->RS K B F H σ δ fps):ExOk K Eσ ex B':=λ r q=>h (k r) q
def zzv (p:DSpX) (δ:DSt) (as:List ArgP) (Q:T->DSt->Prop) (X:DX):Prop:=match zek as with
|some (i,q,t)=>zfo δ i/\oneO i as/\zko t/\p (as.map ArgP.arg) (λ r t2=>mutS δ i q t2 λ δ'=>Q r δ') λ C t2=>mutS δ i q t2 λ δ'=>X C δ'
|none=>noO as/\p (as.map ArgP.arg) (λ r _=>Q r δ) λ C _=>X C δ
def ztu (K:Fg):List (Value×DS)->Addr->DEnds->DSt->Prop
|[],_,_,_=>False
|(c,d) :: r,C,E,δ=>∃ b,PySem.W.exmOne K (.ref C) c=some b/\if b=true then d E δ else ztu K r C E δ
inductive RfHs (K:Fg):List (Value×TS)->List (Value×DS)->Prop
|nil:RfHs K [] []
|cons {c:Value} {t:TS} {d:DS} {l:List (Value×TS)} {hs:List (Value×DS)}:RfS K t d->RfHs K l hs->RfHs K ((c,t) :: l) ((c,d) :: hs)
end
section
variable {P:Program} {w:World} {K:Fg} {mg:Str->Option Value} {base:Heap}
end
end L4
namespace L3
open PySem PySem.Spec PyProof.Rows L2
section
variable {X:Cx}
variable {k:Nat} {m:Str} {pos apos:Pos} {o:Expr} {ta:TE} {Eσ:St->XK}
end
end L3
namespace L4
open PySem PySem.Spec PyProof.Rows L2 L3
section
variable {K:Fg} {te:TE} {de:DE} {tj:TJ}
variable {dj:DJ}
end
theorem zrm (K:Fg) (C:Addr) (E:DEnds) (δ:DSt):ztu K [] C E δ=False:=rfl
theorem zql (K:Fg) (c:Value) (d:DS) (r:List (Value×DS)) (C:Addr) (E:DEnds) (δ:DSt):ztu K ((c,d) :: r) C E δ=∃ b,PySem.W.exmOne K (.ref C) c=some b/\if b=true then d E δ else ztu K r C E δ:=rfl
theorem zsh (p:DSpX) (δ:DSt) (as:List ArgP) (Q:T->DSt->Prop) (X:DX):zzv p δ as Q X=match zek as with
|some (i,q,t)=>zfo δ i/\oneO i as/\zko t/\p (as.map ArgP.arg) (λ r t2=>mutS δ i q t2 λ δ'=>Q r δ') λ C t2=>mutS δ i q t2 λ δ'=>X C δ'
|none=>noO as/\p (as.map ArgP.arg) (λ r _=>Q r δ) λ C _=>X C δ:=rfl
section
variable {K:Fg} {te ta:TE} {tA:TA} {da de:DE} {dA:DF} {dp:DP} {dn:DN}
end
end L4
namespace L4
open PySem PySem.W PySem.Spec PySem.Calls PyProof.Rows PySem.Builtin PySem.Builtin.ObjectAttr PySem.Builtin.Getset_descriptor
section
variable {prog:Program} {w:World} {A:Around} {E:Value->Shared->Prop} {s:Shared} {K:Fg} {x D:Addr} {ox:Obj}
structure XAt (h:Heap) (x:Addr) (ox:Obj) (C:Addr):Prop where
 at_:h.get? x=some ox
 cls:ox.cls=.ref C
structure ExK (K:Fg) (D:Addr):Prop where
 hc:(clsIn K D).isSome=true
 hga:findIn K (.ref D) "__getattribute__"=some (some (.builtin "BaseException.__getattribute__"))
 hgn:findIn K (.ref D) "__getattr__"=some none
 ha:findIn K (.ref D) "__class__"=some (some (.builtin "object.__class__"))
 hn:specialIn K (.builtin "object.__class__") "__get__"=some (some (.builtin "getset_descriptor.__get__"))
 htk:takesIn K (.builtin "object.__class__")=some true
 hm:mroIn K D (.type "object")=some true
 hmB:mroIn K D (.type "BaseException")=some true
end
end L4
namespace L3
open PySem PySem.Spec PyProof.Rows L2
section
variable {X:Cx} {pins:List (Addr×Obj)} {σ:St} {H:Hp} {s:Shared}
end
def asX (X:Cx) (ea:Addr) (oe:Obj):Cx:={ zq11 X ea with pn:=X.pn++[(ea,oe)] }
section
variable {X:Cx} {pins:List (Addr×Obj)} {σ:St} {H H':Hp} {s s':Shared} {ea C:Addr} {oe:Obj} {B:Heap} {a0:Value}
def unD (i:Nat) (D:Ends):Ends:={ nx:=λ σ H=>D.nx (σ.set i none) H,rt:=D.rt,bk:=λ σ H=>D.bk (σ.set i none) H,ct:=λ σ H=>D.ct (σ.set i none) H }
def tAs (i:Nat) (t:Addr->TS):TS:=λ D σ H=>∀ ea,H ea=none->t ea (unD i D) (σ.set i (some (.ref ea))) H
inductive HandsN (X:Cx):List ExceptHandler->List (Value×(Addr->TS))->Prop
|nil:HandsN X [] []
|cons {x n:Str} {np pos:Pos} {i:Nat} {b₀:Stmt} {suite:List Stmt} {c:Value} {t:Addr->Addr->TS} {hs:List ExceptHandler} {l:List (Value×(Addr->TS))}:Gl X x->(X.mg x=some c \/ (X.mg x=none/\bootBuiltins x=some c/\x ≠ "__name__"))->(x == ("__debug__":Str))=false ->
   X.N.Nodup->X.N[i]?=some n->X.env.kindOf n=some .local->(∀ ea oe C,oe.cls=.ref C->PSs (asX X ea oe) (b₀ :: suite) (t C ea))->HandsN X hs l ->
   HandsN X (.ExceptHandler (some (.Name x np)) (some n) (b₀ :: suite) pos :: hs) ((c,λ C=>tAs i (t C)) :: l)
end
end L3
namespace L4
open PySem PySem.Spec PyProof.Rows L2 L3
section
variable {i j:Nat} {ea:Addr}
structure ImpE (i:Nat) (ea:Addr) (te te':TE):Prop where
 of:∀ {σ:L2.St} {H:Hp} {Q Q':VK},σ[i]?=some (some (.ref ea))->(∀ v H1,Q' v H1->Q v H1)->te' σ H Q'->te σ H Q
structure ImpA (i:Nat) (ea:Addr) (ta ta':TA):Prop where
 of:∀ {σ:L2.St} {H:Hp} {Q Q':List V->Hp->Prop},σ[i]?=some (some (.ref ea))->(∀ v H1,Q' v H1->Q v H1)->ta' σ H Q'->ta σ H Q
structure ImpS (i:Nat) (ea:Addr) (ts ts':TS):Prop where
 of:∀ {D:Ends} {σ:L2.St} {H:Hp},σ[i]?=some (some (.ref ea))->ts' D σ H->ts D σ H
variable {te te':TE} {ta ta':TA} {u u':TS}
end
section
variable {K:Fg} {B:Bs} {F H:Hp} {σ:L2.St} {δ:DSt} {fps:Nat->List Addr} {i:Nat}
def zdj (K:Fg):List (Value×(Addr->DS))->Addr->DEnds->DSt->Prop
|[],_,_,_=>False
|(c,d) :: r,C,E,δ=>∃ b,PySem.W.exmOne K (.ref C) c=some b/\if b=true then d C E δ else zdj K r C E δ
def dAs (i:Nat) (d:DS):DS:=λ E δ=>δ[i]?=some .un/\d { nx:=λ δ'=>δ'[i]?=some .un/\E.nx δ',bk:=λ δ'=>δ'[i]?=some .un/\E.bk δ',ct:=λ δ'=>δ'[i]?=some .un/\E.ct δ',rt:=E.rt } δ
def dG (Cs:List Addr) (C:Addr) (d:DS):DS:=λ E δ=>C∈Cs/\d E δ
inductive RfHsN (K:Fg):List (Value×(Addr->TS))->List (Value×(Addr->DS))->Prop
|nil:RfHsN K [] []
|cons {Cs:List Addr} {c:Value} {i:Nat} {t:Addr->Addr->TS} {t':Addr->TS} {d:Addr->DS} {l:List (Value×(Addr->TS))} {hs:List (Value×(Addr->DS))}:(∀ C,C∈Cs->∀ ea,ImpS i ea (t C ea) (t' C))->(∀ C,C∈Cs->RfS K (t' C) (d C))->RfHsN K l hs->RfHsN K ((c,λ C=>tAs i (t C)) :: l) ((c,λ C=>dAs i (dG Cs C (d C))) :: hs)
end
structure KxT (K:Fg) (Cs Ds:List Addr):Prop where
 ex:∀ C∈Cs,ExK K C
 one:∀ C∈Cs,∀ D∈Ds,PySem.W.kitOne K (.ref C) (.ref D)=some (C == D)
 ve:∀ C∈Cs,PySem.W.kitOne K (.ref C) (.type "ValueError")=some true
 nd:Ds.Nodup
theorem zhj (K:Fg) (C:Addr) (E:DEnds) (δ:DSt):zdj K [] C E δ=False:=rfl
theorem zhh (K:Fg) (c:Value) (d:Addr->DS) (r:List (Value×(Addr->DS))) (C:Addr) (E:DEnds) (δ:DSt):zdj K ((c,d) :: r) C E δ=∃ b,PySem.W.exmOne K (.ref C) c=some b/\if b=true then d C E δ else zdj K r C E δ:=rfl
theorem zt31 (i:Nat) (d:DS) (E:DEnds) (δ:DSt):dAs i d E δ=(δ[i]?=some .un/\d { nx:=λ δ'=>δ'[i]?=some .un/\E.nx δ',bk:=λ δ'=>δ'[i]?=some .un/\E.bk δ',ct:=λ δ'=>δ'[i]?=some .un/\E.ct δ',rt:=E.rt } δ):=rfl
theorem e_dG (Cs:List Addr) (C:Addr) (d:DS) (E:DEnds) (δ:DSt):dG Cs C d E δ=(C∈Cs/\d E δ):=rfl
end L4
namespace L3
open PySem PySem.Spec PyProof.Rows L2
section
variable {X:Cx} {tg:Expr}
end
end L3
namespace L4
open PySem PySem.Spec PyProof.Rows L2 L3
section
variable {K:Fg} {w:World}
end
section
variable {K:Fg} {te:TE} {de:DE} {tj:TJ} {dj:DJ}
end
section
variable {K:Fg} {te te1 te2:TE} {df:DF} {de:DE} {dc:DC}
end
section
variable {X:Cx} {x:Str} {pos pos':Pos} {e a b:Expr} {te ta tb:TE} {k j:Nat} {K:Fg}
theorem pset (i:Nat) (hN:X.N.Nodup) (he:PE X e te) (hi:X.N[i]?=some x:=by rfl) (hx:Loc X.env.scope x:=by first|exact Or.inl rfl|exact Or.inr rfl) (hs:swapsWith e (some (.Name x pos')) pos.line X.env=pure false:=by rfl) (hf:X.fn x=true \/ X.env.scope.names.lookup x=some .local:=by first|exact .inl rfl|exact .inr rfl|assumption):PS X (.Assign [.Name x pos'] e pos) (tAsg te (zni i)):=zbv hN hi hx he hs hf
theorem pgn (i:Nat) (hN:X.N.Nodup) (hi:X.N[i]?=some x:=by rfl) (hx:Loc X.env.scope x:=by first|exact Or.inl rfl|exact Or.inr rfl) (hf:X.fn x=true \/ X.env.scope.names.lookup x=some .local:=by first|exact .inl rfl|exact .inr rfl|assumption):PG X (.Name x pos) (zni i):=zvt hN hi hx hf
theorem pix (w:World) (K:Fg) (hr:Room k X.A) (ha:PE X a ta) (hb:PE X b tb) (hw:X.w=w:=by rfl) (hK:X.K=K:=by rfl) (hs:zyj b:=by exact λ _ _=>rfl):PE X (.Subscript a b pos) (tOp (rIxV w K) ta tb):=zj31 (ix_V (Room.units hr) hw hK) ha hb hs
theorem nds (l:List Str) (h:l.Nodup:=by decide +kernel):l.Nodup:=h
theorem rvi {i:Int}:RfV K (tC (.int i)) (dC (.int i)):=RfE.v ze1
theorem rgn (i:Nat) (hi:i < 100:=by decide):RfG K 100 (zni i) (gN i):=zr1 hi
theorem rmn {A:Around} (hr:Room k A) (h:j<=k:=by decide):Room j A:=Room.mono hr h
end
section
variable {K:Fg} {te ta te1 te2:TE} {dn1 dn2:DN} {dp:DP}
variable {tA:TA} {dA:DAT}
end
end L4
namespace L5
open PySem PySem.Spec PyProof.Rows L2 L3 L4
section
variable {prog:Program} {w:World} {A:Around} {E:Value->Shared->Prop}
end
section
variable {X:Cx} {pins:List (Addr×Obj)} {σ:L2.St} {A:Around} {E:Value->Shared->Prop}
end
section
variable {K:Fg} {te:TE} {de:DE}
end
section
variable {K:Fg}
end
theorem zr31 {α β:Type} {xs:List α} {enc:α->D} (ok:β->Prop) (en:β->D) {n:Nat} {ix:List Nat} {dg:DG} {de:DE} {δ:DSt} {Q:List D->Prop} (hz:xs.length<=sizeLine)
  (h:∀ x∈xs,dg (enc x) (cST n ix δ) λ δ'=>de δ' λ r=>∃ b,ok b/\r=en b) (q:∀ bs:List β,bs.length=xs.length->(∀ b∈bs,ok b)->Q (bs.map en)):zku (xs.map enc) n ix dg zlu de δ Q:=by
 refine ⟨by rw [List.length_map];exact hz,λ _ o=>∃ b,ok b/\o=some (en b),λ i d e=>?_,λ os hl hR=>?_⟩
 ·rw [List.getElem?_map] at e
  obtain ⟨x,hx,rfl⟩:=Option.map_eq_some_iff.mp e
  have:=h x (List.mem_of_getElem? hx)
  have e1:(λ r=>∃ b,ok b/\some r=some (en b))=λ r=>∃ b,ok b/\r=en b:=by funext r;simp
  show dg (enc x) (cST n ix δ) λ δ'=>if true=true then de δ' λ r=>∃ b,ok b/\some r=some (en b) else ∃ b,ok b/\none=some (en b)
  rw [e1]
  simp only [if_true]
  exact this
 ·have key:∀ os:List (Option D),(∀ o∈os,∃ b,ok b/\o=some (en b))->∃ bs:List β,bs.length=os.length/\(∀ b∈bs,ok b)/\os.filterMap id=bs.map en:=by
   intro os
   induction os with
  |nil=>intro _;exact ⟨[],rfl,(λ b hb=>by simp at hb),rfl⟩
  |cons o r ih =>
    intro k
    obtain ⟨b,h1,rfl⟩:=k o (by simp)
    obtain ⟨bs,k1,k2,k3⟩:=ih λ o ho=>k o (by simp [ho])
    refine ⟨b :: bs,by simp [k1],λ c hc=>?_,by simp [k3]⟩
    rcases List.mem_cons.mp hc with z|z
    ·rw [z];exact h1
    ·exact k2 c z
  obtain ⟨bs,b1,b2,b3⟩:=key os λ o ho=>by
   obtain ⟨j,hj⟩:=List.mem_iff_getElem?.mp ho
   exact hR j o hj
  rw [b3]
  exact q bs (by rw [b1,hl,List.length_map]) b2
end L5
namespace L4
open PySem PySem.Spec PyProof.Rows L2 L3
section
variable {K:Fg} {te ta ti tj:TE} {de d1 d2:DE} {dp:DP} {w:World}
theorem RS.any {B:Bs} {F H:Hp} {σ:L2.St} {δ:DSt} {fps:Nat->List Addr} (r:RS K B F H σ δ fps) (i:Nat) (v:Option V):RS K B F H (σ.set i v) (δ.set i .un) fps:=by
 have r:=r.forget i
 have key:∀ (j:Nat) s,(δ.set i .un)[j]?=some s->s=.un \/ (σ.set i v).getD j none=σ.getD j none:=λ j s e=>by
  by_cases hij:i=j
  ·subst hij
   rw [List.getElem?_set] at e
   by_cases hl:i < δ.length
   ·simp [hl] at e;exact .inl e.symm
   ·simp [hl] at e
  ·exact .inr (by rw [ze3,if_neg (by lia)])
 refine ⟨r.hh,r.ff,r.fh,r.nw,r.al,by rw [List.length_set];exact r.len,λ j d' e=>?_,λ j s e hs=>?_,r.fr,r.dj⟩
 ·rcases key j _ e with z|z
  ·cases z
  ·rw [z];exact r.sh j d' e
 ·rcases key j _ e with z|z
  ·rw [z] at hs;cases hs
  ·rw [z];exact r.rt j s e hs
theorem AtS.any {H:Hp} {σ:L2.St} {δ:DSt} {i r:Nat} {p:Pth} {v:V} {u:T} (h:AtS H σ δ i p v u) (hn:i≠r) (x:Option V):AtS H (σ.set r x) (δ.set r .un) i p v u:=by
 obtain ⟨s,t,y,h1,h2,h3,h4⟩:=h
 exact ⟨s,t,y,by rw [List.getElem?_set,if_neg (by lia)];exact h1,h2,by rw [ze3,if_neg (by lia)];exact h3,h4⟩
end
end L4
namespace L3
open PySem PySem.W PySem.Spec PyProof.Rows L2 L5
section
variable {w:World} {prog:Program}
end
end L3
namespace L4
open PySem PySem.Spec PyProof.Rows L2 L3
section
variable {K:Fg} {ta:TE} {dp:DP}
end
end L4
namespace L3
open PySem
def addT (es:Array (Int×Value)) (t:SetTable) (h:Int) (x:Value):Array (Int×Value)×SetTable :=
 if (!(layNew t es h x).2.2.1 && (layNew t es h x).2.1.tooFull)=true then ((relayAll (layNew t es h x).2.1 (layNew t es h x).1 (SetTable.grown (layNew t es h x).1.size)).1,(relayAll (layNew t es h x).2.1 (layNew t es h x).1 (SetTable.grown (layNew t es h x).1.size)).2.1)
 else ((layNew t es h x).1,(layNew t es h x).2.1)
def zvu (t:SetTable) (i:Nat):Nat:=if i=0 then 0 else t.place.getD (i - 1) 0+1
def okT (n:Nat) (t:SetTable):Bool:=t.plain && t.led && t.place.size == n && (List.range (n+1)).all λ i=>SetTable.below t.place (zvu t i) == i
def chkT:Nat->Nat->Array (Int×Value)->SetTable->Bool
|0,_,es,t=>okT es.size t
|f+1,k,es,t=>chkT f (k+1) es t && match addT es t (k:Int) .none with|(es',t')=>chkT f (k+1) es' t'
def chkP (f k : Nat) (p : Array (Int × Value) × SetTable) : Bool := chkT f k p.1 p.2
def nxP (k : Nat) (p : Array (Int × Value) × SetTable) : Array (Int × Value) × SetTable := addT p.1 p.2 (k : Int) .none
theorem chk_and {f k : Nat} {p : Array (Int × Value) × SetTable} (h1 : chkP f (k + 1) p = true) (h2 : chkP f (k + 1) (nxP k p) = true) : chkP (f + 1) k p = true := by
  show (chkP f (k + 1) p && chkP f (k + 1) (nxP k p)) = true
  rw [h1, h2]; rfl
def p0T : Array (Int × Value) × SetTable := (#[], .fresh 0 0 true)
theorem chk_0000 : chkP 8 4 p0T = true := by decide +kernel
theorem chk_0001 : chkP 8 4 (nxP 3 p0T) = true := by decide +kernel
theorem chk_0010 : chkP 8 4 (nxP 2 p0T) = true := by decide +kernel
theorem chk_0011 : chkP 8 4 (nxP 3 (nxP 2 p0T)) = true := by decide +kernel
theorem chk_0100 : chkP 8 4 (nxP 1 p0T) = true := by decide +kernel
theorem chk_0101 : chkP 8 4 (nxP 3 (nxP 1 p0T)) = true := by decide +kernel
theorem chk_0110 : chkP 8 4 (nxP 2 (nxP 1 p0T)) = true := by decide +kernel
theorem chk_0111 : chkP 8 4 (nxP 3 (nxP 2 (nxP 1 p0T))) = true := by decide +kernel
theorem chk_1000 : chkP 8 4 (nxP 0 p0T) = true := by decide +kernel
theorem chk_1001 : chkP 8 4 (nxP 3 (nxP 0 p0T)) = true := by decide +kernel
theorem chk_1010 : chkP 8 4 (nxP 2 (nxP 0 p0T)) = true := by decide +kernel
theorem chk_1011 : chkP 8 4 (nxP 3 (nxP 2 (nxP 0 p0T))) = true := by decide +kernel
theorem chk_1100 : chkP 8 4 (nxP 1 (nxP 0 p0T)) = true := by decide +kernel
theorem chk_1101 : chkP 8 4 (nxP 3 (nxP 1 (nxP 0 p0T))) = true := by decide +kernel
theorem chk_1110 : chkP 8 4 (nxP 2 (nxP 1 (nxP 0 p0T))) = true := by decide +kernel
theorem chk_1111 : chkP 8 4 (nxP 3 (nxP 2 (nxP 1 (nxP 0 p0T)))) = true := by decide +kernel
theorem zo21 : chkT 12 0 #[] (.fresh 0 0 true) = true := chk_and (chk_and (chk_and (chk_and chk_0000 chk_0001) (chk_and chk_0010 chk_0011)) (chk_and (chk_and chk_0100 chk_0101) (chk_and chk_0110 chk_0111))) (chk_and (chk_and (chk_and chk_1000 chk_1001) (chk_and chk_1010 chk_1011)) (chk_and (chk_and chk_1100 chk_1101) (chk_and chk_1110 chk_1111)))
section
variable {prog:Program} {w:World} {A:Around} {E:Value->Shared->Prop} {s:Shared}
theorem zth (es:Array (Int×Value)) (t:SetTable) (h:Int) (x:Value):(addT es t h x).1.toList.Perm (es.push (h,x)).toList:=by
 unfold addT
 split
 ·exact (relayAll_perm _ _ _).trans (layNew_perm t es h x)
 ·exact layNew_perm t es h x
theorem zqi (es:Array (Int×Value)) (t:SetTable) (h:Int) (x:Value):(addT es t h x).2.fits (addT es t h x).1.size=true:=by
 unfold addT
 split
 ·exact relayAll_fits _ _ _
 ·exact layNew_fits t es h x
def SetAt (hp:Heap) (a:Addr) (es:Array (Int×Value)) (t:SetTable):Prop:=∃ o ep,hp.get? a=some o/\o.ExactSet/\o.data=.set es ep t
theorem SetAt.store {hp:Heap} {a:Addr} {es es':Array (Int×Value)} {t t':SetTable} {o:Obj} {ep:Nat} (ho:hp.get? a=some o) (hex:o.ExactSet) (hd:o.data=.set es ep t) :
  (hp.update a (Obj.putSet es' t')).get? a=some { o with data:=.set es' (ep+1) t' }/\SetAt (hp.update a (Obj.putSet es' t')) a es' t':=by
 have e:=Heap.get?_update_self (Obj.putSet es' t') ho (by rw [putSet_of es' t' hd];rfl)
 rw [putSet_of es' t' hd] at e
 exact ⟨e,_,ep+1,e,hex,rfl⟩
theorem zjn {a:Addr} {es:Array (Int×Value)} {t:SetTable} {k:Int} {tk:Tok} {Q:Bool->Shared->Prop} (hS:SetAt s.heap a es t) (hf:t.fits es.size=true) (hel:ElemsOf (intKind prog w) es.toList) (hb:es.size+1 < scanBound)
  (no:∀ e∈es.toList,(intKind prog w).is k e.2=false) (h:∀ hp,Heap.SameBut a s.heap hp->SetAt hp a (addT es t (hashInt k) (.int k tk)).1 (addT es t (hashInt k) (.int k tk)).2->Q true { s with heap:=hp }) :
  wpAny (model prog w) A (setAddHashed a (.int k tk) ((intKind prog w).hash k)) Q E s:=by
 obtain ⟨o,ep,ho,hex,hd⟩:=hS
 have sc:(Value.int k tk).scannable=true:=rfl
 unfold setAddHashed setAddHashedIn
 refine wpAny_holding (wpAny_bind (wpAny_setState_of ho hd hf ?_))
 dsimp only
 rw [byScan_of sc (by lia) hel,if_pos rfl]
 unfold setAddByScan
 refine wpAny_bind (wpAny_bind (wpAny_rule ?_))
 refine wpAny_bind (wpAny_setScan_of (knd:=intKind prog w) (intKind_is prog w k tk) ho hd hf hel ?_)
 rw [List.findIdx?_eq_none_iff.mpr no]
 dsimp only
 have gw:∀ (b:Bool) {s1:Shared} {Q1:Unit->Shared->Prop},Q1 () s1->wpAny (model prog w) A (match b with|true=>rule "set.scan.the-table-gave-way"|false=>pure ()) Q1 E s1:=λ b s1 Q1 q=>by
  cases b
  ·exact wpAny_pure q
  ·exact wpAny_rule q
 have hp:=layNew_perm t es (hashInt k) (.int k tk)
 have f1:=layNew_fits t es (hashInt k) (.int k tk)
 have ea:∀ L,layNew t es (hashInt k) (.int k tk)=L->addT es t (hashInt k) (.int k tk)=if (!L.2.2.1 && L.2.1.tooFull)=true then ((relayAll L.2.1 L.1 (SetTable.grown L.1.size)).1,(relayAll L.2.1 L.1 (SetTable.grown L.1.size)).2.1) else (L.1,L.2.1):=λ L e=>by unfold addT;rw [e]
 have hk:(intKind prog w).hash k=hashInt k:=rfl
 rw [hk]
 generalize eL:layNew t es (hashInt k) (.int k tk)=L at hp f1
 rw [ea L eL] at h
 obtain ⟨es1,t1,wd,gv⟩:=L
 dsimp only at hp f1 h ⊢
 have sz:es1.size=es.size+1:=by rw [<- Array.length_toList,hp.length_eq,Array.length_toList,Array.size_push]
 have bd:es1.size<=sizeLine:=fits_of_scanBound (by lia)
 have tail:∀ (g:Bool->Sem Unit) (R:Option Bool->Shared->Prop),(∀ (b:Bool) (s1:Shared) (Q1:Unit->Shared->Prop),Q1 () s1->wpAny (model prog w) A (g b) Q1 E s1)->(∀ r,Q true r->R (some true) r) ->
   wpAny (model prog w) A (storeSet a es1 t1 >>= λ _=>if (!wd && t1.tooFull)=true then g (relayAll t1 es1 (SetTable.grown es1.size)).2.2 >>= λ _=>storeSet a (relayAll t1 es1 (SetTable.grown es1.size)).1 (relayAll t1 es1 (SetTable.grown es1.size)).2.1 >>= λ _=>pure (some true) else pure (some true)) R E s:=λ g R hg hR=>by
  refine wpAny_bind (wpAny_storeSet_of ho hd ?_ bd)
  obtain ⟨ho1,hS1⟩:=SetAt.store (es':=es1) (t':=t1) ho hex hd
  have sb1:=Heap.SameBut.update s.heap a (Obj.putSet es1 t1)
  by_cases c:(!wd && t1.tooFull)=true
  ·rw [if_pos c]
   rw [if_pos c] at h
   have rp:=relayAll_perm t1 es1 (SetTable.grown es1.size)
   have sz2:(relayAll t1 es1 (SetTable.grown es1.size)).1.size=es1.size:=by rw [<- Array.length_toList,rp.length_eq,Array.length_toList]
   refine wpAny_bind (hg _ _ _ ?_)
   refine wpAny_bind (wpAny_storeSet_of ho1 rfl ?_ (by rw [sz2];exact bd))
   obtain ⟨_,hS2⟩:=SetAt.store (es':=(relayAll t1 es1 (SetTable.grown es1.size)).1) (t':=(relayAll t1 es1 (SetTable.grown es1.size)).2.1) ho1 hex rfl
   exact wpAny_pure (hR _ (h _ (sb1.trans (Heap.SameBut.update _ a _)) hS2))
  ·rw [if_neg c]
   rw [if_neg c] at h
   exact wpAny_pure (hR _ (h _ sb1 hS1))
 refine wpAny_bind (gw _ ?_)
 split
 ·rw [hashByValue_scannable 8 sc]
  refine wpAny_bind (wpAny_pure ?_)
  refine tail _ _ (λ b s1 Q1 q=>gw b q) λ r z=>wpAny_pure z
 ·refine wpAny_bind (wpAny_pure ?_)
  refine tail _ _ (λ b s1 Q1 q=>gw b q) λ r z=>wpAny_pure z
end
def zbb (t0:SetTable) (xs:List (Int×Value)):Array (Int×Value)×SetTable:=xs.foldl (λ p e=>addT p.1 p.2 e.1 e.2) (#[],t0)
theorem zcg (t0:SetTable) (xs:List (Int×Value)) (e:Int×Value):zbb t0 (xs++[e])=addT (zbb t0 xs).1 (zbb t0 xs).2 e.1 e.2:=by
 unfold zbb;rw [List.foldl_append];rfl
theorem zq8:∀ (xs:List (Int×Value)) (p:Array (Int×Value)×SetTable),p.2.fits p.1.size=true->(xs.foldl (λ p e=>addT p.1 p.2 e.1 e.2) p).1.toList.Perm (p.1.toList++xs)/\(xs.foldl (λ p e=>addT p.1 p.2 e.1 e.2) p).2.fits (xs.foldl (λ p e=>addT p.1 p.2 e.1 e.2) p).1.size=true
|[],p,h=>⟨by rw [List.append_nil];exact .rfl,h⟩
|e :: r,p,h=>by
  obtain ⟨a,b⟩:=zq8 r (addT p.1 p.2 e.1 e.2) (zqi ..)
  refine ⟨a.trans ?_,b⟩
  have:=(zth p.1 p.2 e.1 e.2).append_right r
  rw [Array.toList_push,List.append_assoc] at this
  exact this
theorem zf3 {t0:SetTable} (h:t0.fits 0=true) (xs:List (Int×Value)):(zbb t0 xs).1.toList.Perm xs:=(zq8 xs (#[],t0) h).1
theorem zua {t0:SetTable} (h:t0.fits 0=true) (xs:List (Int×Value)):(zbb t0 xs).2.fits (zbb t0 xs).1.size=true:=(zq8 xs (#[],t0) h).2
theorem zj9 {t0:SetTable} (h:t0.fits 0=true) (xs:List (Int×Value)):(zbb t0 xs).1.size=xs.length:=by
 rw [<- Array.length_toList,(zf3 h xs).length_eq]
def Put (ns:List Int) (xs:List (Int×Value)):Prop:=xs.length=ns.length/\∀ (j:Nat) e,xs[j]?=some e->∃ k tk,ns[j]?=some k/\e=(hashInt k,.int k tk)
theorem Put.snoc {ns:List Int} {xs:List (Int×Value)} (h:Put ns xs) (k:Int) (tk:Tok):Put (ns++[k]) (xs++[(hashInt k,.int k tk)]):=by
 refine ⟨by simp [h.1],λ j e he=>?_⟩
 by_cases c:j < xs.length
 ·rw [List.getElem?_append_left c] at he
  obtain ⟨k',t',h1,h2⟩:=h.2 j e he
  exact ⟨k',t',by rw [List.getElem?_append_left (by have:=h.1;lia)];exact h1,h2⟩
 ·rw [List.getElem?_append_right (by lia)] at he
  have z:j - xs.length=0:=by have:=(List.getElem?_eq_some_iff.mp he).1;simp at this;lia
  rw [z] at he
  cases he
  exact ⟨k,tk,by rw [List.getElem?_append_right (by have:=h.1;lia),<- h.1,z];rfl,rfl⟩
theorem Put.mem {ns:List Int} {xs:List (Int×Value)} (h:Put ns xs) {e:Int×Value} (he:e∈xs):∃ k tk,k∈ns/\e=(hashInt k,.int k tk):=by
 obtain ⟨j,hj,rfl⟩:=List.mem_iff_getElem.mp he
 obtain ⟨k,tk,h1,h2⟩:=h.2 j _ (List.getElem?_eq_getElem hj)
 exact ⟨k,tk,List.mem_of_getElem? h1,h2⟩
def PutAt (t0:SetTable) (S:Addr) (ns:List Int) (hp:Heap):Prop:=∃ xs,Put ns xs/\SetAt hp S (zbb t0 xs).1 (zbb t0 xs).2
theorem PutAt.keep {t0:SetTable} {S:Addr} {ns:List Int} {hp hp':Heap} (h:PutAt t0 S ns hp) (k:∀ o,hp.get? S=some o->hp'.get? S=some o):PutAt t0 S ns hp':=by
 obtain ⟨xs,h1,o,ep,h2,h3⟩:=h
 exact ⟨xs,h1,o,ep,k o h2,h3⟩
section
variable {prog:Program} {w:World} {A:Around} {R:Result->Shared->Prop} {I:Addr} {fp wr:List Addr} {G:Array GenState->Array GenState->Prop} {n:Nat} {P:Nat->Value->Prop} {St:Nat->Shared->Prop}
theorem zsl {t0:SetTable} (hf0:t0.fits 0=true) (W:WalksS prog w A.in1 I fp wr G n P St) {S:Addr} (hS:S ∉ fp) {ns:List Int} (hn:ns.length=n) (nd:ns.Nodup) (hv:∀ i v,P i v->∃ t,v=.int (ns.getD i 0) t) (hb:n+1 < scanBound) :
  ∀ (m i:Nat) (s:Shared),m+i=n->St i s->PutAt t0 S (ns.take i) s.heap->(∀ s',Moved (S :: wr) G s s'->PutAt t0 S ns s'.heap->R (.ok (.ret .none)) s') ->
   codeAny (model prog w) A (.builtin "set.update.loop" ⟨[.ref S,.ref I],[]⟩) R s:=by
 have hw:S ∉ wr:=λ z=>hS (W.sub _ z)
 have up:∀ b∈wr,b∈S :: wr:=λ b z=>.tail _ z
 intro m
 induction m with
|zero =>
  intro i s hi st pa k
  have e:i=n:=by lia
  subst e
  refine codeAny_builtin PyProof.Rows.F.entry_set_update_loop ?_
  rw [Around.under_plainId PyProof.Rows.F.plain_set_update_loop _]
  show wpAny _ A.in1 (pyNext (.ref I) >>= _) _ _ s
  refine wpAny_bind (W.done s _ _ st λ s' mv=>?_)
  exact wpAny_pure (k s' (mv.mono up) (by rw [<- hn,List.take_length] at pa;exact pa.keep λ o z=>mv.heap S o hw z))
|succ m ih =>
  intro i s hi st pa k
  have hlt:i < n:=by lia
  refine codeAny_builtin PyProof.Rows.F.entry_set_update_loop ?_
  rw [Around.under_plainId PyProof.Rows.F.plain_set_update_loop _]
  show wpAny _ A.in1 (pyNext (.ref I) >>= _) _ _ s
  refine wpAny_bind (W.item i s _ _ hlt st λ v s' hP st' mv=>?_)
  obtain ⟨tk,rfl⟩:=hv i v hP
  have pa':=pa.keep λ o z=>mv.heap S o hw z
  obtain ⟨xs,px,sa⟩:=pa'
  have hl:xs.length=i:=by rw [px.1,List.length_take];lia
  show wpAny _ A.in1 (holding [Value.int (ns.getD i 0) tk] (setAdd S (.int (ns.getD i 0) tk)) >>= _) _ _ s'
  refine wpAny_bind (wpAny_holding ?_)
  unfold setAdd
  refine wpAny_holding (wpAny_bind ((intKind prog w).pyHash (k:=ns.getD i 0) (intKind_is _ _ _ _) ?_))
  have eg:ns.getD i 0=ns[i]'(by lia):=by rw [List.getD_eq_getElem?_getD,List.getElem?_eq_getElem (by lia)];rfl
  have fresh:∀ e∈(zbb t0 xs).1.toList,(intKind prog w).is (ns.getD i 0) e.2=false:=λ e he=>by
   obtain ⟨k',t',h1,rfl⟩:=px.mem ((zf3 hf0 xs).mem_iff.mp he)
   obtain ⟨j,hj,ej⟩:=List.mem_iff_getElem.mp h1
   rw [List.getElem_take] at ej
   rw [List.length_take] at hj
   have ne:ns.getD i 0≠k':=λ z=>by
    rw [eg,<- ej] at z
    have:=(List.getElem_inj nd).mp z
    lia
   show Value.isInt (ns.getD i 0) (.int k' t')=false
   unfold Value.isInt
   simp [ne]
   exact λ z=>ne z.symm
  have els:ElemsOf (intKind prog w) (zbb t0 xs).1.toList:=λ e he=>by
   obtain ⟨k',t',h1,rfl⟩:=px.mem ((zf3 hf0 xs).mem_iff.mp he)
   exact ⟨⟨k',intKind_is _ _ _ _,rfl⟩,rfl⟩
  refine zjn (s:={ s' with toks:=s'.toks+1 }) (tk:=tk) sa (zua hf0 xs) els (by rw [zj9 hf0];lia) fresh λ hp sb sa'=>?_
  have pn:PutAt t0 S (ns.take (i+1)) hp:=by
   refine ⟨xs++[(hashInt (ns.getD i 0),.int (ns.getD i 0) tk)],?_,?_⟩
   ·rw [List.take_succ,List.getElem?_eq_getElem (by lia),<- eg]
    exact px.snoc _ _
   ·rw [zcg];exact sa'
  refine wpAny_pure ⟨plainId_quiet PyProof.Rows.F.plain_set_update_loop _,ih (i+1) _ (by lia) (W.frame _ s' _ _ st' (Nat.le_succ _) λ b hb o e=>?_) pn λ s'' mv' pz=>?_⟩
  ·rw [sb.2 b λ z:b=S=>hS (z ▸ hb)];exact e
  ·refine k s'' (Moved.trans W.gtrans ((mv.mono up).then_heap (Nat.le_succ _) λ b o hb e=>?_) mv') pz
   rw [sb.2 b λ z:b=S=>hb (z ▸ List.mem_cons_self)];exact e
end
end L3
set_option maxHeartbeats 8000000
namespace L3
open PySem
def byTx (w:World):Bool:=w.params.followText "set-order"
def tab0 (w:World):SetTable:=.fresh 0 0 (!byTx w)
abbrev newS (w:World):Obj:={ cls:=.type "set",dict:=none,data:=.set #[] 0 (tab0 w) }
theorem zp01 (w:World):(tab0 w).fits 0=true:=rfl
section
variable {prog:Program} {w:World} {A:Around} {E:Value->Shared->Prop} {s:Shared}
theorem zdm (a:Value) {Q:Value->Shared->Prop} (h:Q (.ref s.heap.objs.size) { s with heap:=s.heap.push (newS w) }) :
  codeAny (model prog w) A (.call (.builtin "set.__new__") ⟨[.type "set",a],[]⟩) (wants Q E) s:=by
 refine codeAny_of_tree ?_
 show wpAny _ A.in1 (checkBuiltinCall "set.__new__" ⟨[.type "set",a],[]⟩ >>= λ _=>again (.builtin "set.__new__" ⟨[.type "set",a],[]⟩)) _ _ s
 refine wpAny_bind (wpAny_of_eq (F.newCall_set_1 a) (wpAny_pure ⟨plainId_quiet F.plain_set_new _,codeAny_builtin F.entry_set_new ?_⟩))
 rw [Around.under_plainId F.plain_set_new _]
 unfold Builtin.«set.__new__» Builtin.Frozenset.newClass
 have hsub:=PySem.sub_set_self
 obtain ⟨hp,g,d,tk,os⟩:=s
 dsimp only
 wp_walk
 refine wpAny_askSetting (wpAny_pure ?_)
 dsimp only
 simp only [newObj]
 refine wpAny_bind (wpAny_alloc (wpAny_pure ?_))
 exact wpAny_pure h
def zdp (s:Shared) (hp:Heap):Prop:=∀ b o,b < s.heap.objs.size->s.heap.get? b=some o->hp.get? b=some o
theorem zei {l:Addr} {xs:Array Value} {ns:List Int} {Q:Value->Shared->Prop} (calm:A.handled=none) (hl:s.heap.IsList l xs) (hi:PyProof.Rows.IntsAre xs.toList ns) (nd:ns.Nodup) (hb:ns.length+1 < scanBound)
  (h:∀ (hp:Heap) (tk:Nat),PutAt (tab0 w) s.heap.objs.size ns hp->zdp s hp->Q (.ref s.heap.objs.size) { s with heap:=hp,toks:=tk }) :
  wpAny (model prog w) A (call (.type "set") [.ref l]) Q E s:=by
 have nx:xs.size=ns.length:=by rw [<- Array.length_toList];exact PyProof.Rows.IntsAre.length hi
 obtain ⟨c,tl,hmro⟩:=F.called_set.mro
 have hmade:=F.called_set.made
 have hsub:=F.called_set.sub
 refine wpAny_call (codeAny_of_tree ?_)
 show wpAny _ _ (callAny (.type "set") _) _ _ _
 refine wpAny_pure ⟨Code.quiet_builtin _ (by decide +kernel),codeAny_builtin F.entry_type_call ?_⟩
 rw [Around.under_plain (weight_type_call_type "set" [.ref l] []) rfl]
 have n1:=F.called_set.notType
 have n2:=F.called_set.canCreate
 have n3:=F.typeCall_set_1 (.ref l)
 repeat (any_goals (first|assumption|wp_step))
 refine codeAny_mono (zdm (.ref l) (E:=E) (Q:=λ v s1=>v=.ref s.heap.objs.size/\s1={ s with heap:=s.heap.push (newS w) }) ⟨rfl,rfl⟩) λ r s1 hr=>?_
 cases r with
|error e=>exact hr
|ok fl =>
  cases fl with
 |ret obj =>
   obtain ⟨rfl,rfl⟩:=hr
   have gS:(s.heap.push (newS w)).get? s.heap.objs.size=some (newS w):=Heap.get?_push_size _ rfl
   have tS:Shared.TypeIs { s with heap:=s.heap.push (newS w) } (.ref s.heap.objs.size) "set":=⟨_,gS,rfl⟩
   have m1:=F.called_set.init.lookup
   have m2:=F.called_set.init.bind (.ref s.heap.objs.size)
   repeat (any_goals (first|assumption|wp_step))
   refine codeAny_mono (codeAny_call_builtin (R:=wants (λ r s2=>r=.none/\∃ hp tk,s2={ s with heap:=hp,toks:=tk }/\PutAt (tab0 w) s.heap.objs.size ns hp/\zdp s hp) E) F.called_set.init.plain F.entry_set_init (check_set_init_1 tS ?_)) λ r2 s2 hr2=>?_
   ·obtain ⟨ol,gl,cl,nl,dl⟩:=hl
    obtain ⟨ocls,odict,odata,oslots⟩:=ol
    simp only at cl dl
    subst cl dl
    have gl1:(s.heap.push (newS w)).get? l=some { cls:=.type "list",dict:=odict,data:=.seq xs nl,slots:=oslots }:=Heap.get?_push_of_some _ gl
    have q1:=F.sub_list_set
    have q2:=F.sub_list_frozenset
    have q3:(Value.type "list" == Value.type "dict")=false:=by decide
    have l1:(s.heap.push (newS w)).IsList l xs:=⟨_,gl1,rfl,nl,rfl⟩
    unfold Builtin.«set.__init__» noKeywords Builtin.Frozenset.updateFrom
    generalize ePI:pyIter=PI
    wp_walk
    subst ePI
    refine wpAny_pyIter_list l1 ?_
    refine wpAny_bind (wpAny_runValue ?_)
    have ll:l < s.heap.objs.size:=Heap.lt_size gl
    have calm3:A.in1.in1.in1.handled=none:=by simp [calm]
    have ne1:l≠(s.heap.push (newS w)).objs.size:=by rw [Heap.size_push];exact Nat.ne_of_lt (Nat.lt_succ_of_lt ll)
    have nf:s.heap.objs.size ∉ [(s.heap.push (newS w)).objs.size,l]:=by
     rw [Heap.size_push]
     simp only [List.mem_cons,List.not_mem_nil,or_false,not_or]
     exact ⟨Nat.ne_of_lt (Nat.lt_succ_self _),Nat.ne_of_gt ll⟩
    have hv:∀ (i:Nat) (v:Value),xs[i]?=some v->∃ t,v=.int (ns.getD i 0) t:=λ i v z=>PyProof.Rows.IntsAre.int_at hi i v (by rw [Array.getElem?_toList];exact z)
    refine zsl (t0:=tab0 w) (zp01 w) (Walks.list calm3 _ l ne1 xs).toS nf nx.symm nd hv (by lia) xs.size 0 _ (by lia) ⟨⟨_,Heap.get?_push_size _ rfl,rfl,rfl⟩,l1.push _⟩ ⟨[],⟨rfl,λ j e z=>by simp at z⟩,_,0,Heap.get?_push_of_some _ gS,⟨rfl,rfl,rfl⟩,rfl⟩ λ s' mv pa=>?_
    obtain ⟨hp,g',d',tk',os'⟩:=s'
    have e1:g'=s.gens:=mv.gens
    have e2:d'=s.drawn:=mv.drawn
    have e3:os'=s.os:=mv.os
    subst e1 e2 e3
    refine wpAny_pure ?_
    show wpAny _ _ (ret Value.none) _ _ _
    refine wpAny_pure ⟨rfl,hp,tk',rfl,pa,λ b o hb e=>?_⟩
    refine mv.heap b o ?_ (Heap.get?_push_of_some _ (Heap.get?_push_of_some _ e))
    rw [Heap.size_push]
    simp only [List.mem_cons,List.not_mem_nil,or_false,not_or]
    exact ⟨Nat.ne_of_lt hb,Nat.ne_of_lt (Nat.lt_succ_of_lt hb)⟩
   ·cases r2 with
   |error e=>exact hr2
   |ok fl2 =>
     cases fl2 with
    |ret r =>
      obtain ⟨rfl,hp,tk,rfl,pa,kp⟩:=hr2
      repeat (any_goals (first|assumption|wp_step))
      exact h _ _ pa kp
    |_=>exact hr2.elim
 |_=>exact hr.elim
end
end L3
set_option maxHeartbeats 8000000
namespace L3
open PySem
theorem zr8:Slot "set_iterator" "__next__" "set_iterator.__next__":=.of (owner := "set_iterator") (n := "__next__") (by rw [typeLookup_type,builtinLookup_eq_fast];kernel_rfl) (by decide +kernel) (by decide +kernel) (by decide +kernel) (by first|exact .inl (by decide +kernel)|exact .inr (by decide +kernel)) (by rw [isSubtype_type];kernel_rfl)
theorem zwm:entryFor table "set_iterator.__next__"=some Builtin.«set_iterator.__next__»:=entryFor_of_tree (by kernel_rfl)
theorem zve:Slot "set_iterator" "__iter__" "set_iterator.__iter__":=.of (owner := "set_iterator") (n := "__iter__") (by rw [typeLookup_type,builtinLookup_eq_fast];kernel_rfl) (by decide +kernel) (by decide +kernel) (by decide +kernel) (by first|exact .inl (by decide +kernel)|exact .inr (by decide +kernel)) (by rw [isSubtype_type];kernel_rfl)
theorem zmm:entryFor table "set_iterator.__iter__"=some Builtin.«dict_keyiterator.__iter__»:=entryFor_alias (id' := "dict_keyiterator.__iter__") (by kernel_rfl) rfl (by decide +kernel) (by kernel_rfl)
theorem zmw:entryFor table "set.__iter__"=some Builtin.«frozenset.__iter__»:=entryFor_alias (id' := "frozenset.__iter__") (by kernel_rfl) rfl (by decide +kernel) (by kernel_rfl)
theorem za01:Manifest.owners.lookup (String.ofList ['r','o','t','a','r','e','t','i','_','t','e','s'].reverse)=some Manifest.sig_set_iterator:=by kernel_rfl
theorem zzk (a:Value):argsOk "set_iterator.__next__" ⟨[a],[]⟩:=by unfold argsOk;rw [signature?_of (id := "set_iterator.__next__") (n:=['_','_','t','x','e','n','_','_']) (o:=['r','o','t','a','r','e','t','i','_','t','e','s']) (by kernel_rfl) za01];kernel_rfl
theorem zcl (a:Value):argsOk "set_iterator.__iter__" ⟨[a],[]⟩:=by unfold argsOk;rw [signature?_of (id := "set_iterator.__iter__") (n:=['_','_','r','e','t','i','_','_']) (o:=['r','o','t','a','r','e','t','i','_','t','e','s']) (by kernel_rfl) za01];kernel_rfl
section
variable {prog:Program} {w:World} {A:Around} {E:Value->Shared->Prop} {s:Shared}
def SIt (hp:Heap) (it a:Addr) (slot i n ep:Nat):Prop:=∃ o,hp.get? it=some o/\o.cls=.type "set_iterator"/\o.data=.fields #[.int slot 0,.int i 0,.ref a,.int n 0,.int ep 0]
theorem SIt.ty {it a:Addr} {slot i n ep:Nat} (h:SIt s.heap it a slot i n ep):s.TypeIs (.ref it) "set_iterator":=by
 obtain ⟨o,h1,h2,_⟩:=h
 exact ⟨o,h1,h2⟩
theorem zal {a:Addr} {o:Obj} {es:Array (Int×Value)} {ep:Nat} {t:SetTable} {Q:Value->Shared->Prop} (ho:s.heap.get? a=some o) (hex:o.ExactSet) (hd:o.data=.set es ep t) (hf:t.fits es.size=true) (pl:byTx w=true \/ t.plain=true)
  (q:Q (.ref s.heap.objs.size) { s with heap:=s.heap.push { cls:=.type "set_iterator",data:=.fields #[.int 0 0,.int 0 0,.ref a,.int es.size 0,.int ep 0] } }):wpAny (model prog w) A (pyIter (.ref a)) Q E s:=by
 have ty:s.TypeIs (.ref a) "set":=⟨o,ho,hex.1⟩
 refine wpAny_pyIter_slot ty PySem.F.slot_set_iter (wpAny_call_entry PySem.F.slot_set_iter ty zmw ?_ (PySem.F.args_set_iter_1 _))
 unfold Builtin.«frozenset.__iter__» Builtin.Frozenset.slot0
 refine wpAny_bind (wpAny_bind (show wpAny _ _ (pure (Value.ref a,[])) _ _ s from wpAny_pure (show wpAny _ _ (pure a) _ _ s from wpAny_pure ?_)))
 unfold Builtin.Frozenset.sizeOf
 refine wpAny_bind (wpAny_bind (wpAny_setEntries_of ho hd hf (wpAny_pure ?_)))
 unfold setDrawn setsByText
 refine wpAny_bind (wpAny_bind (wpAny_setState_of ho hd hf (wpAny_bind (wpAny_bind (wpAny_askSetting (wpAny_pure (wpAny_pure ?_)))))))
 dsimp only
 have no:∀ b:Bool,(!w.params.followText "set-order" && (!t.plain && b))=false:=λ b=>by
  rcases pl with z|z
  ·rw [show w.params.followText "set-order"=true from z];rfl
  ·rw [z];simp
 refine wpAny_ite_split (λ z=>absurd (show true=false from z.symm.trans (no (decide (es.size > 1)))) nofun) λ _=>?_
 refine wpAny_bind (wpAny_pure (wpAny_bind (wpAny_setEpoch_of ho hd hf (wpAny_bind (wpAny_newObj_type (wpAny_pure ⟨_,rfl, "set_iterator",_,⟨_,Heap.get?_push_size _ rfl,rfl⟩,zr8.lookup,?_⟩))))))
 simpa [rawInt] using q
theorem zra {α:Type}:∀ {l:List α} {i:Nat} (h:i < l.length),(l[i] :: l.eraseIdx i).Perm l
|a :: r,0,_=>.rfl
|a :: r,i+1,h=>by
  rw [List.getElem_cons_succ,List.eraseIdx_cons_succ]
  exact (List.Perm.swap ..).trans ((zra (l:=r) (i:=i) (by simpa using h)).cons a)
theorem zeg {α:Type} (next:Nat->Nat):∀ (f k:Nat) (l:List α) (out:Array α),l.length<=f->(pickOrder.go next f k l out).toList.Perm (out.toList++l)
|0,k,l,out,h=>by
  have:l=[]:=List.eq_nil_of_length_eq_zero (by lia)
  subst this;unfold pickOrder.go;rw [List.append_nil]
|f+1,k,l,out,h=>by
  unfold pickOrder.go
  cases l with
 |nil=>simp
 |cons y r =>
   have hm:next k % (y :: r).length < (y :: r).length:=Nat.mod_lt _ (by simp)
   rw [List.getElem?_eq_getElem hm]
   dsimp only
   refine (zeg next f (k+1) _ _ (by rw [List.length_eraseIdx_of_lt hm];lia)).trans ?_
   rw [Array.toList_push,List.append_assoc]
   refine List.Perm.append_left _ ?_
   exact zra hm
theorem zaj {α:Type} (next:Nat->Nat) (xs:Array α):(pickOrder next xs).toList.Perm xs.toList:=by
 unfold pickOrder
 exact (zeg next xs.size 0 xs.toList #[] (by simp)).trans (by simp)
end
end L3
set_option maxHeartbeats 8000000
namespace L3
open PySem
section
variable {prog:Program} {w:World} {A:Around} {E:Value->Shared->Prop} {s:Shared}
def zdb (w:World) (t:SetTable) (i:Nat):Nat:=if byTx w=true then 0 else zvu t i
def ordW (w:World) (a:Addr) (ep:Nat) (es:Array (Int×Value)):Array (Int×Value):=if byTx w=true then pickOrder (w.params.setOrder a ep) es else es
theorem zpc (w:World) (a:Addr) (ep:Nat) (es:Array (Int×Value)):(ordW w a ep es).toList.Perm es.toList:=by
 unfold ordW
 split
 ·exact zaj ..
 ·exact .rfl
theorem zkc (w:World) (a:Addr) (ep:Nat) (es:Array (Int×Value)):(ordW w a ep es).size=es.size:=by
 rw [<- Array.length_toList,(zpc w a ep es).length_eq,Array.length_toList]
theorem zdf {a:Addr} {o:Obj} {es:Array (Int×Value)} {ep i:Nat} {t:SetTable} {Q:Option (Value×Nat)->Shared->Prop} (ho:s.heap.get? a=some o) (hd:o.data=.set es ep t) (hf:t.fits es.size=true) (ok:byTx w=true \/ okT es.size t=true) (hi:i<=es.size)
  (q:Q (((ordW w a ep es)[i]?).map λ e=>(e.2,zdb w t (i+1))) s):wpAny (model prog w) A (setNext a (zdb w t i) i ep) Q E s:=by
 unfold setNext setsByText
 refine wpAny_bind (wpAny_setState_of ho hd hf ?_)
 refine wpAny_bind (wpAny_bind (wpAny_askSetting (wpAny_pure ?_)))
 dsimp only
 refine wpAny_ite_split (λ z=>?_) λ z=>?_
 ·have z:byTx w=true:=z
  rw [if_neg (by simp)]
  unfold setWalk setsByText
  refine wpAny_bind (wpAny_bind (wpAny_setState_of ho hd hf (wpAny_bind (wpAny_bind (wpAny_askSetting (wpAny_pure ?_))))))
  refine wpAny_ite_split (λ _=>?_) λ y=>absurd z y
  refine wpAny_bind (wpAny_askSetting (wpAny_pure (wpAny_pure ?_)))
  unfold ordW zdb at q
  rw [if_pos z,if_pos z] at q
  unfold zdb
  rw [if_pos z]
  exact q
 ·have z:¬ byTx w=true:=z
  have ok:okT es.size t=true:=ok.resolve_left z
  unfold okT at ok
  simp only [Bool.and_eq_true,List.all_eq_true,List.mem_range,beq_iff_eq] at ok
  obtain ⟨⟨⟨k1,k2⟩,k3⟩,k4⟩:=ok
  refine wpAny_ite_split (λ y=>absurd (show true=false from y.symm.trans (show (!t.plain && decide (es.size > 1))=false by rw [k1];rfl)) nofun) λ _=>?_
  have led:wpAny (model prog w) A (if (!t.led && !es.isEmpty)=true then unsupported "set:maker-not-led" else pure ()) (λ _ s'=>wpAny (model prog w) A (pure (match es[SetTable.below t.place (zdb w t i)]?,t.place[SetTable.below t.place (zdb w t i)]? with
    |some (_,x),some j=>some (x,j+1)
    |_,_=>none)) Q E s') E s:=by
   rw [k2,if_neg (by simp)]
   refine wpAny_pure (wpAny_pure ?_)
   unfold ordW zdb at q
   rw [if_neg z,if_neg z] at q
   unfold zdb
   rw [if_neg z,k4 i (by lia)]
   rcases Nat.lt_or_ge i es.size with lt|ge
   ·rw [Array.getElem?_eq_getElem lt,Array.getElem?_eq_getElem (by lia)]
    rw [Array.getElem?_eq_getElem lt] at q
    unfold zvu at q
    rw [if_neg (by lia),Nat.add_sub_cancel,Array.getD_eq_getD_getElem?,Array.getElem?_eq_getElem (by lia)] at q
    exact q
   ·rw [Array.getElem?_eq_none ge]
    rw [Array.getElem?_eq_none ge] at q
    exact q
  exact wpAny_bind led
theorem zcf {it a:Addr} {o:Obj} {es:Array (Int×Value)} {ep i:Nat} {t:SetTable} {Q:Option Value->Shared->Prop} (calm:A.handled=none) (gi:SIt s.heap it a (zdb w t i) i es.size ep) (ho:s.heap.get? a=some o) (hd:o.data=.set es ep t) (hf:t.fits es.size=true) (ok:byTx w=true \/ okT es.size t=true) (hi:i<=es.size)
  (q1:∀ e,(ordW w a ep es)[i]?=some e->∀ h':Heap,SIt h' it a (zdb w t (i+1)) (i+1) es.size ep->Heap.SameBut it s.heap h'->Q (some e.2) { s with heap:=h' })
  (q2:es.size<=i->∀ h':Heap,Heap.ExtBut it s.heap h'->Q none { s with heap:=h' }):wpAny (model prog w) A (pyNext (.ref it)) Q E s:=by
 have ty:=gi.ty
 obtain ⟨io,g1,g2,g3⟩:=id gi
 unfold pyNext
 refine wpAny_bind (wpAny_attempt (wpAny_callSpecial?_slot (name:=Str.ofString "__next__") ty zr8 (wpAny_call_entry zr8 ty zwm ?_ (zzk _))))
 unfold Builtin.«set_iterator.__next__»
 refine wpAny_bind (show wpAny _ _ (pure (Value.ref it,[])) _ _ s from wpAny_pure ?_)
 refine wpAny_bind (wpAny_fieldsOf g1 g3 ?_)
 refine wpAny_bind (wpAny_setEntries_of ho hd hf ?_)
 dsimp only
 rw [if_neg (by simp)]
 simp only [Int.toNat_natCast]
 refine wpAny_bind (zdf ho hd hf ok hi ?_)
 rcases Nat.lt_or_ge i es.size with lt|ge
 ·have e0:(ordW w a ep es)[i]?=some ((ordW w a ep es)[i]'(by rw [zkc];exact lt)):=Array.getElem?_eq_getElem _
  have q:=q1 _ e0
  rw [e0]
  dsimp only [Option.map_some]
  refine wpAny_bind (wpAny_setField g1 g3 (by simp) ?_)
  have h1:=Heap.get?_update_self (Obj.mapFields (·.setIfInBounds 0 (rawInt (zdb w t (i+1):Nat)))) g1 (Obj.isFreed_of_fields (Obj.data_mapFields g3 _))
  have h2:=Obj.data_mapFields g3 (·.setIfInBounds 0 (rawInt (zdb w t (i+1):Nat)))
  refine wpAny_bind (wpAny_setField h1 h2 (by simp) ?_)
  have gi':SIt ((s.heap.update it (Obj.mapFields (·.setIfInBounds 0 (rawInt (zdb w t (i+1):Nat))))).update it (Obj.mapFields (·.setIfInBounds 1 (rawInt ((i:Int)+1))))) it a (zdb w t (i+1)) (i+1) es.size ep:=by
   refine ⟨_,Heap.get?_update_self _ h1 (Obj.isFreed_of_fields (Obj.data_mapFields h2 _)),(Obj.cls_mapFields ..).trans ((Obj.cls_mapFields ..).trans g2),?_⟩
   rw [Obj.data_mapFields h2];simp [rawInt]
  exact wpAny_pure ⟨_,rfl,wpAny_pure (q _ gi' ((Heap.SameBut.update ..).trans (Heap.SameBut.update ..)))⟩
 ·rw [Array.getElem?_eq_none (by rw [zkc];exact ge)]
  dsimp only [Option.map_none]
  refine wpAny_bind (wpAny_setField g1 g3 (by simp) ?_)
  refine wpAny_bind (show wpAny _ _ (newExc (.type "StopIteration") []) _ _ _ from ?_)
  simp only [newExc,newTuple]
  refine wpAny_bind (wpAny_newObj_type (hd:=by size_fits) (wpAny_bind (m:=firstArgMember _ _) (wpAny_of_eq (a:=Value.none) (by rfl) (wpAny_newObj_type (hd:=by size_fits) ?_))))
  simp only [raiseNew]
  refine wpAny_bind (wpAny_handled ?_)
  rw [show A.in1.handled=none from calm]
  refine wpAny_bind (wpAny_pure (wpAny_throw ?_))
  refine wpAny_bind (wpAny_isInstance (b:=true) (T := "StopIteration") ⟨_,Heap.get?_push_size _ rfl,rfl⟩ isSubtype_stop (wpAny_pure (q2 ge _ ?_)))
  exact ((Heap.SameBut.update ..).extBut.push _).push _
theorem zih {it a:Addr} {o:Obj} {es:Array (Int×Value)} {ep:Nat} {t:SetTable} (calm:A.handled=none) (ne:a≠it) (hd:o.data=.set es ep t) (hf:t.fits es.size=true) (ok:byTx w=true \/ okT es.size t=true) :
  PySem.Walks prog w A it [it,a] [it] es.size (λ i v=>∃ e,(ordW w a ep es)[i]?=some e/\v=e.2) (λ i h=>i<=es.size/\SIt h it a (zdb w t i) i es.size ep/\h.get? a=some o) where
 sub:=by simp
 frame:=λ i h h' ⟨hi,⟨io,g1,g2⟩,ho⟩ k=>⟨hi,⟨io,k _ (by simp) _ g1,g2⟩,k _ (by simp) _ ho⟩
 item:=λ i s Q E hi ⟨_,S,ho⟩ hQ=>zcf calm S ho hd hf ok (Nat.le_of_lt hi) (λ e he h' S' sb=>hQ _ h' s.toks ⟨e,he,rfl⟩ ⟨hi,S',sb.extBut a o ne ho⟩ λ b o nb z=>sb.extBut b o (by simpa using nb) z) λ ge=>absurd hi (Nat.not_lt.mpr ge)
 done:=λ s Q E ⟨_,S,ho⟩ hQ=>zcf calm S ho hd hf ok (Nat.le_refl _) (λ e he=>by rw [Array.getElem?_eq_none (by rw [zkc];exact Nat.le_refl _)] at he;cases he) λ _ h' eb=>hQ h' s.toks λ b o nb z=>eb b o (by simpa using nb) z
 self:=λ i s Q E S h=>by
  have ty:=S.2.1.ty
  refine wpAny_pyIter_slot ty zve (wpAny_call_entry zve ty zmm ?_ (zcl _))
  show wpAny _ _ (ret (.ref it)) _ _ s
  exact wpAny_pure ⟨_,rfl, "set_iterator",_,ty,zr8.lookup,h⟩
end
end L3
set_option maxHeartbeats 8000000
namespace L3
open PySem PySem.W PySem.Spec PyProof.Rows L2 L5
section
variable {prog:Program} {w:World} {A:Around} {E:Value->Shared->Prop} {s:Shared}
theorem znn {r:Addr} {Q:Bool->Shared->Prop} (ty:s.TypeIs (.ref r) "set") (h:Q false s):wpAny (model prog w) A (Builtin.List.listLengthHint (.ref r)) Q E s:=by
 unfold Builtin.List.listLengthHint
 refine wpAny_bind (wpAny_specialOf ty PySem.F.slot_set_len.lookup ?_)
 generalize hid:("set.__len__":String)=id0
 wp_delta
 rw [show splitId id0=some ("set", "__len__") from by subst hid;decide +kernel]
 subst hid
 refine wpAny_bind (wpAny_isInstance (T := "set") (b:=true) ty (by rw [isSubtype_type];kernel_rfl) ?_)
 refine wpAny_ite_split (λ z=>absurd z (by decide)) λ _=>?_
 refine wpAny_ite_split (λ _=>?_) λ z=>absurd (by decide +kernel) z
 refine wpAny_bind (wpAny_typeOf ty ?_)
 exact wpAny_pure h
theorem zqo {a:Addr} {o:Obj} {es:Array (Int×Value)} {ep:Nat} {t:SetTable} (hex:o.ExactSet) (hd:o.data=.set es ep t) (hf:t.fits es.size=true) (ok:byTx w=true \/ okT es.size t=true) :
  KdlSrc prog w "set" a a es.size (λ i v=>∃ e,(ordW w a ep es)[i]?=some e/\v=e.2) (λ h=>h.get? a=some o) where
 type:=λ _ hm=>⟨o,hm,hex.1⟩
 there:=λ _ hm=>⟨Heap.lt_size hm,Heap.lt_size hm⟩
 keep:=λ _ _ hm hk=>hk a (.inl rfl) _ hm
 notList:=by decide
 notTuple:=by decide
 hint:=λ _ _ _ _ hm hq=>znn ⟨o,hm,hex.1⟩ hq
 iter:=λ A s hh hm=>⟨_,_,(λ _ _ hq=>zal hm hex hd hf (ok.imp id λ z=>by
   unfold okT at z
   simp only [Bool.and_eq_true] at z
   exact z.1.1.1) hq),zih hh (Nat.ne_of_lt (Heap.lt_size hm)) hd hf ok,⟨Nat.zero_le _,⟨_,Heap.get?_push_size _ rfl,rfl,by unfold zdb zvu;simp⟩,Heap.get?_push_of_some _ hm⟩⟩
end
def fsts (es:Array (Int×Value)):List Int:=es.toList.map (·.1)
theorem zk3 {es es':Array (Int×Value)} (h:fsts es=fsts es'):es.size=es'.size:=by
 have:=congrArg List.length h
 simpa [fsts] using this
theorem zff (es:Array (Int×Value)) (p:Nat) (x:Int×Value):fsts (SetTable.insertAt es p x)=(fsts es).take p++x.1 :: (fsts es).drop p:=by
 unfold fsts SetTable.insertAt
 simp [Array.toList_extract,List.map_take,List.map_drop,List.take_of_length_le]
theorem znp {es es':Array (Int×Value)} (h:fsts es=fsts es') (t:SetTable) (k:Int) (x y:Value):fsts (layNew t es k x).1=fsts (layNew t es' k y).1/\(layNew t es k x).2=(layNew t es' k y).2:=by
 unfold layNew
 split
 ·rename_i slot wd e
  have e1:fsts (SetTable.insertAt es (t.put slot).2 (k,x))=fsts (SetTable.insertAt es' (t.put slot).2 (k,y)):=by rw [zff,zff,h]
  exact ⟨e1,by dsimp only;rw [zk3 e1]⟩
 ·refine ⟨?_,by rw [zk3 h]⟩
  unfold fsts at h ⊢
  simp [h]
theorem zrh {es es':Array (Int×Value)} (h:fsts es=fsts es') (t:SetTable) (n:Nat):fsts (relayAll t es n).1=fsts (relayAll t es' n).1/\(relayAll t es n).2=(relayAll t es' n).2:=by
 have hm:es.map (·.1)=es'.map (·.1):=by
  apply Array.toList_inj.mp
  rw [Array.toList_map,Array.toList_map];exact h
 have hz:=zk3 h
 unfold relayAll
 rw [hm]
 split
 ·rename_i t' order e
  have e1:fsts (order.filterMap (es[·]?))=fsts (order.filterMap (es'[·]?)):=by
   unfold fsts at h ⊢
   rw [Array.toList_filterMap,Array.toList_filterMap,List.map_filterMap,List.map_filterMap]
   congr 1
   funext j
   have:(es.toList.map (·.1))[j]?=(es'.toList.map (·.1))[j]?:=by rw [h]
   rw [List.getElem?_map,List.getElem?_map,Array.getElem?_toList,Array.getElem?_toList] at this
   exact this
  dsimp only
  rw [hz,zk3 e1]
  split
  ·exact ⟨e1,rfl⟩
  ·exact ⟨h,rfl⟩
 ·exact ⟨h,by rw [hz]⟩
theorem znq {es es':Array (Int×Value)} (h:fsts es=fsts es') (t:SetTable) (k:Int) (x y:Value):fsts (addT es t k x).1=fsts (addT es' t k y).1/\(addT es t k x).2=(addT es' t k y).2:=by
 obtain ⟨h1,h2⟩:=znp h t k x y
 have h3:=zk3 h1
 unfold addT
 rw [h2,h3]
 split
 ·obtain ⟨a,b⟩:=zrh h1 (layNew t es' k y).2.1 (SetTable.grown (layNew t es' k y).1.size)
  exact ⟨a,by rw [b]⟩
 ·exact ⟨h1,rfl⟩
theorem zmc:∀ (f k:Nat) (es:Array (Int×Value)) (t:SetTable),chkT f k es t=true->∀ (xs:List (Int×Value)) (es':Array (Int×Value)),fsts es'=fsts es->(xs.map (·.1)).Pairwise (· < ·)->(∀ e∈xs,(k:Int)<=e.1/\e.1 < (k+f:Nat))->okT (xs.foldl (λ p e=>addT p.1 p.2 e.1 e.2) (es',t)).1.size (xs.foldl (λ p e=>addT p.1 p.2 e.1 e.2) (es',t)).2=true
|0,k,es,t,h,xs,es',he,hp,hb=>by
  have:xs=[]:=by
   cases xs with
  |nil=>rfl
  |cons e r=>have:=hb e (by simp);simp only [Nat.add_zero] at this;lia
  subst this
  unfold chkT at h
  show okT es'.size t=true
  rw [zk3 he];exact h
|f+1,k,es,t,h,xs,es',he,hp,hb=>by
  unfold chkT at h
  rw [Bool.and_eq_true] at h
  obtain ⟨h1,h2⟩:=h
  have skip:(∀ e∈xs,((k+1:Nat):Int)<=e.1)->okT (xs.foldl (λ p e=>addT p.1 p.2 e.1 e.2) (es',t)).1.size (xs.foldl (λ p e=>addT p.1 p.2 e.1 e.2) (es',t)).2=true:=λ z=>zmc f (k+1) es t h1 xs es' he hp λ e hh=>⟨z e hh,by have:=(hb e hh).2;lia⟩
  cases xs with
 |nil=>exact skip λ e hh=>by simp at hh
 |cons e r =>
   rw [List.map_cons,List.pairwise_cons] at hp
   have hr:∀ y∈r,e.1 < y.1:=λ y hy=>hp.1 y.1 (List.mem_map.mpr ⟨y,hy,rfl⟩)
   have h0:=hb e (by simp)
   by_cases c:e.1=(k:Int)
   ·obtain ⟨a,b⟩:=znq he t e.1 e.2 .none
    rw [c] at a b
    have:=zmc f (k+1) (addT es t k .none).1 (addT es t k .none).2 h2 r (addT es' t k e.2).1 a hp.2 λ y hy=>⟨by have:=hr y hy;lia,by have:=(hb y (by simp [hy])).2;lia⟩
    rw [List.foldl_cons]
    rw [<- b] at this
    rw [c]
    exact this
   ·exact skip λ y hy=>by
     rcases List.mem_cons.mp hy with z|z
     ·subst z;lia
     ·have:=hr y z;lia
theorem zh9 {k:Int} (h0:0<=k) (h:k < 12):hashInt k=k:=by
 have:k=0 \/ k=1 \/ k=2 \/ k=3 \/ k=4 \/ k=5 \/ k=6 \/ k=7 \/ k=8 \/ k=9 \/ k=10 \/ k=11:=by lia
 rcases this with rfl|rfl|rfl|rfl|rfl|rfl|rfl|rfl|rfl|rfl|rfl|rfl <;> decide
end L3
set_option maxHeartbeats 8000000
namespace L3
open PySem PySem.W PySem.Spec PyProof.Rows L2 L5
theorem Put.fst {ns:List Int} {xs:List (Int×Value)} (h:Put ns xs) (hb:∀ k∈ns,0<=k/\k < 12):xs.map (·.1)=ns:=by
 refine List.ext_getElem (by rw [List.length_map];exact h.1) λ i h1 h2=>?_
 have hx:i < xs.length:=by simpa using h1
 rw [List.getElem_map]
 obtain ⟨k,tk,e1,e2⟩:=h.2 i xs[i] (List.getElem?_eq_getElem _)
 rw [List.getElem?_eq_getElem h2] at e1
 cases e1
 have:=hb ns[i] (List.getElem_mem _)
 rw [e2];exact zh9 this.1 this.2
theorem zhx:bootBuiltins "set"=some (.type "set"):=by decide +kernel
def rSet (K:Fg) (w:World):List V->Hp->VK->Prop:=λ vs H Q=>∃ (a:Addr) (ns:List Int),vs=[.ref a]/\SqL K H a (ns.map V.int)/\ns.Nodup/\ns.length < 64/\∀ l,H l=none->Q (.ref l) (upd H l (.ext (PutAt (tab0 w) l ns)))
def zbp (w:World):List V->Hp->VK->Prop:=λ vs H Q=>∃ (a:Addr) (ns:List Int),vs=[.ref a]/\H a=some (.ext (PutAt (tab0 w) a ns))/\ns.Pairwise (· < ·)/\(∀ k∈ns,0<=k/\k < 12)/\ns.length < 64/\∀ l,H l=none->Q (.ref l) (upd H l (.lst (ns.map V.int)))
theorem zji {X:Cx} {K:Fg} (h:X.K=K) (hc:X.calm=true):CallR X (.type "set") (rSet K X.w):=by
 subst h
 intro pins s σ H xs us Q I r h
 obtain ⟨a,ns,rfl,hx,nd,hn,q⟩:=h
 obtain ⟨u,rfl,r1⟩:=zqk r
 cases r1
 obtain ⟨its,rv,p,hz⟩:=I.list hx
 refine zei (I.ok.hd hc) p.isList (by simpa using zi4 rv) nd (by unfold scanBound;lia) λ hp tk pa kp=>?_
 refine ⟨.ref _,upd H s.heap.objs.size (.ext (PutAt (tab0 X.w) s.heap.objs.size ns)),I.laid (a:=s.heap.objs.size) (t':=tk) (λ b o ho=>kp b o (Heap.lt_size ho) ho) (Nat.le_refl _) ⟨pa,?_,λ h1 h2 z k=>z.keep k⟩,rfl,q _ (I.hok.fresh (Nat.le_refl _))⟩
 obtain ⟨_,_,o,_,ho,_⟩:=pa
 exact ⟨o,ho⟩
theorem zze:∀ {b a:List Int},a.Perm b->a.Pairwise (·<=·)->b.Pairwise (· < ·)->a=b
|[],a,p,_,_=>p.eq_nil
|y :: r,[],p,_,_=>by simp at p
|y :: r,x :: l,p,ha,hb=>by
  rw [List.pairwise_cons] at ha hb
  have e:x=y:=by
   have h1:x∈y :: r:=p.mem_iff.mp (by simp)
   have h2:y∈x :: l:=p.mem_iff.mpr (by simp)
   rcases List.mem_cons.mp h1 with z|z
   ·exact z
   ·rcases List.mem_cons.mp h2 with w|w
    ·exact w.symm
    ·have:=hb.1 x z;have:=ha.1 y w;lia
  subst e
  rw [zze p.cons_inv ha.2 hb.2]
theorem zig {X:Cx} (hc:X.calm=true):CallR X (.builtin "sorted") (zbp X.w):=by
 intro pins s σ H xs us Q I r h
 obtain ⟨a,ns,rfl,hx,asc,hb,hn,q⟩:=h
 obtain ⟨u,rfl,r1⟩:=zqk r
 cases r1
 obtain ⟨⟨ys,py,o,ep,ho,hex,hd⟩,_,_⟩:=(show ObjOk X.prog X.w H s.heap a (.ext (PutAt (tab0 X.w) a ns)) from I.hok a _ hx)
 have hf0:=zp01 X.w
 have hs:=zj9 hf0 ys
 have ef:=py.fst hb
 have ok:byTx X.w=true \/ okT (zbb (tab0 X.w) ys).1.size (zbb (tab0 X.w) ys).2=true:=by
  by_cases c:byTx X.w=true
  ·exact .inl c
  ·refine .inr ?_
   have et:tab0 X.w=.fresh 0 0 true:=by unfold tab0;simp only [Bool.not_eq_true] at c;rw [c];rfl
   rw [et]
   exact zmc 12 0 #[] (.fresh 0 0 true) zo21 ys #[] rfl (by rw [ef];exact asc) λ e he=>by
    have:=hb e.1 (by rw [<- ef];exact List.mem_map.mpr ⟨e,he,rfl⟩)
    simpa using this
 have lenY:ys.length=ns.length:=py.1
 refine Calls.call_function_entry kind_sorted plain_sorted entry_sorted (args_sorted1 _) ?_
 unfold Builtin.«sorted»
 refine wpAny_bind (m:=checkCount "sorted" 1 1 _) (wpAny_pure ?_)
 refine wpAny_bind (PySem.W.kdu_collect (A:=X.A.in1) (zqo hex hd (zua hf0 ys) ok) (I.ok.hd hc) ho (by rw [sizeLine_eq,hs];lia) λ h' tk acc hk' hacc=>?_)
 have hl:acc.toList.length=ns.length:=by rw [Array.length_toList,hacc.1,hs,lenY]
 have pm:((ordW X.w a ep (zbb (tab0 X.w) ys).1).toList.map (·.1)).Perm ns:=by
  rw [<- ef]
  exact ((zpc ..).trans (zf3 hf0 ys)).map _
 have hI:IntsAre acc.toList ((ordW X.w a ep (zbb (tab0 X.w) ys).1).toList.map (·.1)):=zi6 (by rw [hl,pm.length_eq]) λ j v i e1 e2=>by
  obtain ⟨e,e3,e4⟩:=hacc.2 j v (by rw [<- Array.getElem?_toList];exact e1)
  rw [List.getElem?_map,Array.getElem?_toList,e3] at e2
  cases e2
  have em:e∈ys:=((zpc ..).trans (zf3 hf0 ys)).mem_iff.mp (Array.mem_toList_iff.mpr (Array.mem_of_getElem? e3))
  obtain ⟨k,tk',h1,rfl⟩:=py.mem em
  have:=hb k h1
  exact ⟨tk',by rw [e4];show Value.int k tk'=.int (hashInt k) tk';rw [zh9 this.1 this.2]⟩
 refine wpAny_bind (wpAny_newList ?_ (by rw [hl,sizeLine_eq];lia))
 have hoL:(h'.push { cls:=.type "list",data:=.seq acc.toList.toArray }).get? h'.objs.size=some (seqObj "list" acc.toList.toArray 0):=Heap.get?_push_size _ rfl
 refine wpAny_bind (wpAny_holding (wpAny_call_entry slot_list_sort ⟨_,hoL,rfl⟩ entry_list_sort (list_sort_tree hoL hI (by rw [hl];lia) λ out ns' a1 a2 a3=>⟨_,rfl,?_⟩) (args_list_sort _)))
 refine wpAny_pure ⟨_,rfl,?_⟩
 have en:ns'=ns:=zze (a2.trans pm) a3 asc
 subst en
 obtain ⟨e,he⟩:=sortedHeap_at (out:=out) hoL
 have I2:=I.kept (t':=tk) hk'
 refine ⟨.ref _,upd H h'.objs.size (.lst (ns'.map V.int)),I2.laid (a:=h'.objs.size) (t':=tk) (λ b o ho=>?_) (Nat.le_refl _) ?_,rfl,q _ (I2.hok.fresh (Nat.le_refl _))⟩
 ·have hlt:=Heap.lt_size ho
  rw [sortedHeap_old (Nat.ne_of_lt hlt) (by rw [size_push'];exact Nat.lt_succ_of_lt hlt)]
  exact Heap.get?_push_of_some _ ho
 ·refine ⟨by rw [List.length_map,sizeLine_eq];lia,out.toList,e,zh4 a1,?_⟩
  simpa [seqObj] using he
end L3
namespace L4
open PySem PySem.Spec PyProof.Rows L2 L3
section
variable {K:Fg} {te:TE} {de:DE} {w:World}
def zez (d:D) (Q:List D->Prop):Prop:=∃ ns:List Int,d=.list (ns.map .int)/\ns.Pairwise (· < ·)/\(∀ k∈ns,0<=k/\k < 12)/\ns.length < 64/\Q (ns.map .int)
def zdq (de:DE):DF:=λ δ Q=>de δ λ d=>zez d Q
theorem zon (h:RfE K te de):RfF K (tCB (zbp w) (zfe (tCB (rSet K w) (zfe te tNil)) tNil)) (zdq de):=by
 intro F H σ δ Qd Q s rv hd k
 refine h s rv hd λ d hd v F1 H1 e1 i1=>?_
 obtain ⟨ns,rfl,asc,hb,hn,q⟩:=hd
 obtain ⟨p,xs,rfl,h1,i2⟩:=(show ∃ p xs,v=.ref p/\SqL K H1 p xs/\IsAll K H1 xs (ns.map .int) by
  cases i1.mono e1.fh with
 |lst a b=>exact ⟨_,_,rfl,a,b⟩)
 have:=zu8 i2 (ints_map ns)
 subst this
 refine ⟨p,ns,rfl,h1,asc.imp λ z=>Int.ne_of_lt z,hn,λ l hl=>?_⟩
 refine ⟨l,ns,rfl,zi0,asc,hb,hn,λ l2 hl2=>?_⟩
 have ne:l2≠l:=λ z=>by subst z;rw [zi0] at hl2;cases hl2
 have x1:Ext F1 H1 F1 (upd H1 l (.ext (PutAt (tab0 w) l ns))):=zqf e1.fh hl
 obtain ⟨ex,fn⟩:=zz2 (xs:=ns.map V.int) x1.fh hl2
 exact k _ q l2 _ F1 _ ((e1.trans x1).trans ex) (zu1 (e1.trans x1) hl2) zi0 fn (zpg ns)
end
theorem zao (de:DE) (δ:DSt) (Q:List D->Prop):zdq de δ Q=(de δ λ d=>∃ ns:List Int,d=.list (ns.map .int)/\ns.Pairwise (· < ·)/\(∀ k∈ns,0<=k/\k < 12)/\ns.length < 64/\Q (ns.map .int)):=rfl
end L4
open PySem PySem.Spec PyProof.Rows L2 L3 L4 L5
local macro_rules|`(tactic| walk_at "sc")=>`(tactic| exact ⟨rfl,rfl,rfl,by decide +kernel,rfl,by decide +kernel,by decide +kernel⟩)
local macro_rules|`(tactic| walk_at "csc")=>`(tactic| exact ⟨rfl,by decide +kernel,by decide +kernel,by decide +kernel,by decide +kernel⟩)
local macro_rules|`(tactic| walk_at "ds")=>do `(tactic| simp only [$(<- ("zy8 zsd zcy List.map_cons List.map_nil List.length_cons List.length_nil Nat.reduceAdd Nat.reduceSub List.replicate List.cons_append List.nil_append".splitOn " ").toArray.mapM λ s=>`(Lean.Parser.Tactic.simpLemma| $(Lean.mkIdent s.toName):ident)),*])
local macro_rules|`(tactic| walk_at "cs")=>do `(tactic| simp only [$(<- ("cST List.map_cons List.map_nil List.replicate List.cons_append List.nil_append List.getD_cons_zero List.getD_cons_succ".splitOn " ").toArray.mapM λ s=>`(Lean.Parser.Tactic.simpLemma| $(Lean.mkIdent s.toName):ident)),*])
local macro_rules|`(tactic| walk_at "dd")=>do `(tactic| simp only [$(<- ("e_dF zao nI zwc zhj zhh zt31 e_dG e_dC zw21 zhy zxo zks zup zrv zev zy11 zvx zow zsx zbr zty zkw zpt zm21 zt21 zf31 zbi zau zy21 zby zg21 zlr zcz zxr e_gN zkp zim e_gT zqp zkv zf21 zb31 zj21 e_cE e_cF zet zxy zay zrs zlz zyo zz11 zo31 zuv zww zbu zhz zg31 e_nE e_nF e_cN zgv ziv zpw e_aD e_aB e_aO zzt zer e_eN zxs zrm zql zsh zlw zms zwy zdx zaw zsy zl21 zmr zro znz zcx zpx zyy ze31 zi31 za31 zls zgt zjw zlq zi21 zqq zyw zgq fAdd fCat fI fI0 fMul fRep fEq fNe zcr fIsN znv fIx zcb fIn fB fTru fLen zzy fSum zfv zmv zpn zdn zol fSl fSlF zvs fZip zyv zry zhw zvv zsv zrw zpq zex znw zq31 zdv fzT vwT slT slot Sl.wth mApp mExt zvw mPop fPut fGet fHas fII keyD nFld nCls noM nSet nIx noO noS zek oneO zko ArgP.arg toD zuq zl01 exA oIx List.getElem?_cons_zero List.getElem?_cons_succ List.set_cons_zero List.set_cons_succ List.length_cons List.length_nil List.map_cons List.map_nil List.nil_append List.cons_append List.lookup putA setP getP beq_self_eq_true Nat.reduceAdd Nat.reduceSub Nat.reduceMul Int.reduceAdd Int.reduceSub Int.reduceMul Int.reduceNeg Int.reduceLT Int.reduceLE Int.reducePow Int.reduceToNat Nat.reducePow Nat.reduceLT Nat.reduceLeDiff Nat.reduceEqDiff Int.reduceEq Int.reduceMod Int.reduceDiv Int.reduceBEq Int.reduceBNe Int.reduceGT Int.reduceGE zqu CPow sizeLine_eq decide_eq_true_eq decide_true decide_false Bool.not_true Bool.not_false Bool.not_eq_true' Bool.not_eq_eq_eq_not Bool.not_not decide_eq_false_iff_not decide_not true_and and_true if_true if_false Bool.false_eq_true reduceCtorEq ite_true ite_false not_false_eq_true not_true_eq_false ne_eq Option.some.injEq exists_eq_left' exists_eq_left Option.map_some Option.map_none Option.bind_some zf6 zl5 zx6 zi5 za5 ze5 zj7 zg7 zb7 zx8 zs8 zf7 zu4 zx4 zd4 zl7 zh7 zw5 zk8 zw8 zo7 zp7 zq7 zg6 zn9 zwa zp8 zcc zya zub zca zw9 zx9".splitOn " ").toArray.mapM λ s=>`(Lean.Parser.Tactic.simpLemma| $(Lean.mkIdent s.toName):ident)),*])
local macro_rules|`(tactic| walk_at "dn")=>`(tactic| (refine zg0 λ J hJ=>?_;walk_at "dd";refine hJ _ ?_;clear hJ))
local macro_rules|`(tactic| walk_at "dns")=>`(tactic| repeat walk_at "dn")
namespace K32
open PySem PySem.Spec PyProof.Rows L2 L3 L4 L5
def top (i:Nat):Stmt:=PySem.Challenge.pw_vatyard_k32_cut_off_and_short.main.body.getD i (.Pass ⟨0,0,0,0⟩)
abbrev zab:Stmt:=top 1
abbrev zd1:Stmt:=zd5 (top 2) 0
abbrev za2:Stmt:=zd5 (top 2) 1
abbrev zk2:Stmt:=zd5 (top 2) 2
abbrev zg1:Stmt:=zd5 (top 2) 3
abbrev zf1:Stmt:=zd5 (top 2) 4
abbrev zm2:Stmt:=zd5 (top 2) 5
abbrev zz1:Stmt:=zd5 (top 2) 6
abbrev zt1:Stmt:=zd5 (top 2) 7
abbrev zv5:Stmt:=top 3
abbrev zll:Stmt:=top 7
abbrev zy1:Stmt:=top 9
abbrev zs5:Stmt:=top 10
abbrev zp2:Stmt:=top 12
abbrev zu3:Stmt:=top 13
abbrev zz3:Stmt:=top 14
abbrev zv4:Stmt:=top 15
abbrev zw4:Stmt:=top 16
abbrev zn4:Stmt:=top 17
abbrev zz4:Stmt:=top 18
abbrev za4:Stmt:=top 19
abbrev zdo:Stmt:=top 20
section
variable {P:Program} {w:World} {K:Fg} {mg:Str->Option Value} {base:Heap} {jA:Addr}
def zg3 (C:Addr):DSpT:=λ as Q=>∃ (m:Nat) (E:List Nat) (L:List Int) (S:List (List Nat)) (lv:List (Nat×Nat)) (tr:List Nat) (lev:Nat),as=[.b (oS C E L S),.b (.dk (kN lv)),.o (.li (tr.map nI)),.d (nI lev)]/\E.length=2 * m/\L.length=2 * m /\
 (∀ s∈tr,s < 2 * m/\(0 < lf L s->(lkp lv (hd E s)).isSome=true))/\∀ j,j<=tr.length->(∀ (i:Nat) s,j<=i->tr[i]?=some s->¬(0 < lf L s/\lkp lv (hd E s)=some lev))->(j=0->Q (.fz .none) (.li []))/\∀ s,0 < j->tr[j - 1]?=some s->0 < lf L s->lkp lv (hd E s)=some lev->Q (.fz (nI s)) (.li ((tr.take j).map nI))
theorem zt2:FnScope ["self", "levels", "steps", "level", "step"] ["self", "levels", "steps", "level"] (zf0 zz1):=by walk_at "sc"
theorem zr5 (jB:Cls K jA) (T:TopMeth K jA "step_up" "Stream.step_up" zz1) (jM:mg "len"=none) (jC:NoAttr K jA "left") (jD:NoAttr K jA "ends"):MethD P w K mg base jA "step_up" 1 ["self", "levels", "steps", "level"] (spT K (zg3 jA)):=by
 refine zz5 jB T zt2 (λ _ _ _ _ _ _ us hl=>by obtain ⟨_,_,_,_,rfl⟩:=ar4 hl;rfl) (zak λ as Qd h=>by obtain ⟨_,_,_,_,_,_,_,rfl,_⟩:=h;rfl) (zqa ?_)
 intro f cdv A outer s H E hr
 have nd:=zt2.nd
 refine ⟨_,_,(zd0 (zh6 PassesOwn.never (zt7 (K:=K) rfl (pv 2) (λ _=>rfl)) (zd0 (pset 4 nd (pix w K hr (pv 2) (zw0 zof (zy0 (zr2 (K:=K) rfl) rfl jM zyb (za0 (pv 2) zh0)) ze0)))
   (zd0 (zo8 (PW.pt (zii (zv0 zho (pix w K hr (zp1 (K:=K) rfl (pv 0) rfl) (pv 4)) ze0 (zn1 _)) (zmd (zv0 (zc7 (K:=K) rfl (Room.units hr)) (pix w K hr (pv 1) (pix w K hr (zp1 (K:=K) rfl (pv 0) rfl) (pv 4))) (pv 3) (zn1 _))))) (zj0 (zc1 (pv 4))) zm1)
   (zj0 (zf2 (zne (K:=K) rfl PySem.F.plainAttrs_list PySem.F.slot_list_pop PySem.F.type_list_pop zcn (pv 2)))))))
   (zj0 (zc1 zfg))),(zl0 (zy6 (zud (zb0 2)) (zl0 (zh1 (zm0 r_ix (zb0 2) (RfE.v (zm0 zit (RfE.v (zee zgm (zz0 (zb0 2) zi2))) rvi))) (rgn 4))
   (zl0 (zn8 (zhi (zu0 (zm0 r_gt (RfE.v (zm0 r_ix (RfP.v (zn3 jB jC (zr0 0))) (zb0 4))) rvi)) (zu0 (zt4 q_eq (RfV.h (RfE.v (zng (zr0 1) (zm0 r_ix (RfP.v (zn3 jB jD (zr0 0))) (zb0 4))))) (RfV.h (zb0 3))))) (zj1 (RfE.c (zk0 4))) zl1)
   (zg2 (zmn zlm (zr0 2))))))
   (zj1 (RfE.c zuf))),?_⟩
 rintro as Qd a ⟨m,E,L,S,lv,tr,lev,rfl,hE,hL,hb,q⟩
 walk_at "ds"
 refine zbh ?_
 refine ⟨λ μ δ=>∃ s4,μ<=tr.length/\(∀ (i:Nat) s,μ<=i->tr[i]?=some s->¬(0 < lf L s/\lkp lv (hd E s)=some lev))/\δ=[.bo (oS jA E L S),.bo (.dk (kN lv)),.io a (.li ((tr.take μ).map nI)),.sh (nI lev),s4],⟨tr.length,.un,Nat.le_refl _,λ i s hi e=>?_,?_⟩,?_⟩
 ·rw [List.getElem?_eq_none hi] at e;cases e
 ·rw [List.take_length]
 rintro μ δ ⟨s4,hμ,bad,rfl⟩
 obtain ⟨q0,q1⟩:=q μ hμ bad
 walk_at "dd"
 cases μ with
|zero =>
  simp only [List.take_zero,List.map_nil,List.isEmpty_nil]
  walk_at "dd"
  exact ⟨_,rfl,q0 rfl⟩
|succ μ =>
  obtain ⟨s,hs⟩:∃ s,tr[μ]?=some s:=⟨tr[μ]'(by lia),List.getElem?_eq_getElem _⟩
  have hsm:=hb s (List.mem_of_getElem? hs)
  have el:((tr.take (μ+1)).map nI).length=μ+1:=by rw [List.length_map,List.length_take];lia
  have e1:((tr.take (μ+1)).map nI).isEmpty=false:=by
   rw [List.isEmpty_eq_false_iff]
   intro z
   rw [z] at el;simp at el
  have es:(tr.take (μ+1))[μ]?=some s:=by rw [List.getElem?_take_of_lt (by lia)];exact hs
  rw [e1]
  walk_at "dd"
  refine zg0 λ J hJ=>?_
  walk_at "dd"
  rw [el,show ((μ+1:Nat):Int) - 1=(μ:Int) by lia]
  refine ⟨_,zj01 es,?_⟩
  walk_at "dd"
  refine hJ _ ?_
  clear hJ
  have next:¬(0 < lf L s/\lkp lv (hd E s)=some lev)->∃ m',m' < μ+1/\∃ s4,m'<=tr.length/\(∀ (i:Nat) s,m'<=i->tr[i]?=some s->¬(0 < lf L s/\lkp lv (hd E s)=some lev))/\([Sl.bo (oS jA E L S),Sl.bo (.dk (kN lv)),Sl.io a (.li ((tr.take (μ+1)).map nI).dropLast),Sl.sh (nI lev),Sl.sh (nI s)]:DSt)=[.bo (oS jA E L S),.bo (.dk (kN lv)),.io a (.li ((tr.take m').map nI)),.sh (nI lev),s4]:=λ hn=>by
   refine ⟨μ,by lia,.sh (nI s),by lia,λ i s' hi e=>?_,?_⟩
   ·rcases Nat.lt_or_ge μ i with z|z
    ·exact bad i s' (by lia) e
    ·have:i=μ:=by lia
     subst this
     rw [hs] at e;cases e;exact hn
   ·rw [List.dropLast_eq_take,el,Nat.add_sub_cancel,<- List.map_take,List.take_take,Nat.min_eq_left (by lia)]
  have pop:¬(0 < lf L s/\lkp lv (hd E s)=some lev)->∃ d,((tr.take (μ+1)).map nI)[((tr.take (μ+1)).map nI).length - 1]?=some d/\∃ m',m' < μ+1/\∃ s4,m'<=tr.length/\(∀ (i:Nat) s,m'<=i->tr[i]?=some s->¬(0 < lf L s/\lkp lv (hd E s)=some lev))/\([Sl.bo (oS jA E L S),Sl.bo (.dk (kN lv)),Sl.io a (.li ((tr.take (μ+1)).map nI).dropLast),Sl.sh (nI lev),Sl.sh (nI s)]:DSt)=[.bo (oS jA E L S),.bo (.dk (kN lv)),.io a (.li ((tr.take m').map nI)),.sh (nI lev),s4]:=λ hn =>
   ⟨nI s,by rw [el,Nat.add_sub_cancel,List.getElem?_map,es];rfl,next hn⟩
  refine zg0 λ J hJ=>?_
  walk_at "dd"
  refine ⟨_,zwx hL hsm.1,?_⟩
  walk_at "dd"
  refine two (λ hp=>?_) λ hp=>hJ _ ?_
  ·obtain ⟨b,hbb⟩:=Option.isSome_iff_exists.mp (hsm.2 hp)
   refine ⟨_,zyu hE hsm.1,?_⟩
   walk_at "dd"
   refine ⟨_,nI b,rfl,by rw [zwc,hbb];rfl,?_⟩
   walk_at "dd"
   refine two (λ he=>?_) λ he=>hJ _ ?_
   ·have:b=lev:=by lia
    subst this
    exact ⟨_,rfl,q1 s (by lia) (by rw [Nat.add_sub_cancel];exact hs) hp hbb⟩
   ·walk_at "dd"
    exact pop λ z=>by rw [hbb] at z;exact he (by have:=z.2;injection this with this;rw [this])
  ·walk_at "dd"
   exact pop λ z=>hp z.1
def zc4 (C:Addr):DSpT:=λ as Q=>∃ (m:Nat) (E:List Nat) (L:List Int) (S:List (List Nat)) (p:List Nat),as=[.o (oS C E L S),.d (.list (p.map nI))]/\E.length=2 * m/\L.length=2 * m/\p≠[]/\p.length<=1000000/\(∀ s∈p,s < 2 * m) /\
 ∀ a,(∃ s∈p,a=lf L s)->(∀ s∈p,a<=lf L s)->Q (.fz .none) (oS C E (zx1 L p a) S)
theorem zyd (L:List Int) (p:List Nat) (s:Nat) (a:Int):zx1 L (p++[s]) a=zjc (zx1 L p a) s a:=by unfold zx1;rw [List.foldl_append];rfl
theorem zq3:FnScope ["self", "path", "amount", "step"] ["self", "path"] (zf0 zt1):=by walk_at "sc"
theorem zd7 (jB:Cls K jA) (T:TopMeth K jA "carry" "Stream.carry" zt1) (qB:mg "min"=none) (jC:NoAttr K jA "left"):MethD P w K mg base jA "carry" 1 ["self", "path"] (spT K (zc4 jA)):=by
 refine zz5 jB T zq3 (λ _ _ _ _ _ _ us hl=>by obtain ⟨_,_,rfl⟩:=ar2 hl;rfl) (zak λ as Qd h=>by obtain ⟨_,_,_,_,_,rfl,_⟩:=h;rfl) (zqa ?_)
 intro f cdv A outer s H E hr
 have nd:=zq3.nd
 refine ⟨_,_,(zd0 (pset 2 nd (zy0 (zsi (K:=K) rfl rfl) rfl qB zps (za0 (zj5 (sc:=zf0 zt1) (N:=["self", "path", "amount", "step"]) (own:=["step"]) (ix:=[0]) rfl rfl rfl (by walk_at "csc") (pi_W (K:=K) rfl (pv 1)) (λ _ _ _ _=>⟨(pgn 0 (nds ["step", "self"])),zk5,(pix w K hr (zp1 (K:=K) rfl (pv 1) rfl) (pv 0))⟩)) zh0)))
   (zj0 (zxa PassesOwn.never rfl (pi_W (K:=K) rfl (pv 1)) (pgn 3 nd) (zd0 (zck (zp1 (K:=K) rfl (pv 0) rfl) (pv 3) (zx01 (K:=K) (Room.units hr) rfl) (pv 2) zkx (zjz (Room.units hr)))
   (zj0 (zck (zp1 (K:=K) rfl (pv 0) rfl) (zw0 zjr (pv 3) ze0) (zx01 (K:=K) (Room.units hr) rfl) (pv 2) zaz (zjz (Room.units hr)))))))),(zl0 (zh1 (zee zgy (zz0 (RfE.v (RfF.e (zl4 (zvo (zb0 1)) (zr1 (i:=0) (n:=1) (by decide)) zi8 (zm0 r_ix (RfP.v (zn3 jB jC (zr0 1))) (zb0 0))))) zi2)) (rgn 2))
   (zea (zns (zk0 1)) (rgn 3) (zl0 (zhk (zn3 jB jC (zr0 0)) (zk0 3) (zk0 2))
   (zhk (zn3 jB jC (zr0 0)) (zm0 zf01 (zb0 3) rvi) (zk0 2))))),?_⟩
 rintro as Qd a ⟨m,E,L,S,p,rfl,hE,hL,hne,hz,hb,q⟩
 walk_at "ds"
 refine zg0 λ J hJ=>?_
 walk_at "dd"
 refine zhp (λ s=>.int (lf L s)) (by rw [sizeLine_eq];lia) (λ s hs=>?_) ?_
 ·walk_at "cs"
  walk_at "dd"
  exact ⟨_,zwx hL (hb s hs),rfl⟩
 refine ⟨p.map (lf L),?_,by simpa using hne,λ M hM hx=>hJ _ ?_⟩
 ·rw [<- L4.ints_map (p.map (lf L)),List.map_map];rfl
 clear hJ
 walk_at "dd"
 refine zo6 (λ i δ=>∃ s3,δ=[.io a (oS jA E (zx1 L (p.take i) M) S),.sh (.list (p.map nI)),.sh (.int M),s3]) ⟨.un,rfl⟩ ?_ ?_
 ·rintro i s δ' hs ⟨s3,rfl⟩
  have hsm:=hb s (List.mem_of_getElem? hs)
  have hl:(zx1 L (p.take i) M).length=2 * m:=by rw [zb6];exact hL
  rw [show p.take (i+1)=p.take i++[s] by rw [List.take_succ,hs];rfl,zyd]
  generalize zx1 L (p.take i) M=L1 at hl ⊢
  walk_at "dd"
  refine zg0 λ J hJ=>?_
  walk_at "dd"
  have get:∀ {LL:List Int} {j:Nat},j < LL.length->(LL.map PyData.int)[((j:Nat):Int).toNat]?=some (.int (lf LL j)):=λ {LL j} h=>by
   rw [Int.toNat_natCast,List.getElem?_map]
   unfold lf
   rw [List.getD_eq_getElem?_getD,List.getElem?_eq_getElem h];rfl
  have ixn:∀ {LL:List Int} {j:Nat},j < LL.length->ixN (LL.map PyData.int).length ((j:Nat):Int)=some j:=λ {LL j} h=>by
   unfold ixN
   rw [if_pos (by lia),if_pos (by rw [List.length_map];lia),Int.toNat_natCast]
  refine ⟨by lia,_,get (by lia),?_⟩
  walk_at "dd"
  refine ⟨s,ixn (by lia),hJ _ ?_⟩
  clear hJ
  rw [show (L1.map PyData.int).set s (.int (lf L1 s - M))=(L1.set s (lf L1 s - M)).map .int from (List.map_set ..).symm]
  walk_at "dd"
  rw [zpr]
  have hx:xr s < 2 * m:=zju hsm
  refine ⟨by lia,_,get (by rw [List.length_set];lia),?_⟩
  walk_at "dd"
  refine ⟨xr s,ixn (by rw [List.length_set];lia),.sh (nI s),?_⟩
  rw [show ((L1.set s (lf L1 s - M)).map PyData.int).set (xr s) (.int (lf (L1.set s (lf L1 s - M)) (xr s)+M))=((L1.set s (lf L1 s - M)).set (xr s) (lf (L1.set s (lf L1 s - M)) (xr s)+M)).map .int from (List.map_set ..).symm]
  rw [zrl (by lia),if_neg (λ z=>zew s z.symm)]
  rfl
 ·rintro δ' ⟨s3,rfl⟩
  rw [List.take_length]
  obtain ⟨s0,hs0,e0⟩:=List.mem_map.mp hM
  walk_at "dd"
  exact ⟨_,rfl,q M ⟨s0,hs0,e0.symm⟩ λ s hs=>hx _ (List.mem_map_of_mem hs)⟩
end
section
variable {P:Program} {w:World} {K:Fg} {mg:Str->Option Value} {base:Heap} {jA:Addr}
def zh2 (C:Addr):DSpT:=λ as Q=>∃ (n m:Nat) (E:List Nat) (L:List Int) (S:List (List Nat)) (src:Nat) (lv:List (Nat×Nat)) (row:List Nat) (lev:Nat),as=[.b (oS C E L S),.d (.list (row.map nI)),.o (.dk (kN lv))]/\n<=100000/\Net n m E S/\L.length=2 * m/\Bfs n m E L src lv row lev /\
 ∀ lv' row',Bfs n m E L src lv' row' (lev+1)->lv'.length=lv.length+row'.length->Q (.fz (.list (row'.map nI))) (.dk (kN lv'))
theorem zw1:FnScope ["self", "row", "told", "behind", "here", "step", "goal"] ["self", "row", "told"] (zf0 zg1):=by walk_at "sc"
theorem zv3 (jB:Cls K jA) (T:TopMeth K jA "row_behind" "Stream.row_behind" zg1) (jE:NoAttr K jA "steps") (jD:NoAttr K jA "ends") (jC:NoAttr K jA "left"):MethD P w K mg base jA "row_behind" 1 ["self", "row", "told"] (spT K (zh2 jA)):=by
 refine zz5 jB T zw1 (λ _ _ _ _ _ _ us hl=>by obtain ⟨_,_,_,rfl⟩:=ar3 hl;rfl) (zak λ as Qd h=>by obtain ⟨_,_,_,_,_,_,_,_,_,rfl,_⟩:=h;rfl) (zqa ?_)
 intro f cdv A outer s H E hr
 have nd:=zw1.nd
 refine ⟨_,_,(zd0 (pset 3 nd (zv2 zh0))
   (zd0 (zxa PassesOwn.never rfl (pi_W (K:=K) rfl (pv 1)) (pgn 4 nd) (zj0 (zxa PassesOwn.never rfl (pi_W (K:=K) rfl (pix w K hr (zp1 (K:=K) rfl (pv 0) rfl) (pv 4))) (pgn 5 nd) (zd0 (pset 6 nd (pix w K hr (zp1 (K:=K) rfl (pv 0) rfl) (pv 5)))
   (zj0 (zo8 (PW.pt (zii (zv0 zho (pix w K hr (zp1 (K:=K) rfl (pv 0) rfl) (pv 5)) ze0 (zn1 _)) (zmd (zv0 (zz8 (w:=w) (K:=K) (Room.units hr) rfl rfl) (pv 6) (pv 2) (by with_unfolding_all rfl))))) (zd0 (ztw (zw0 (zt0 (K:=K) rfl) (pix w K hr (pv 2) (pv 4)) ze0) (zbx (pv 2) (pv 6) (zjz (Room.units hr))))
   (zj0 (zf2 (zm7 (K:=K) rfl PySem.F.plainAttrs_list PySem.F.slot_list_append PySem.F.type_list_append zq2 (pv 3) (za0 (pv 6) zh0))))) zm1))))))
   (zj0 (zc1 (pv 3))))),(zl0 (zy3 (RfF.c (zq5 zn0)))
   (zl0 (zea (zns (zk0 1)) (rgn 4) (zea (zns (zm0 r_ix (RfP.v (zn3 jB jE (zr0 0))) (zb0 4))) (rgn 5) (zl0 (zh1 (zm0 r_ix (RfP.v (zn3 jB jD (zr0 0))) (zb0 5)) (rgn 6))
   (zn8 (zhi (zu0 (zm0 r_gt (RfE.v (zm0 r_ix (RfP.v (zn3 jB jC (zr0 0))) (zb0 5))) rvi)) (zu0 (zfr (zk0 6) (zr0 2)))) (zl0 (zmx (zm0 zj4 (RfE.v (zng (zr0 2) (zk0 4))) rvi) (zr0 2) (zk0 6))
   (zg2 (zeh zde (zr0 3) (zc0 (zk0 6) zn0)))) zl1))))
   (zxd 3 [] (zf8 (i:=3))))),?_⟩
 rintro as Qd a ⟨n,m,E,L,S,src,lv,row,lev,rfl,hn,N,hL,B,q⟩
 walk_at "ds"
 refine zg0 λ J hJ=>?_
 walk_at "dd"
 refine hJ _ ?_
 clear hJ
 refine zg0 λ J hJ=>?_
 walk_at "dd"
 refine zo6 (λ i δ=>∃ lv1 beh s4 s5 s6,Mid n m E L lv lev lv1 beh/\(∀ v∈row.take i,∀ l,S[v]?=some l->∀ s∈l,0 < lf L s->(lkp lv1 (hd E s)).isSome=true) /\
  δ=[.bo (oS jA E L S),.sh (.list (row.map nI)),.io a (.dk (kN lv1)),.ow (.li (beh.map nI)),s4,s5,s6]) ⟨lv,[],.un,.un,.un,Mid.start B,λ v hv=>by simp at hv,rfl⟩ ?_ ?_
 ·rintro i v δ hv ⟨lv1,beh,s4,s5,s6,M,cl,rfl⟩
  have hvr:=List.mem_of_getElem? hv
  have hvl:=M.old _ _ (B.ro v hvr)
  have hvn:=B.bd _ (zlg (B.ro v hvr))
  obtain ⟨l,hl⟩:∃ l,S[v]?=some l:=⟨S[v]'(by rw [N.lS];exact hvn),List.getElem?_eq_getElem _⟩
  walk_at "dd"
  refine ⟨_,ze21 hl,?_⟩
  walk_at "dd"
  refine zo6 (λ j δ=>∃ lv1 beh s5 s6,Mid n m E L lv lev lv1 beh/\(∀ v∈row.take i,∀ l,S[v]?=some l->∀ s∈l,0 < lf L s->(lkp lv1 (hd E s)).isSome=true)/\(∀ s∈l.take j,0 < lf L s->(lkp lv1 (hd E s)).isSome=true) /\
   δ=[.bo (oS jA E L S),.sh (.list (row.map nI)),.io a (.dk (kN lv1)),.ow (.li (beh.map nI)),.sh (nI v),s5,s6]) ⟨lv1,beh,s5,s6,M,cl,λ s hs=>by simp at hs,rfl⟩ ?_ ?_
  ·clear M hvl cl lv1 beh s4 s5 s6
   rintro j s δ hs ⟨lv1,beh,s5,s6,M,cl,cj,rfl⟩
   have hvl:=M.old _ _ (B.ro v hvr)
   have hsl:=List.mem_of_getElem? hs
   obtain ⟨hsm,hst⟩:=N.s1 v l hl s hsl
   have hz:lv1.length<=n:=by
    have:=zq0 n (lv1.map (·.1)) M.nd (λ x hx=>by obtain ⟨p,hp,rfl⟩:=List.mem_map.mp hx;exact M.bd p hp)
    rwa [List.length_map] at this
   have hz2:=M.len
   have tk:∀ x∈l.take (j+1),x∈l.take j \/ x=s:=λ x hx=>by
    rw [List.take_succ,hs] at hx
    rcases List.mem_append.mp hx with z|z
    ·exact .inl z
    ·simp at z;exact .inr z
   walk_at "dd"
   refine zg0 λ J2 hJ2=>?_
   walk_at "dd"
   refine ⟨_,zyu N.lE hsm,?_⟩
   walk_at "dd"
   refine hJ2 _ ?_
   clear hJ2
   walk_at "dd"
   refine ⟨_,zwx hL hsm,?_⟩
   walk_at "dd"
   refine two (λ hp=>?_) λ hp=>?_
   ·rw [Option.isSome_map]
    refine two (λ hg=>?_) λ hg=>?_
    ·have hg:lkp lv1 (hd E s)=none:=by simpa using hg
     refine zg0 λ J2 hJ2=>?_
     walk_at "dd"
     refine ⟨_,nI lev,rfl,by rw [zwc,hvl];rfl,?_⟩
     walk_at "dd"
     refine ⟨by rw [kN,List.length_map];lia,hJ2 _ ?_⟩
     clear hJ2
     rw [show (PyData.int ((lev:Int)+1))=nI (lev+1) from rfl,zts hg]
     walk_at "dd"
     refine ⟨by rw [List.length_map];lia,lv1++[(hd E s,lev+1)],beh++[hd E s],_,_,M.put hsm hp (by rw [hst];exact hvl) (N.bE s hsm) hg,λ u hu k hk x hx hp'=>?_,λ x hx hx0=>?_,by rw [List.map_append];rfl⟩
     ·obtain ⟨b,hb⟩:=Option.isSome_iff_exists.mp (cl u hu k hk x hx hp')
      rw [zc8,hb];rfl
     ·rcases tk x hx with z|z
      ·obtain ⟨b,hb⟩:=Option.isSome_iff_exists.mp (cj x z hx0)
       rw [zc8,hb];rfl
      ·rw [z,zc8,hg];simp
    ·exact ⟨lv1,beh,_,_,M,cl,λ x hx hx0=>(tk x hx).elim (λ z=>cj x z hx0) λ z=>by rw [z];cases q:lkp lv1 (hd E s) with|none=>exact absurd (by rw [q];rfl) hg|some b=>rfl,rfl⟩
   ·exact ⟨lv1,beh,_,_,M,cl,λ x hx hx0=>(tk x hx).elim (λ z=>cj x z hx0) λ z=>absurd (z ▸ hx0) hp,rfl⟩
  ·rintro δ ⟨lv1,beh,s5,s6,M,cl,cj,rfl⟩
   refine ⟨lv1,beh,_,_,_,M,λ u hu k hk s hs hp=>?_,rfl⟩
   rw [List.take_succ,hv] at hu
   rcases List.mem_append.mp hu with z|z
   ·exact cl u z k hk s hs hp
   ·simp at z;subst z
    rw [hl] at hk;cases hk
    rw [List.take_length] at cj
    exact cj s hs hp
 ·rintro δ ⟨lv1,beh,s4,s5,s6,M,cl,rfl⟩
  rw [List.take_length] at cl
  refine hJ _ ?_
  walk_at "dd"
  refine ⟨_,_,rfl,rfl,?_⟩
  exact ⟨_,rfl,q _ _ (Mid.bfs N B M cl) M.len⟩
def zp3 (C:Addr):DSpT:=λ as Q=>∃ (n m:Nat) (E:List Nat) (L:List Int) (S:List (List Nat)) (src:Nat),as=[.b (oS C E L S),.d (nI src)]/\n<=100000/\Net n m E S/\L.length=2 * m/\src < n /\
 ∀ lv,Lev n m E L src lv->∀ t,Q (.dk (kN lv)) t
theorem zh3:FnScope ["self", "source", "told", "row"] ["self", "source"] (zf0 zk2):=by walk_at "sc"
theorem zx5 (jB:Cls K jA) (T:TopMeth K jA "levels" "Stream.levels" zk2) (jK:MethD P w K mg base jA "row_behind" 1 ["self", "row", "told"] (spT K (zh2 jA))):MethD P w K mg base jA "levels" 2 ["self", "source"] (spT K (zp3 jA)):=by
 refine zz5 jB T zh3 (λ _ _ _ _ _ _ us hl=>by obtain ⟨_,_,rfl⟩:=ar2 hl;rfl) (zak λ as Qd h=>by obtain ⟨_,_,_,_,_,_,rfl,_⟩:=h;rfl) (zqa ?_)
 intro f cdv A outer s H E hr
 have nd:=zh3.nd
 refine ⟨_,_,(zd0 (pset 2 nd (zus (zhm (pv 1) ze0 zto) rfl rfl (by simp) (by decide)))
   (zd0 (pset 3 nd (zv2 (za0 (pv 1) zh0)))
   (zd0 (zh6 PassesOwn.never (zt7 (K:=K) rfl (pv 3) (λ _=>rfl)) (zj0 (pset 3 nd (zy2 jK (rmn hr) (pv 0) (za0 (pv 3) (za0 (pv 2) zh0))))))
   (zj0 (zc1 (pv 2)))))),(zl0 (zy3 (zgx (zk0 1) ze1))
   (zl0 (zh1 (RfF.e (zq5 (zc0 (zk0 1) zn0))) (rgn 3))
   (zl0 (zy6 (zud (zb0 3)) (zy3 (zc5 false (zr0 0) (at_d (zk0 3) (at_o (zr0 2) ze7)))))
   (zf8 (i:=2))))),?_⟩
 rintro as Qd a ⟨n,m,E,L,S,src,rfl,hn,N,hL,hs,q⟩
 walk_at "ds"
 refine zg0 λ J hJ=>?_
 walk_at "dd"
 refine hJ _ ?_
 clear hJ
 refine zg0 λ J hJ=>?_
 walk_at "dd"
 refine hJ _ ?_
 clear hJ
 refine zbh ?_
 refine ⟨λ μ δ=>∃ lv row lev,Bfs n m E L src lv row lev/\μ=2 * (n - lv.length)+(if row=[] then 0 else 1)/\δ=[.bo (oS jA E L S),.sh (nI src),.ow (.dk (kN lv)),.sh (.list (row.map nI))],⟨_,[(src,0)],[src],0,Bfs.start hs,rfl,rfl⟩,?_⟩
 rintro μ δ ⟨lv,row,lev,B,rfl,rfl⟩
 walk_at "dd"
 refine two (λ hr0=>?_) λ hr0=>?_
 ·refine ⟨n,m,E,L,S,src,lv,row,lev,rfl,hn,N,hL,B,λ lv' row' B' e=>⟨_,?_,lv',row',lev+1,B',rfl,rfl⟩⟩
  have hz:=zq0 n (lv'.map (·.1)) B'.nd (λ x hx=>by obtain ⟨p,hp,rfl⟩:=List.mem_map.mp hx;exact B'.bd p hp)
  rw [List.length_map] at hz
  have hr1:row≠[]:=λ z=>by rw [z] at hr0;cases hr0
  rw [if_neg hr1]
  by_cases z:row'=[]
  ·subst z;rw [if_pos rfl];simp at e;lia
  ·have:=List.length_pos_iff.mpr z
   rw [if_neg z];lia
 ·have hr1:row=[]:=by
   cases row with
  |nil=>rfl
  |cons x r=>exact absurd rfl hr0
  subst hr1
  exact q lv B.lev _
end
section
variable {P:Program} {w:World} {K:Fg} {mg:Str->Option Value} {base:Heap} {jA:Addr}
abbrev tT (TT:List (List Nat)):L4.T:=.ls (TT.map λ l=>.li (l.map nI))
theorem setT {TU:List (List Nat)} {v:Nat} (x:List Nat):(TU.map λ l=>L4.T.li (l.map nI)).set v (.li (x.map nI))=(TU.set v x).map λ l=>L4.T.li (l.map nI):=by rw [List.map_set]
def zs3 (C:Addr):DSpT:=λ as Q=>∃ (n m:Nat) (E:List Nat) (L:List Int) (S:List (List Nat)) (lv:List (Nat×Nat)) (TT:List (List Nat)) (src snk:Nat),as=[.b (oS C E L S),.b (.dk (kN lv)),.o (tT TT),.d (nI src),.d (nI snk)]/\m<=400000/\Net n m E S/\L.length=2 * m/\src < n/\src≠snk/\lkp lv src=some 0 /\
 (∀ s,s < 2 * m->0 < lf L s->(lkp lv (tl E s)).isSome=true->(lkp lv (hd E s)).isSome=true)/\Tri m E S L lv snk TT /\
 (∀ TT',¬ Rch m E L lv snk src->Q (.fz (.list [])) (tT TT'))/\∀ p TT',Tri m E S L lv snk TT'->Way m E L lv src p snk->Q (.fz (.list (p.map nI))) (tT TT')
theorem zc3:FnScope ["self", "levels", "tries", "source", "sink", "path", "here", "step"] ["self", "levels", "tries", "source", "sink"] (zf0 zm2):=by walk_at "sc"
theorem zy5 (jB:Cls K jA) (T:TopMeth K jA "way_up" "Stream.way_up" zm2) (jD:NoAttr K jA "ends") (jQ:MethD P w K mg base jA "step_up" 1 ["self", "levels", "steps", "level"] (spT K (zg3 jA))):MethD P w K mg base jA "way_up" 2 ["self", "levels", "tries", "source", "sink"] (spT K (zs3 jA)):=by
 refine zz5 jB T zc3 (λ _ _ _ _ _ _ us hl=>by obtain ⟨_,_,_,_,_,rfl⟩:=ar5 hl;rfl) (zak λ as Qd h=>by obtain ⟨_,_,_,_,_,_,_,_,_,rfl,_⟩:=h;rfl) (zqa ?_)
 intro f cdv A outer s H E hr
 have nd:=zc3.nd
 refine ⟨_,_,(zd0 (pset 5 nd (zv2 zh0))
   (zd0 (pset 6 nd (pv 3))
   (zd0 (zh6 PassesOwn.never (zv0 (zul (K:=K) rfl (Room.units hr)) (pv 6) (pv 4) (zn1 _)) (zd0 (pset 7 nd (zy2 jQ (rmn hr) (pv 0) (za0 (pv 1) (za0 (pix w K hr (pv 2) (pv 6)) (za0 (zw0 (zt0 (K:=K) rfl) (pix w K hr (pv 1) (pv 6)) ze0) zh0)))))
   (zj0 (zo8 (zv0 zhs (pv 7) zfg (zn1 _)) (zd0 (zf2 (zm7 (K:=K) rfl PySem.F.plainAttrs_list PySem.F.slot_list_append PySem.F.type_list_append zq2 (pv 5) (za0 (pv 7) zh0)))
   (zj0 (pset 6 nd (pix w K hr (zp1 (K:=K) rfl (pv 0) rfl) (pv 7))))) (zj0 (zo8 (zt7 (K:=K) rfl (pv 5) (λ _=>rfl)) (zd0 (pset 6 nd (pix w K hr (zp1 (K:=K) rfl (pv 0) rfl) (zw0 zjr (zne (K:=K) rfl PySem.F.plainAttrs_list PySem.F.slot_list_pop PySem.F.type_list_pop zcn (pv 5)) ze0)))
   (zj0 (zf2 (zne (K:=K) rfl PySem.F.plainAttrs_list PySem.F.slot_list_pop PySem.F.type_list_pop zcn (pix w K hr (pv 2) (pv 6)))))) (zj0 (zc1 (pv 5)))))))))
   (zj0 (zc1 (pv 5)))))),(zl0 (zy3 (RfF.c (zq5 zn0)))
   (zl0 (zh1 (zk0 3) (rgn 6))
   (zl0 (zy6 (zu0 (zt4 q_ne (RfV.h (zb0 6)) (RfV.h (zb0 4)))) (zl0 (zy3 (zc5 false (zr0 0) (at_b (zr0 1) (at_o (zru (zr0 2) (zk0 6)) (at_d (zm0 zj4 (RfE.v (zng (zr0 1) (zk0 6))) rvi) ze7)))))
   (zn8 (zu0 (zm0 zdy (zb0 7) (RfE.v zuf))) (zl0 (zg2 (zeh zde (zr0 5) (zc0 (zk0 7) zn0)))
   (zh1 (zm0 r_ix (RfP.v (zn3 jB jD (zr0 0))) (zb0 7)) (rgn 6))) (zn8 (zud (zb0 5)) (zl0 (zy3 (zfp (RfP.e (zn3 jB jD (zr0 0))) zf01 (zmn zlm (zr0 5)) ze1))
   (zg2 (zmn zlm (zru (zr0 2) (zk0 6))))) (zxd 5 [] (zf8 (i:=5)))))))
   (zxd 5 [] (zf8 (i:=5)))))),?_⟩
 rintro as Qd a ⟨n,m,E,L,S,lv,TT,src,snk,rfl,hm,N,hL,hsn,hss,l0,cl,tri,q0,q1⟩
 walk_at "ds"
 refine zg0 λ J hJ=>?_
 walk_at "dd"
 refine hJ _ ?_
 clear hJ
 refine zg0 λ J hJ=>?_
 walk_at "dd"
 refine hJ _ ?_
 clear hJ
 refine zbh ?_
 refine ⟨λ μ δ=>∃ p here TT s7,Go m E S L lv snk src p here TT/\μ=szT TT * (2 * m+2)+(2 * m+1 - p.length)/\δ=[.bo (oS jA E L S),.bo (.dk (kN lv)),.io a (tT TT),.sh (nI src),.sh (nI snk),.ow (.li (p.map nI)),.sh (nI here),s7],
  ⟨_,[],src,TT,.un,⟨tri,rfl,l0,λ s hs=>by simp at hs⟩,rfl,rfl⟩,?_⟩
 rintro μ δ ⟨p,here,TU,s7,g,rfl,rfl⟩
 have hpl:=g.short g.way.lt
 have hln:p.length=p.length:=rfl
 walk_at "dd"
 refine two (λ hne=>?_) λ hne=>?_
 ·have hne:here≠snk:=λ z=>hne (by rw [z])
  obtain ⟨k,hk⟩:∃ k,TU[here]?=some k:=by
   have:here < n:=by
    cases p with
   |nil=>have e:src=here:=g.way;rw [<- e];exact hsn
   |cons x r =>
     obtain ⟨y,hy⟩:∃ y,(x :: r).getLast?=some y:=⟨_,List.getLast?_cons⟩
     obtain ⟨r0,e⟩:=List.getLast?_eq_some_iff.mp hy
     have gw:=g.way
     rw [e] at gw
     obtain ⟨_,w2,w3,_⟩:=gw.unsnoc
     rw [<- w2];exact N.bE y w3
   exact ⟨TU[here]'(by rw [g.tri.len,N.lS];exact this),List.getElem?_eq_getElem _⟩
  have hkl:=zz9 hk
  have gT:(TU.map λ l=>L4.T.li (l.map nI))[here]?=some (L4.T.li (k.map nI)):=by rw [List.getElem?_map,hk];rfl
  refine zg0 λ J hJ=>?_
  walk_at "dd"
  refine ⟨here,.li (k.map nI),by rw [List.length_map];exact zyc hkl,by rw [List.getElem?_map,hk];rfl,_,nI p.length,rfl,by rw [zwc,g.lev];rfl,?_⟩
  walk_at "dd"
  refine ⟨m,E,L,S,lv,k,p.length+1,rfl,N.lE,hL,λ s hs=>?_,λ j hj bad=>⟨λ h0=>hJ _ ?_,λ s h0 hs hp hlv=>hJ _ ?_⟩⟩
  ·obtain ⟨k2,h1,h2⟩:=g.tri.pre here k hk
   obtain ⟨hsm,hst⟩:=N.s1 here k2 h1 s (h2.subset hs)
   exact ⟨hsm,λ hp=>cl s hsm hp (by rw [hst,g.lev];rfl)⟩
  ·subst h0
   have eT:(TU.map λ l=>L4.T.li (l.map nI)).set here (.li [])=(TU.set here []).map λ l=>L4.T.li (l.map nI):=setT []
   rw [gT]
   simp only []
   rw [eT]
   walk_at "dd"
   refine two (λ hp=>?_) λ hp=>?_
   ·obtain ⟨y,hy⟩:∃ y,p.getLast?=some y:=by
     cases p with
    |nil=>cases hp
    |cons x r=>exact ⟨_,List.getLast?_cons⟩
    obtain ⟨p0,rfl⟩:=List.getLast?_eq_some_iff.mp hy
    obtain ⟨hym,k2,hk2,g2,hsz⟩:=g.back N hk hne bad
    refine zg0 λ J hJ=>?_
    walk_at "dd"
    refine ⟨nI y,by simp,?_⟩
    walk_at "dd"
    rw [zpr]
    refine ⟨_,zyu N.lE (zju hym),hJ _ ?_⟩
    clear hJ
    rw [show (List.map nI (p0++[y])).dropLast=p0.map nI by rw [List.map_append];exact List.dropLast_concat,ziq]
    have hz2:=zz9 hk2
    have gT2:((TU.set here []).map λ l=>L4.T.li (l.map nI))[tl E y]?=some (L4.T.li ((k2++[y]).map nI)):=by rw [List.getElem?_map,hk2];rfl
    walk_at "dd"
    refine ⟨tl E y,_,by rw [List.length_map];exact zyc hz2,gT2,?_⟩
    walk_at "dd"
    refine ⟨nI y,by simp,_,?_,p0,tl E y,_,.sh .none,g2,rfl,?_⟩
    ·have:=Nat.mul_le_mul_right (2 * m+2) hsz
     rw [Nat.add_mul] at this
     rw [List.length_append]
     simp only [List.length_singleton]
     lia
    ·rw [gT2,show (List.map nI (k2++[y])).dropLast=k2.map nI by rw [List.map_append];exact List.dropLast_concat]
     simp only []
     rw [setT]
   ·have hp:p=[]:=by
     cases p with
    |nil=>rfl
    |cons x r=>exact absurd rfl hp
    subst hp
    exact ⟨_,_,rfl,rfl,_,rfl,q0 _ (g.dead N hk hne bad)⟩
  ·rw [gT]
   simp only []
   rw [setT]
   obtain ⟨g2,hsz,hsm⟩:=g.fwd N hk h0 hj bad hs hp hlv
   walk_at "dd"
   refine zg0 λ J hJ=>?_
   walk_at "dd"
   refine ⟨by rw [List.length_map];lia,hJ _ ?_⟩
   clear hJ
   walk_at "dd"
   refine ⟨_,zyu N.lE hsm,?_⟩
   walk_at "dd"
   refine ⟨_,?_,p++[s],hd E s,TU.set here (k.take j),_,g2,rfl,by rw [List.map_append];rfl⟩
   rw [List.length_append]
   have:=Nat.mul_le_mul_right (2 * m+2) hsz
   simp only [List.length_singleton]
   lia
 ·have hne:here=snk:=by lia
  subst hne
  exact ⟨_,_,rfl,rfl,_,rfl,q1 p TU g.tri g.way⟩
end
section
variable {P:Program} {w:World} {K:Fg} {mg:Str->Option Value} {base:Heap} {jA:Addr}
def zb3 (C:Addr):DSpT:=λ as Q=>∃ (n m:Nat) (most:Nat->Int) (E:List Nat) (L:List Int) (S:List (List Nat)) (lv:List (Nat×Nat)) (src snk:Nat),as=[.o (oS C E L S),.b (.dk (kN lv)),.d (nI src),.d (nI snk)]/\n<=100000/\m<=400000/\Net n m E S/\Cap m most L/\src < n/\src≠snk/\Lev n m E L src lv/\(lkp lv snk).isSome=true /\
 ∀ L',Up m most E L L' src snk->bal m E L snk < bal m E L' snk->Q (.fz .none) (oS C E L' S)
theorem zx2:FnScope ["self", "levels", "source", "sink", "tries", "path"] ["self", "levels", "source", "sink"] (zf0 zf1):=by walk_at "sc"
theorem zm5 (jB:Cls K jA) (T:TopMeth K jA "push_up" "Stream.push_up" zf1) (jZ:mg "list"=none) (jE:NoAttr K jA "steps") (jN:MethD P w K mg base jA "way_up" 2 ["self", "levels", "tries", "source", "sink"] (spT K (zs3 jA))) (kA:MethD P w K mg base jA "carry" 1 ["self", "path"] (spT K (zc4 jA))):MethD P w K mg base jA "push_up" 3 ["self", "levels", "source", "sink"] (spT K (zb3 jA)):=by
 refine zz5 jB T zx2 (λ _ _ _ _ _ _ us hl=>by obtain ⟨_,_,_,_,rfl⟩:=ar4 hl;rfl) (zak λ as Qd h=>by obtain ⟨_,_,_,_,_,_,_,_,_,rfl,_⟩:=h;rfl) (zqa ?_)
 intro f cdv A outer s H E hr
 have nd:=zx2.nd
 refine ⟨_,_,(zd0 (zk6 (i:=4) (sc:=zf0 zf1) (N:=["self", "levels", "source", "sink", "tries", "path"]) (own:=["steps"]) (ix:=[]) rfl rfl rfl (by walk_at "csc") nd rfl rfl (pi_W (K:=K) rfl (zp1 (K:=K) rfl (pv 0) rfl)) (λ _ _ _ _=>⟨(pgn 0 (nds ["steps"])),zk5,(zf4 (ze4 (K:=K) rfl) rfl jZ zfa (za0 (pv 0) zh0))⟩))
   (zd0 (pset 5 nd (zy2 jN (rmn hr) (pv 0) (za0 (pv 1) (za0 (pv 4) (za0 (pv 2) (za0 (pv 3) zh0))))))
   (zj0 (zh6 PassesOwn.never (zt7 (K:=K) rfl (pv 5) (λ _=>rfl)) (zd0 (zf2 (zy2 kA (rmn hr) (pv 0) (za0 (pv 5) zh0)))
   (zj0 (pset 5 nd (zy2 jN (rmn hr) (pv 0) (za0 (pv 1) (za0 (pv 4) (za0 (pv 2) (za0 (pv 3) zh0)))))))))))),(zl0 (zy3 (RfN.c (zdk (zvo (RfP.v (zn3 jB jE (zr0 0)))) (zr1 (i:=0) (n:=1) (by decide)) (RfF.new (zmu znh (zz0 (zb0 0) zi2))))))
   (zl0 (zy3 (zc5 false (zr0 0) (at_b (zr0 1) (at_o (zr0 4) (at_d (zk0 2) (at_d (zk0 3) ze7))))))
   (zy6 (zud (zb0 5)) (zl0 (zg2 (zc5 true (zr0 0) (at_d (zk0 5) ze7)))
   (zy3 (zc5 false (zr0 0) (at_b (zr0 1) (at_o (zr0 4) (at_d (zk0 2) (at_d (zk0 3) ze7)))))))))),?_⟩
 rintro as Qd a ⟨n,m,most,E,L,S,lv,src,snk,rfl,hn,hm,N,c,hsn,hss,hv,ht,q⟩
 walk_at "ds"
 refine zg0 λ J hJ=>?_
 walk_at "dd"
 refine zhr (λ l=>.li (l.map nI)) (by rw [sizeLine_eq,N.lS];lia) (λ l hl=>?_) (hJ _ ?_)
 ·walk_at "cs"
  walk_at "dd"
 clear hJ
 obtain ⟨b0,hb0⟩:=Option.isSome_iff_exists.mp ht
 have rch:Rch m E L lv snk src:=zja hv b0 snk hb0 .here
 refine zg0 λ J hJ=>?_
 walk_at "dd"
 refine ⟨n,m,E,L,S,lv,S,src,snk,rfl,hm,N,c.len,hsn,hss,hv.l0,hv.cl,Tri.all,λ TT' h=>absurd rch h,λ p TT' tri hw=>hJ _ ?_⟩
 clear hJ
 refine ⟨λ μ δ=>∃ L' p TT,Up m most E L L' src snk/\(p≠[]->Tri m E S L' lv snk TT)/\(∀ s,s < 2 * m->0 < lf L' s->(lkp lv (tl E s)).isSome=true->(lkp lv (hd E s)).isSome=true) /\
   bal m E L snk<=bal m E L' snk/\(p=[]->bal m E L snk < bal m E L' snk)/\(p≠[]->Way m E L' lv src p snk)/\μ=(tot m most - bal m E L' snk).toNat/\δ=[.io a (oS jA E L' S),.bo (.dk (kN lv)),.sh (nI src),.sh (nI snk),.ow (tT TT),.sh (.list (p.map nI))],
  ⟨_,L,p,TT',Up.refl c,λ _=>tri,hv.cl,Int.le_refl _,λ z=>?_,λ _=>hw,rfl,rfl⟩,?_⟩
 ·subst z;exact absurd hw hss
 clear tri hw TT' p
 rintro μ δ ⟨L',p,TT,up,tri,cl,le,hlt,hw,rfl,rfl⟩
 walk_at "dd"
 refine two (λ hp=>?_) λ hp=>?_
 ·have hp:p≠[]:=λ z=>by rw [z] at hp;cases hp
  have hw:=hw hp
  refine zg0 λ J hJ=>?_
  walk_at "dd"
  have hpl:p.length<=2 * m:=zq0 _ p (hw.nodup hv.l0).1 hw.lt
  refine ⟨m,E,L',S,p,rfl,N.lE,up.cap.len,hp,by lia,hw.lt,λ am ham hmin=>hJ _ ?_⟩
  clear hJ
  obtain ⟨s0,hs0,e0⟩:=ham
  have pos:0 < am:=by
   rw [e0]
   obtain ⟨_,hadm⟩:True/\∀ {v:Nat} {p:List Nat} {t:Nat},Way m E L' lv v p t->∀ s∈p,0 < lf L' s:=⟨trivial,by
    intro v p
    induction p generalizing v with
   |nil=>intro t _ s hs;simp at hs
   |cons x r ih =>
     intro t h s hs
     rcases List.mem_cons.mp hs with z|z
     ·rw [z];exact h.2.2.1.1
     ·exact ih h.2.2.2 s z⟩
   exact hadm hw s0 hs0
  have up2:=up.trans (Up.carry up.cap hw hv.l0 (by lia) hmin)
  have hb:bal m E (zx1 L' p am) snk=bal m E L' snk+am:=by
   rw [zb4 up.cap.len hw,if_pos rfl,if_neg hss];lia
  have hle:=zbq (E:=E) up2.cap snk
  have cl2:=zbj up.cap.len hw hv.l0 cl (a:=am) (by lia)
  have tri2:Tri m E S (zx1 L' p am) lv snk TT:=(tri hp).mono (zzi up.cap.len hw hv.l0 (by lia)) λ v k h s hs=>(N.s1 v k h s hs).1
  generalize zx1 L' p am=L2 at *
  walk_at "dd"
  refine ⟨n,m,E,L2,S,lv,TT,src,snk,rfl,hm,N,up2.cap.len,hsn,hss,hv.l0,cl2,tri2,λ TT' h=>?_,λ p' TT' tri' hw'=>?_⟩
  ·exact ⟨_,by lia,L2,[],TT',up2,λ z=>absurd rfl z,cl2,by lia,λ _=>by lia,λ z=>absurd rfl z,rfl,rfl⟩
  ·exact ⟨_,by lia,L2,p',TT',up2,λ _=>tri',cl2,by lia,λ _=>by lia,λ _=>hw',rfl,rfl⟩
 ·have hp:p=[]:=by
   cases p with
  |nil=>rfl
  |cons x r=>exact absurd rfl hp
  exact ⟨_,rfl,q L' up (hlt hp)⟩
end
section
variable {P:Program} {w:World} {K:Fg} {mg:Str->Option Value} {base:Heap} {jA:Addr}
def za3 (C:Addr):DSpT:=λ as Q=>∃ (m:Nat) (E:List Nat) (L:List Int) (S:List (List Nat)),as=[.b (oS C E L S)]/\L.length=2 * m/\m<=400000/\∀ t,Q (.fz (.list ((List.range m).map λ k=>.int (lf L (2 * k+1))))) t
theorem zu2:FnScope ["self"] ["self"] (zf0 za2):=by walk_at "sc"
theorem zn5 (jB:Cls K jA) (T:TopMeth K jA "amounts" "Stream.amounts" za2) (jC:NoAttr K jA "left"):MethD P w K mg base jA "amounts" 1 ["self"] (spT K (za3 jA)):=by
 refine zz5 jB T zu2 (λ _ _ _ _ _ _ us hl=>by obtain ⟨_,rfl⟩:=ar1 hl;rfl) (zak λ as Qd h=>by obtain ⟨_,_,_,_,rfl,_⟩:=h;rfl) (zqa ?_)
 intro f cdv A outer s H E hr
 have nd:=zu2.nd
 refine ⟨_,_,(zj0 (zc1 (zuh (K:=K) rfl (zp1 (K:=K) rfl (pv 0) rfl) (zv8 ze0) znr (zv8 ze0)))),(zj1 (RfE.c (RfF.e (zox (RfP.v (zn3 jB jC (zr0 0))) (zjd ze1) zdt (zjd ze1))))),?_⟩
 rintro as Qd a ⟨m,E,L,S,rfl,hL,hm,q⟩
 walk_at "ds"
 walk_at "dd"
 rw [zpm hL]
 exact q _
def zw2 (C:Addr):DSpT:=λ as Q=>∃ (n:Nat) (A:List Ar) (f:List Int),as=[.o (.ob C []),.d (nI n),.d (.list (A.map dAr)),.d (.list (f.map .int))]/\f.length=A.length/\n<=100000/\A.length<=400000/\(∀ a∈A,a.1 < n/\a.2.1 < n) /\
 ∀ S,Net n A.length (zo3 A) S->Q (.fz .none) (.ob C [("ends",.li ((zo3 A).map nI)),("left",.li ((zc6 A f).map .int)),("steps",tT S)])
theorem zo2:FnScope ["self", "count", "arcs", "flow", "number", "arc"] ["self", "count", "arcs", "flow"] (zf0 zd1):=by walk_at "sc"
theorem zs4 (M:Md K mg) (cT:TopCls K "Stream" jA) (T:TopMeth K jA "__init__" "Stream.__init__" zd1) (jI:mg "enumerate"=none) (jJ:mg "range"=none) (jD:NoAttr K jA "ends") (jC:NoAttr K jA "left") (jE:NoAttr K jA "steps"):zou P w K mg base "Stream" jA 1 ["self", "count", "arcs", "flow"] (spT K (zw2 jA)):=by
 have jB:=cT.cls
 refine zjs M cT T zo2 (λ _ _ _ _ _ _ us hl=>by obtain ⟨_,_,_,_,rfl⟩:=ar4 hl;rfl) (zak λ as Qd h=>by obtain ⟨_,_,_,rfl,_⟩:=h;rfl) (zqa ?_)
 intro f cdv A outer s H E hr
 have nd:=zo2.nd
 refine ⟨_,_,(zd0 (zxk (pv 0) (zv2 zh0) rfl)
   (zd0 (zxk (pv 0) (zv2 zh0) rfl)
   (zd0 (zxk (pv 0) (zj5 (sc:=zf0 zd1) (N:=["self", "count", "arcs", "flow", "number", "arc"]) (own:=["number"]) (ix:=[]) rfl rfl rfl (by walk_at "csc") (zu5 rfl jJ (za0 (pv 1) zh0)) (λ _ _ _ _=>⟨(pgn 0 (nds ["number"])),zk5,(zv2 zh0)⟩)) rfl)
   (zj0 (zxa PassesOwn.never rfl (zgf (K:=K) rfl rfl jI (za0 (pv 2) zh0)) (zpa (K:=K) (n:=2) rfl rfl (zj2 (pgn 4 nd) (zj2 (pgn 5 nd) zga))) (zd0 (zf2 (zm7 (K:=K) rfl PySem.F.plainAttrs_list PySem.F.slot_list_extend PySem.F.type_list_extend (zk4 (K:=K) rfl) (zp1 (K:=K) rfl (pv 0) rfl) (za0 (zv2 (za0 (pix w K hr (pv 5) ze0) (za0 (pix w K hr (pv 5) ze0) zh0))) zh0)))
   (zd0 (zf2 (zm7 (K:=K) rfl PySem.F.plainAttrs_list PySem.F.slot_list_extend PySem.F.type_list_extend (zk4 (K:=K) rfl) (zp1 (K:=K) rfl (pv 0) rfl) (za0 (zv2 (za0 (zw0 zof (pix w K hr (pv 5) ze0) (pix w K hr (pv 3) (pv 4))) (za0 (pix w K hr (pv 3) (pv 4)) zh0))) zh0)))
   (zd0 (zf2 (zm7 (K:=K) rfl PySem.F.plainAttrs_list PySem.F.slot_list_append PySem.F.type_list_append zq2 (pix w K hr (zp1 (K:=K) rfl (pv 0) rfl) (pix w K hr (pv 5) ze0)) (za0 (zw0 zj6 ze0 (pv 4)) zh0)))
   (zj0 (zf2 (zm7 (K:=K) rfl PySem.F.plainAttrs_list PySem.F.slot_list_append PySem.F.type_list_append zq2 (pix w K hr (zp1 (K:=K) rfl (pv 0) rfl) (pix w K hr (pv 5) ze0)) (za0 (zw0 (zt0 (K:=K) rfl) (zw0 zj6 ze0 (pv 4)) ze0) zh0)))))))))))),(zl0 (zvn jB jD (RfF.c (zq5 zn0)) (zr0 0))
   (zl0 (zvn jB jC (RfF.c (zq5 zn0)) (zr0 0))
   (zl0 (zvn jB jE (RfN.c (zdk (RfI.j (ztc (zc0 (zk0 1) zn0))) (zr1 (i:=0) (n:=1) (by decide)) (RfF.new (zq5 zn0)))) (zr0 0))
   (zea (zis (zc0 (zk0 2) zn0)) (zwf (zl2 (rgn 4) (zl2 (rgn 5) zba))) (zl0 (zg2 (zeh zai (zn3 jB jD (zr0 0)) (zc0 (RfF.e (zq5 (zc0 (zm0 r_ix (zb0 5) rvi) (zc0 (zm0 r_ix (zb0 5) rvi) zn0)))) zn0)))
   (zl0 (zg2 (zeh zai (zn3 jB jC (zr0 0)) (zc0 (RfF.e (zq5 (zc0 (zm0 zit (RfE.v (zm0 r_ix (zb0 5) rvi)) (RfE.v (zm0 r_ix (zb0 3) (zb0 4)))) (zc0 (zm0 r_ix (zb0 3) (zb0 4)) zn0)))) zn0)))
   (zl0 (zg2 (zeh zde (zru (zn3 jB jE (zr0 0)) (zm0 r_ix (zb0 5) rvi)) (zc0 (zm0 zlo rvi (zb0 4)) zn0)))
   (zg2 (zeh zde (zru (zn3 jB jE (zr0 0)) (zm0 r_ix (zb0 5) rvi)) (zc0 (zm0 zj4 (RfE.v (zm0 zlo rvi (zb0 4))) rvi) zn0)))))))))),?_⟩
 rintro as Qd a ⟨n,A,f,rfl,hf,hn,hA,hb,q⟩
 walk_at "ds"
 walk_at "dn"
 walk_at "dn"
 refine zg0 λ J hJ=>?_
 walk_at "dd"
 refine ⟨by lia,by lia,?_⟩
 rw [Int.toNat_natCast]
 refine zhr (λ _=>.li []) (by rw [List.length_range,sizeLine_eq];lia) (λ i hi=>?_) (hJ _ ?_)
 ·walk_at "cs"
 clear hJ
 have e0:(List.range n).map (λ _=>(L4.T.li []:L4.T))=(List.replicate n []).map λ l=>.li (l.map nI):=by simp [List.map_const']
 rw [e0]
 walk_at "dd"
 refine ⟨λ i δ=>∃ S s4 s5,i<=A.length/\szT S=2 * i/\Net n i (zo3 (A.take i)) S/\δ=[.io a (.ob jA [("ends",.li ((zo3 (A.take i)).map nI)),("left",.li ((zc6 (A.take i) (f.take i)).map .int)),("steps",tT S)]),.sh (nI n),.sh (.list (A.map dAr)),.sh (.list (f.map .int)),s4,s5],⟨List.replicate n [],.un,.un,Nat.zero_le _,by simp [szT],Net.nil n,rfl⟩,?_,?_⟩
 ·rintro i d δ hd ⟨S,s4,s5,hi,hsz,N,rfl⟩
  obtain ⟨x,hx,rfl⟩:=zdd hd
  rw [List.getElem?_map] at hx
  obtain ⟨u,hu,rfl⟩:=Option.map_eq_some_iff.mp hx
  have hil:i < A.length:=by
   rcases Nat.lt_or_ge i A.length with z|z
   ·exact z
   ·rw [List.getElem?_eq_none z] at hu;cases hu
  obtain ⟨y,hy⟩:∃ y,f[i]?=some y:=⟨f[i]'(by lia),List.getElem?_eq_getElem _⟩
  obtain ⟨b1,b2⟩:=hb u (List.mem_of_getElem? hu)
  have tA:A.take (i+1)=A.take i++[u]:=by rw [List.take_succ,hu];rfl
  have tF:f.take (i+1)=f.take i++[y]:=by rw [List.take_succ,hy];rfl
  have lE:(zo3 (A.take i)).length=2 * i:=N.lE
  have lL:(zc6 (A.take i) (f.take i)).length=2 * i:=by
   rw [zj8 (by rw [List.length_take,List.length_take];lia),List.length_take];lia
  have eF:=zrf (A:=A.take i) (f:=f.take i) (a:=u) (x:=y) (by rw [List.length_take,List.length_take];lia)
  dsimp only
  rw [tA,tF,zme,eF]
  generalize zo3 (A.take i)=E at lE N ⊢
  generalize zc6 (A.take i) (f.take i)=L at lL ⊢
  rw [show dAr u=.tuple [nI u.1,nI u.2.1,.int u.2.2] from rfl]
  have hfi:atI (f.map PyData.int) (i:Int)=some (.int y):=zk7 (by lia) (by rw [Int.toNat_natCast,List.getElem?_map,hy];rfl)
  have a0:atI [nI u.1,nI u.2.1,PyData.int u.2.2] 0=some (nI u.1):=rfl
  have a1:atI [nI u.1,nI u.2.1,PyData.int u.2.2] 1=some (nI u.2.1):=rfl
  have a2:atI [nI u.1,nI u.2.1,PyData.int u.2.2] 2=some (.int u.2.2):=rfl
  walk_at "dd"
  refine zg0 λ J hJ=>?_
  walk_at "dd"
  refine ⟨nI u.2.1,rfl,nI u.1,rfl,by rw [List.length_map];lia,hJ _ ?_⟩
  clear hJ
  rw [show E.map nI++[nI u.2.1,nI u.1]=(E++[u.2.1,u.1]).map nI by rw [List.map_append];rfl]
  refine zg0 λ J hJ=>?_
  walk_at "dd"
  refine ⟨_,rfl,_,hfi,?_⟩
  walk_at "dd"
  refine ⟨_,hfi,by rw [List.length_map];lia,hJ _ ?_⟩
  clear hJ
  rw [show L.map PyData.int++[.int (u.2.2 - y),.int y]=(L++[u.2.2 - y,y]).map .int by rw [List.map_append];rfl]
  obtain ⟨l1,hl1⟩:∃ l1,S[u.1]?=some l1:=⟨S[u.1]'(by rw [N.lS];exact b1),List.getElem?_eq_getElem _⟩
  obtain ⟨l2,hl2⟩:∃ l2,(S.set u.1 (l1++[2 * i]))[u.2.1]?=some l2:=⟨(S.set u.1 (l1++[2 * i]))[u.2.1]'(by rw [List.length_set,N.lS];exact b2),List.getElem?_eq_getElem _⟩
  have N2:=N.push b1 b2 hl1 hl2
  have z1:=zaq hl1
  have z2:=zaq hl2
  have z3:=zv6 (l1++[2 * i]) hl1
  have z4:=zv6 (l2++[2 * i+1]) hl2
  rw [List.length_append,List.length_singleton] at z3 z4
  have g1:(S.map λ l=>L4.T.li (l.map nI))[u.1]?=some (L4.T.li (l1.map nI)):=by rw [List.getElem?_map,hl1];rfl
  have g2:((S.set u.1 (l1++[2 * i])).map λ l=>L4.T.li (l.map nI))[u.2.1]?=some (L4.T.li (l2.map nI)):=by rw [List.getElem?_map,hl2];rfl
  have i1:ixN (S.map λ l=>L4.T.li (l.map nI)).length ((u.1:Nat):Int)=some u.1:=by rw [List.length_map];exact zyc (by rw [N.lS];exact b1)
  have i2:ixN ((S.set u.1 (l1++[2 * i])).map λ l=>L4.T.li (l.map nI)).length ((u.2.1:Nat):Int)=some u.2.1:=by rw [List.length_map,List.length_set];exact zyc (by rw [N.lS];exact b2)
  refine zg0 λ J hJ=>?_
  walk_at "dd"
  refine ⟨nI u.1,rfl,u.1,_,i1,g1,rfl,zwt i,?_⟩
  walk_at "dd"
  refine ⟨by rw [List.length_map];lia,hJ _ ?_⟩
  clear hJ
  rw [g1]
  dsimp only
  rw [show l1.map nI++[PyData.int (2 * (i:Int))]=(l1++[2 * i]).map nI by rw [List.map_append];rfl,setT]
  walk_at "dd"
  refine ⟨nI u.2.1,rfl,u.2.1,_,i2,g2,rfl,zwt i,?_⟩
  walk_at "dd"
  refine ⟨by rw [List.length_map];lia,_,.sh (nI i),.sh (.tuple [nI u.1,nI u.2.1,.int u.2.2]),by lia,by lia,N2,?_⟩
  rw [g2]
  dsimp only
  rw [show l2.map nI++[PyData.int (2 * (i:Int)+1)]=(l2++[2 * i+1]).map nI by rw [List.map_append];rfl,setT]
  rfl
 ·rintro δ ⟨S,s4,s5,hi,hsz,N,rfl⟩
  rw [zc9,List.length_map,List.take_length] at N
  rw [zc9,List.length_map,List.take_length,List.take_of_length_le (by lia)]
  exact ⟨_,rfl,q S N⟩
end
section
variable {P:Program} {w:World} {K:Fg} {mg:Str->Option Value} {base:Heap} {jA:Addr}
theorem frzT (S:List (List Nat)):(zjl (S.map λ l=>L4.T.li (l.map nI))).map (λ dss=>PyData.list (dss.map .list))=some (dSt S):=by
 have:∀ S:List (List Nat),zjl (S.map λ l=>L4.T.li (l.map nI))=some (S.map λ l=>l.map nI):=by
  intro S
  induction S with
 |nil=>rfl
 |cons l r ih=>simp only [List.map_cons,zjl,ih];rfl
 rw [this]
 simp only [Option.map_some,List.map_map]
 rfl
def zda:DSp:=λ ds Q=>∃ (n:Nat) (A:List Ar) (src snk:Nat) (fl:D) (f:List Int),ds=[nI n,.list (A.map dAr),nI src,nI snk,fl]/\((fl=.none/\f=List.replicate A.length 0) \/ fl=.list (f.map .int))/\f.length=A.length/\n < 64/\A.length<=400000/\(∀ a∈A,a.1 < n/\a.2.1 < n) /\
 (∀ (k:Nat) a x,A[k]?=some a->f[k]?=some x->0<=x/\x<=a.2.2)/\src < n/\snk < n/\src≠snk /\
 ∀ (L:List Int) (side:List Nat),Best n A f src snk L side->Q (.tuple [.list ((List.range A.length).map λ k=>.int (lf L (2 * k+1))),.list (side.map nI)])
theorem zw7:FnScope ["count", "arcs", "source", "sink", "flow", "stream", "levels"] ["count", "arcs", "source", "sink", "flow"] (zf0 zv5):=by walk_at "sc"
theorem zzd (M:Md K mg) (T:TopDefN K "greatest" zv5) (jM:mg "len"=none) (jW:mg "sorted"=none) (jB:Cls K jA) (jO:MethD P w K mg base jA "levels" 2 ["self", "source"] (spT K (zp3 jA))) (jR:MethD P w K mg base jA "push_up" 3 ["self", "levels", "source", "sink"] (spT K (zb3 jA))) (jS:MethD P w K mg base jA "amounts" 1 ["self"] (spT K (za3 jA))) (qC:zou P w K mg base "Stream" jA 1 ["self", "count", "arcs", "flow"] (spT K (zw2 jA))):DefN P w K mg base "greatest" 4 ["count", "arcs", "source", "sink", "flow"] (spD K zda):=by
 refine zrr M T zw7 (qs:=["count", "arcs", "source", "sink"]) rfl (λ _ _ _ _ _ _ _ us hl=>match us,hl with|[_,_,_,_,_],_=>⟨_,rfl,rfl⟩) (λ _ _ _ _ _ _ _ us hl=>match us,hl with|[_,_,_,_],_=>⟨_,rfl,rfl⟩) (zbe λ ds Qd h=>by obtain ⟨_,_,_,_,_,_,rfl,_⟩:=h;rfl) (zp4 ?_)
 intro f cdv A outer s H E hr
 have nd:=zw7.nd
 refine ⟨_,_,(zd0 (pset 5 nd (zdl qC (rmn hr) rfl (za0 (pv 0) (za0 (pv 1) (za0 (zvk (zv0 zqs (pv 4) zfg (zn1 _)) (zw0 zj6 (zv2 (za0 ze0 zh0)) (zy0 (zr2 (K:=K) rfl) rfl jM zyb (za0 (pv 1) zh0))) (pv 4)) zh0)))))
   (zd0 (pset 6 nd (zy2 jO (rmn hr) (pv 5) (za0 (pv 2) zh0)))
   (zd0 (zh6 PassesOwn.never (zv0 (zsr (w:=w) (K:=K) (Room.units hr) rfl rfl) (pv 3) (pv 6) (by with_unfolding_all rfl)) (zd0 (zf2 (zy2 jR (rmn hr) (pv 5) (za0 (pv 6) (za0 (pv 2) (za0 (pv 3) zh0)))))
   (zj0 (pset 6 nd (zy2 jO (rmn hr) (pv 5) (za0 (pv 2) zh0))))))
   (zj0 (zc1 (zb2 (za0 (zph jS (rmn hr) (pv 5)) (za0 (zy0 (ztb (K:=K) rfl rfl) rfl jW zcd (za0 (pv 6) zh0)) zh0)))))))),(zl0 (zy3 (RfN.c (zsp (at_d (zk0 0) (at_d (zk0 1) (at_d (zpy (zu0 (zm0 zo11 (zb0 4) (RfE.v zuf))) (RfF.e (zey (zq5 (zc0 ze1 zn0)) (zee zgm (zz0 (zb0 1) zi2)))) (zk0 4)) ze7))))))
   (zl0 (zxd 5 [.fl "steps"] (zxd 5 [.fl "ends"] (zy3 (zc5 false (zr0 5) (at_d (zk0 2) ze7)))))
   (zl0 (zy6 (zu0 (zsw (zk0 3) (zr0 6))) (zl0 (zg2 (zc5 true (zr0 5) (at_b (zr0 6) (at_d (zk0 2) (at_d (zk0 3) ze7)))))
   (zy3 (zc5 false (zr0 5) (at_d (zk0 2) ze7)))))
   (zj1 (RfE.c (zy4 (zc0 (RfN.ex (zpo (zr0 5) ze7)) (zc0 (RfF.e (zel (zr0 6))) zn0)))))))),?_⟩
 rintro ds Qd ⟨n,A,src,snk,fl,f,rfl,hfl,hf,hn,hA,hb,hc,hs1,hs2,hss,q⟩
 walk_at "ds"
 refine zg0 λ J hJ=>?_
 have start:∀ S,Net n A.length (zo3 A) S->J [.sh (nI n),.sh (.list (A.map dAr)),.sh (nI src),.sh (nI snk),.sh fl,.ow (.ob jA [("ends",.li ((zo3 A).map nI)),("left",.li ((zc6 A f).map .int)),("steps",tT S)]),.un]:=λ S N=>by
  refine hJ _ ?_
  clear hJ
  have cap:=zxi hf hc
  refine zg0 λ J hJ=>?_
  walk_at "dd"
  refine ⟨_,dSt S,rfl,frzT S,_,_,rfl,rfl,?_⟩
  refine ⟨n,A.length,zo3 A,zc6 A f,S,src,rfl,by lia,N,cap.len,hs1,λ lv hv t=>hJ _ ?_⟩
  clear hJ
  refine zbh ?_
  refine ⟨λ μ δ=>∃ L lv,Up A.length (ze9 A) (zo3 A) (zc6 A f) L src snk/\Lev n A.length (zo3 A) L src lv/\μ=(tot A.length (ze9 A) - bal A.length (zo3 A) L snk).toNat/\δ=[.sh (nI n),.sh (.list (A.map dAr)),.sh (nI src),.sh (nI snk),.sh fl,.ow (oS jA (zo3 A) L S),.ow (.dk (kN lv))],
   ⟨_,zc6 A f,lv,Up.refl cap,hv,rfl,rfl⟩,?_⟩
  clear hv lv
  rintro μ δ ⟨L,lv,up,hv,rfl,rfl⟩
  walk_at "dd"
  rw [Option.isSome_map]
  refine two (λ ht=>?_) λ ht=>?_
  ·refine zg0 λ J hJ=>?_
   walk_at "dd"
   refine ⟨n,A.length,ze9 A,zo3 A,L,S,lv,src,snk,rfl,by lia,by lia,N,up.cap,hs1,hss,hv,ht,λ L' up' hlt=>hJ _ ?_⟩
   clear hJ
   walk_at "dd"
   have up2:=up.trans up'
   have hle:=zbq (E:=zo3 A) up2.cap snk
   refine ⟨n,A.length,zo3 A,L',S,src,rfl,by lia,N,up2.cap.len,hs1,λ lv' hv' t=>⟨_,by lia,L',lv',up2,hv',rfl,rfl⟩⟩
  ·refine ⟨A.length,zo3 A,L,S,rfl,up.cap.len,hA,λ t=>?_⟩
   have hz:=zq0 n (lv.map (·.1)) hv.nd (λ x hx=>by obtain ⟨p,hp,rfl⟩:=List.mem_map.mp hx;exact hv.bd p hp)
   rw [List.length_map] at hz
   refine ⟨lv.map λ p=>((p.1:Nat):Int),?_,by rw [List.length_map];lia,λ ns' hp hs=>?_⟩
   ·unfold kN;rw [List.map_map,List.map_map];rfl
   ·obtain ⟨side,e,b⟩:=zkq up hv (by simpa using ht) hp hs
    rw [e]
    exact q L side b
 clear hJ
 rcases hfl with ⟨rfl,rfl⟩|rfl
 ·walk_at "dd"
  refine ⟨by rw [List.length_map];lia,by rw [List.length_map];lia,by rw [List.length_map];lia,n,A,List.replicate A.length 0,by rw [List.length_map,Int.toNat_natCast,show (List.replicate A.length [PyData.int 0]).flatten=(List.replicate A.length 0).map .int by rw [List.flatten_replicate_singleton,List.map_replicate]];rfl,hf,by lia,hA,hb,λ S N=>⟨trivial,start S N⟩⟩
 ·walk_at "dd"
  exact ⟨n,A,f,rfl,hf,by lia,hA,hb,λ S N=>⟨trivial,start S N⟩⟩
end
structure Va where
 nm:Str
 room:Int
 fill:Int
def Va.d (v:Va):D:=.tuple [.str v.nm,.int v.room,.int v.fill]
structure Pp where
 u:Nat
 v:Nat
 a:D
 b:D
 c:D
def Pp.d (p:Pp):D:=.tuple [nI p.u,nI p.v,p.a,p.b,p.c]
def tY (vs:List Va) (ps:List Pp) (ws:List Int):List Ar:=tA (vs.map Va.fill) (ps.map λ p=>(p.u,p.v)) ws ((vs.map Va.fill).sum+1)
def IsCut (vs:List Va) (ps:List Pp) (ws:List Int) (r:D):Prop:=∃ (L:List Int) (side:List Nat),Best (2+vs.length) (tY vs ps ws) (List.replicate (tY vs ps ws).length 0) 0 1 L side /\
 r=if - bl (tY vs ps ws).length (aU (tY vs ps ws)) (aV (tY vs ps ws)) (λ k=>lf L (2 * k+1)) 0=ws.sum then .none else .list (((List.range vs.length).filter λ v=>decide (2+v ∉ side)).map nI)
structure YOk (vs:List Va) (ps:List Pp) (ws:List Int):Prop where
 n1:1<=vs.length
 n2:vs.length<=12
 m2:ps.length<=24
 lw:ws.length=vs.length
 vf:∀ v∈vs,0<=v.fill/\v.fill<=v.room
 wr:∀ (k:Nat) v y,vs[k]?=some v->ws[k]?=some y->0<=y/\y<=v.room
 pb:∀ p∈ps,p.u < vs.length/\p.v < vs.length
section
variable {vs:List Va} {ps:List Pp} {ws:List Int}
theorem zbn {n:Nat} {A:List Ar} {s t:Nat} {L:List Int} {side:List Nat} (b:Best n A (List.replicate A.length 0) s t L side):∀ v,v≠s->v≠t->bal A.length (zo3 A) L v=0:=λ v h1 h2=>by rw [b.up.eqb v h1 h2];exact zln v
theorem YOk.cut (y:YOk vs ps ws) {n:Nat} {L:List Int} {side:List Nat} (b:Best n (tY vs ps ws) (List.replicate (tY vs ps ws).length 0) 0 1 L side):Cut (vs.map Va.fill) (ps.map λ p=>(p.u,p.v)) ws ((vs.map Va.fill).sum+1) (λ k=>lf L (2 * k+1)):=by
 refine ⟨by rw [List.length_map];exact y.lw,λ p hp=>?_,b.within,λ w h1 h2=>?_⟩
 ·obtain ⟨q,hq,rfl⟩:=List.mem_map.mp hp
  rw [List.length_map];exact y.pb q hq
 ·have:=zbn b w h1 h2
  rw [zrp] at this;exact this
theorem YOk.fill (y:YOk vs ps ws):∀ x∈vs.map Va.fill,0<=x:=λ x hx=>by
 obtain ⟨v,hv,rfl⟩:=List.mem_map.mp hx
 exact (y.vf v hv).1
theorem YOk.wn (y:YOk vs ps ws):∀ x∈ws,0<=x:=λ x hx=>by
 obtain ⟨k,hk,rfl⟩:=List.getElem_of_mem hx
 have hl:=y.lw
 exact (y.wr k vs[k] _ (List.getElem?_eq_getElem (by lia)) (List.getElem?_eq_getElem hk)).1
theorem zwp:∀ {l:List Int},(∀ x∈l,0<=x)->0<=l.sum
|[],_=>by simp
|x :: r,h=>by have:=zwp (l:=r) λ y hy=>h y (by simp [hy]);have:=h x (by simp);rw [List.sum_cons];lia
theorem YOk.ar (y:YOk vs ps ws):∀ a∈tY vs ps ws,a.1 < 2+vs.length/\a.2.1 < 2+vs.length/\0<=a.2.2:=λ a ha=>by
 have hl:=y.lw
 have h1:=y.n1
 unfold tY tA at ha
 rcases List.mem_append.mp ha with ha|ha
 ·rcases List.mem_append.mp ha with ha|ha
  ·obtain ⟨i,hi,rfl⟩:=List.mem_map.mp ha
   rw [List.mem_range,List.length_map] at hi
   exact ⟨by show 0 < _;lia,by show 2+i < _;lia,zco y.fill i⟩
  ·obtain ⟨p,hp,rfl⟩:=List.mem_map.mp ha
   obtain ⟨q,hq,rfl⟩:=List.mem_map.mp hp
   have:=y.pb q hq
   have:=zwp y.fill
   exact ⟨by show 2+q.u < _;lia,by show 2+q.v < _;lia,by show 0<=(vs.map Va.fill).sum+1;lia⟩
 ·obtain ⟨i,hi,rfl⟩:=List.mem_map.mp ha
  rw [List.mem_range] at hi
  exact ⟨by show 2+i < _;lia,by show 1 < _;lia,zco y.wn i⟩
theorem IsCut.some {r:D} (y:YOk vs ps ws) (h:IsCut vs ps ws r):(r=.none/\∀ S:List Nat,S.Nodup->(∀ v∈S,v < vs.length)->(∀ p∈ps,p.v∈S->p.u∈S)->(S.map λ v=>fx ws v - fx (vs.map Va.fill) v).sum<=0) \/
  ∃ l:List Nat,r=.list (l.map nI)/\l≠[]/\l.Pairwise (· < ·)/\(∀ v∈l,v < vs.length)/\(∀ p∈ps,p.v∈l->p.u∈l)/\0 < (l.map λ v=>fx ws v - fx (vs.map Va.fill) v).sum:=by
 obtain ⟨L,side,b,rfl⟩:=h
 have c:=y.cut b
 have hl:(vs.map Va.fill).length=vs.length:=List.length_map _
 split
 ·rename_i e
  refine .inl ⟨rfl,λ S nd hb cl=>c.short e nd (by rw [hl];exact hb) λ p hp hv=>?_⟩
  obtain ⟨q,hq,rfl⟩:=List.mem_map.mp hp
  exact cl q hq hv
 ·rename_i ne
  obtain ⟨k1,k2⟩:=c.beyond (by lia) b.tight b.inn b.out (zuc b.ris)
  have k2:=k2 ne
  rw [hl] at k2
  refine .inr ⟨_,rfl,λ z=>?_,List.pairwise_lt_range.filter _,λ v hv=>List.mem_range.mp (List.mem_filter.mp hv).1,λ p hp hv=>?_,k2⟩
  ·rw [z] at k2;simp at k2
  ·obtain ⟨_,h2⟩:=List.mem_filter.mp hv
   have h2:=of_decide_eq_true h2
   exact List.mem_filter.mpr ⟨List.mem_range.mpr (y.pb p hp).1,decide_eq_true λ h=>h2 (k1 (p.u,p.v) (List.mem_map.mpr ⟨p,hp,rfl⟩) h)⟩
end
theorem zoe {p:Nat->Prop} [DecidablePred p]:∀ l:List Nat,l.filterMap (λ k=>if p k then some (nI k) else none)=(l.filter λ k=>decide (p k)).map nI
|[]=>rfl
|k :: r=>by
  rw [List.filterMap_cons,List.filter_cons,zoe r]
  by_cases h:p k <;> simp [h]
def zom:DSp:=λ ds Q=>∃ (vs:List Va) (r:D) (m v:Nat),ds=[.tuple [.list (vs.map Va.d),r],nI m,nI v]/\m<=100/\vs.length<=100/\Q (nI (2+m * vs.length+v))
def zrj:DSp:=λ ds Q=>∃ (A:List Ar) (L:List Int) (src:Nat),ds=[.list (A.map dAr),.list ((List.range A.length).map λ k=>.int (lf L (2 * k+1))),nI src]/\A.length<=300/\Q (.int (- bl A.length (aU A) (aV A) (λ k=>lf L (2 * k+1)) src))
def zy9:DSp:=λ ds Q=>∃ (vs:List Va) (ps:List Pp) (ws:List Int),ds=[.tuple [.list (vs.map Va.d),.list (ps.map Pp.d)],.list (ws.map .int)]/\YOk vs ps ws/\Q (.tuple [nI (2+vs.length),.list ((tY vs ps ws).map dAr)])
def zzc:DSp:=λ ds Q=>∃ (vs:List Va) (ps:List Pp) (ws:List Int),ds=[.tuple [.list (vs.map Va.d),.list (ps.map Pp.d)],.list (ws.map .int)]/\YOk vs ps ws/\∀ r,IsCut vs ps ws r->Q r
section
variable {P:Program} {w:World} {K:Fg} {mg:Str->Option Value} {base:Heap}
theorem zjk:FnScope ["yard", "moment", "vat"] ["yard", "moment", "vat"] (zf0 zll):=by walk_at "sc"
theorem zuo (M:Md K mg) (T:TopDef K "node" zll) (jM:mg "len"=none):Def P w K mg base "node" 1 ["yard", "moment", "vat"] (spD K zom):=by
 refine zo5 M T zjk (λ _ _ _ _ _ _ us hl=>by obtain ⟨_,_,_,rfl⟩:=ar3 hl;rfl) (zbe λ ds Qd h=>by obtain ⟨_,_,_,_,rfl,_⟩:=h;rfl) (zp4 ?_)
 intro f cdv A outer s H E hr
 have nd:=zjk.nd
 refine ⟨_,_,(zj0 (zc1 (zw0 (zt0 (K:=K) rfl) (zw0 (zt0 (K:=K) rfl) ze0 (zw0 zj6 (pv 1) (zy0 (zr2 (K:=K) rfl) rfl jM zyb (za0 (pix w K hr (pv 0) ze0) zh0)))) (pv 2)))),(zj1 (RfE.c (zm0 zj4 (RfE.v (zm0 zj4 rvi (RfE.v (zm0 zlo (zb0 1) (RfE.v (zee zgm (zz0 (RfE.v (zm0 r_ix (zb0 0) rvi)) zi2))))))) (zb0 2)))),?_⟩
 rintro ds Qd ⟨vs,r,m,v,rfl,hm,hv,q⟩
 walk_at "ds"
 walk_at "dd"
 refine ⟨_,rfl,?_⟩
 walk_at "dd"
 rw [List.length_map]
 refine ⟨.inl ⟨by lia,by lia⟩,?_⟩
 have e:(2:Int)+(m:Int) * (vs.length:Int)+(v:Int)=((2+m * vs.length+v:Nat):Int):=by simp
 rw [e];exact q
theorem zye:FnScope ["arcs", "flow", "source", "gone", "come"] ["arcs", "flow", "source"] (zf0 zab):=by walk_at "sc"
theorem ztm (M:Md K mg) (T:TopDef K "worth" zab) (kK:mg "sum"=none) (qE:mg "zip"=none):Def P w K mg base "worth" 1 ["arcs", "flow", "source"] (spD K zrj):=by
 refine zo5 M T zye (λ _ _ _ _ _ _ us hl=>by obtain ⟨_,_,_,rfl⟩:=ar3 hl;rfl) (zbe λ ds Qd h=>by obtain ⟨_,_,_,rfl,_⟩:=h;rfl) (zp4 ?_)
 intro f cdv A outer s H E hr
 have nd:=zye.nd
 refine ⟨_,_,(zd0 (pset 3 nd (zy0 (zt5 (K:=K) rfl rfl) rfl kK zkj (za0 (zj5 (sc:=zf0 zab) (N:=["arcs", "flow", "source", "gone", "come"]) (own:=["arc", "amount"]) (ix:=[2]) rfl rfl rfl (by walk_at "csc") (zfq (K:=K) rfl rfl qE (za0 (pv 0) (za0 (pv 1) zh0))) (λ _ _ _ _=>⟨(zpa (K:=K) (n:=2) rfl rfl (zj2 (pgn 0 (nds ["arc", "amount", "source"])) (zj2 (pgn 1 (nds ["arc", "amount", "source"])) zga))),(zjf (zv0 (zc7 (K:=K) rfl (Room.units hr)) (pix w K hr (pv 0) ze0) (pv 2) (zn1 _))),(pv 1)⟩)) zh0)))
   (zd0 (pset 4 nd (zy0 (zt5 (K:=K) rfl rfl) rfl kK zkj (za0 (zj5 (sc:=zf0 zab) (N:=["arcs", "flow", "source", "gone", "come"]) (own:=["arc", "amount"]) (ix:=[2]) rfl rfl rfl (by walk_at "csc") (zfq (K:=K) rfl rfl qE (za0 (pv 0) (za0 (pv 1) zh0))) (λ _ _ _ _=>⟨(zpa (K:=K) (n:=2) rfl rfl (zj2 (pgn 0 (nds ["arc", "amount", "source"])) (zj2 (pgn 1 (nds ["arc", "amount", "source"])) zga))),(zjf (zv0 (zc7 (K:=K) rfl (Room.units hr)) (pix w K hr (pv 0) ze0) (pv 2) (zn1 _))),(pv 1)⟩)) zh0)))
   (zj0 (zc1 (zw0 zof (pv 3) (pv 4)))))),(zl0 (zh1 (zee znu (zz0 (RfE.v (RfF.e (zl4 (ztt (zz0 (zb0 0) (zz0 (zb0 1) zi2))) (zwf (zl2 (zr1 (i:=0) (n:=2) (by decide)) (zl2 (zr1 (i:=1) (n:=2) (by decide)) zba))) (zu0 (zt4 q_eq (RfV.h (RfE.v (zm0 r_ix (zb0 0) rvi))) (RfV.h (zb0 2)))) (zk0 1)))) zi2)) (rgn 3))
   (zl0 (zh1 (zee znu (zz0 (RfE.v (RfF.e (zl4 (ztt (zz0 (zb0 0) (zz0 (zb0 1) zi2))) (zwf (zl2 (zr1 (i:=0) (n:=2) (by decide)) (zl2 (zr1 (i:=1) (n:=2) (by decide)) zba))) (zu0 (zt4 q_eq (RfV.h (RfE.v (zm0 r_ix (zb0 0) rvi))) (RfV.h (zb0 2)))) (zk0 1)))) zi2)) (rgn 4))
   (zj1 (RfE.c (zm0 zit (zb0 3) (zb0 4)))))),?_⟩
 rintro ds Qd ⟨A,L,src,rfl,hA,q⟩
 walk_at "ds"
 obtain ⟨x1,g1,s1⟩:=zqg (λ k=>aU A k=src) (λ k=>lf L (2 * k+1)) (List.range A.length)
 obtain ⟨x2,g2,s2⟩:=zqg (λ k=>aV A k=src) (λ k=>lf L (2 * k+1)) (List.range A.length)
 rw [zhl] at q
 have ez:zipD (A.map dAr) ((List.range A.length).map λ k=>PyData.int (lf L (2 * k+1)))=(List.range A.length).map λ k=>.tuple [.tuple [nI (aU A k),nI (aV A k),.int (ze9 A k)],.int (lf L (2 * k+1))]:=by
  rw [show ((List.range A.length).map λ k=>PyData.int (lf L (2 * k+1)))=((List.range A.length).map λ k=>lf L (2 * k+1)).map PyData.int by rw [List.map_map];rfl,zfl,zzr (by simp),List.map_map]
  refine List.map_congr_left λ k hk=>?_
  have:fx ((List.range A.length).map λ k=>lf L (2 * k+1)) k=lf L (2 * k+1):=by
   unfold fx;rw [List.getElem?_map,List.getElem?_range (List.mem_range.mp hk)];rfl
  show PyData.tuple [_,PyData.int (fx _ k)]=_
  rw [this];rfl
 refine zg0 λ J hJ=>?_
 walk_at "dd"
 rw [ez]
 refine zpu (λ k=>if aU A k=src then some (.int (lf L (2 * k+1))) else none) (by rw [sizeLine_eq];simp;lia) (λ k hk=>?_) ?_
 ·walk_at "cs"
  walk_at "dd"
  refine ⟨_,rfl,?_⟩
  walk_at "dd"
  exact two (λ h=>by rw [if_pos (by lia)]) λ h=>by rw [if_neg (by lia)]
 rw [g1]
 walk_at "dd"
 refine hJ _ ?_
 clear hJ
 refine zg0 λ J hJ=>?_
 walk_at "dd"
 rw [ez]
 refine zpu (λ k=>if aV A k=src then some (.int (lf L (2 * k+1))) else none) (by rw [sizeLine_eq];simp;lia) (λ k hk=>?_) ?_
 ·walk_at "cs"
  walk_at "dd"
  refine ⟨_,rfl,?_⟩
  walk_at "dd"
  exact two (λ h=>by rw [if_pos (by lia)]) λ h=>by rw [if_neg (by lia)]
 rw [g2]
 walk_at "dd"
 refine hJ _ ?_
 clear hJ
 walk_at "dd"
 rw [s1,s2]
 unfold sm at q
 rw [Int.neg_sub] at q
 exact q
theorem zs7:FnScope ["yard", "wants", "wide", "arcs"] ["yard", "wants"] (zf0 zy1):=by walk_at "sc"
theorem zwd (M:Md K mg) (T:TopDef K "timeless" zy1) (jI:mg "enumerate"=none) (kK:mg "sum"=none) (kE:Def P w K mg base "node" 1 ["yard", "moment", "vat"] (spD K zom)) {gv_SOURCE:Value} (g_SOURCE:mg "SOURCE"=some gv_SOURCE) (r_SOURCE:RelV (.int 0) gv_SOURCE) {gv_SINK:Value} (g_SINK:mg "SINK"=some gv_SINK) (r_SINK:RelV (.int 1) gv_SINK):Def P w K mg base "timeless" 2 ["yard", "wants"] (spD K zy9):=by
 refine zo5 M T zs7 (λ _ _ _ _ _ _ us hl=>by obtain ⟨_,_,rfl⟩:=ar2 hl;rfl) (zbe λ ds Qd h=>by obtain ⟨_,_,_,rfl,_⟩:=h;rfl) (zp4 ?_)
 intro f cdv A outer s H E hr
 have nd:=zs7.nd
 refine ⟨_,_,(zd0 (pset 2 nd (zw0 (zt0 (K:=K) rfl) (zy0 (zt5 (K:=K) rfl rfl) rfl kK zkj (za0 (zj5 (sc:=zf0 zy1) (N:=["yard", "wants", "wide", "arcs"]) (own:=["vat"]) (ix:=[]) rfl rfl rfl (by walk_at "csc") (pi_W (K:=K) rfl (pix w K hr (pv 0) ze0)) (λ _ _ _ _=>⟨(pgn 0 (nds ["vat"])),zk5,(pix w K hr (pv 0) ze0)⟩)) zh0)) ze0))
   (zd0 (zk6 (i:=3) (sc:=zf0 zy1) (N:=["yard", "wants", "wide", "arcs"]) (own:=["vat", "told"]) (ix:=[0]) rfl rfl rfl (by walk_at "csc") nd rfl rfl (zgf (K:=K) rfl rfl jI (za0 (pix w K hr (pv 0) ze0) zh0)) (λ _ _ _ _=>⟨(zpa (K:=K) (n:=2) rfl rfl (zj2 (pgn 0 (nds ["vat", "told", "yard"])) (zj2 (pgn 1 (nds ["vat", "told", "yard"])) zga))),zk5,(zb2 (za0 (zka rfl g_SOURCE r_SOURCE) (za0 (zo0 kE (rmn hr) rfl (za0 (pv 2) (za0 ze0 (za0 (pv 0) zh0)))) (za0 (pix w K hr (pv 1) ze0) zh0))))⟩))
   (zd0 (zf2 (zm7 (K:=K) rfl PySem.F.plainAttrs_list PySem.F.slot_list_extend PySem.F.type_list_extend (zk4 (K:=K) rfl) (pv 3) (za0 (zj5 (sc:=zf0 zy1) (N:=["yard", "wants", "wide", "arcs"]) (own:=["pipe"]) (ix:=[2,0]) rfl rfl rfl (by walk_at "csc") (pi_W (K:=K) rfl (pix w K hr (pv 0) ze0)) (λ _ _ _ _=>⟨(pgn 0 (nds ["pipe", "wide", "yard"])),zk5,(zb2 (za0 (zo0 kE (rmn hr) rfl (za0 (pv 2) (za0 ze0 (za0 (pix w K hr (pv 0) ze0) zh0)))) (za0 (zo0 kE (rmn hr) rfl (za0 (pv 2) (za0 ze0 (za0 (pix w K hr (pv 0) ze0) zh0)))) (za0 (pv 1) zh0))))⟩)) zh0)))
   (zd0 (zf2 (zm7 (K:=K) rfl PySem.F.plainAttrs_list PySem.F.slot_list_extend PySem.F.type_list_extend (zk4 (K:=K) rfl) (pv 3) (za0 (zj5 (sc:=zf0 zy1) (N:=["yard", "wants", "wide", "arcs"]) (own:=["vat", "want"]) (ix:=[0]) rfl rfl rfl (by walk_at "csc") (zgf (K:=K) rfl rfl jI (za0 (pv 1) zh0)) (λ _ _ _ _=>⟨(zpa (K:=K) (n:=2) rfl rfl (zj2 (pgn 0 (nds ["vat", "want", "yard"])) (zj2 (pgn 1 (nds ["vat", "want", "yard"])) zga))),zk5,(zb2 (za0 (zo0 kE (rmn hr) rfl (za0 (pv 2) (za0 ze0 (za0 (pv 0) zh0)))) (za0 (zka rfl g_SINK r_SINK) (za0 (pv 1) zh0))))⟩)) zh0)))
   (zj0 (zc1 (zb2 (za0 (zo0 kE (rmn hr) rfl (za0 (pv 0) (za0 ze0 (za0 ze0 zh0)))) (za0 (pv 3) zh0))))))))),(zl0 (zh1 (zm0 zj4 (RfE.v (zee znu (zz0 (RfE.v (RfF.e (zl4 (zvo (RfE.v (zm0 r_ix (zb0 0) rvi))) (zr1 (i:=0) (n:=1) (by decide)) zi8 (zm0 r_ix (zb0 0) rvi)))) zi2))) rvi) (rgn 2))
   (zl0 (zy3 (RfF.c (zl4 (zpk (zz0 (RfE.v (zm0 r_ix (zb0 0) rvi)) zi2)) (zwf (zl2 (zr1 (i:=0) (n:=2) (by decide)) (zl2 (zr1 (i:=1) (n:=2) (by decide)) zba))) zi8 (zy4 (zc0 ze1 (zc0 (zx0 (zc0 (zk0 2) (zc0 ze1 (zc0 (zk0 0) zn0)))) (zc0 (zm0 r_ix (zb0 1) rvi) zn0)))))))
   (zl0 (zg2 (zeh zai (zr0 3) (zc0 (RfF.e (zl4 (zvo (RfE.v (zm0 r_ix (zb0 0) rvi))) (zr1 (i:=0) (n:=1) (by decide)) zi8 (zy4 (zc0 (zx0 (zc0 (zk0 2) (zc0 ze1 (zc0 (zm0 r_ix (zb0 0) rvi) zn0)))) (zc0 (zx0 (zc0 (zk0 2) (zc0 ze1 (zc0 (zm0 r_ix (zb0 0) rvi) zn0)))) (zc0 (zk0 1) zn0)))))) zn0)))
   (zl0 (zg2 (zeh zai (zr0 3) (zc0 (RfF.e (zl4 (zpk (zz0 (zb0 1) zi2)) (zwf (zl2 (zr1 (i:=0) (n:=2) (by decide)) (zl2 (zr1 (i:=1) (n:=2) (by decide)) zba))) zi8 (zy4 (zc0 (zx0 (zc0 (zk0 2) (zc0 ze1 (zc0 (zk0 0) zn0)))) (zc0 ze1 (zc0 (zk0 1) zn0)))))) zn0)))
   (zxd 3 [] (zj1 (RfE.c (zy4 (zc0 (zx0 (zc0 (zk0 0) (zc0 ze1 (zc0 ze1 zn0)))) (zc0 (zk0 3) zn0)))))))))),?_⟩
 rintro ds Qd ⟨vs,ps,ws,rfl,y,q⟩
 have hn:=y.n2
 have hm:=y.m2
 have hw:=y.lw
 walk_at "ds"
 refine zg0 λ J hJ=>?_
 walk_at "dd"
 refine ⟨_,rfl,?_⟩
 walk_at "dd"
 refine zhp (λ v=>.int v.fill) (by rw [sizeLine_eq];lia) (λ v hv=>?_) ?_
 ·unfold Va.d
  walk_at "cs"
  walk_at "dd"
  exact ⟨_,rfl,rfl⟩
 have ei:zdh (vs.map λ v=>PyData.int v.fill)=some (vs.map Va.fill):=by
  rw [show (vs.map λ v=>PyData.int v.fill)=(vs.map Va.fill).map PyData.int by rw [List.map_map];rfl];exact ints_map _
 rw [ei]
 walk_at "dd"
 refine hJ _ ?_
 clear hJ
 refine zg0 λ J hJ=>?_
 walk_at "dd"
 refine ⟨_,rfl,?_⟩
 walk_at "dd"
 rw [zed]
 refine zhp (λ p=>dAr (0,2+p.1,p.2.fill)) (by rw [sizeLine_eq,List.length_mapIdx];lia) (λ p hp=>?_) ?_
 ·obtain ⟨i,v⟩:=p
  unfold Va.d
  walk_at "cs"
  walk_at "dd"
  exact ⟨vs,_,0,i,rfl,by lia,by lia,_,rfl,by simp [dAr,nI]⟩
 refine hJ _ ?_
 clear hJ
 have e1:(vs.mapIdx λ i x=>(i,x)).map (λ p=>dAr (0,2+p.1,p.2.fill))=((List.range (vs.map Va.fill).length).map λ i=>((0,2+i,fx (vs.map Va.fill) i):Ar)).map dAr:=by
  rw [List.map_map,List.length_map]
  apply List.ext_getElem?
  intro j
  rw [List.getElem?_map,List.getElem?_map,List.getElem?_mapIdx]
  by_cases h:j < vs.length
  ·rw [List.getElem?_range h,List.getElem?_eq_getElem h]
   show some (dAr (0,2+j,vs[j].fill))=some (dAr (0,2+j,fx (vs.map Va.fill) j))
   unfold fx;rw [List.getElem?_map,List.getElem?_eq_getElem h];rfl
  ·rw [List.getElem?_eq_none (by lia),List.getElem?_eq_none (by simpa using h)];rfl
 rw [e1]
 refine zg0 λ J hJ=>?_
 walk_at "dd"
 refine ⟨_,rfl,?_⟩
 walk_at "dd"
 refine zhp (λ p=>dAr (2+p.u,2+p.v,(vs.map Va.fill).sum+1)) (by rw [sizeLine_eq];lia) (λ p hp=>?_) ?_
 ·unfold Pp.d
  walk_at "cs"
  walk_at "dd"
  exact ⟨_,rfl,vs,_,0,p.u,rfl,by lia,by lia,_,rfl,vs,_,0,p.v,rfl,by lia,by lia,by simp [dAr,nI]⟩
 refine ⟨by simp;lia,hJ _ ?_⟩
 clear hJ
 have e2:ps.map (λ p=>dAr (2+p.u,2+p.v,(vs.map Va.fill).sum+1))=((ps.map λ p=>(p.u,p.v)).map λ p=>((2+p.1,2+p.2,(vs.map Va.fill).sum+1):Ar)).map dAr:=by
  rw [List.map_map,List.map_map];rfl
 rw [e2,<- List.map_append]
 refine zg0 λ J hJ=>?_
 walk_at "dd"
 rw [zed]
 refine zhp (λ p=>dAr (2+p.1,1,p.2)) (by rw [sizeLine_eq,List.length_mapIdx];lia) (λ p hp=>?_) ?_
 ·obtain ⟨i,x⟩:=p
  walk_at "cs"
  walk_at "dd"
  exact ⟨vs,_,0,i,rfl,by lia,by lia,by simp [dAr,nI]⟩
 refine ⟨by simp;lia,hJ _ ?_⟩
 clear hJ
 have e3:(ws.mapIdx λ i x=>(i,x)).map (λ p=>dAr (2+p.1,1,p.2))=((List.range ws.length).map λ i=>((2+i,1,fx ws i):Ar)).map dAr:=by
  rw [List.map_map]
  apply List.ext_getElem?
  intro j
  rw [List.getElem?_map,List.getElem?_map,List.getElem?_mapIdx]
  by_cases h:j < ws.length
  ·rw [List.getElem?_range h,List.getElem?_eq_getElem h]
   show some (dAr (2+j,1,ws[j]))=some (dAr (2+j,1,fx ws j))
   unfold fx;rw [List.getElem?_eq_getElem h];rfl
  ·rw [List.getElem?_eq_none (by lia),List.getElem?_eq_none (by simpa using h)];rfl
 rw [e3,<- List.map_append]
 walk_at "dd"
 refine ⟨_,_,rfl,rfl,vs,_,1,0,rfl,by lia,by lia,?_⟩
 rw [show 2+1 * vs.length+0=2+vs.length by lia]
 exact q
theorem zva:FnScope ["yard", "wants", "told", "found"] ["yard", "wants"] (zf0 zs5):=by walk_at "sc"
theorem zue (M:Md K mg) (T:TopDef K "cut_off" zs5) (jM:mg "len"=none) (jJ:mg "range"=none) (kK:mg "sum"=none) (qF:Def P w K mg base "worth" 1 ["arcs", "flow", "source"] (spD K zrj)) (kU:DefN P w K mg base "greatest" 4 ["count", "arcs", "source", "sink", "flow"] (spD K zda)) (kE:Def P w K mg base "node" 1 ["yard", "moment", "vat"] (spD K zom)) (kW:Def P w K mg base "timeless" 2 ["yard", "wants"] (spD K zy9)) {gv_SOURCE:Value} (g_SOURCE:mg "SOURCE"=some gv_SOURCE) (r_SOURCE:RelV (.int 0) gv_SOURCE) {gv_SINK:Value} (g_SINK:mg "SINK"=some gv_SINK) (r_SINK:RelV (.int 1) gv_SINK):Def P w K mg base "cut_off" 5 ["yard", "wants"] (spD K zzc):=by
 refine zo5 M T zva (λ _ _ _ _ _ _ us hl=>by obtain ⟨_,_,rfl⟩:=ar2 hl;rfl) (zbe λ ds Qd h=>by obtain ⟨_,_,_,rfl,_⟩:=h;rfl) (zp4 ?_)
 intro f cdv A outer s H E hr
 have nd:=zva.nd
 refine ⟨_,_,(zd0 (pset 2 nd (zo0 kW (rmn hr) rfl (za0 (pv 0) (za0 (pv 1) zh0))))
   (zd0 (pset 3 nd (zhn kU (rmn hr) rfl (za0 (pix w K hr (pv 2) ze0) (za0 (pix w K hr (pv 2) ze0) (za0 (zka rfl g_SOURCE r_SOURCE) (za0 (zka rfl g_SINK r_SINK) zh0))))))
   (zd0 (zo8 (zv0 (zc7 (K:=K) rfl (Room.units hr)) (zo0 qF (rmn hr) rfl (za0 (pix w K hr (pv 2) ze0) (za0 (pix w K hr (pv 3) ze0) (za0 (zka rfl g_SOURCE r_SOURCE) zh0)))) (zy0 (zt5 (K:=K) rfl rfl) rfl kK zkj (za0 (pv 1) zh0)) (zn1 _)) (zj0 (zc1 zfg)) zm1)
   (zj0 (zc1 (zj5 (sc:=zf0 zs5) (N:=["yard", "wants", "told", "found"]) (own:=["vat"]) (ix:=[0,3]) rfl rfl rfl (by walk_at "csc") (zu5 rfl jJ (za0 (zy0 (zr2 (K:=K) rfl) rfl jM zyb (za0 (pix w K hr (pv 0) ze0) zh0)) zh0)) (λ _ _ _ _=>⟨(pgn 0 (nds ["vat", "yard", "found"])),(zjf (zv0 (zz8 (w:=w) (K:=K) (Room.units hr) rfl rfl) (zo0 kE (rmn hr) rfl (za0 (pv 1) (za0 ze0 (za0 (pv 0) zh0)))) (pix w K hr (pv 2) ze0) (by with_unfolding_all rfl))),(pv 0)⟩))))))),(zl0 (zh1 (zx0 (zc0 (zk0 0) (zc0 (zk0 1) zn0))) (rgn 2))
   (zl0 (zh1 (zwn (zc0 (zm0 r_ix (zb0 2) rvi) (zc0 (zm0 r_ix (zb0 2) rvi) (zc0 ze1 (zc0 ze1 zn0))))) (rgn 3))
   (zl0 (zn8 (zu0 (zt4 q_eq (RfV.h (RfE.v (zx0 (zc0 (zm0 r_ix (zb0 2) rvi) (zc0 (zm0 r_ix (zb0 3) rvi) (zc0 ze1 zn0)))))) (RfV.h (RfE.v (zee znu (zz0 (zb0 1) zi2)))))) (zj1 (RfE.c zuf)) zl1)
   (zj1 (RfF.c (zl4 (RfI.j (ztc (zc0 (zee zgm (zz0 (RfE.v (zm0 r_ix (zb0 0) rvi)) zi2)) zn0))) (zr1 (i:=0) (n:=1) (by decide)) (zu0 (zm0 zxj (RfE.v (zx0 (zc0 (zk0 1) (zc0 ze1 (zc0 (zk0 0) zn0))))) (RfE.v (zm0 r_ix (zb0 2) rvi)))) (zk0 0))))))),?_⟩
 rintro ds Qd ⟨vs,ps,ws,rfl,y,q⟩
 have hn:=y.n2
 have hm:=y.m2
 have hw:=y.lw
 walk_at "ds"
 refine zg0 λ J hJ=>?_
 walk_at "dd"
 refine ⟨vs,ps,ws,rfl,y,hJ _ ?_⟩
 clear hJ
 have hA:(tY vs ps ws).length<=48:=by unfold tY;rw [zza,List.length_map,List.length_map];lia
 have ar:=y.ar
 have ub:∀ L side,Best (2+vs.length) (tY vs ps ws) (List.replicate (tY vs ps ws).length 0) 0 1 L side->IsCut vs ps ws (if - bl (tY vs ps ws).length (aU (tY vs ps ws)) (aV (tY vs ps ws)) (λ k=>lf L (2 * k+1)) 0=ws.sum then .none else .list (((List.range vs.length).filter λ v=>decide (2+v ∉ side)).map nI)):=λ L side b=>⟨L,side,b,rfl⟩
 generalize hG:tY vs ps ws=A at hA ar ub
 refine zg0 λ J hJ=>?_
 walk_at "dd"
 refine ⟨_,rfl,_,rfl,2+vs.length,A,0,1,.none,List.replicate A.length 0,rfl,.inl ⟨rfl,rfl⟩,List.length_replicate,by lia,by lia,λ a ha=>⟨(ar a ha).1,(ar a ha).2.1⟩,λ k a x h1 h2=>?_,by lia,by lia,by decide,λ L side b=>hJ _ ?_⟩
 ·rw [List.getElem?_replicate] at h2
  split at h2
  ·cases h2;exact ⟨by lia,(ar a (List.mem_of_getElem? h1)).2.2⟩
  ·cases h2
 clear hJ
 have hu:=ub L side b
 have hsd:=zq0 _ side (zuc b.ris) b.bd
 refine zg0 λ J hJ=>?_
 walk_at "dd"
 refine ⟨_,rfl,_,rfl,A,L,0,rfl,by lia,ws,ints_map ws,?_⟩
 walk_at "dd"
 refine two (λ h=>?_) λ h=>hJ _ ?_
 ·rw [if_pos h] at hu;exact q _ hu
 clear hJ
 rw [if_neg h] at hu
 walk_at "dd"
 refine ⟨_,rfl,?_⟩
 walk_at "dd"
 rw [List.length_map]
 refine ⟨by lia,by lia,?_⟩
 rw [Int.toNat_natCast]
 unfold rngD
 refine zpu (λ k=>if 2+k ∉ side then some (nI k) else none) (by rw [sizeLine_eq];simp;lia) (λ k hk=>?_) ?_
 ·walk_at "cs"
  walk_at "dd"
  rw [show (0:Int)+(k:Int)=(k:Int) by lia]
  refine ⟨vs,_,0,k,rfl,by lia,by lia,_,rfl,?_⟩
  have i1:((side.map nI).any λ y=>eqF y (.int ((2+0 * vs.length+k:Nat):Int)))=decide (2+0 * vs.length+k∈side):=zzh _ _
  have i2:2+0 * vs.length+k=2+k:=by lia
  walk_at "dd"
  rw [i1,i2]
  refine ⟨zaf side,two (λ h=>?_) λ h=>?_⟩
  ·rw [if_pos (by simpa using h)]
  ·rw [if_neg (by simpa using h)]
 rw [zoe]
 exact q _ hu
end
def zb9 (ns:List Int) (k:Int):Int:=(ns[k.toNat]?).getD 0
theorem zys {ns:List Int} {k:Int} (h0:0<=k) (h:k < (ns.length:Int)):atI (ns.map PyData.int) k=some (.int (zb9 ns k)):=by
 obtain ⟨x,h1,h2⟩:=zki PyData.int h0 h
 rw [h2]
 unfold zb9
 rw [h1];rfl
theorem zbf (c:Int) {n:Nat} (h:0 < n):∃ u:Nat,c % (n:Int)=(u:Int)/\u < n:=by
 refine ⟨(c % (n:Int)).toNat,?_,?_⟩
 ·have:=Int.emod_nonneg c (b:=(n:Int)) (by lia);lia
 ·have:=Int.emod_lt_of_pos c (b:=(n:Int)) (by lia);lia
theorem l12:(Str.ofString "abcdefghijkl").length<=16777216:=by decide +kernel
theorem zh21 {i:Int} (h0:0<=i) (h1:i < 12):∃ c,atI (Str.ofString "abcdefghijkl").cps.toList i=some c/\c < 1114112:=by
 have e:((Str.ofString "abcdefghijkl").cps.toList.length:Int)=12:=by decide +kernel
 obtain ⟨x,hx,h⟩:=zq21 (xs:=(Str.ofString "abcdefghijkl").cps.toList) h0 (by rw [e];exact h1)
 have ha:(Str.ofString "abcdefghijkl").cps.toList.all (λ c=>decide (c < 1114112))=true:=by decide +kernel
 exact ⟨x,h,of_decide_eq_true (List.all_eq_true.mp ha x (List.mem_of_getElem? hx))⟩
def ze2:DSp:=λ ds Q=>∃ ns k,ds=[.list (ns.map .int),.int k]/\0<=k/\Q (.int (zb9 ns k))
def zl3:DSp:=λ ds Q=>∃ (c:Int) (k:Nat),ds=[.int c,nI k]/\k<=100/\∀ m:Int,0<=m->m < 2147483629->Q (.int m)
def zp9:DSp:=λ ds Q=>∃ n:Int,ds=[.int n]/\0<=n/\∀ g:D,Fit 1 g->Q g
def PF (p:Pp):Prop:=Fit 1 p.a/\Fit 1 p.b/\Fit 1 p.c
theorem fitG {s:Str} (hs:s.cps.all (· < 0x110000)=true) (l:List Int):Fit 1 (.tuple (.str s :: l.map .int)):=Fit.tup λ d hd=>by
 rcases List.mem_cons.mp hd with rfl|z
 ·exact Fit.str hs
 ·obtain ⟨i,_,rfl⟩:=List.mem_map.mp z
  exact Fit.int i
def VsN (vs:List Va):Prop:=∀ v∈vs,Fit 0 (.str v.nm)
def zx7:DSp:=λ ds Q=>∃ i,ds=[.int i]/\Q (.bool true)
def zl9:DSp:=λ ds Q=>∃ (c:Int) (n:Nat),ds=[.int c,nI n]/\2<=n/\n<=12/\∀ p:Pp,p.u < n->p.v < n->PF p->Q p.d
def zv9:DSp:=λ ds Q=>∃ (n r:Int),ds=[.int n,.int r]/\0<=n/\0<=r/\r<=1000000000000/\∀ f:Int,0<=f->f<=r->Q (.int f)
def VsOk (vs:List Va):Prop:=∀ v∈vs,0<=v.fill/\v.fill<=v.room/\v.room<=1000000000000
def zna:DSp:=λ ds Q=>∃ (ns:List Int) (n:Nat),ds=[.list (ns.map .int),nI n]/\1<=n/\n<=12/\∀ vs:List Va,vs.length=n->VsOk vs->VsN vs->Q (.list (vs.map Va.d))
def zy7:DSp:=λ ds Q=>∃ (ns:List Int) (vs:List Va),ds=[.list (ns.map .int),.list (vs.map Va.d)]/\1<=vs.length/\vs.length<=12/\VsOk vs/\∀ ws:List Int,ws.length=vs.length->(∀ (k:Nat) v y,vs[k]?=some v->ws[k]?=some y->0<=y/\y<=v.room)->Q (.list (ws.map .int))
section
variable {P:Program} {w:World} {K:Fg} {mg:Str->Option Value} {base:Heap}
theorem zt3:FnScope ["script", "k"] ["script", "k"] (zf0 zp2):=by walk_at "sc"
theorem zn7 (M:Md K mg) (T:TopDef K "_law_cell_at" zp2) (jM:mg "len"=none):Def P w K mg base "_law_cell_at" 1 ["script", "k"] (spD K ze2):=by
 refine zo5 M T zt3 (λ _ _ _ _ _ _ us hl=>by obtain ⟨_,_,rfl⟩:=ar2 hl;rfl) (zbe λ ds Qd h=>by obtain ⟨_,_,rfl,_⟩:=h;rfl) (zp4 ?_)
 intro f cdv A outer s H E hr
 have nd:=zt3.nd
 refine ⟨_,_,(zd0 (zo8 (zv0 zc01 (pv 1) (zy0 (zr2 (K:=K) rfl) rfl jM zyb (za0 (pv 0) zh0)) (zn1 _)) (zj0 (zc1 (pix w K hr (pv 0) (pv 1)))) zm1)
   (zj0 (zc1 ze0))),(zl0 (zn8 (zu0 (zm0 r_lt (zb0 1) (RfE.v (zee zgm (zz0 (zb0 0) zi2))))) (zj1 (RfE.c (zm0 r_ix (zb0 0) (zb0 1)))) zl1)
   (zj1 (RfE.c ze1))),?_⟩
 rintro ds Qd ⟨ns,k,rfl,h0,q⟩
 walk_at "ds"
 refine zbh ?_
 walk_at "dd"
 rw [List.length_map]
 refine two (λ h=>⟨_,zys h0 h,q⟩) λ h=>?_
 have e:zb9 ns k=0:=by unfold zb9;rw [List.getElem?_eq_none (by lia)];rfl
 rw [e] at q;exact q
theorem zg5:FnScope ["cell", "k"] ["cell", "k"] (zf0 zz3):=by walk_at "sc"
theorem zoa (M:Md K mg) (T:TopDef K "_law_mixed" zz3) :Def P w K mg base "_law_mixed" 1 ["cell", "k"] (spD K zl3):=by
 refine zo5 M T zg5 (λ _ _ _ _ _ _ us hl=>by obtain ⟨_,_,rfl⟩:=ar2 hl;rfl) (zbe λ ds Qd h=>by obtain ⟨_,_,rfl,_⟩:=h;rfl) (zp4 ?_)
 intro f cdv A outer s H E hr
 have nd:=zg5.nd
 refine ⟨_,_,(zj0 (zc1 (zw0 zk1 (zw0 zj6 (zw0 (zt0 (K:=K) rfl) (zw0 zk1 (pv 0) ze0) ze0) (zw0 (zt0 (K:=K) rfl) ze0 (zw0 zj6 (zw0 zj6 ze0 (pv 1)) (pv 1)))) ze0))),(zj1 (RfE.c (zm0 zq4 (RfE.v (zm0 zlo (RfE.v (zm0 zj4 (RfE.v (zm0 zq4 (zb0 0) rvi)) rvi)) (RfE.v (zm0 zj4 rvi (RfE.v (zm0 zlo (RfE.v (zm0 zlo rvi (zb0 1))) (zb0 1))))))) rvi))),?_⟩
 rintro ds Qd ⟨c,k,rfl,hk,q⟩
 walk_at "ds"
 walk_at "dd"
 exact ⟨.inl ⟨by decide,by decide⟩,.inl ⟨by lia,by lia⟩,.inl ⟨by lia,by lia⟩,q _ (Int.emod_nonneg _ (by decide)) (Int.emod_lt_of_pos _ (by decide))⟩
theorem zm6:FnScope ["number"] ["number"] (zf0 zv4):=by walk_at "sc"
theorem zeb (M:Md K mg) (T:TopDef K "_law_gate" zv4) :Def P w K mg base "_law_gate" 1 ["number"] (spD K zp9):=by
 refine zo5 M T zm6 (λ _ _ _ _ _ _ us hl=>by obtain ⟨_,rfl⟩:=ar1 hl;rfl) (zbe λ ds Qd h=>by obtain ⟨_,rfl,_⟩:=h;rfl) (zp4 ?_)
 intro f cdv A outer s H E hr
 have nd:=zm6.nd
 refine ⟨_,_,(zd0 (zo8 (zv0 (zc7 (K:=K) rfl (Room.units hr)) (zw0 zk1 (pv 0) ze0) ze0 (zn1 _)) (zj0 (zc1 (zb2 (za0 zug (za0 (zw0 (zt0 (K:=K) rfl) ze0 (zw0 zk1 (zw0 zv1 (pv 0) ze0) (zw0 zmg ze0 ze0))) zh0))))) zm1)
   (zd0 (zo8 (zv0 (zc7 (K:=K) rfl (Room.units hr)) (zw0 zk1 (pv 0) ze0) ze0 (zn1 _)) (zj0 (zc1 (zb2 (za0 zug (za0 (zw0 (zt0 (K:=K) rfl) ze0 (zw0 zk1 (zw0 zv1 (pv 0) ze0) (zw0 zmg ze0 ze0))) (za0 (zw0 zk1 (zw0 zv1 (pv 0) ze0) ze0) zh0)))))) zm1)
   (zj0 (zc1 (zb2 (za0 zug (za0 (zw0 (zt0 (K:=K) rfl) ze0 (zw0 zk1 (zw0 zv1 (pv 0) ze0) (zw0 zmg ze0 ze0))) (za0 (zw0 (zt0 (K:=K) rfl) ze0 (zw0 zk1 (zw0 zv1 (pv 0) ze0) (zw0 zmg ze0 ze0))) (za0 (zw0 (zt0 (K:=K) rfl) ze0 (zw0 zk1 (zw0 zv1 (pv 0) ze0) ze0)) zh0))))))))),(zl0 (zn8 (zu0 (zt4 q_eq (RfV.h (RfE.v (zm0 zq4 (zb0 0) rvi))) (RfV.h rvi))) (zj1 (RfE.c (zy4 (zc0 zke (zc0 (zm0 zj4 rvi (RfE.v (zm0 zq4 (RfE.v (zm0 zif (zb0 0) rvi)) (RfE.v (zm0 zyp rvi rvi))))) zn0))))) zl1)
   (zl0 (zn8 (zu0 (zt4 q_eq (RfV.h (RfE.v (zm0 zq4 (zb0 0) rvi))) (RfV.h rvi))) (zj1 (RfE.c (zy4 (zc0 zke (zc0 (zm0 zj4 rvi (RfE.v (zm0 zq4 (RfE.v (zm0 zif (zb0 0) rvi)) (RfE.v (zm0 zyp rvi rvi))))) (zc0 (zm0 zq4 (RfE.v (zm0 zif (zb0 0) rvi)) rvi) zn0)))))) zl1)
   (zj1 (RfE.c (zy4 (zc0 zke (zc0 (zm0 zj4 rvi (RfE.v (zm0 zq4 (RfE.v (zm0 zif (zb0 0) rvi)) (RfE.v (zm0 zyp rvi rvi))))) (zc0 (zm0 zj4 rvi (RfE.v (zm0 zq4 (RfE.v (zm0 zif (zb0 0) rvi)) (RfE.v (zm0 zyp rvi rvi))))) (zc0 (zm0 zj4 rvi (RfE.v (zm0 zq4 (RfE.v (zm0 zif (zb0 0) rvi)) rvi))) zn0))))))))),?_⟩
 rintro ds Qd ⟨n,rfl,hn,q⟩
 walk_at "ds"
 refine zg0 λ J hJ=>?_
 walk_at "dd"
 refine two (λ _=>⟨by decide,q _ (fitG (by decide +kernel) [_])⟩) λ _=>hJ _ ?_
 clear hJ
 refine zg0 λ J hJ=>?_
 walk_at "dd"
 refine two (λ _=>⟨by decide,q _ (fitG (by decide +kernel) [_,_])⟩) λ _=>hJ _ ?_
 clear hJ
 walk_at "dd"
 exact ⟨by decide,by decide,q _ (fitG (by decide +kernel) [_,_,_])⟩
theorem zb5:FnScope ["found"] ["found"] (zf0 zu3):=by walk_at "sc"
theorem zg9 (M:Md K mg) (T:TopDef K "_law_whole" zu3) (kt:Kit K) (qD:mg "bool"=none) (qH:mg "int"=none) (jH:mg "isinstance"=none):Def P w K mg base "_law_whole" 1 ["found"] (spD K zx7):=by
 refine zo5 M T zb5 (λ _ _ _ _ _ _ us hl=>by obtain ⟨_,rfl⟩:=ar1 hl;rfl) (zbe λ ds Qd h=>by obtain ⟨_,rfl,_⟩:=h;rfl) (zp4 ?_)
 intro f cdv A outer s H E hr
 have nd:=zb5.nd
 refine ⟨_,_,(zj0 (zc1 (zfy (zy0 (zxb (K:=K) rfl) rfl jH zd3 (za0 (pv 0) (za0 (zyf (v:=.ty "int") rfl qH zyx rfl) zh0))) (zcv (zdw (zy0 (zxb (K:=K) rfl) rfl jH zd3 (za0 (pv 0) (za0 (zyf (v:=.ty "bool") rfl qD zot rfl) zh0)))))))),(zj1 (RfE.c (zct (zly kt (by simp) (zb0 0)) (znt (zly kt (by simp) (zb0 0)))))),?_⟩
 rintro ds Qd ⟨i,rfl,q⟩
 walk_at "ds"
 walk_at "dd"
 exact ⟨λ _=>trivial,λ _=>trivial,q⟩
theorem zz6:FnScope ["number", "room"] ["number", "room"] (zf0 zn4):=by walk_at "sc"
theorem zwb (M:Md K mg) (T:TopDef K "_law_fill" zn4) :Def P w K mg base "_law_fill" 1 ["number", "room"] (spD K zv9):=by
 refine zo5 M T zz6 (λ _ _ _ _ _ _ us hl=>by obtain ⟨_,_,rfl⟩:=ar2 hl;rfl) (zbe λ ds Qd h=>by obtain ⟨_,_,rfl,_⟩:=h;rfl) (zp4 ?_)
 intro f cdv A outer s H E hr
 have nd:=zz6.nd
 refine ⟨_,_,(zd0 (zo8 (zv0 (zc7 (K:=K) rfl (Room.units hr)) (zw0 zk1 (pv 0) ze0) ze0 (zn1 _)) (zj0 (zc1 ze0)) zm1)
   (zd0 (zo8 (zv0 (zc7 (K:=K) rfl (Room.units hr)) (zw0 zk1 (pv 0) ze0) ze0 (zn1 _)) (zj0 (zc1 (pv 1))) zm1)
   (zj0 (zc1 (zw0 zk1 (zw0 zv1 (pv 0) ze0) (zw0 (zt0 (K:=K) rfl) (pv 1) ze0)))))),(zl0 (zn8 (zu0 (zt4 q_eq (RfV.h (RfE.v (zm0 zq4 (zb0 0) rvi))) (RfV.h rvi))) (zj1 (RfE.c ze1)) zl1)
   (zl0 (zn8 (zu0 (zt4 q_eq (RfV.h (RfE.v (zm0 zq4 (zb0 0) rvi))) (RfV.h rvi))) (zj1 (RfE.c (zk0 1))) zl1)
   (zj1 (RfE.c (zm0 zq4 (RfE.v (zm0 zif (zb0 0) rvi)) (RfE.v (zm0 zj4 (zb0 1) rvi))))))),?_⟩
 rintro ds Qd ⟨n,r,rfl,hn,hr0,hr1,q⟩
 walk_at "ds"
 refine zg0 λ J hJ=>?_
 walk_at "dd"
 refine two (λ _=>q 0 (by lia) (by lia)) λ _=>hJ _ ?_
 clear hJ
 refine zg0 λ J hJ=>?_
 walk_at "dd"
 refine two (λ _=>q r (by lia) (by lia)) λ _=>hJ _ ?_
 clear hJ
 walk_at "dd"
 have:=Int.emod_nonneg (n / 3) (b:=r+1) (by lia)
 have:=Int.emod_lt_of_pos (n / 3) (b:=r+1) (by lia)
 exact ⟨by lia,q _ (by lia) (by lia)⟩
theorem zw6:FnScope ["cell", "many", "here", "there"] ["cell", "many"] (zf0 zw4):=by walk_at "sc"
theorem zbc (M:Md K mg) (T:TopDef K "_law_pipe" zw4) (jF:Def P w K mg base "_law_mixed" 1 ["cell", "k"] (spD K zl3)) (kD:Def P w K mg base "_law_gate" 1 ["number"] (spD K zp9)):Def P w K mg base "_law_pipe" 2 ["cell", "many"] (spD K zl9):=by
 refine zo5 M T zw6 (λ _ _ _ _ _ _ us hl=>by obtain ⟨_,_,rfl⟩:=ar2 hl;rfl) (zbe λ ds Qd h=>by obtain ⟨_,_,rfl,_⟩:=h;rfl) (zp4 ?_)
 intro f cdv A outer s H E hr
 have nd:=zw6.nd
 refine ⟨_,_,(zd0 (pset 2 nd (zw0 zk1 (zo0 jF (rmn hr) rfl (za0 (pv 0) (za0 ze0 zh0))) (pv 1)))
   (zd0 (pset 3 nd (zw0 zk1 (zw0 (zt0 (K:=K) rfl) (zw0 (zt0 (K:=K) rfl) (pv 2) ze0) (zw0 zk1 (zo0 jF (rmn hr) rfl (za0 (pv 0) (za0 ze0 zh0))) (zw0 zof (pv 1) ze0))) (pv 1)))
   (zd0 (zo8 (PW.pt (zii (zv0 zho (zw0 zk1 (zo0 jF (rmn hr) rfl (za0 (pv 0) (za0 ze0 zh0))) ze0) ze0 (zn1 _)) (zmd (zv0 zho (pv 2) (pv 3) (zn1 _))))) (zj0 (zc1 (zb2 (za0 (pv 3) (za0 (pv 2) (za0 (zw0 (zt0 (K:=K) rfl) ze0 (zw0 zk1 (pv 0) ze0)) (za0 (zw0 zk1 (zw0 zv1 (pv 0) ze0) ze0) (za0 (zo0 kD (rmn hr) rfl (za0 (zo0 jF (rmn hr) rfl (za0 (pv 0) (za0 ze0 zh0))) zh0)) zh0)))))))) zm1)
   (zj0 (zc1 (zb2 (za0 (pv 2) (za0 (pv 3) (za0 (zw0 (zt0 (K:=K) rfl) ze0 (zw0 zk1 (pv 0) ze0)) (za0 (zw0 zk1 (zw0 zv1 (pv 0) ze0) ze0) (za0 (zo0 kD (rmn hr) rfl (za0 (zo0 jF (rmn hr) rfl (za0 (pv 0) (za0 ze0 zh0))) zh0)) zh0))))))))))),(zl0 (zh1 (zm0 zq4 (RfE.v (zx0 (zc0 (zk0 0) (zc0 ze1 zn0)))) (zb0 1)) (rgn 2))
   (zl0 (zh1 (zm0 zq4 (RfE.v (zm0 zj4 (RfE.v (zm0 zj4 (zb0 2) rvi)) (RfE.v (zm0 zq4 (RfE.v (zx0 (zc0 (zk0 0) (zc0 ze1 zn0)))) (RfE.v (zm0 zit (zb0 1) rvi)))))) (zb0 1)) (rgn 3))
   (zl0 (zn8 (zhi (zu0 (zm0 r_gt (RfE.v (zm0 zq4 (RfE.v (zx0 (zc0 (zk0 0) (zc0 ze1 zn0)))) rvi)) rvi)) (zu0 (zm0 r_gt (zb0 2) (zb0 3)))) (zj1 (RfE.c (zy4 (zc0 (zk0 3) (zc0 (zk0 2) (zc0 (zm0 zj4 rvi (RfE.v (zm0 zq4 (zb0 0) rvi))) (zc0 (zm0 zq4 (RfE.v (zm0 zif (zb0 0) rvi)) rvi) (zc0 (zx0 (zc0 (zx0 (zc0 (zk0 0) (zc0 ze1 zn0))) zn0)) zn0)))))))) zl1)
   (zj1 (RfE.c (zy4 (zc0 (zk0 2) (zc0 (zk0 3) (zc0 (zm0 zj4 rvi (RfE.v (zm0 zq4 (zb0 0) rvi))) (zc0 (zm0 zq4 (RfE.v (zm0 zif (zb0 0) rvi)) rvi) (zc0 (zx0 (zc0 (zx0 (zc0 (zk0 0) (zc0 ze1 zn0))) zn0)) zn0))))))))))),?_⟩
 rintro ds Qd ⟨c,n,rfl,hn,hn2,q⟩
 walk_at "ds"
 refine zg0 λ J hJ=>?_
 walk_at "dd"
 refine ⟨c,1,rfl,by lia,λ m m0 m1=>?_⟩
 walk_at "dd"
 obtain ⟨u,eu,hu⟩:=zbf m (n:=n) (by lia)
 rw [eu]
 refine ⟨by lia,hJ _ ?_⟩
 clear hJ
 refine zg0 λ J hJ=>?_
 walk_at "dd"
 refine ⟨c,2,rfl,by lia,λ m' m0' m1'=>?_⟩
 walk_at "dd"
 obtain ⟨v,ev,hv⟩:=zbf ((u:Int)+1+m' % ((n:Int) - 1)) (n:=n) (by lia)
 rw [ev]
 refine ⟨by lia,by lia,hJ _ ?_⟩
 clear hJ
 refine zg0 λ J hJ=>?_
 walk_at "dd"
 refine ⟨c,3,rfl,by lia,λ m3 m30 m31=>?_⟩
 walk_at "dd"
 refine two (λ _=>two (λ _=>⟨c,4,rfl,by lia,λ m4 m40 m41=>⟨m4,rfl,m40,λ g hg=>q ⟨v,u,_,_,g⟩ hv hu ⟨Fit.int _,Fit.int _,hg⟩⟩⟩) λ _=>hJ _ ?_) λ _=>hJ _ ?_
 ·clear hJ
  walk_at "dd"
  exact ⟨c,4,rfl,by lia,λ m4 m40 m41=>⟨m4,rfl,m40,λ g hg=>q ⟨u,v,_,_,g⟩ hu hv ⟨Fit.int _,Fit.int _,hg⟩⟩⟩
 ·clear hJ
  walk_at "dd"
  exact ⟨c,4,rfl,by lia,λ m4 m40 m41=>⟨m4,rfl,m40,λ g hg=>q ⟨u,v,_,_,g⟩ hu hv ⟨Fit.int _,Fit.int _,hg⟩⟩⟩
theorem za6:FnScope ["script", "many", "vats", "k", "cell", "room"] ["script", "many"] (zf0 zz4):=by walk_at "sc"
theorem zfc (M:Md K mg) (T:TopDef K "_law_vats" zz4) (jJ:mg "range"=none) (jG:Def P w K mg base "_law_cell_at" 1 ["script", "k"] (spD K ze2)) (jF:Def P w K mg base "_law_mixed" 1 ["cell", "k"] (spD K zl3)) (kL:Def P w K mg base "_law_fill" 1 ["number", "room"] (spD K zv9)):Def P w K mg base "_law_vats" 2 ["script", "many"] (spD K zna):=by
 refine zo5 M T za6 (λ _ _ _ _ _ _ us hl=>by obtain ⟨_,_,rfl⟩:=ar2 hl;rfl) (zbe λ ds Qd h=>by obtain ⟨_,_,rfl,_⟩:=h;rfl) (zp4 ?_)
 intro f cdv A outer s H E hr
 have nd:=za6.nd
 refine ⟨_,_,(zd0 (pset 2 nd (zv2 zh0))
   (zd0 (zxa PassesOwn.never rfl (zu5 rfl jJ (za0 (pv 1) zh0)) (pgn 3 nd) (zd0 (pset 4 nd (zo0 jG (rmn hr) rfl (za0 (pv 0) (za0 (pv 3) zh0))))
   (zd0 (pset 5 nd (zw0 zk1 (zw0 (zt0 (K:=K) rfl) (zw0 zv1 (pv 4) ze0) (zo0 jF (rmn hr) rfl (za0 (pv 4) (za0 (zw0 (zt0 (K:=K) rfl) ze0 (pv 3)) zh0)))) (zw0 (zt0 (K:=K) rfl) (zw0 zmg ze0 ze0) ze0)))
   (zj0 (zf2 (zm7 (K:=K) rfl PySem.F.plainAttrs_list PySem.F.slot_list_append PySem.F.type_list_append zq2 (pv 2) (za0 (zb2 (za0 (zw0 (zt0 (K:=K) rfl) zug (pix w K hr zug (pv 3))) (za0 (pv 5) (za0 (zo0 kL (rmn hr) rfl (za0 (zo0 jF (rmn hr) rfl (za0 (pv 4) (za0 (zw0 (zt0 (K:=K) rfl) ze0 (pv 3)) zh0))) (za0 (pv 5) zh0))) zh0)))) zh0)))))))
   (zj0 (zc1 (pv 2))))),(zl0 (zy3 (RfF.c (zq5 zn0)))
   (zl0 (zea (ztc (zc0 (zk0 1) zn0)) (rgn 3) (zl0 (zh1 (zx0 (zc0 (zk0 0) (zc0 (zk0 3) zn0))) (rgn 4))
   (zl0 (zh1 (zm0 zq4 (RfE.v (zm0 zj4 (RfE.v (zm0 zif (zb0 4) rvi)) (RfE.v (zx0 (zc0 (zk0 4) (zc0 (zm0 zj4 rvi (zb0 3)) zn0)))))) (RfE.v (zm0 zj4 (RfE.v (zm0 zyp rvi rvi)) rvi))) (rgn 5))
   (zg2 (zeh zde (zr0 2) (zc0 (zy4 (zc0 (zm0 zj4 (RfE.v zke) (RfE.v (zm0 r_ix (RfE.v zke) (zb0 3)))) (zc0 (zk0 5) (zc0 (zx0 (zc0 (zx0 (zc0 (zk0 4) (zc0 (zm0 zj4 rvi (zb0 3)) zn0))) (zc0 (zk0 5) zn0))) zn0)))) zn0))))))
   (zf8 (i:=2)))),?_⟩
 rintro ds Qd ⟨ns,n,rfl,h1,h2,q⟩
 walk_at "ds"
 walk_at "dn"
 refine zg0 λ J hJ=>?_
 walk_at "dd"
 rw [Int.toNat_natCast]
 unfold rngD
 refine ⟨by lia,by lia,zo6 (λ i δ=>∃ (vs:List Va) (s3 s4 s5:Sl),vs.length=i/\(VsOk vs/\VsN vs)/\δ=[.sh (.list (ns.map .int)),.sh (nI n),.ow (.li (vs.map Va.d)),s3,s4,s5]) ⟨[],.un,.un,.un,rfl,⟨λ v hv=>by simp at hv,λ v hv=>by simp at hv⟩,rfl⟩ ?_ ?_⟩
 ·rintro i x δ hx ⟨vs,s3,s4,s5,hl,⟨ok,okn⟩,rfl⟩
  obtain ⟨hi,hi2⟩:=List.getElem?_eq_some_iff.mp hx
  simp at hi hi2
  subst hi2
  rw [show (0:Int)+(i:Int)=(i:Int) by lia]
  walk_at "dd"
  refine zg0 λ J hJ=>?_
  walk_at "dd"
  refine ⟨ns,_,rfl,by lia,hJ _ ?_⟩
  clear hJ
  generalize zb9 ns (i:Int)=c
  refine zg0 λ J hJ=>?_
  walk_at "dd"
  refine ⟨c,5+i,by simp [nI],by lia,λ m m0 m1=>?_⟩
  walk_at "dd"
  have r0:=Int.emod_nonneg (c / 3+m) (b:=1000000000001) (by decide)
  have r1:=Int.emod_lt_of_pos (c / 3+m) (b:=1000000000001) (by decide)
  generalize (c / 3+m) % 1000000000001=r at r0 r1
  refine ⟨by decide,hJ _ ?_⟩
  clear hJ
  obtain ⟨ch,hch,hlt⟩:=zh21 (i:=(i:Int)) (by lia) (by lia)
  walk_at "dd"
  refine ⟨l12,_,hch,(by show 3+1<=16777216;lia),c,17+i,by simp [nI],by lia,λ m2 m20 m21=>⟨m2,r,rfl,m20,r0,by lia,λ f f0 f1=>⟨by rw [List.length_map];lia,vs++[⟨_,r,f⟩],_,_,_,by simp [hl],⟨λ v hv=>?_,λ v hv=>?_⟩,by rw [List.map_append];rfl⟩⟩⟩
  ·rcases List.mem_append.mp hv with z|z
   ·exact ok v z
   ·simp at z;subst z;exact ⟨f0,f1,by show r<=_;lia⟩
  ·rcases List.mem_append.mp hv with z|z
   ·exact okn v z
   ·simp at z;subst z
    refine Fit.str ?_
    show (Str.ofString "vat"++(⟨#[ch]⟩:Str)).cps.all (λ x=>decide (x < 1114112))=true
    rw [show (Str.ofString "vat"++(⟨#[ch]⟩:Str)).cps=(Str.ofString "vat").cps++#[ch] from rfl,Array.all_append,show (Str.ofString "vat").cps.all (λ x=>decide (x < 1114112))=true by decide +kernel]
    simp [hlt]
 ·rintro δ ⟨vs,s3,s4,s5,hl,⟨ok,okn⟩,rfl⟩
  rw [List.length_range] at hl
  refine hJ _ ?_
  clear hJ
  walk_at "dd"
  exact q vs hl ok okn
theorem zf5:FnScope ["script", "vats", "wants", "k", "number", "want"] ["script", "vats"] (zf0 za4):=by walk_at "sc"
theorem zs9 (M:Md K mg) (T:TopDef K "_law_wants" za4) (jM:mg "len"=none) (qB:mg "min"=none) (jJ:mg "range"=none) (jG:Def P w K mg base "_law_cell_at" 1 ["script", "k"] (spD K ze2)) (jF:Def P w K mg base "_law_mixed" 1 ["cell", "k"] (spD K zl3)):Def P w K mg base "_law_wants" 2 ["script", "vats"] (spD K zy7):=by
 refine zo5 M T zf5 (λ _ _ _ _ _ _ us hl=>by obtain ⟨_,_,rfl⟩:=ar2 hl;rfl) (zbe λ ds Qd h=>by obtain ⟨_,_,rfl,_⟩:=h;rfl) (zp4 ?_)
 intro f cdv A outer s H E hr
 have nd:=zf5.nd
 refine ⟨_,_,(zd0 (pset 2 nd (zv2 zh0))
   (zd0 (zxa PassesOwn.never rfl (zu5 rfl jJ (za0 (zy0 (zr2 (K:=K) rfl) rfl jM zyb (za0 (pv 1) zh0)) zh0)) (pgn 3 nd) (zd0 (pset 4 nd (zo0 jF (rmn hr) rfl (za0 (zo0 jG (rmn hr) rfl (za0 (pv 0) (za0 (zw0 (zt0 (K:=K) rfl) (pv 3) ze0) zh0))) (za0 (zw0 (zt0 (K:=K) rfl) ze0 (pv 3)) zh0))))
   (zd0 (pset 5 nd ze0)
   (zd0 (zo8 (zv0 (zc7 (K:=K) rfl (Room.units hr)) (zw0 zk1 (pv 4) ze0) ze0 (zn1 _)) (zj0 (pset 5 nd (zy0 (zpi rfl) rfl qB zps (za0 (pix w K hr (pix w K hr (pv 1) (pv 3)) ze0) (za0 (pix w K hr (pix w K hr (pv 1) (zw0 zk1 (zw0 (zt0 (K:=K) rfl) (pv 3) ze0) (zy0 (zr2 (K:=K) rfl) rfl jM zyb (za0 (pv 1) zh0)))) ze0) zh0))))) zm1)
   (zd0 (zo8 (zv0 (zc7 (K:=K) rfl (Room.units hr)) (zw0 zk1 (pv 4) ze0) ze0 (zn1 _)) (zj0 (pset 5 nd (zw0 zk1 (zw0 zv1 (pv 4) ze0) (zw0 (zt0 (K:=K) rfl) (pix w K hr (pix w K hr (pv 1) (pv 3)) ze0) ze0)))) zm1)
   (zj0 (zf2 (zm7 (K:=K) rfl PySem.F.plainAttrs_list PySem.F.slot_list_append PySem.F.type_list_append zq2 (pv 2) (za0 (pv 5) zh0)))))))))
   (zj0 (zc1 (pv 2))))),(zl0 (zy3 (RfF.c (zq5 zn0)))
   (zl0 (zea (ztc (zc0 (zee zgm (zz0 (zb0 1) zi2)) zn0)) (rgn 3) (zl0 (zh1 (zx0 (zc0 (zx0 (zc0 (zk0 0) (zc0 (zm0 zj4 (zb0 3) rvi) zn0))) (zc0 (zm0 zj4 rvi (zb0 3)) zn0))) (rgn 4))
   (zl0 (zh1 ze1 (rgn 5))
   (zl0 (zn8 (zu0 (zt4 q_eq (RfV.h (RfE.v (zm0 zq4 (zb0 4) rvi))) (RfV.h rvi))) (zh1 (zee ziy (zz0 (RfE.v (zm0 r_ix (RfE.v (zm0 r_ix (zb0 1) (zb0 3))) rvi)) (zz0 (RfE.v (zm0 r_ix (RfE.v (zm0 r_ix (zb0 1) (RfE.v (zm0 zq4 (RfE.v (zm0 zj4 (zb0 3) rvi)) (RfE.v (zee zgm (zz0 (zb0 1) zi2))))))) rvi)) zi2))) (rgn 5)) zl1)
   (zl0 (zn8 (zu0 (zt4 q_eq (RfV.h (RfE.v (zm0 zq4 (zb0 4) rvi))) (RfV.h rvi))) (zh1 (zm0 zq4 (RfE.v (zm0 zif (zb0 4) rvi)) (RfE.v (zm0 zj4 (RfE.v (zm0 r_ix (RfE.v (zm0 r_ix (zb0 1) (zb0 3))) rvi)) rvi))) (rgn 5)) zl1)
   (zg2 (zeh zde (zr0 2) (zc0 (zk0 5) zn0))))))))
   (zf8 (i:=2)))),?_⟩
 rintro ds Qd ⟨ns,vs,rfl,h1,h2,ok,q⟩
 walk_at "ds"
 walk_at "dn"
 refine zg0 λ J hJ=>?_
 walk_at "dd"
 rw [List.length_map,Int.toNat_natCast]
 unfold rngD
 refine ⟨by lia,by lia,zo6 (λ i δ=>∃ (ws:List Int) (s3 s4 s5:Sl),ws.length=i/\(∀ (k:Nat) v y,vs[k]?=some v->ws[k]?=some y->0<=y/\y<=v.room)/\δ=[.sh (.list (ns.map .int)),.sh (.list (vs.map Va.d)),.ow (.li (ws.map .int)),s3,s4,s5]) ⟨[],.un,.un,.un,rfl,λ k v y _ hy=>by simp at hy,rfl⟩ ?_ ?_⟩
 ·rintro i x δ hx ⟨ws,s3,s4,s5,hl,okw,rfl⟩
  obtain ⟨hi,hi2⟩:=List.getElem?_eq_some_iff.mp hx
  simp at hi hi2
  subst hi2
  rw [show (0:Int)+(i:Int)=(i:Int) by lia]
  walk_at "dd"
  refine zg0 λ J hJ=>?_
  walk_at "dd"
  refine ⟨ns,_,rfl,by lia,?_⟩
  refine ⟨zb9 ns ((i:Int)+2),31+i,by simp [nI],by lia,λ m m0 m1=>hJ _ ?_⟩
  clear hJ
  walk_at "dn"
  have gv:atI (vs.map Va.d) ((i:Nat):Int)=some (.tuple [.str vs[i].nm,.int vs[i].room,.int vs[i].fill]):=zk7 (by lia) (by rw [Int.toNat_natCast,List.getElem?_map,List.getElem?_eq_getElem hi];rfl)
  obtain ⟨j,ej,hj⟩:=zbf ((i:Int)+1) (n:=vs.length) (by lia)
  have gj:atI (vs.map Va.d) ((j:Nat):Int)=some (.tuple [.str vs[j].nm,.int vs[j].room,.int vs[j].fill]):=zk7 (by lia) (by rw [Int.toNat_natCast,List.getElem?_map,List.getElem?_eq_getElem hj];rfl)
  obtain ⟨a1,a2,a3⟩:=ok vs[i] (List.getElem_mem hi)
  obtain ⟨b1,b2,b3⟩:=ok vs[j] (List.getElem_mem hj)
  refine zmb (λ δ=>∃ y:Int,0<=y/\y<=vs[i].room/\δ=[.sh (.list (ns.map .int)),.sh (.list (vs.map Va.d)),.ow (.li (ws.map .int)),.sh (nI i),.sh (.int m),.sh (.int y)]) ?_ ?_
  ·walk_at "dd"
   refine two (λ _=>⟨_,gv,?_⟩) λ _=>⟨0,by lia,by lia,rfl⟩
   walk_at "dd"
   rw [List.length_map,ej]
   refine ⟨_,rfl,by lia,_,gj,?_⟩
   walk_at "dd"
   refine ⟨_,rfl,_,?_,?_,rfl⟩ <;> split <;> lia
  rintro δ ⟨y,y0,y1,rfl⟩
  refine zmb (λ δ=>∃ y:Int,0<=y/\y<=vs[i].room/\δ=[.sh (.list (ns.map .int)),.sh (.list (vs.map Va.d)),.ow (.li (ws.map .int)),.sh (nI i),.sh (.int m),.sh (.int y)]) ?_ ?_
  ·walk_at "dd"
   refine two (λ _=>⟨_,gv,?_⟩) λ _=>⟨y,y0,y1,rfl⟩
   walk_at "dd"
   have z0:=Int.emod_nonneg (m / 3) (b:=vs[i].room+1) (by lia)
   have z1:=Int.emod_lt_of_pos (m / 3) (b:=vs[i].room+1) (by lia)
   exact ⟨_,rfl,by lia,_,by lia,by lia,rfl⟩
  rintro δ ⟨y,y0,y1,rfl⟩
  walk_at "dd"
  refine ⟨by rw [List.length_map];lia,ws++[y],_,_,_,by simp [hl],λ k v y2 hv hy=>?_,by rw [List.map_append];rfl⟩
  by_cases hk:k < ws.length
  ·rw [List.getElem?_append_left hk] at hy;exact okw k v y2 hv hy
  ·rw [List.getElem?_append_right (by lia)] at hy
   have:k=i:=by
    have:=(List.getElem?_eq_some_iff.mp hy).1
    simp at this;lia
   subst this
   rw [hl,Nat.sub_self] at hy
   simp at hy
   rw [List.getElem?_eq_getElem hi] at hv;cases hv
   lia
 ·rintro δ ⟨ws,s3,s4,s5,hl,okw,rfl⟩
  rw [List.length_range] at hl
  refine hJ _ ?_
  clear hJ
  walk_at "dd"
  exact q ws hl okw
end
theorem YOk.of {vs:List Va} {ps:List Pp} {ws:List Int} (h1:1<=vs.length) (h2:vs.length<=12) (hp:ps.length<=24) (ok:VsOk vs) (hw:ws.length=vs.length) (okw:∀ (k:Nat) v y,vs[k]?=some v->ws[k]?=some y->0<=y/\y<=v.room) (hb:∀ p∈ps,p.u < vs.length/\p.v < vs.length):YOk vs ps ws :=
 ⟨h1,h2,hp,hw,λ v hv=>⟨(ok v hv).1,(ok v hv).2.1⟩,okw,hb⟩
section
variable {P:Program} {w:World} {K:Fg} {mg:Str->Option Value} {base:Heap} {jA:Addr}
theorem zxp:FnScope ["script", "many", "vats", "pipes", "wants", "handed", "found", "lack", "vat", "pipe"] ["script"] (zf0 zdo):=by walk_at "sc"
theorem zfm (kt:Kit K) (jH:mg "isinstance"=none) (jZ:mg "list"=none) (qI:mg "set"=none) (jW:mg "sorted"=none) (kZ:Def P w K mg base "cut_off" 5 ["yard", "wants"] (spD K zzc)) (jG:Def P w K mg base "_law_cell_at" 1 ["script", "k"] (spD K ze2)) (kF:Def P w K mg base "_law_whole" 1 ["found"] (spD K zx7)) (kM:Def P w K mg base "_law_pipe" 2 ["cell", "many"] (spD K zl9)) (kO:Def P w K mg base "_law_vats" 2 ["script", "many"] (spD K zna)) (kG:Def P w K mg base "_law_wants" 2 ["script", "vats"] (spD K zy7)) :
  ∀ (f:Addr) (cdv:Value) (A:Around) (outer:List Env) (s:Shared) (H:Hp) (E:XK),Room 5 (A.deeper (envOfC "law" (zf0 zdo) s.heap.objs.size f cdv)) ->
   ∃ t d,PSs (cxOf CX0 P w K mg base ["script", "many", "vats", "pipes", "wants", "handed", "found", "lack", "vat", "pipe"] "law" (zf0 zdo) f cdv A outer s H E).nox (zs1 zdo) t/\RfS K t d/\∀ (ns:List Int) (Qd:D->Prop),ns.length<=63->Qd (.bool true)->d { nx:=λ _=>Qd .none,rt:=rD Qd } (zy8 ["script", "many", "vats", "pipes", "wants", "handed", "found", "lack", "vat", "pipe"] [.list (ns.map .int)]):=by
 intro f cdv A outer s H E hr
 have nd:=zxp.nd
 refine ⟨_,_,(zd0 (pset 1 nd (zw0 (zt0 (K:=K) rfl) ze0 (zw0 zk1 (zo0 jG (rmn hr) rfl (za0 (pv 0) (za0 ze0 zh0))) ze0)))
   (zd0 (pset 2 nd (zo0 kO (rmn hr) rfl (za0 (pv 0) (za0 (pv 1) zh0))))
   (zd0 (pset 3 nd (zv2 zh0))
   (zd0 (zo8 (zv0 zho (pv 1) ze0 (zn1 _)) (zj0 (zk6 (i:=3) (sc:=zf0 zdo) (N:=["script", "many", "vats", "pipes", "wants", "handed", "found", "lack", "vat", "pipe"]) (own:=["cell"]) (ix:=[1]) rfl rfl rfl (by walk_at "csc") nd rfl rfl (pi_W (K:=K) rfl (zzn (sl_W (K:=K) rfl) (pv 0) (zv8 ze0) (zv8 ze0))) (λ _ _ _ _=>⟨(pgn 0 (nds ["cell", "many"])),zk5,(zo0 kM (rmn hr) rfl (za0 (pv 0) (za0 (pv 1) zh0)))⟩))) zm1)
   (zd0 (pset 4 nd (zo0 kG (rmn hr) rfl (za0 (pv 0) (za0 (pv 2) zh0))))
   (zd0 (pset 5 nd (zb2 (za0 (zb2 (za0 (zf4 (ze4 (K:=K) rfl) rfl jZ zfa (za0 (pv 2) zh0)) (za0 (zf4 (ze4 (K:=K) rfl) rfl jZ zfa (za0 (pv 3) zh0)) zh0))) (za0 (zf4 (ze4 (K:=K) rfl) rfl jZ zfa (za0 (pv 4) zh0)) zh0))))
   (zd0 (pset 6 nd (zo0 kZ (rmn hr) rfl (za0 (pix w K hr (pv 5) ze0) (za0 (pix w K hr (pv 5) ze0) zh0))))
   (zd0 (zo8 (zv0 (zul (K:=K) rfl (Room.units hr)) (pv 5) (zb2 (za0 (zb2 (za0 (pv 2) (za0 (pv 3) zh0))) (za0 (pv 4) zh0))) (zn1 _)) (zj0 (zc1 zop)) zm1)
   (zd0 (zo8 (zv0 zqs (pv 6) zfg (zn1 _)) (zj0 (zc1 zop)) zm1)
   (zd0 (zo8 (PW.pt (zqv (zkt (zt7 (K:=K) rfl (zy0 (zxb (K:=K) rfl) rfl jH zd3 (za0 (pv 6) (za0 (zyf (v:=.ty "list") rfl jZ zfa rfl) zh0))) (λ _=>rfl))) (zyt (zv0 (zul (K:=K) rfl (Room.units hr)) (pv 6) (zy0 (zig rfl) rfl jW zcd (za0 (zf4 (zji (K:=K) rfl rfl) rfl qI zhx (za0 (pv 6) zh0)) zh0)) (zn1 _))))) (zj0 (zc1 zop)) zm1)
   (zd0 (pset 7 nd ze0)
   (zd0 (zxa PassesOwn.never rfl (pi_W (K:=K) rfl (pv 6)) (pgn 8 nd) (zd0 (zo8 (PW.pt (zqv (zkt (zt7 (K:=K) rfl (zo0 kF (rmn hr) rfl (za0 (pv 8) zh0)) (λ _=>rfl))) (zqv (zv0 zc01 (pv 8) ze0 (zn1 _)) (zyt (zv0 zn31 (pv 8) (pv 1) (zn1 _)))))) (zj0 (zc1 zop)) zm1)
   (zj0 (pset 7 nd (zw0 zof (zw0 (zt0 (K:=K) rfl) (pv 7) (pix w K hr (pv 4) (pv 8))) (pix w K hr (pix w K hr (pv 2) (pv 8)) ze0))))))
   (zd0 (zxa PassesOwn.never rfl (pi_W (K:=K) rfl (pv 3)) (pgn 9 nd) (zj0 (zo8 (PW.pt (zii (zv0 (zsr (w:=w) (K:=K) (Room.units hr) rfl rfl) (pix w K hr (pv 9) ze0) (pv 6) (by with_unfolding_all rfl)) (zmd (zv0 (zz8 (w:=w) (K:=K) (Room.units hr) rfl rfl) (pix w K hr (pv 9) ze0) (pv 6) (by with_unfolding_all rfl))))) (zj0 (zc1 zop)) zm1)))
   (zj0 (zc1 (zlp zho (pv 7) ze0 (zn1 _))))))))))))))))),(zl0 (zh1 (zm0 zj4 rvi (RfE.v (zm0 zq4 (RfE.v (zx0 (zc0 (zk0 0) (zc0 ze1 zn0)))) rvi))) (rgn 1))
   (zl0 (zh1 (zx0 (zc0 (zk0 0) (zc0 (zk0 1) zn0))) (rgn 2))
   (zl0 (zh1 (RfF.e (zq5 zn0)) (rgn 3))
   (zl0 (zn8 (zu0 (zm0 r_gt (zb0 1) rvi)) (zh1 (RfF.e (zl4 (zvo (RfE.v (zp21 (zb0 0) (zjd ze1) (zjd ze1)))) (zr1 (i:=0) (n:=1) (by decide)) zi8 (zx0 (zc0 (zk0 0) (zc0 (zk0 1) zn0))))) (rgn 3)) zl1)
   (zl0 (zh1 (zx0 (zc0 (zk0 0) (zc0 (zk0 2) zn0))) (rgn 4))
   (zl0 (zh1 (zy4 (zc0 (zy4 (zc0 (RfF.e (zmu znh (zz0 (zb0 2) zi2))) (zc0 (RfF.e (zmu znh (zz0 (zb0 3) zi2))) zn0))) (zc0 (RfF.e (zmu znh (zz0 (zb0 4) zi2))) zn0))) (rgn 5))
   (zl0 (zh1 (zx0 (zc0 (zm0 r_ix (zb0 5) rvi) (zc0 (zm0 r_ix (zb0 5) rvi) zn0))) (rgn 6))
   (zl0 (zn8 (zu0 (zt4 q_ne (RfV.h (zb0 5)) (zss (zgd (zss (zgd (RfV.h (zb0 2)) (zgd (RfV.h (zb0 3)) zxq))) (zgd (RfV.h (zb0 4)) zxq))))) (zj1 (RfE.c zcs)) zl1)
   (zl0 (zn8 (zu0 (zm0 zo11 (zb0 6) (RfE.v zuf))) (zj1 (RfE.c zcs)) zl1)
   (zl0 (zn8 (ziz (zvq (zud (RfE.v (zly kt (by simp) (zb0 6))))) (zu0 (zt4 q_ne (RfV.h (zb0 6)) (RfV.h (RfE.v (RfF.e (zon (zk0 6)))))))) (zj1 (RfE.c zcs)) zl1)
   (zl0 (zh1 ze1 (rgn 7))
   (zl0 (zea (zns (zk0 6)) (rgn 8) (zl0 (zn8 (ziz (zvq (zud (RfE.v (zx0 (zc0 (zk0 8) zn0))))) (ziz (zu0 (zm0 r_lt (zb0 8) rvi)) (zu0 (zm0 r_ge (zb0 8) (zb0 1))))) (zj1 (RfE.c zcs)) zl1)
   (zh1 (zm0 zit (RfE.v (zm0 zj4 (zb0 7) (RfE.v (zm0 r_ix (zb0 4) (zb0 8))))) (RfE.v (zm0 r_ix (RfE.v (zm0 r_ix (zb0 2) (zb0 8))) rvi))) (rgn 7))))
   (zl0 (zea (zns (zk0 3)) (rgn 9) (zn8 (zhi (zu0 (zm0 r_in (RfE.v (zm0 r_ix (zb0 9) rvi)) (zb0 6))) (zu0 (zm0 zxj (RfE.v (zm0 r_ix (zb0 9) rvi)) (zb0 6)))) (zj1 (RfE.c zcs)) zl1))
   (zj1 (RfE.c (zm0 r_gt (zb0 7) rvi)))))))))))))))),?_⟩
 intro ns Qd hl q
 walk_at "ds"
 refine zg0 λ J hJ=>?_
 walk_at "dd"
 refine ⟨ns,0,rfl,by decide,?_⟩
 walk_at "dd"
 refine hJ _ ?_
 clear hJ
 obtain ⟨n,en,h1,h2⟩:∃ n:Nat,1+zb9 ns 0 % 12=(n:Int)/\1<=n/\n<=12:=⟨(1+zb9 ns 0 % 12).toNat,by lia,by lia,by lia⟩
 rw [en]
 refine zg0 λ J hJ=>?_
 walk_at "dd"
 refine ⟨ns,n,rfl,h1,h2,λ vs hvs ok okn=>hJ _ ?_⟩
 clear hJ
 walk_at "dn"
 have hcut:(cutG ns (some 2) (some 26)).length<=24:=by
  unfold cutG
  rw [List.length_take]
  have a:HT.sIx ns.length 0 (some 2)=Nat.min 2 ns.length:=HT.sIx_nat ..
  have b:HT.sIx ns.length ns.length (some 26)=Nat.min 26 ns.length:=HT.sIx_nat ..
  rw [a,b]
  have:Nat.min 26 ns.length<=26:=Nat.min_le_left ..
  have:Nat.min 2 ns.length=2 \/ Nat.min 2 ns.length=ns.length:=by rcases Nat.le_total 2 ns.length with z|z;exact .inl (Nat.min_eq_left z);exact .inr (Nat.min_eq_right z)
  have:Nat.min 26 ns.length<=ns.length:=Nat.min_le_right ..
  lia
 refine zmb (λ δ=>∃ ps:List Pp,ps.length<=24/\(∀ p∈ps,(p.u < n/\p.v < n)/\PF p)/\δ=[.sh (.list (ns.map .int)),.sh (nI n),.sh (.list (vs.map Va.d)),.sh (.list (ps.map Pp.d)),.un,.un,.un,.un,.un,.un]) ?_ ?_
 ·walk_at "dd"
  refine two (λ hm=>?_) λ hm=>⟨[],by simp,λ p hp=>by simp at hp,rfl⟩
  rw [zsn]
  refine zr31 (λ p:Pp=>(p.u < n/\p.v < n)/\PF p) Pp.d (by rw [sizeLine_eq];exact Nat.le_trans hcut (by lia)) (λ c hc=>?_) λ ps hps hb=>⟨ps,by rw [hps];exact hcut,hb,rfl⟩
  walk_at "cs"
  walk_at "dd"
  exact ⟨c,n,rfl,by lia,h2,λ p hu hv hf=>⟨p,⟨⟨hu,hv⟩,hf⟩,rfl⟩⟩
 rintro δ ⟨ps,hps,hb,rfl⟩
 refine zg0 λ J hJ=>?_
 walk_at "dd"
 refine ⟨ns,vs,rfl,by lia,by lia,ok,λ ws hws okw=>hJ _ ?_⟩
 clear hJ
 have y:YOk vs ps ws:=YOk.of (by lia) (by lia) hps ok hws okw (by rw [hvs];exact λ p hp=>(hb p hp).1)
 refine zg0 λ J hJ=>?_
 walk_at "dd"
 refine hJ _ ?_
 clear hJ
 refine zg0 λ J hJ=>?_
 walk_at "dd"
 refine ⟨_,rfl,_,rfl,vs,ps,ws,rfl,y,λ r hr=>hJ _ ?_⟩
 clear hJ
 have fH:Fit 5 (.tuple [.tuple [.list (vs.map Va.d),.list (ps.map Pp.d)],.list (ws.map .int)]):=Fit.tup λ d hd=>by
  simp only [List.mem_cons,List.not_mem_nil,or_false] at hd
  rcases hd with rfl|rfl
  ·refine Fit.tup λ d hd=>?_
   simp only [List.mem_cons,List.not_mem_nil,or_false] at hd
   rcases hd with rfl|rfl
   ·refine znf λ v hv=>Fit.tup λ d hd=>?_
    simp only [List.mem_cons,List.not_mem_nil,or_false] at hd
    rcases hd with rfl|rfl|rfl
    ·exact (okn v hv).mono (by lia)
    ·exact Fit.int _
    ·exact Fit.int _
   ·refine znf λ p hp=>Fit.tup λ d hd=>?_
    obtain ⟨a1,a2,a3⟩:=(hb p hp).2
    simp only [List.mem_cons,List.not_mem_nil,or_false] at hd
    rcases hd with rfl|rfl|rfl|rfl|rfl
    ·exact Fit.int _
    ·exact Fit.int _
    ·exact a1
    ·exact a2
    ·exact a3
  ·exact zun ws
 refine zg0 λ J hJ=>?_
 walk_at "dd"
 refine ⟨fH.shaped (by decide),fH.shaped (by decide),?_⟩
 rw [L4.eqv_refl fH]
 refine two (λ z=>by cases z) λ _=>hJ _ ?_
 clear hJ
 rcases hr.some y with ⟨rfl,_⟩|⟨l,rfl,hne,hris,hlb,hlc,hlp⟩
 ·refine zg0 λ J hJ=>?_
  walk_at "dd"
  exact q
 ·refine zg0 λ J hJ=>?_
  walk_at "dd"
  refine hJ _ ?_
  clear hJ
  refine zg0 λ J hJ=>?_
  walk_at "dd"
  have nd:l.Nodup:=hris.imp λ z=>Nat.ne_of_lt z
  have ll:=zq0 vs.length l nd hlb
  have el:List.map nI l=(l.map λ v:Nat=>(v:Int)).map PyData.int:=by rw [List.map_map];rfl
  have fl:Fit 1 (.list (l.map nI)):=znf λ _ _=>Fit.int _
  refine ⟨λ _=>trivial,l.map λ v:Nat=>(v:Int),by rw [el],?_,λ k hk=>?_,by rw [List.length_map];lia,?_⟩
  ·rw [List.pairwise_map];exact hris.imp λ z=>by lia
  ·obtain ⟨v,hv,rfl⟩:=List.mem_map.mp hk
   have:=hlb v hv
   exact ⟨by lia,by lia⟩
  rw [<- el]
  refine ⟨fl.shaped (by decide),fl.shaped (by decide),?_⟩
  rw [L4.eqv_refl fl]
  refine two (λ z=>by cases z) λ _=>hJ _ ?_
  clear hJ
  refine zg0 λ J hJ=>?_
  walk_at "dd"
  refine hJ _ ?_
  clear hJ
  refine zg0 λ J hJ=>?_
  walk_at "dd"
  refine zo6 (λ i δ=>∃ s8,δ=[.sh (.list (ns.map .int)),.sh (nI n),.sh (.list (vs.map Va.d)),.sh (.list (ps.map Pp.d)),.sh (.list (ws.map .int)),.sh (.tuple [.tuple [.list (vs.map Va.d),.list (ps.map Pp.d)],.list (ws.map .int)]),.sh (.list (l.map nI)),.sh (.int (((l.take i).map λ v=>fx ws v - fx (vs.map Va.fill) v).sum)),s8,.un]) ⟨_,rfl⟩ ?_ ?_
  ·rintro i v δ hv ⟨s8,rfl⟩
   obtain ⟨hi,rfl⟩:=List.getElem?_eq_some_iff.mp hv
   have hb1:=hlb l[i] (List.getElem_mem hi)
   walk_at "dd"
   have gw:atI (ws.map PyData.int) ((l[i]:Nat):Int)=some (.int (fx ws l[i])):=zk7 (by lia) (by
    rw [Int.toNat_natCast,List.getElem?_map]
    unfold fx
    rw [List.getElem?_eq_getElem (by lia)];rfl)
   have gv:atI (vs.map Va.d) ((l[i]:Nat):Int)=some (.tuple [.str (vs[l[i]]'hb1).nm,.int (vs[l[i]]'hb1).room,.int (vs[l[i]]'hb1).fill]):=zk7 (by lia) (by rw [Int.toNat_natCast,List.getElem?_map,List.getElem?_eq_getElem hb1];rfl)
   have es:(vs[l[i]]'hb1).fill=fx (vs.map Va.fill) l[i]:=by unfold fx;rw [List.getElem?_map,List.getElem?_eq_getElem hb1];rfl
   refine zg0 λ J2 hJ2=>?_
   walk_at "dd"
   refine ⟨_,rfl,?_⟩
   walk_at "dd"
   refine two (λ z=>by lia) λ _=>two (λ z=>by lia) λ _=>hJ2 _ ?_
   clear hJ2
   walk_at "dd"
   refine ⟨_,gw,?_⟩
   walk_at "dd"
   refine ⟨_,gv,?_⟩
   walk_at "dd"
   refine ⟨_,rfl,.sh (.int ((l[i]:Nat):Int)),?_⟩
   rw [List.take_succ,List.getElem?_eq_getElem hi,List.map_append,List.sum_append]
   simp only [Option.toList,List.map_cons,List.map_nil,List.sum_cons,List.sum_nil]
   rw [es,Int.add_zero,<- Int.add_sub_assoc]
  ·rintro δ ⟨s8,rfl⟩
   rw [List.take_length]
   refine hJ _ ?_
   clear hJ
   refine zg0 λ J hJ=>?_
   walk_at "dd"
   refine zo6 (λ i δ=>∃ s9,δ=[.sh (.list (ns.map .int)),.sh (nI n),.sh (.list (vs.map Va.d)),.sh (.list (ps.map Pp.d)),.sh (.list (ws.map .int)),.sh (.tuple [.tuple [.list (vs.map Va.d),.list (ps.map Pp.d)],.list (ws.map .int)]),.sh (.list (l.map nI)),.sh (.int ((l.map λ v=>fx ws v - fx (vs.map Va.fill) v).sum)),s8,s9]) ⟨_,rfl⟩ ?_ ?_
   ·rintro j p δ hp ⟨s9,rfl⟩
    have hpm:=List.mem_of_getElem? hp
    have i1:((l.map nI).any λ y=>eqF y (.int (p.u:Nat)))=decide (p.u∈l):=zzh _ _
    have i2:((l.map nI).any λ y=>eqF y (.int (p.v:Nat)))=decide (p.v∈l):=zzh _ _
    have ff:=zaf l
    unfold Pp.d
    walk_at "dd"
    refine ⟨_,rfl,?_⟩
    walk_at "dd"
    rw [i2]
    refine ⟨ff,two (λ a1=>?_) λ a1=>⟨_,rfl⟩⟩
    refine ⟨_,rfl,?_⟩
    walk_at "dd"
    rw [i1]
    refine ⟨ff,two (λ a2=>?_) λ a2=>⟨_,rfl⟩⟩
    exact absurd (hlc p hpm (of_decide_eq_true a1)) (by simpa using a2)
   ·rintro δ ⟨s9,rfl⟩
    refine hJ _ ?_
    clear hJ
    walk_at "dd"
    rw [decide_eq_true hlp]
    exact q
end
theorem all_mk {l:PySem.W.OpenLaw} {w:World} {K:Fg} {h:Heap} {mg:Str->Option Value} {fa:Addr} {jA:Addr} (X:K.In h) (G:h.Ns mainGlobals mg) (hfa:mg "law"=some (.ref fa))
  (jB:TopCls K "Stream" jA)
  (jE:PySem.W.findIn K (.ref jA) "steps"=some none)
  (jD:PySem.W.findIn K (.ref jA) "ends"=some none)
  (jC:PySem.W.findIn K (.ref jA) "left"=some none)
  (qG:TopDef K "worth" zab)
  (jL:TopMeth K jA "row_behind" "Stream.row_behind" zg1)
  (jX:TopMeth K jA "levels" "Stream.levels" zk2)
  (jT:TopMeth K jA "step_up" "Stream.step_up" zz1)
  (jY:TopMeth K jA "way_up" "Stream.way_up" zm2)
  (kB:TopMeth K jA "carry" "Stream.carry" zt1)
  (jU:TopMeth K jA "push_up" "Stream.push_up" zf1)
  (jV:TopMeth K jA "amounts" "Stream.amounts" za2)
  (jP:TopMeth K jA "__init__" "Stream.__init__" zd1)
  (kX:TopDefN K "greatest" zv5)
  (qJ:TopDef K "node" zll)
  (kY:TopDef K "timeless" zy1)
  (qA:TopDef K "cut_off" zs5)
  (kC:TopDef K "_law_cell_at" zp2)
  (kH:TopDef K "_law_whole" zu3)
  (kI:TopDef K "_law_mixed" zz3)
  (kQ:TopDef K "_law_gate" zv4)
  (kR:TopDef K "_law_pipe" zw4)
  (kS:TopDef K "_law_fill" zn4)
  (kT:TopDef K "_law_vats" zz4)
  (kJ:TopDef K "_law_wants" za4)
  (qK:TopDef K "law" zdo)
  {t_SOURCE:Tok} (g_SOURCE:PySem.W.nsIn K mainGlobals "SOURCE"=some (some (.int 0 t_SOURCE)))
  {t_SINK:Tok} (g_SINK:PySem.W.nsIn K mainGlobals "SINK"=some (some (.int 1 t_SINK)))
  (qD:PySem.W.nsIn K mainGlobals "bool"=some none)
  (jI:PySem.W.nsIn K mainGlobals "enumerate"=some none)
  (qH:PySem.W.nsIn K mainGlobals "int"=some none)
  (jH:PySem.W.nsIn K mainGlobals "isinstance"=some none)
  (jM:PySem.W.nsIn K mainGlobals "len"=some none)
  (jZ:PySem.W.nsIn K mainGlobals "list"=some none)
  (qB:PySem.W.nsIn K mainGlobals "min"=some none)
  (jJ:PySem.W.nsIn K mainGlobals "range"=some none)
  (qI:PySem.W.nsIn K mainGlobals "set"=some none)
  (jW:PySem.W.nsIn K mainGlobals "sorted"=some none)
  (kK:PySem.W.nsIn K mainGlobals "sum"=some none)
  (qE:PySem.W.nsIn K mainGlobals "zip"=some none) (kt:Kit K)
 :∃ fd:FuncData,(∀ (s:Shared) (v:Value),BindsTo s fd ⟨[v],[]⟩ [("script",v)])/\∀ base:Heap,K.In base->base.Ns mainGlobals mg->FnOk l.prog w K mg base CX0 6 fa fd ["script"] (zgu K):=by
 have M:Md K mg:=⟨⟨h,X,G⟩⟩
 refine zk21 M qK hfa zxp (λ _ _ _ _ _ _ us hl=>by obtain ⟨_,rfl⟩:=ar1 hl;rfl) λ base kb nb=>?_
 have qF:=ztm (P:=l.prog) (w:=w) (K:=K) (mg:=mg) (base:=base) M qG (M.not kK) (M.not qE)
 have jK:=zv3 (P:=l.prog) (w:=w) (K:=K) (mg:=mg) (base:=base) jB.cls jL jE jD jC
 have jO:=zx5 (P:=l.prog) (w:=w) (K:=K) (mg:=mg) (base:=base) jB.cls jX jK
 have jQ:=zr5 (P:=l.prog) (w:=w) (K:=K) (mg:=mg) (base:=base) jB.cls jT (M.not jM) jC jD
 have jN:=zy5 (P:=l.prog) (w:=w) (K:=K) (mg:=mg) (base:=base) jB.cls jY jD jQ
 have kA:=zd7 (P:=l.prog) (w:=w) (K:=K) (mg:=mg) (base:=base) jB.cls kB (M.not qB) jC
 have jR:=zm5 (P:=l.prog) (w:=w) (K:=K) (mg:=mg) (base:=base) jB.cls jU (M.not jZ) jE jN kA
 have jS:=zn5 (P:=l.prog) (w:=w) (K:=K) (mg:=mg) (base:=base) jB.cls jV jC
 have qC:=zs4 (P:=l.prog) (w:=w) (K:=K) (mg:=mg) (base:=base) M jB jP (M.not jI) (M.not jJ) jD jC jE
 have kU:=zzd (P:=l.prog) (w:=w) (K:=K) (mg:=mg) (base:=base) M kX (M.not jM) (M.not jW) jB.cls jO jR jS qC
 have kE:=zuo (P:=l.prog) (w:=w) (K:=K) (mg:=mg) (base:=base) M qJ (M.not jM)
 have kW:=zwd (P:=l.prog) (w:=w) (K:=K) (mg:=mg) (base:=base) M kY (M.not jI) (M.not kK) kE (M.got g_SOURCE) ⟨_,rfl⟩ (M.got g_SINK) ⟨_,rfl⟩
 have kZ:=zue (P:=l.prog) (w:=w) (K:=K) (mg:=mg) (base:=base) M qA (M.not jM) (M.not jJ) (M.not kK) qF kU kE kW (M.got g_SOURCE) ⟨_,rfl⟩ (M.got g_SINK) ⟨_,rfl⟩
 have jG:=zn7 (P:=l.prog) (w:=w) (K:=K) (mg:=mg) (base:=base) M kC (M.not jM)
 have kF:=zg9 (P:=l.prog) (w:=w) (K:=K) (mg:=mg) (base:=base) M kH kt (M.not qD) (M.not qH) (M.not jH)
 have jF:=zoa (P:=l.prog) (w:=w) (K:=K) (mg:=mg) (base:=base) M kI
 have kD:=zeb (P:=l.prog) (w:=w) (K:=K) (mg:=mg) (base:=base) M kQ
 have kM:=zbc (P:=l.prog) (w:=w) (K:=K) (mg:=mg) (base:=base) M kR jF kD
 have kL:=zwb (P:=l.prog) (w:=w) (K:=K) (mg:=mg) (base:=base) M kS
 have kO:=zfc (P:=l.prog) (w:=w) (K:=K) (mg:=mg) (base:=base) M kT (M.not jJ) jG jF kL
 have kG:=zs9 (P:=l.prog) (w:=w) (K:=K) (mg:=mg) (base:=base) M kJ (M.not jM) (M.not qB) (M.not jJ) jG jF
 exact zfm kt (M.not jH) (M.not jZ) (M.not qI) (M.not jW) kZ jG kF kM kO kG
end K32
local macro_rules|`(tactic| walk_at "top")=>`(tactic| (refine' zmh ?a ?l ?c ?k;(case a=>k_is);(case l=>k_is);(case c=>k_is);(case k=>k_is)))
local macro_rules|`(tactic| walk_at "topn")=>`(tactic| (refine' zxg ?a ?l ?c ?k ?t ?d;(case a=>k_is);(case l=>k_is);(case c=>k_is);(case k=>k_is);(case t=>k_is);(case d=>rfl)))
local macro_rules|`(tactic| walk_at "meth")=>`(tactic| (refine' zef ?a ?i ?l ?c ?k;(case a=>k_is);(case i=>k_is);(case l=>k_is);(case c=>k_is);(case k=>k_is)))
local macro_rules|`(tactic| walk_at "cls")=>`(tactic| (refine' zyi ?a ?pg ?hd ?po ?sa ?mk ?kc;(case a=>k_is);(case pg=>k_is);(case hd=>k_is);(case po=>k_is);(case sa=>k_is);(case mk=>k_is);(case kc=>k_is)))
def PySem.W.Fast.tw11667324863610567154 : Nat := 0
def PySem.W.Fast.tw2693952577765811272 : Nat := 0
def PySem.W.Fast.tw2620117707920831163 : Nat := 0
def PySem.W.Fast.tw1022097057116082999 : Nat := 0
def PySem.W.Fast.tw3936718645673549829 : Nat := 0
def PySem.W.Fast.tw4593030894762380742 : Nat := 0
def PySem.W.Fast.tw17438713869182530248 : Nat := 0
def PySem.W.Fast.tw10279211875457742542 : Nat := 0
def PySem.W.Fast.tw12083647608354277423 : Nat := 0
def PySem.W.Fast.tw4614552768089385810 : Nat := 0
def PySem.W.Fast.tw3025337815173878851 : Nat := 0
def PySem.W.Fast.tw13754345318206810390 : Nat := 0
def PySem.W.Fast.tw15394327303510985165 : Nat := 0
def PySem.W.Fast.tw8521349436626526893 : Nat := 0
def PySem.W.Fast.tw16047628426731204100 : Nat := 0
def PySem.W.Fast.tw10346501438610546521 : Nat := 0
def PySem.W.Fast.tw5659653045700327150 : Nat := 0
def PySem.W.Fast.tw3923825759841756006 : Nat := 0
def PySem.W.Fast.tw4401323458177386154 : Nat := 0
def PySem.W.Fast.tw17488529135296454479 : Nat := 0
def PySem.W.Fast.tw4139422710848398388 : Nat := 0
def PySem.W.Fast.tw6864484333641848602 : Nat := 0
def PySem.W.Fast.tw8013237775126976126 : Nat := 0
def PySem.W.Fast.tw17299193441931807669 : Nat := 0
def PySem.W.Fast.tw5543228459148585723 : Nat := 0
def PySem.W.Fast.tw5621104231726036877 : Nat := 0
def PySem.W.Fast.tw7428823323586450261 : Nat := 0
def PySem.W.Fast.tw15327285676862567818 : Nat := 0
def PySem.W.Fast.tw18364361024299442177 : Nat := 0
def PySem.W.Fast.tw8096296747138392283 : Nat := 0
def PySem.W.Fast.tw11500036508028020510 : Nat := 0
def PySem.W.Fast.tw8666830926124945372 : Nat := 0
def PySem.W.Fast.tw14520912867640288907 : Nat := 0
def PySem.W.Fast.tw12363472691928778438 : Nat := 0
def PySem.W.Fast.tw8658539496985515238 : Nat := 0
def PySem.W.Fast.tw15682907907354799559 : Nat := 0
def PySem.W.Fast.tw3986215787802572980 : Nat := 0
def PySem.W.Fast.tw4451458478684186117 : Nat := 0
def PySem.W.Fast.tw796221127931521486 : Nat := 0
def PySem.W.Fast.tw16755576112948587766 : Nat := 0
def PySem.W.Fast.tw17225480762102452681 : Nat := 0
def PySem.W.Fast.tw18347356299428582763 : Nat := 0
def PySem.W.Fast.tw13151821568281421349 : Nat := 0
def PySem.W.Fast.tw5077989986965986157 : Nat := 0
def PySem.W.Fast.tw1154472831432967409 : Nat := 0
open PySem PySem.W PyProof.Rows L3 L4
set_option maxRecDepth 100000 in
set_option maxHeartbeats 0 in
theorem PySem.Challenge.cw_vatyard_k32_cut_off_and_short_holds : PySem.Challenge.rw_vatyard_k32_cut_off_and_short.Holds := by
  w_on; o_law; k_head; (case hw => w_witness2)
  k_fill
  refine L3.law_walk (k := 6) (l := PySem.Challenge.rw_vatyard_k32_cut_off_and_short) ⟨rfl, by decide, rfl, by decide⟩ rfl rfl (fun w h Y => PySem.W.kIn_of Y) ?F
  case F =>
    intro w mg fa h KX G hmg
    refine' K32.all_mk KX G hmg ?jB ?jE ?jD ?jC ?qG ?jL ?jX ?jT ?jY ?kB ?jU ?jV ?jP ?kX ?qJ ?kY ?qA ?kC ?kH ?kI ?kQ ?kR ?kS ?kT ?kJ ?qK ?g_SOURCE ?g_SINK ?qD ?jI ?qH ?jH ?jM ?jZ ?qB ?jJ ?qI ?jW ?kK ?qE ?kt
    (case jB => walk_at "cls")
    (case jE => k_is)
    (case jD => k_is)
    (case jC => k_is)
    (case qG => walk_at "top")
    (case jL => walk_at "meth")
    (case jX => walk_at "meth")
    (case jT => walk_at "meth")
    (case jY => walk_at "meth")
    (case kB => walk_at "meth")
    (case jU => walk_at "meth")
    (case jV => walk_at "meth")
    (case jP => walk_at "meth")
    (case kX => walk_at "topn")
    (case qJ => walk_at "top")
    (case kY => walk_at "top")
    (case qA => walk_at "top")
    (case kC => walk_at "top")
    (case kH => walk_at "top")
    (case kI => walk_at "top")
    (case kQ => walk_at "top")
    (case kR => walk_at "top")
    (case kS => walk_at "top")
    (case kT => walk_at "top")
    (case kJ => walk_at "top")
    (case qK => walk_at "top")
    (case g_SOURCE => k_is)
    (case g_SINK => k_is)
    (case qD => k_is)
    (case jI => k_is)
    (case qH => k_is)
    (case jH => k_is)
    (case jM => k_is)
    (case jZ => k_is)
    (case qB => k_is)
    (case jJ => k_is)
    (case qI => k_is)
    (case jW => k_is)
    (case kK => k_is)
    (case qE => k_is)
    (case kt => exact ⟨fun t ht T hT => by simp only [List.mem_cons, List.not_mem_nil, or_false] at ht hT; rcases ht with rfl | rfl | rfl | rfl | rfl | rfl <;> rcases hT with rfl | rfl | rfl | rfl | rfl <;> rfl⟩)
