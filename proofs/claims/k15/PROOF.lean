import PyProof.Rows.All
import Wide.All
import OpenK.AllK
import Wide.FinOn
import Lean
import PyProof.EqAt
import PyProof.EqKinds
import PyProof.TupleCall
import PyProof.StrLawsIn
import PyProof.StrLawsJoin
import PyProof.ZipIter
import PyProof.EnumFor
import PyProof.EnumMake
import PyProof.EnumStmt
import PyProof.DictItems
import KE.KPairComp
import KE.KSortTup
import PyProof.DictWalks
import PyProof.Rows.SortWalk
import PyProof.ReprRoads
import PyProof.ReprLen
import PyProof.NsDelKeeps
import PyProof.RulesAs
import PyProof.AttrMissHeap
import KE.KDictOf
import PySem.Challenge.RW_vatyard_k15_too_full
set_option Elab.async false
set_option genSizeOf false
set_option compiler.extract_closed false
set_option linter.all false
set_option maxRecDepth 100000
set_option maxHeartbeats 4000000
local macro_rules|`(tactic|walk_at "vi")=>`(tactic|first|exact .inl rfl|exact .inr rfl|assumption)
abbrev Fg:=PySem.W.Frag
namespace L2
open PySem PySem.Spec PyProof.Rows
abbrev Key:=Sum Int Str
def zix:Key->Value->Bool
|.inl k,v=>Value.isInt k v
|.inr x,v=>Value.isStrOf x v
def keyH (w:World):Key->Int
|.inl k=>hashInt k
|.inr x=>hashStr w x
theorem zf1:∀ {k:Key} {v:Value},zix k v=true->(∃ i t,k=Sum.inl i/\v=Value.int i t) \/ (∃ x t,k=Sum.inr x/\v=Value.str x t)
|.inl i,v,h=>by
  obtain ⟨t,e⟩:=Value.isInt_shape (k:=i) (v:=v) h
  exact .inl ⟨i,t,rfl,e⟩
|.inr x,v,h=>by
  obtain ⟨t,e⟩:=Value.isStrOf_shape (x:=x) (v:=v) h
  exact .inr ⟨x,t,rfl,e⟩
theorem zjq (i:Int) (t:Tok):zix (.inl i) (.int i t)=true:=by simp [zix,Value.isInt]
theorem zvq (x:Str) (t:Tok):zix (.inr x) (.str x t)=true:=by simp [zix,Value.isStrOf]
theorem zr61 (a b:Int):decide ((Sum.inl a:Key)=Sum.inl b)=(a == b):=by
 by_cases e:a=b
 ·subst e;simp
 ·have h:¬ (Sum.inl a:Key)=Sum.inl b:=λ q=>e (Sum.inl.inj q)
  rw [decide_eq_false h]
  exact (beq_eq_false_iff_ne.mpr e).symm
theorem zx41 (a b:Str):decide ((Sum.inr a:Key)=Sum.inr b)=decide (a=b):=by
 by_cases e:a=b
 ·subst e;simp
 ·have h:¬ (Sum.inr a:Key)=Sum.inr b:=λ q=>e (Sum.inr.inj q)
  rw [decide_eq_false h,decide_eq_false e]
theorem zu61 (a:Int) (b:Str):decide ((Sum.inl a:Key)=Sum.inr b)=false:=decide_eq_false (λ q=>nomatch q)
theorem zs51 (a:Str) (b:Int):decide ((Sum.inr a:Key)=Sum.inl b)=false:=decide_eq_false (λ q=>nomatch q)
def zw1 (prog:Program) (w:World):PySem.KeyKind prog w Key where
 is:=zix
 hash:=keyH w
 inj:=λ v a b ha hb=>by
  rcases zf1 ha with ⟨i,t,rfl,rfl⟩|⟨x,t,rfl,rfl⟩
  ·rcases zf1 hb with ⟨j,u,rfl,e⟩|⟨y,u,rfl,e⟩
   ·injection e with e1 _;rw [e1]
   ·exact nomatch e
  ·rcases zf1 hb with ⟨j,u,rfl,e⟩|⟨y,u,rfl,e⟩
   ·exact nomatch e
   ·injection e with e1 _;rw [e1]
 byValue:=λ k v h=>by
  rcases zf1 h with ⟨i,t,rfl,rfl⟩|⟨x,t,rfl,rfl⟩ <;> rfl
 pyHash:=λ hv h=>by
  rcases zf1 hv with ⟨i,t,rfl,rfl⟩|⟨x,t,rfl,rfl⟩
  ·exact wpAny_pyHash_int h
  ·exact wpAny_pyHash_str h
 eqBool:=λ hu hv h=>by
  rcases zf1 hu with ⟨i,t,rfl,rfl⟩|⟨x,t,rfl,rfl⟩
  ·rcases zf1 hv with ⟨j,u,rfl,rfl⟩|⟨y,u,rfl,rfl⟩
   ·rw [zr61] at h;exact wpAny_eqBool_int h
   ·rw [zu61] at h;exact SeqAt.EqAt.int_str i t y u _ _ _ _ h
  ·rcases zf1 hv with ⟨j,u,rfl,rfl⟩|⟨y,u,rfl,rfl⟩
   ·rw [zs51] at h;exact SeqAt.EqAt.str_int x t j u _ _ _ _ h
   ·rw [zx41] at h;exact wpAny_eqBool_str h
 «strs»:=λ k x t v h=>by
  rcases zf1 h with ⟨i,u,rfl,e⟩|⟨y,u,rfl,e⟩
  ·exact nomatch e
  ·injection e with e1 _
   subst e1
   cases v <;> rfl
theorem zzk (prog:Program) (w:World) (i:Int) (t:Tok):(zw1 prog w).is (.inl i) (.int i t)=true:=zjq i t
theorem zel (prog:Program) (w:World) (x:Str) (t:Tok):(zw1 prog w).is (.inr x) (.str x t)=true:=zvq x t
inductive V where
|non|bl (b:Bool)|int (i:Int)|str (x:Str)|byt (b:Array UInt8)|flt (b:UInt64)|ref (a:Addr)|ty (n:String)
 deriving DecidableEq
def RelV:V->Value->Prop
|.non,u=>u=Value.none
|.bl b,u=>u=Value.bool b
|.int i,u=>∃ t,u=Value.int i t
|.str x,u=>∃ t,u=Value.str x t
|.byt b,u=>∃ t,u=Value.bytes b t
|.flt b,u=>∃ t,u=Value.float b t
|.ref a,u=>u=Value.ref a
|.ty n,u=>u=Value.type n
abbrev Vals:List V->List Value->Prop:=Paired RelV
theorem Vals.length {xs:List V} {us:List Value} (r:Vals xs us):xs.length=us.length:=Paired.length r
theorem Vals.get:∀ {xs:List V} {us:List Value} {i:Nat} {x:V},Vals xs us->xs[i]?=some x->∃ u,us[i]?=some u/\RelV x u
|_,_,_,_,.nil,e=>by simp at e
|_,_,0,_,.cons r _,e=>by simp at e;subst e;exact ⟨_,rfl,r⟩
|_,_,i+1,x,.cons _ t,e=>by
  obtain ⟨u,h1,h2⟩:=Vals.get (i:=i) (x:=x) t (by simpa using e)
  exact ⟨u,by simpa using h1,h2⟩
theorem Vals.set {x:V} {u:Value} (r:RelV x u):∀ {xs:List V} {us:List Value} (i:Nat),Vals xs us->Vals (xs.set i x) (us.set i u)
|_,_,_,.nil=>.nil
|_,_,0,.cons _ t=>.cons r t
|_,_,i+1,.cons q t=>.cons q (Vals.set r i t)
theorem Vals.append:∀ {xs ys:List V} {us ws:List Value},Vals xs us->Vals ys ws->Vals (xs++ys) (us++ws)
|_,_,_,_,.nil,s=>s
|_,_,_,_,.cons r t,s=>.cons r (Vals.append t s)
theorem Vals.take:∀ {xs:List V} {us:List Value} (n:Nat),Vals xs us->Vals (xs.take n) (us.take n)
|_,_,0,_=>.nil
|_,_,_+1,.nil=>.nil
|_,_,n+1,.cons r t=>.cons r (Vals.take n t)
theorem Vals.drop:∀ {xs:List V} {us:List Value} (n:Nat),Vals xs us->Vals (xs.drop n) (us.drop n)
|_,_,0,r=>r
|_,_,_+1,.nil=>.nil
|_,_,n+1,.cons _ t=>Vals.drop n t
theorem Vals.none_of:∀ {xs:List V} {us:List Value} {i:Nat},Vals xs us->xs[i]?=none->us[i]?=none:=λ {xs us i} r e=>by
 have h1:=r.length
 have h2:xs.length<=i:=List.getElem?_eq_none_iff.mp e
 exact List.getElem?_eq_none_iff.mpr (by lia)
def RelO:Option V->Option Value->Prop
|some v,some u=>RelV v u
|none,none=>True
|_,_=>False
def KV {κ:Type}:List (κ×V)->List (κ×Value)->Prop:=Paired λ (p:κ×V) (q:κ×Value)=>p.1=q.1/\RelV p.2 q.2
def kV:Key->V
|.inl i=>.int i
|.inr x=>.str x
inductive HO where
 /-- a list -/
|lst (xs:List V)
 /-- a tuple (never changes) -/
|tup (xs:List V)
 /-- a dict whose keys are ints and texts;one whose keys are tuples of ints and texts (the empty one is both) -/
|dK (kvs:List (Key×V))|dT (kvs:List (List Key×V))
 /-- a set of ints: its members,its size -/
|set (S:Int->Bool) (n:Nat)
 /-- an instance of the class at C,its dict at dx,its attributes -/
|ins (C dx:Addr) (fs:List (Str×V))
 /-- the dict of the instance at x -/
|own (x:Addr)
 /-- the dict of an exception -/
|xd (fs:List (Str×V))
 /-- a bound method,f of x -/
|met (f x:Addr)
 /-- a range object lo,lo+1,.. below hi -/
|rng (lo hi:Int)
 /-- a thing that is known to the object (the script;a dict while a loop walks it): read,never written while it is so -/
|frz (o:Obj) (u:HO)
 /-- a code object's table -/
|tbl (ps:Array Value)
 /-- any other thing,by what is true of its one object (a def of one's own: SetO a S n:=HO.ext λ h=>..) -/
|ext (φ:Heap->Prop)
abbrev Hp:=Addr->Option HO
def upd (H:Hp) (a:Addr) (o:HO):Hp:=λ b=>if b=a then some o else H b
theorem zi0 {H:Hp} {a:Addr} {o:HO}:upd H a o a=some o:=by unfold upd;rw [if_pos rfl]
theorem zj0 {H:Hp} {a b:Addr} {o:HO} (h:b≠a):upd H a o b=H b:=by unfold upd;rw [if_neg h]
theorem zi51 {H:Hp} {a b:Addr} {o u:HO} (h:H a=some o) (h':H b=some u) (d:o≠u):a≠b:=by
 intro e;subst e;rw [h] at h';exact d (Option.some.inj h')
theorem zf3 {H:Hp} {a b:Addr} {o:HO} (h:H a=some o) (h':H b=none):a≠b:=by
 intro e;subst e;rw [h] at h';cases h'
section
variable (P:Program) (w:World)
def ObjOk (H:Hp) (h:Heap) (a:Addr):HO->Prop
|.lst xs=>xs.length<=sizeLine/\∃ (its:List Value) (n:Nat),Vals xs its/\h.get? a=some { cls:=.type "list",data:=.seq its.toArray n }
|.tup xs=>xs.length<=sizeLine/\∃ its:List Value,Vals xs its/\IsTup h a its.toArray
|.dK kvs=>kvs.length<=sizeLine/\(a == sysModules)=false/\∃ vs,KV kvs vs/\h.DictOf (zw1 P w) a vs
|.dT kvs=>kvs.length<=sizeLine/\(a == sysModules)=false/\∃ xs:List (List Key×Addr×Value),
   Paired (λ (p:List Key×V) (q:List Key×Addr×Value)=>p.1=q.1/\H q.2.1=some (.tup (p.1.map kV))/\RelV p.2 q.2.2) kvs xs /\
   ∃ o es ep,h.get? a=some o/\o.ExactDict/\o.data=.dict es ep/\es.toList=xs.map (entryOfKey (tupleKind (zw1 P w)))/\(xs.map (·.1)).Nodup
|.set S n=>h.SetOf (intKind P w) a S n
|.ins C dx fs=>H dx=some (.own a)/\fs.length<=1000/\dx≠a/\h.get? a=some (PySem.W.instObj C dx) /\
   ∃ mA,h.Ns1 dx mA/\(∀ f,RelO (fs.lookup f) (mA f))/\PySem.Within mA (fs.map (·.1))
|.own _=>∃ o,h.get? a=some o
|.xd fs=>∃ mA,h.Ns1 a mA/\∀ f,RelO (fs.lookup f) (mA f)
|.rng lo hi=>∃ t u v,h.get? a=some { cls:=.type "range",data:=.fields #[.int lo t,.int hi u,.int 1 v] }
|.frz o u=>h.get? a=some o/\ObjOk H h a u
|.tbl ps=>h.get? a=some { cls:=.none,data:=.fields ps }
|.met f x=>h.get? a=some (PySem.W.methodObj (.ref f) (.ref x))
|.ext φ=>φ h/\(∃ o,h.get? a=some o)/\∀ h1 h2:Heap,φ h1->(∀ o,h1.get? a=some o->h2.get? a=some o)->φ h2
def HOk (H:Hp) (h:Heap):Prop:=∀ a o,H a=some o->ObjOk P w H h a o
end
section
variable {P:Program} {w:World} {H H':Hp} {h h':Heap} {a:Addr} {o:HO}
theorem ObjOk.lt (x:ObjOk P w H h a o):a < h.objs.size:=by
 cases o with
|lst xs=>obtain ⟨_,_,_,_,e⟩:=x;exact Heap.lt_size e
|tup xs=>obtain ⟨_,_,_,p⟩:=x;exact p.lt
|dK kvs=>obtain ⟨_,_,_,_,o,_,_,e,_⟩:=x;exact Heap.lt_size e
|dT kvs=>obtain ⟨_,_,_,_,o,_,_,e,_⟩:=x;exact Heap.lt_size e
|set S n=>obtain ⟨o,_,_,_,e,_⟩:=x;exact Heap.lt_size e
|ins C dx fs=>obtain ⟨_,_,_,e,_⟩:=x;exact Heap.lt_size e
|own y=>obtain ⟨_,e⟩:=x;exact Heap.lt_size e
|xd fs=>obtain ⟨_,⟨_,_,_,e,_⟩,_⟩:=x;exact Heap.lt_size e
|rng lo hi=>obtain ⟨_,_,_,e⟩:=x;exact Heap.lt_size e
|frz ob u=>obtain ⟨e,_⟩:=x;exact Heap.lt_size e
|tbl ps=>exact Heap.lt_size (show h.get? a=some _ from x)
|met f y=>exact Heap.lt_size (show h.get? a=some _ from x)
|ext φ=>obtain ⟨_,⟨_,e⟩,_⟩:=x;exact Heap.lt_size e
theorem Paired.mapP {α β:Type} {F G:α->β->Prop}:∀ {l₁:List α} {l₂:List β},Paired F l₁ l₂->(∀ a b,F a b->G a b)->Paired G l₁ l₂
|_,_,.nil,_=>.nil
|_,_,.cons r t,f=>.cons (f _ _ r) (Paired.mapP t f)
theorem ObjOk.stay (x:ObjOk P w H h a o) (k:∀ b u,(b=a \/ H b=some (.own a))->h.get? b=some u->h'.get? b=some u)
  (ho:∀ b,H b=some (.own a)->H' b=some (.own a)) (ht:∀ b xs,H b=some (.tup xs)->H' b=some (.tup xs)):ObjOk P w H' h' a o:=by
 induction o with
|lst xs=>obtain ⟨z,its,n,r,e⟩:=x;exact ⟨z,its,n,r,k _ _ (.inl rfl) e⟩
|tup xs=>obtain ⟨z,its,r,ob,e,c⟩:=x;exact ⟨z,its,r,ob,k _ _ (.inl rfl) e,c⟩
|dK kvs=>obtain ⟨z,y,vs,r,ob,es,ep,e,c⟩:=x;exact ⟨z,y,vs,r,ob,es,ep,k _ _ (.inl rfl) e,c⟩
|dT kvs =>
  obtain ⟨z,y,xs,r,ob,es,ep,e,c⟩:=x
  exact ⟨z,y,xs,Paired.mapP r λ p q z=>⟨z.1,ht _ _ z.2.1,z.2.2⟩,ob,es,ep,k _ _ (.inl rfl) e,c⟩
|set S n=>obtain ⟨ob,es,ep,t,e,c⟩:=x;exact ⟨ob,es,ep,t,k _ _ (.inl rfl) e,c⟩
|ins C dx fs =>
  obtain ⟨d,z,ne,e,mA,⟨od,es,ep,e2,c⟩,r⟩:=x
  exact ⟨ho _ d,z,ne,k _ _ (.inl rfl) e,mA,⟨od,es,ep,k _ _ (.inr d) e2,c⟩,r⟩
|own y=>obtain ⟨ob,e⟩:=x;exact ⟨ob,k _ _ (.inl rfl) e⟩
|xd fs=>obtain ⟨mA,⟨od,es,ep,e,c⟩,r⟩:=x;exact ⟨mA,⟨od,es,ep,k _ _ (.inl rfl) e,c⟩,r⟩
|rng lo hi=>obtain ⟨t,u,v,e⟩:=x;exact ⟨t,u,v,k _ _ (.inl rfl) e⟩
|frz ob u ih=>obtain ⟨e,q⟩:=x;exact ⟨k _ _ (.inl rfl) e,ih q⟩
|tbl ps =>
  have e:h.get? a=some { cls:=.none,data:=.fields ps }:=x
  show h'.get? a=some { cls:=.none,data:=.fields ps }
  exact k a _ (.inl rfl) e
|met f y =>
  have e:h.get? a=some (PySem.W.methodObj (.ref f) (.ref y)):=x
  show h'.get? a=some (PySem.W.methodObj (.ref f) (.ref y))
  exact k a _ (.inl rfl) e
|ext φ=>obtain ⟨p,⟨o,e⟩,st⟩:=x;exact ⟨st _ _ p λ o q=>k _ _ (.inl rfl) q,⟨o,k _ _ (.inl rfl) e⟩,st⟩
theorem HOk.lt (x:HOk P w H h) (e:H a=some o):a < h.objs.size:=(x a o e).lt
theorem HOk.fresh (x:HOk P w H h) (e:h.objs.size<=a):H a=none:=by
 cases q:H a with
|none=>rfl
|some u=>exact absurd (Nat.lt_of_lt_of_le (x.lt q) e) (Nat.lt_irrefl _)
theorem HOk.kept (x:HOk P w H h) (k:∀ b u,h.get? b=some u->h'.get? b=some u):HOk P w H h':=λ a o e =>
 (x a o e).stay (λ b u _ q=>k b u q) (λ _ q=>q) λ _ _ q=>q
theorem HOk.laid (x:HOk P w H h) (k:∀ b u,h.get? b=some u->h'.get? b=some u) (hp:h.objs.size<=a) (new:ObjOk P w (upd H a o) h' a o):HOk P w (upd H a o) h':=λ b u e=>by
 have hn:=x.fresh hp
 by_cases hb:b=a
 ·subst hb;rw [zi0] at e;cases e;exact new
 ·rw [zj0 hb] at e
  exact (x b u e).stay (λ c v _ q=>k c v q) (λ c q=>by rw [zj0 (zf3 q hn)];exact q) λ c xs q=>by rw [zj0 (zf3 q hn)];exact q
end
def Rd (H:Hp) (a:Addr) (u:HO):Prop:=H a=some u \/ ∃ o,H a=some (.frz o u)
theorem Rd.ok {P:Program} {w:World} {H:Hp} {h:Heap} {a:Addr} {u:HO} (r:Rd H a u) (x:HOk P w H h):ObjOk P w H h a u:=by
 rcases r with r|⟨o,r⟩
 ·exact x a u r
 ·obtain ⟨_,q⟩:=x a _ r
  exact q
def Mut:Option HO->Prop
|some (.lst _)=>True
|some (.dK _)=>True
|some (.dT _)=>True
|some (.set _ _)=>True
|some (.ins _ _ _)=>True
|some (.ext _)=>True
|_=>False
section
variable {P:Program} {w:World} {H:Hp} {h h':Heap} {x e:Addr} {o':HO}
theorem HOk.write (ok:HOk P w H h) (mu:Mut (H x)) (he:e=x \/ H e=some (.own x)) (k:∀ b u,b≠e->h.get? b=some u->h'.get? b=some u) (heo:∃ u,h'.get? e=some u)
  (new:ObjOk P w (upd H x o') h' x o'):HOk P w (upd H x o') h':=λ b u q=>by
 have nown:∀ c y,H c=some (.own y)->c≠x:=λ c y r z=>by subst z;rw [r] at mu;exact mu
 have ntup:∀ c xs,H c=some (.tup xs)->c≠x:=λ c xs r z=>by subst z;rw [r] at mu;exact mu
 by_cases hb:b=x
 ·subst hb;rw [zi0] at q;cases q;exact new
 ·rw [zj0 hb] at q
  by_cases hbe:b=e
  ·have q':H b=some (.own x):=by
    rcases he with z|z
    ·exact absurd (hbe.trans z) hb
    ·rw [hbe];exact z
   rw [q] at q';cases q'
   obtain ⟨v,hv⟩:=heo
   exact ⟨v,by rw [hbe];exact hv⟩
  ·refine (ok b u q).stay (λ c v hc r=>k c v ?_ r) (λ c r=>by rw [zj0 (nown c b r)];exact r) λ c xs r=>by rw [zj0 (ntup c xs r)];exact r
   rcases hc with rfl|hc
   ·exact hbe
   ·rintro rfl
    rcases he with z|z
    ·exact nown c b hc z
    ·rw [hc] at z;cases z;exact hb rfl
end
structure Un (fs ex:List Addr) (H H':Hp) (h h':Heap):Prop where
 keep:∀ b o,h.get? b=some o->H b=none->b ∉ fs->b ∉ ex->h'.get? b=some o
 slot:∀ b o,h.get? b=some o->H b=none->b∈fs->b ∉ ex->∃ sl,h'.get? b=some { o with slots:=sl }
 free:∀ b o,h.get? b=some o->H b=none->b ∉ ex->H' b=none
 there:∀ b o,h.get? b=some o->b ∉ ex->∃ o',h'.get? b=some o'
 tups:∀ b xs,H b=some (.tup xs)->H' b=some (.tup xs)
 frzs:∀ b o u,H b=some (.frz o u)->H' b=some (.frz o u)
 tbls:∀ b ps,H b=some (.tbl ps)->∃ more,H' b=some (.tbl (ps++more))
section
variable {fs fs' ex ex':List Addr} {H H1 H2:Hp} {h h1 h2 h':Heap} {a x e:Addr} {o:HO}
theorem Un.any (u:Un fs ex H H1 h h1) {b:Addr} {ob:Obj} (q:h.get? b=some ob) (n:H b=none) (hx:b ∉ ex):∃ sl,h1.get? b=some { ob with slots:=sl }:=by
 by_cases hb:b∈fs
 ·exact u.slot b ob q n hb hx
 ·exact ⟨ob.slots,u.keep b ob q n hb hx⟩
theorem Un.trans (a:Un fs ex H H1 h h1) (b:Un fs ex H1 H2 h1 h2):Un fs ex H H2 h h2 where
 keep:=λ c ob q n hc hx=>b.keep c ob (a.keep c ob q n hc hx) (a.free c ob q n hx) hc hx
 slot:=λ c ob q n hc hx=>by
  obtain ⟨sl,e1⟩:=a.slot c ob q n hc hx
  obtain ⟨sl',e2⟩:=b.slot c _ e1 (a.free c ob q n hx) hc hx
  exact ⟨sl',e2⟩
 free:=λ c ob q n hx=>by
  obtain ⟨o',e1⟩:=a.there c ob q hx
  exact b.free c o' e1 (a.free c ob q n hx) hx
 there:=λ c ob q hx=>by
  obtain ⟨o',e1⟩:=a.there c ob q hx
  exact b.there c o' e1 hx
 tups:=λ c xs q=>b.tups c xs (a.tups c xs q)
 frzs:=λ c ob xs q=>b.frzs c ob xs (a.frzs c ob xs q)
 tbls:=λ c ps q=>by
  obtain ⟨m1,e1⟩:=a.tbls c ps q
  obtain ⟨m2,e2⟩:=b.tbls c _ e1
  exact ⟨m1++m2,by rw [e2,Array.append_assoc]⟩
theorem Un.kept (k:∀ b u,h.get? b=some u->h'.get? b=some u):Un fs ex H H h h' :=
 ⟨λ b ob q _ _ _=>k b ob q,λ b ob q _ _ _=>⟨ob.slots,k b ob q⟩,λ _ _ _ n _=>n,λ b ob q _=>⟨ob,k b ob q⟩,λ _ _ q=>q,λ _ _ _ q=>q,λ _ ps q=>⟨#[],by rw [q];simp⟩⟩
theorem Un.refl:Un fs ex H H h h:=Un.kept λ _ _ q=>q
theorem Un.laid (k:∀ b u,h.get? b=some u->h'.get? b=some u) (hp:h.objs.size<=a) (hn:H a=none):Un fs ex H (upd H a o) h h' where
 keep:=λ b u q _ _ _=>k b u q
 slot:=λ b u q _ _ _=>⟨u.slots,k b u q⟩
 free:=λ b u q n _=>by rw [zj0 (Nat.ne_of_lt (Nat.lt_of_lt_of_le (Heap.lt_size q) hp))];exact n
 there:=λ b u q _=>⟨u,k b u q⟩
 tups:=λ b xs q=>by rw [zj0 (zf3 q hn)];exact q
 frzs:=λ b u xs q=>by rw [zj0 (zf3 q hn)];exact q
 tbls:=λ b ps q=>⟨#[],by rw [zj0 (zf3 q hn),q];simp⟩
theorem Un.write (mu:Mut (H x)) (he:e=x \/ H e=some (.own x)) (k:∀ b u,b≠e->h.get? b=some u->h'.get? b=some u) (heo:∃ u,h'.get? e=some u):Un fs ex H (upd H x o) h h':=by
 have hx:∀ b,H b=none->b≠x:=λ b n z=>by subst z;rw [n] at mu;exact mu
 have hb:∀ b,H b=none->b≠e:=λ b n z=>by
  subst z
  rcases he with r|r
  ·exact hx b n r
  ·rw [n] at r;cases r
 have hm:∀ b u,H b=some u->¬ Mut (some u)->b≠x:=λ b u q nm z=>by subst z;rw [q] at mu;exact nm mu
 refine ⟨λ b u q n _ _=>k b u (hb b n) q,λ b u q n _ _=>⟨u.slots,k b u (hb b n) q⟩,λ b u q n _=>by rw [zj0 (hx b n)];exact n,λ b u q _=>?_,
  λ b xs q=>by rw [zj0 (hm b _ q λ z=>z)];exact q,λ b u xs q=>by rw [zj0 (hm b _ q λ z=>z)];exact q,λ b ps q=>⟨#[],by rw [zj0 (hm b _ q λ z=>z),q];simp⟩⟩
 by_cases hbe:b=e
 ·subst hbe;exact heo
 ·exact ⟨u,k b u hbe q⟩
end
def trk (h:Heap) (H:Hp):List Addr:=(List.range h.objs.size).filter λ a=>(H a).isSome
def hidT (h:Heap) (H:Hp):Heap:=PySem.W.hideAll h (trk h H)
theorem znq (h:Heap) (H:Hp):(hidT h H).objs.size=h.objs.size:=PySem.W.hideAll_size _ _
theorem zvu {h:Heap} {H:Hp} {b:Addr} {o:Obj} (e:h.get? b=some o) (n:H b=none):(hidT h H).get? b=some o :=
 PySem.W.hideAll_get _ e λ hm=>by
  have q:(H b).isSome=true:=(List.mem_filter.mp hm).2
  rw [n] at q;simp at q
theorem za01 {h:Heap} {H:Hp} {b:Addr} {o:Obj} (e:(hidT h H).get? b=some o):h.get? b=some o/\H b=none:=by
 have e':h.get? b=some o:=PySem.W.of_hideAll (trk h H) e
 refine ⟨e',?_⟩
 cases q:H b with
|none=>rfl
|some x =>
  have hm:b∈trk h H:=List.mem_filter.mpr ⟨List.mem_range.mpr (Heap.lt_size e'),by simp [q]⟩
  have z:(hidT h H).get? b=none:=PySem.W.hideAll_none (trk h H) hm
  rw [z] at e;cases e
structure Mod (K:Fg) (mg:Str->Option Value) (base:Heap):Prop where
 kin:K.In base
 glob:base.Ns mainGlobals mg
 blt:∃ mb,base.Ns builtinsNs mb/\∀ x:Str,x ≠ "__name__"->mb x=bootBuiltins x
 nolimit:base.NoLimit
structure Cx where
 prog:Program
 w:World
 K:Fg
 mg:Str->Option Value
 base:Heap
 A:Around
 N:List Str
 s₀:Shared
 H₀:Hp
 env:Env
 outer:List Env
 stack:List Env
 ex:List Addr
 fn:Str->Bool
 calm:Bool
 pn:List (Addr×Obj)
 xe:Value->Shared->Prop
def frs (l:List Env):List Addr:=l.filterMap (·.frame)
abbrev Cx.fs (X:Cx):List Addr:=frs X.outer
def Vis (sc:Scope) (x:Str):Prop:=sc.names.lookup x=some .local \/ sc.names.lookup x=some .cell \/ sc.names.lookup x=some .free
def Loc (sc:Scope) (x:Str):Prop:=sc.names.lookup x=some .local \/ sc.names.lookup x=some .cell
def Look (env:Env) (h:Heap) (m:Str->Option Value) (x:Str) (u:Value):Prop :=
 (env.kindOf x=some .local/\m x=some u) \/ ((env.kindOf x=some .cell \/ env.kindOf x=some .free)/\∃ c,env.cells.lookup x=some c/\h.IsCell c (some u))
structure Cx.Ok (X:Cx):Prop where
 mod:Mod X.K X.mg X.base
 kind:X.env.scope.kind=.function
 glob:X.env.globals=mainGlobals
 blt:X.env.builtins=builtinsNs
 above:X.s₀.heap.objs.size<=X.env.locals
 inj:∀ x y c,X.env.cells.lookup x=some c->X.env.cells.lookup y=some c->x=y
 has:∀ x,(X.env.kindOf x=some .cell \/ X.env.kindOf x=some .free)->∃ c,X.env.cells.lookup x=some c
 cab:∀ x c,X.fn x=true->X.env.cells.lookup x=some c->X.s₀.heap.objs.size<=c
 hd:X.calm=true->X.A.handled=none
 frames:X.A.frames=some X.stack
 stk:X.stack=X.outer \/ (X.stack=X.env :: X.outer/\X.env.frame=some X.env.locals)
 exf:∀ b∈X.ex,b≠X.env.locals/\∀ x c,X.env.cells.lookup x=some c->c≠b
 bs:∀ b o,X.base.get? b=some o->X.s₀.heap.get? b=some o/\X.H₀ b=none
 bsz:X.base.objs.size<=X.s₀.heap.objs.size
 noex:∀ b o,X.base.get? b=some o->b ∉ X.ex
 exfs:∀ b∈X.ex,b ∉ X.fs
 funs:X.s₀.heap.FunFrames X.base X.outer
 frf:∀ b∈X.fs,X.H₀ b=none
structure Inv (X:Cx) (pins:List (Addr×Obj)) (Y:List (Option V)) (H:Hp) (s:Shared):Prop where
 ok:X.Ok
 os:s.os=X.s₀.os
 bare:AllBare s.gens
 base:Un X.fs X.ex X.H₀ H X.s₀.heap s.heap
 loc:∃ m,s.heap.Ns X.env.locals m/\∀ (i:Nat) (x:Str) (v:V),X.N[i]?=some x->Y[i]?=some (some v)->Vis X.env.scope x->∃ u,RelV v u/\Look X.env s.heap m x u
 cell:∀ x c,X.env.cells.lookup x=some c->∃ v,s.heap.IsCell c v
 free:H X.env.locals=none
 freeC:∀ x c,X.env.cells.lookup x=some c->H c=none
 pin:∀ p∈X.pn++pins,s.heap.get? p.1=some p.2/\H p.1=none/\p.1≠X.env.locals/\p.1 ∉ X.fs/\∀ v,p.2.data≠.cell v
 hok:HOk X.prog X.w H s.heap
 len:Y.length=X.N.length
section
variable {X:Cx} {pins:List (Addr×Obj)} {Y:List (Option V)} {H H':Hp} {s:Shared} {h':Heap}
theorem Cx.Ok.nofr (ok:X.Ok) {b:Addr} {o:Obj} (e:X.base.get? b=some o):b ∉ X.fs:=λ hb=>by
 have:=(ok.funs.mem hb).1
 rw [e] at this;cases this
theorem Inv.bs (I:Inv X pins Y H s):∀ b o,X.base.get? b=some o->s.heap.get? b=some o/\H b=none:=λ b o e =>
 ⟨I.base.keep b o (I.ok.bs b o e).1 (I.ok.bs b o e).2 (I.ok.nofr e) (I.ok.noex b o e),I.base.free b o (I.ok.bs b o e).1 (I.ok.bs b o e).2 (I.ok.noex b o e)⟩
theorem Inv.bk (I:Inv X pins Y H s):∀ b o,X.base.get? b=some o->s.heap.get? b=some o:=λ b o e=>(I.bs b o e).1
theorem Inv.mod (I:Inv X pins Y H s):Mod X.K X.mg X.base:=I.ok.mod
theorem Inv.kIn (I:Inv X pins Y H s):X.K.In s.heap:=I.ok.mod.kin.keeps I.bk
theorem Inv.lt (I:Inv X pins Y H s):X.env.locals < s.heap.objs.size:=let ⟨_,hn,_⟩:=I.loc;hn.lt
theorem Inv.sz (I:Inv X pins Y H s):X.s₀.heap.objs.size<=s.heap.objs.size:=Nat.le_trans I.ok.above (Nat.le_of_lt I.lt)
theorem Inv.nofs (I:Inv X pins Y H s) {a:Addr} (h:s.heap.objs.size<=a):a ∉ X.fs:=λ hb=>by
 obtain ⟨_,o,ho,_⟩:=I.ok.funs.mem hb
 exact absurd (Nat.lt_of_lt_of_le (Heap.lt_size ho) (Nat.le_trans I.sz h)) (Nat.lt_irrefl _)
theorem Inv.cne (I:Inv X pins Y H s):∀ x c,X.env.cells.lookup x=some c->c≠X.env.locals:=λ x c e z=>by
 obtain ⟨v,o,ho,hd⟩:=I.cell x c e
 obtain ⟨m,⟨o',es,ep,ho',hd',_⟩,_⟩:=I.loc
 rw [z,ho'] at ho;cases ho;rw [hd'] at hd;cases hd
theorem Inv.funs (I:Inv X pins Y H s):s.heap.FunFrames X.base X.outer:=by
 have all:∀ (l:List Env),(∀ b∈frs l,b∈X.fs)->X.s₀.heap.FunFrames X.base l->s.heap.FunFrames X.base l:=by
  intro l
  induction l with
 |nil=>intro _ _;trivial
 |cons env r ih =>
   intro hs hl
   obtain ⟨hk,⟨L,o,hf,hn,ho,hd⟩,hr⟩:=hl
   have hL:L∈X.fs:=hs L (by unfold frs;rw [List.filterMap_cons,hf];exact List.mem_cons_self)
   obtain ⟨sl,e⟩:=I.base.slot L o ho (I.ok.frf L hL) hL λ z=>I.ok.exfs L z hL
   exact ⟨hk,⟨L,_,hf,hn,e,hd⟩,ih (λ b hb=>hs b (by unfold frs;rw [List.filterMap_cons,hf];exact List.mem_cons_of_mem _ hb)) hr⟩
 exact all X.outer (λ _ hb=>hb) I.ok.funs
theorem Inv.stack (I:Inv X pins Y H s):s.heap.FunFrames X.base X.stack:=by
 rcases I.ok.stk with e|⟨e,hf⟩
 ·rw [e];exact I.funs
 ·rw [e]
  obtain ⟨m,hn,_⟩:=I.loc
  refine .cons (by rw [I.ok.kind];decide) hf hn ?_ I.funs
  exact Heap.get?_none_of_le (Nat.le_trans I.ok.bsz I.ok.above)
theorem Inv.stkSub (I:Inv X pins Y H s):∀ b∈frs X.stack,b∈X.env.locals :: X.fs:=λ b hb=>by
 rcases I.ok.stk with e|⟨e,hf⟩
 ·rw [e] at hb;exact List.mem_cons_of_mem _ hb
 ·rw [e] at hb
  unfold frs at hb
  rw [List.filterMap_cons,hf] at hb
  exact hb
theorem Inv.stkFree (I:Inv X pins Y H s):∀ b∈frs X.stack,H b=none:=λ b hb=>by
 rcases List.mem_cons.mp (I.stkSub b hb) with e|hb
 ·rw [e];exact I.free
 ·obtain ⟨_,o,ho,_⟩:=I.ok.funs.mem hb
  exact I.base.free b o ho (I.ok.frf b hb) λ z=>I.ok.exfs b z hb
theorem Inv.step {g':Array GenState} {t':Nat} {d':Drawn} {ch:List Addr} (I:Inv X pins Y H s)
  (hch:∀ b∈ch,(b∈X.ex \/ X.s₀.heap.objs.size<=b)/\b≠X.env.locals/\(∀ x c,X.env.cells.lookup x=some c->c≠b)/\∀ p∈X.pn++pins,p.1≠b)
  (keep:∀ b o,b≠X.env.locals->b ∉ X.fs->b ∉ ch->s.heap.get? b=some o->H b=none->h'.get? b=some o)
  (slot:∀ b o,b≠X.env.locals->b∈X.fs->b ∉ ch->s.heap.get? b=some o->H b=none->∃ sl,h'.get? b=some { o with slots:=sl }) (free:∀ b o,b ∉ ch->s.heap.get? b=some o->H b=none->H' b=none)
  (there:∀ b o,b ∉ ch->s.heap.get? b=some o->∃ o',h'.get? b=some o')
  (tups:∀ b xs,H b=some (.tup xs)->H' b=some (.tup xs)) (frzs:∀ b o u,H b=some (.frz o u)->H' b=some (.frz o u)) (tbls:∀ b ps,H b=some (.tbl ps)->∃ more,H' b=some (.tbl (ps++more)))
  (ns:∀ m,s.heap.Ns X.env.locals m->h'.Ns X.env.locals m) (hok:HOk X.prog X.w H' h') (hg:AllBare g') :
  Inv X pins Y H' { s with heap:=h',gens:=g',drawn:=d',toks:=t' }:=by
 have neL:∀ b o,X.s₀.heap.get? b=some o->b≠X.env.locals:=λ b o e=>Nat.ne_of_lt (Nat.lt_of_lt_of_le (Heap.lt_size e) I.ok.above)
 have neC:∀ b o,X.s₀.heap.get? b=some o->b ∉ X.ex->b ∉ ch:=λ b o e hx hb=>by
  rcases (hch b hb).1 with z|z
  ·exact hx z
  ·exact absurd (Nat.lt_of_lt_of_le (Heap.lt_size e) z) (Nat.lt_irrefl _)
 have cellK:∀ x c,X.env.cells.lookup x=some c->∀ v,s.heap.IsCell c v->h'.IsCell c v:=λ x c e v ⟨o,ho,hd⟩=>by
  have nch:c ∉ ch:=λ z=>(hch c z).2.2.1 x c e rfl
  by_cases hc:c∈X.fs
  ·obtain ⟨sl,q⟩:=slot c o (I.cne x c e) hc nch ho (I.freeC x c e)
   exact ⟨_,q,hd⟩
  ·exact ⟨o,keep c o (I.cne x c e) hc nch ho (I.freeC x c e),hd⟩
 refine ⟨I.ok,I.os,hg,⟨λ b o e n hb hx=>?_,λ b o e n hb hx=>?_,λ b o e n hx=>?_,λ b o e hx=>?_,λ b xs e=>tups b xs (I.base.tups b xs e),λ b o xs e=>frzs b o xs (I.base.frzs b o xs e),λ b ps e=>?_⟩,?_,λ x c e=>?_,?_,λ x c e=>?_,λ p hp=>?_,hok,I.len⟩
 ·exact keep b o (neL b o e) hb (neC b o e hx) (I.base.keep b o e n hb hx) (I.base.free b o e n hx)
 ·obtain ⟨sl,e1⟩:=I.base.slot b o e n hb hx
  obtain ⟨sl',e2⟩:=slot b _ (neL b o e) hb (neC b o e hx) e1 (I.base.free b o e n hx)
  exact ⟨sl',e2⟩
 ·obtain ⟨o',e1⟩:=I.base.there b o e hx
  exact free b o' (neC b o e hx) e1 (I.base.free b o e n hx)
 ·obtain ⟨o',e1⟩:=I.base.there b o e hx
  exact there b o' (neC b o e hx) e1
 ·obtain ⟨m1,e1⟩:=I.base.tbls b ps e
  obtain ⟨m2,e2⟩:=tbls b _ e1
  exact ⟨m1++m2,by rw [e2,Array.append_assoc]⟩
 ·obtain ⟨m,hn,hl⟩:=I.loc
  refine ⟨m,ns m hn,λ i x v e1 e2 e3=>?_⟩
  obtain ⟨u,r,l⟩:=hl i x v e1 e2 e3
  refine ⟨u,r,?_⟩
  rcases l with l|⟨k,c,e,z⟩
  ·exact .inl l
  ·exact .inr ⟨k,c,e,cellK x c e _ z⟩
 ·obtain ⟨v,z⟩:=I.cell x c e
  exact ⟨v,cellK x c e v z⟩
 ·obtain ⟨m,⟨o,_,_,ho,_⟩,_⟩:=I.loc
  exact free _ o (λ z=>(hch _ z).2.1 rfl) ho I.free
 ·obtain ⟨v,o,ho,hd⟩:=I.cell x c e
  exact free c o (λ z=>(hch c z).2.2.1 x c e rfl) ho (I.freeC x c e)
 ·obtain ⟨e,n,ne,nf,d⟩:=I.pin p hp
  have nch:p.1 ∉ ch:=λ z=>(hch p.1 z).2.2.2 p hp rfl
  exact ⟨keep p.1 p.2 ne nf nch e n,free p.1 p.2 nch e n,ne,nf,d⟩
theorem Inv.un {t':Nat} (I:Inv X pins Y H s) (u:Un X.fs [] H H' s.heap h') (hok:HOk X.prog X.w H' h'):Inv X pins Y H' { s with heap:=h',toks:=t' }:=by
 obtain ⟨m,⟨o,es,ep,ho,r⟩,_⟩:=id I.loc
 obtain ⟨sl,hL⟩:=u.any ho I.free (by simp)
 exact I.step (g':=s.gens) (d':=s.drawn) (ch:=[]) (λ _ z=>nomatch z) (λ b o _ hb _ e n=>u.keep b o e n hb (by simp)) (λ b o _ hb _ e n=>u.slot b o e n hb (by simp)) (λ b o _ e n=>u.free b o e n (by simp)) (λ b o _ e=>u.there b o e (by simp)) u.tups u.frzs u.tbls (λ m' hm=>by
  obtain ⟨o',es',ep',ho',r'⟩:=hm
  rw [ho] at ho';cases ho'
  exact ⟨_,es',ep',hL,r'⟩) hok I.bare
theorem Inv.call {g':Array GenState} {t':Nat} {d':Drawn} {ch:List Addr} (I:Inv X pins Y H s) (u:Un (frs X.stack) ch H H' s.heap h') (hok:HOk X.prog X.w H' h') (hg:AllBare g')
  (hch:∀ b∈ch,(b∈X.ex \/ X.s₀.heap.objs.size<=b)/\b≠X.env.locals/\(∀ x c,X.env.cells.lookup x=some c->c≠b)/\∀ p∈X.pn++pins,p.1≠b) :
  Inv X pins Y H' { s with heap:=h',gens:=g',drawn:=d',toks:=t' }:=by
 obtain ⟨m,⟨o,es,ep,ho,r⟩,_⟩:=id I.loc
 obtain ⟨sl,hL⟩:=u.any ho I.free λ z=>(hch _ z).2.1 rfl
 exact I.step (ch:=ch) hch (λ b o hL hb hc e n=>u.keep b o e n (λ z=>(List.mem_cons.mp (I.stkSub b z)).elim hL hb) hc) (λ b o _ _ hc e n=>u.any e n hc) (λ b o hc e n=>u.free b o e n hc) (λ b o hc e=>u.there b o e hc) u.tups u.frzs u.tbls (λ m' hm=>by
  obtain ⟨o',es',ep',ho',r'⟩:=hm
  rw [ho] at ho';cases ho'
  exact ⟨_,es',ep',hL,r'⟩) hok hg
theorem Inv.turned {t':Nat} {it:Addr} (I:Inv X pins Y H s) (k:∀ b o,b≠it->s.heap.get? b=some o->h'.get? b=some o) (hn:H it=none) (hL:it≠X.env.locals)
  (h1:it∈X.ex \/ X.s₀.heap.objs.size<=it) (h2:∀ x c,X.env.cells.lookup x=some c->c≠it) (h3:∀ p∈X.pn++pins,p.1≠it):Inv X pins Y H { s with heap:=h',toks:=t' }:=by
 have nit:∀ b u,H b=some u->b≠it:=λ b u e z=>by rw [z,hn] at e;cases e
 refine I.step (g':=s.gens) (d':=s.drawn) (ch:=[it]) (λ b hb=>?_) (λ b o _ _ hc e _=>k b o (λ z=>hc (by simp [z])) e) (λ b o _ _ hc e _=>⟨o.slots,k b o (λ z=>hc (by simp [z])) e⟩) (λ _ _ _ _ n=>n)
  (λ b o hc e=>⟨o,k b o (λ z=>hc (by simp [z])) e⟩) (λ _ _ e=>e) (λ _ _ _ e=>e) (λ b ps e=>⟨#[],by rw [e];simp⟩) (λ m hm=>?_) (λ b u e=>?_) I.bare
 ·have e:b=it:=by simpa using hb
  subst e
  exact ⟨h1,hL,h2,h3⟩
 ·obtain ⟨o,es,ep,ho,r⟩:=hm
  exact ⟨o,es,ep,k _ o (Ne.symm hL) ho,r⟩
 ·refine (I.hok b u e).stay (λ c v hc q=>k c v ?_ q) (λ _ q=>q) λ _ _ q=>q
  rcases hc with z|z
  ·rw [z];exact nit b u e
  ·exact nit c _ z
theorem Inv.tok (I:Inv X pins Y H s) (t:Nat):Inv X pins Y H { s with toks:=t }:=I.un (h':=s.heap) (t':=t) Un.refl I.hok
theorem Inv.kept {t':Nat} (I:Inv X pins Y H s) (k:∀ b u,s.heap.get? b=some u->h'.get? b=some u):Inv X pins Y H { s with heap:=h',toks:=t' }:=I.un (Un.kept k) (I.hok.kept k)
theorem Inv.laid {a:Addr} {o:HO} {t':Nat} (I:Inv X pins Y H s) (k:∀ b u,s.heap.get? b=some u->h'.get? b=some u) (hp:s.heap.objs.size<=a) (new:ObjOk X.prog X.w (upd H a o) h' a o) :
  Inv X pins Y (upd H a o) { s with heap:=h',toks:=t' }:=I.un (Un.laid k hp (I.hok.fresh hp)) (I.hok.laid k hp new)
theorem Inv.write {x e:Addr} {o:HO} {t':Nat} (I:Inv X pins Y H s) (mu:Mut (H x)) (he:e=x \/ H e=some (.own x)) (k:∀ b u,b≠e->s.heap.get? b=some u->h'.get? b=some u) (heo:∃ u,h'.get? e=some u)
  (new:ObjOk X.prog X.w (upd H x o) h' x o):Inv X pins Y (upd H x o) { s with heap:=h',toks:=t' }:=I.un (Un.write mu he k heo) (I.hok.write mu he k heo new)
theorem Inv.pins_of {pins':List (Addr×Obj)} (I:Inv X pins Y H s) (h:∀ p∈pins',s.heap.get? p.1=some p.2/\H p.1=none/\p.1≠X.env.locals/\p.1 ∉ X.fs/\∀ v,p.2.data≠.cell v):Inv X pins' Y H s :=
 ⟨I.ok,I.os,I.bare,I.base,I.loc,I.cell,I.free,I.freeC,λ p hp=>(List.mem_append.mp hp).elim (λ z=>I.pin p (List.mem_append_left _ z)) (h p),I.hok,I.len⟩
theorem zii {N:List Str} (hN:N.Nodup) {i j:Nat} {x:Str} (a:N[i]?=some x) (b:N[j]?=some x):i=j:=by
 obtain ⟨h1,e1⟩:=List.getElem?_eq_some_iff.mp a
 obtain ⟨h2,e2⟩:=List.getElem?_eq_some_iff.mp b
 exact (List.getElem_inj hN).mp (e1.trans e2.symm)
theorem zfk {M:Model} {A:Around} {E:Value->Shared->Prop} {i:Nat} {x:Str} {v:V} {u:Value} {Q:Unit->Shared->Prop} (I:Inv X pins Y H s) (hN:X.N.Nodup) (hi:X.N[i]?=some x) (hx:Loc X.env.scope x) (r:RelV v u)
  (h:∀ s',Inv X pins (Y.set i (some v)) H s'->(∃ a,Heap.SameBut a s.heap s'.heap/\(a=X.env.locals \/ X.env.cells.lookup x=some a))->Q () s') (hf:X.fn x=true \/ X.env.scope.names.lookup x=some .local:=by walk_at "vi"):wpAny M A (storeName X.env x u) Q E s:=by
 obtain ⟨m,hn,hl⟩:=id I.loc
 have hcls:(X.env.scope.kind == .class || (X.env.scope.kind == .module && X.env.locals != X.env.globals))=false:=by rw [I.ok.kind];rfl
 have hiY:i < Y.length:=by rw [I.len];exact (List.getElem?_eq_some_iff.mp hi).1
 have cne:=I.cne
 have tracked:∀ {a:Addr} {h':Heap},(∃ o,s.heap.get? a=some o/\H a=none)->Heap.SameBut a s.heap h'->HOk X.prog X.w H h':=λ {a h'} ha hs b ob e=>by
  obtain ⟨_,_,hfree⟩:=ha
  refine (I.hok b ob e).stay (λ c w' hc q=>(hs.2 c ?_).trans q) (λ _ q=>q) λ _ _ q=>q
  rintro rfl
  rcases hc with rfl|hc
  ·rw [hfree] at e;cases e
  ·rw [hfree] at hc;cases hc
 rcases hx with hk|hk
 ·refine wpAny_storeName_local hk hn (λ h' hn' hs=>?_) hcls
  obtain ⟨oL,_,_,hoL,_⟩:=id hn
  refine h _ ⟨I.ok,I.os,I.bare,⟨λ b o e n hb hx=>?_,λ b o e n hb hx=>?_,I.base.free,λ b o e hx=>?_,I.base.tups,I.base.frzs,I.base.tbls⟩,⟨_,hn',λ j y v' e1 e2 e3=>?_⟩,λ y c e=>?_,I.free,I.freeC,λ p hp=>?_,tracked ⟨oL,hoL,I.free⟩ hs,by simpa using I.len⟩ ⟨_,hs,.inl rfl⟩
  ·exact (hs.2 b (Nat.ne_of_lt (Nat.lt_of_lt_of_le (Heap.lt_size e) I.ok.above))).trans (I.base.keep b o e n hb hx)
  ·obtain ⟨sl,e1⟩:=I.base.slot b o e n hb hx
   exact ⟨sl,(hs.2 b (Nat.ne_of_lt (Nat.lt_of_lt_of_le (Heap.lt_size e) I.ok.above))).trans e1⟩
  ·obtain ⟨o',e1⟩:=I.base.there b o e hx
   exact ⟨o',(hs.2 b (Nat.ne_of_lt (Nat.lt_of_lt_of_le (Heap.lt_size e) I.ok.above))).trans e1⟩
  ·by_cases hj:j=i
   ·subst hj
    rw [hi] at e1;cases e1
    rw [List.getElem?_set_self hiY] at e2
    cases e2
    exact ⟨u,r,.inl ⟨hk,by simp⟩⟩
   ·rw [List.getElem?_set_ne (Ne.symm hj)] at e2
    obtain ⟨u',r',q⟩:=hl j y v' e1 e2 e3
    refine ⟨u',r',?_⟩
    rcases q with ⟨k,e⟩|⟨k,c,e,z⟩
    ·refine .inl ⟨k,?_⟩
     have:y≠x:=λ e=>hj (zii hN e1 (e ▸ hi))
     simp [this,e]
    ·exact .inr ⟨k,c,e,z.sameBut hs (cne y c e)⟩
  ·obtain ⟨w',z⟩:=I.cell y c e
   exact ⟨w',z.sameBut hs (cne y c e)⟩
  ·obtain ⟨e,n,ne,nf,d⟩:=I.pin p hp
   exact ⟨(hs.2 p.1 ne).trans e,n,ne,nf,d⟩
 ·have hfn:X.fn x=true:=by
   rcases hf with z|z
   ·exact z
   ·rw [z] at hk;cases hk
  obtain ⟨c,hc⟩:=I.ok.has x (.inl hk)
  obtain ⟨w',z⟩:=I.cell x c hc
  refine wpAny_storeName_cell I.ok.kind hk hc z (λ h' hc' hs=>?_)
  obtain ⟨oc,hoc,hocd⟩:=id z
  refine h { s with heap:=h' } ⟨I.ok,I.os,I.bare,⟨λ b o e n hb hx=>?_,λ b o e n hb hx=>?_,I.base.free,λ b o e hx=>?_,I.base.tups,I.base.frzs,I.base.tbls⟩,⟨m,hn.sameBut hs (Ne.symm (cne x c hc)),λ j y v' e1 e2 e3=>?_⟩,λ y c' e=>?_,I.free,I.freeC,λ p hp=>?_,tracked ⟨oc,hoc,I.freeC x c hc⟩ hs,by simpa using I.len⟩ ⟨c,hs,.inr hc⟩
  ·exact (hs.2 b (Nat.ne_of_lt (Nat.lt_of_lt_of_le (Heap.lt_size e) (I.ok.cab x c hfn hc)))).trans (I.base.keep b o e n hb hx)
  ·obtain ⟨sl,e1⟩:=I.base.slot b o e n hb hx
   exact ⟨sl,(hs.2 b (Nat.ne_of_lt (Nat.lt_of_lt_of_le (Heap.lt_size e) (I.ok.cab x c hfn hc)))).trans e1⟩
  ·obtain ⟨o',e1⟩:=I.base.there b o e hx
   exact ⟨o',(hs.2 b (Nat.ne_of_lt (Nat.lt_of_lt_of_le (Heap.lt_size e) (I.ok.cab x c hfn hc)))).trans e1⟩
  ·by_cases hj:j=i
   ·subst hj
    rw [hi] at e1;cases e1
    rw [List.getElem?_set_self hiY] at e2
    cases e2
    exact ⟨u,r,.inr ⟨.inl hk,c,hc,hc'⟩⟩
   ·rw [List.getElem?_set_ne (Ne.symm hj)] at e2
    obtain ⟨u',r',q⟩:=hl j y v' e1 e2 e3
    refine ⟨u',r',?_⟩
    rcases q with q|⟨k,c',e,z'⟩
    ·exact .inl q
    ·refine .inr ⟨k,c',e,z'.sameBut hs ?_⟩
     rintro rfl
     exact hj (zii hN e1 (I.ok.inj _ _ _ e hc ▸ hi))
  ·by_cases hcc:c'=c
   ·subst hcc;exact ⟨_,hc'⟩
   ·obtain ⟨w2,z2⟩:=I.cell y c' e
    exact ⟨w2,z2.sameBut hs hcc⟩
  ·obtain ⟨e,n,ne,nf,d⟩:=I.pin p hp
   refine ⟨(hs.2 p.1 ?_).trans e,n,ne,nf,d⟩
   intro q
   rw [q,hoc] at e
   have q':oc=p.2:=Option.some.inj e
   exact d w' (by rw [<- q'];exact hocd)
theorem zge {M:Model} {A:Around} {E:Value->Shared->Prop} {i:Nat} {x:Str} {v:V} {u:Value} {Q:Unit->Shared->Prop} (I:Inv X pins Y H s) (hN:X.N.Nodup) (hi:X.N[i]?=some x) (hx:Loc X.env.scope x) (r:RelV v u)
  (h:∀ s',Inv X pins (Y.set i (some v)) H s'->Q () s') (hf:X.fn x=true \/ X.env.scope.names.lookup x=some .local:=by walk_at "vi"):wpAny M A (storeName X.env x u) Q E s :=
 zfk I hN hi hx r (λ s' I' _=>h s' I') hf
theorem Inv.call' {s':Shared} {ch:List Addr} (I:Inv X pins Y H s) (ho:s'.os=s.os) (u:Un (frs X.stack) ch H H' s.heap s'.heap) (hok:HOk X.prog X.w H' s'.heap) (hg:AllBare s'.gens)
  (hch:∀ b∈ch,(b∈X.ex \/ X.s₀.heap.objs.size<=b)/\b≠X.env.locals/\(∀ x c,X.env.cells.lookup x=some c->c≠b)/\∀ p∈X.pn++pins,p.1≠b):Inv X pins Y H' s':=by
 obtain ⟨h',g',d',t',o'⟩:=s'
 have e:o'=s.os:=ho
 subst e
 exact I.call (g':=g') (t':=t') (d':=d') u hok hg hch
end
abbrev XK:=Value->Option Addr->Hp->Prop
abbrev St:=List (Option V)
abbrev VK:=V->Hp->Prop
abbrev TE:=St->Hp->VK->Prop
abbrev TT:=St->Hp->(Bool->Hp->Prop)->Prop
abbrev TA:=St->Hp->(List V->Hp->Prop)->Prop
structure Ends where
 nx:St->Hp->Prop
 rt:VK
 bk:St->Hp->Prop:=λ _ _=>False
 ct:St->Hp->Prop:=λ _ _=>False
abbrev TS:=Ends->St->Hp->Prop
def EP (X:Cx) (pins:List (Addr×Obj)) (Y:St) (Q:VK) (u:Value) (s':Shared):Prop:=∃ v H',Inv X pins Y H' s'/\RelV v u/\Q v H'
def TP (X:Cx) (pins:List (Addr×Obj)) (Y:St) (Q:Bool->Hp->Prop) (b:Bool) (s':Shared):Prop:=∃ H',Inv X pins Y H' s'/\Q b H'
def AP (X:Cx) (pins:List (Addr×Obj)) (Y:St) (Q:List V->Hp->Prop) (us:List Value) (s':Shared):Prop:=∃ vs H',Inv X pins Y H' s'/\Vals vs us/\Q vs H'
def SP (X:Cx) (pins:List (Addr×Obj)) (D:Ends) (f:Flow) (s':Shared):Prop :=
 match f with
|.next=>∃ Y' H',Inv X pins Y' H' s'/\D.nx Y' H'
|.brk=>∃ Y' H',Inv X pins Y' H' s'/\D.bk Y' H'
|.cont=>∃ Y' H',Inv X pins Y' H' s'/\D.ct Y' H'
|.ret u=>∃ v Y' H',Inv X pins Y' H' s'/\RelV v u/\D.rt v H'
def PE (X:Cx) (e:Expr) (t:TE):Prop :=
 ∀ (pins:List (Addr×Obj)) (s:Shared) (Y:St) (H:Hp) (Q:VK),Inv X pins Y H s->t Y H Q->wpAny (model X.prog X.w) X.A (eval e X.env) (EP X pins Y Q) X.xe s
def PT (X:Cx) (e:Expr) (t:TT):Prop :=
 ∀ (pins:List (Addr×Obj)) (s:Shared) (Y:St) (H:Hp) (Q:Bool->Hp->Prop),Inv X pins Y H s->t Y H Q->wpAny (model X.prog X.w) X.A (isTrue e X.env (eval e X.env)) (TP X pins Y Q) X.xe s
def PW (X:Cx) (e:Expr) (t:TT):Prop :=
 ∀ (whole:Sem Value) (pins:List (Addr×Obj)) (s:Shared) (Y:St) (H:Hp) (Q:Bool->Hp->Prop),Inv X pins Y H s->t Y H Q->wpAny (model X.prog X.w) X.A (isTrue e X.env whole) (TP X pins Y Q) X.xe s
theorem PW.pt {X:Cx} {e:Expr} {t:TT} (h:PW X e t):PT X e t:=h _
def PA (X:Cx) (es:List Expr) (t:TA):Prop :=
 ∀ (pos:Pos) (pins:List (Addr×Obj)) (s:Shared) (Y:St) (H:Hp) (Q:List V->Hp->Prop),Inv X pins Y H s->t Y H Q->wpAny (model X.prog X.w) X.A (spliced (backTo pos (starEach es X.env))) (AP X pins Y Q) X.xe s
def PS (X:Cx) (st:Stmt) (t:TS):Prop :=
 ∀ (pins:List (Addr×Obj)) (s:Shared) (Y:St) (H:Hp) (D:Ends),Inv X pins Y H s->t D Y H->wpAny (model X.prog X.w) X.A (exec st X.env) (SP X pins D) X.xe s
def PSs (X:Cx) (st:List Stmt) (t:TS):Prop :=
 ∀ (pins:List (Addr×Obj)) (s:Shared) (Y:St) (H:Hp) (D:Ends),Inv X pins Y H s->t D Y H->wpAny (model X.prog X.w) X.A (execs st X.env) (SP X pins D) X.xe s
theorem thn {α:Type} {t:Sem α} {Q Q':α->Shared->Prop} {M:Model} {A:Around} {E:Value->Shared->Prop} {s:Shared} (h:wpAny M A t Q E s) (hQ:∀ a s,Q a s->Q' a s):wpAny M A t Q' E s:=wpAny_mono h hQ λ _ _ x=>x
section
variable {X:Cx}
theorem bin {a b:Expr} {ta tb:TE} (ha:PE X a ta) (hb:PE X b tb) {pins:List (Addr×Obj)} {s:Shared} {Y:St} {H:Hp} {R:V->V->Hp->Prop} (I:Inv X pins Y H s) (h:ta Y H λ x H1=>tb Y H1 λ y H2=>R x y H2)
  {α:Type} {Q:α->Shared->Prop} {f:Value->Value->Sem α}
  (hf:∀ v u s2 x y H2,Inv X pins Y H2 s2->RelV x v->RelV y u->R x y H2->wpAny (model X.prog X.w) X.A (f v u) Q X.xe s2) :
  wpAny (model X.prog X.w) X.A (eval a X.env) (λ v s₁=>wpAny (model X.prog X.w) X.A (eval b X.env) (λ u s₂=>wpAny (model X.prog X.w) X.A (f v u) Q X.xe s₂) X.xe s₁) X.xe s:=by
 refine thn (ha pins s Y H _ I h) λ v s1 hz=>?_
 obtain ⟨x,H1,I1,r1,q1⟩:=hz
 refine thn (hb pins s1 Y H1 _ I1 q1) λ u s2 hz=>?_
 obtain ⟨y,H2,I2,r2,q2⟩:=hz
 exact hf v u s2 x y H2 I2 r1 r2 q2
def tVar (i:Nat):TE:=λ Y H Q=>∃ v,Y[i]?=some (some v)/\Q v H
def tC (v:V):TE:=λ _ H Q=>Q v H
theorem zu81 {i:Nat} {x:Str} {pos:Pos} (hN:X.N[i]?=some x) (hv:Vis X.env.scope x) (hd:(x == ("__debug__":Str))=false:=by decide) (hcd:(x == ("__classdict__":Str))=false:=by decide):PE X (.Name x pos) (tVar i):=by
 intro pins s Y H Q I h
 obtain ⟨v,e,h⟩:=h
 obtain ⟨m,hn,hl⟩:=I.loc
 obtain ⟨u,r,l⟩:=hl i x v hN e hv
 have fin:EP X pins Y Q u s:=⟨v,H,I,r,h⟩
 rcases l with ⟨hk,hm⟩|⟨hk,c,hc,hcell⟩
 ·exact wpAny_Name (wpAny_loadName_local I.ok.kind hk hn hm fin) hd
 ·rcases hk with hk|hk
  ·exact wpAny_Name (wpAny_loadName_cell I.ok.kind hk hc hcell fin) hd
  ·exact wpAny_Name (wpAny_loadName_free I.ok.kind hk hc hcell fin hcd) hd
theorem zg0 {i j pos}:PE X (.Constant (.int i) j pos) (tC (.int i)):=λ _ _ _ H _ I h=>wpAny_Constant_int ⟨.int i,H,I.tok _,⟨_,rfl⟩,h⟩
theorem zqk {b j pos}:PE X (.Constant (.bool b) j pos) (tC (.bl b)):=λ _ _ _ H _ I h=>Constant_bool ⟨.bl b,H,I,rfl,h⟩
theorem ziq {x j pos}:PE X (.Constant (.str x) j pos) (tC (.str x)):=λ _ _ _ H _ I h=>Calls.Constant_str ⟨.str x,H,I.tok _,⟨_,rfl⟩,h⟩
def Gl (X:Cx) (x:Str):Prop:=X.env.kindOf x=some .globalImplicit
theorem zwc {E:Value->Shared->Prop} {pins:List (Addr×Obj)} {s:Shared} {Y:St} {H:Hp} {x:Str} {u:Value} {pos:Pos} {Q:Value->Shared->Prop} (I:Inv X pins Y H s) (hg:Gl X x) (hm:X.mg x=some u) (h:Q u s)
  (hd:(x == ("__debug__":Str))=false:=by decide):wpAny (model X.prog X.w) X.A (eval (.Name x pos) X.env) Q E s :=
 Calls.Name_function_global I.ok.kind hg (Calls.loadGlobal_global (by rw [I.ok.glob];exact I.mod.glob.keeps I.bk) hm h) hd
theorem zji {E:Value->Shared->Prop} {pins:List (Addr×Obj)} {s:Shared} {Y:St} {H:Hp} {x:Str} {u:Value} {pos:Pos} {Q:Value->Shared->Prop} (I:Inv X pins Y H s) (hg:Gl X x) (hm:X.mg x=none) (hv:bootBuiltins x=some u) (h:Q u s)
  (hn:x ≠ "__name__":=by decide) (hd:(x == ("__debug__":Str))=false:=by decide):wpAny (model X.prog X.w) X.A (eval (.Name x pos) X.env) Q E s:=by
 obtain ⟨mb,h1,h2⟩:=I.mod.blt
 exact Calls.Name_function_global I.ok.kind hg (Calls.loadGlobal_builtin (by rw [I.ok.glob];exact I.mod.glob.keeps I.bk) hm (by rw [I.ok.blt];exact h1.keeps I.bk) ((h2 x hn).trans hv) h) hd
theorem ze7 {x:Str} {v:V} {u:Value} {pos:Pos} (hg:Gl X x) (hm:X.mg x=some u) (r:RelV v u) (hd:(x == ("__debug__":Str))=false:=by decide):PE X (.Name x pos) (tC v) :=
 λ _ _ _ H _ I h=>zwc I hg hm ⟨v,H,I,r,h⟩ hd
theorem ztj {x:Str} {v:V} {u:Value} {pos:Pos} (hg:Gl X x) (hm:X.mg x=none) (hv:bootBuiltins x=some u) (r:RelV v u) (hn:x ≠ "__name__":=by decide) (hd:(x == ("__debug__":Str))=false:=by decide):PE X (.Name x pos) (tC v) :=
 λ _ _ _ H _ I h=>zji I hg hm hv ⟨v,H,I,r,h⟩ hn hd
variable {a b:Expr} {ta tb:TE} {pos:Pos}
variable {tA tB':TT} {rest:List Expr}
def tAnd (t u:TT):TT:=λ Y H Q=>t Y H λ c H1=>if c=true then u Y H1 Q else Q false H1
def tOr (t u:TT):TT:=λ Y H Q=>t Y H λ c H1=>if c=true then Q true H1 else u Y H1 Q
def tNot (t:TT):TT:=λ Y H Q=>t Y H λ c H1=>Q (!c) H1
theorem zt01 (ha:PT X a tA):PW X (.BoolOp .And [a] pos) tA:=by
 intro wh pins s Y H Q I h
 refine isTrue_and (thn (ha pins s Y H Q I h) λ c s1 e=>?_)
 cases c with
|true=>exact isTrue_and_nil e
|false=>exact e
theorem zmz (ha:PT X a tA):PW X (.BoolOp .Or [a] pos) tA:=by
 intro wh pins s Y H Q I h
 refine isTrue_or (thn (ha pins s Y H Q I h) λ c s1 e=>?_)
 cases c with
|false=>exact isTrue_or_nil e
|true=>exact e
theorem zt61 (ha:PT X a tA) (hb:PW X (.BoolOp .And (b :: rest) pos) tB'):PW X (.BoolOp .And (a :: b :: rest) pos) (tAnd tA tB'):=by
 intro wh pins s Y H Q I h
 refine isTrue_and (thn (ha pins s Y H _ I h) λ c s1 hz=>?_)
 obtain ⟨H1,I1,q1⟩:=hz
 cases c with
|true=>exact hb wh pins s1 Y H1 Q I1 q1
|false=>exact ⟨H1,I1,q1⟩
theorem zma1 (ha:PT X a tA) (hb:PW X (.BoolOp .Or (b :: rest) pos) tB'):PW X (.BoolOp .Or (a :: b :: rest) pos) (tOr tA tB'):=by
 intro wh pins s Y H Q I h
 refine isTrue_or (thn (ha pins s Y H _ I h) λ c s1 hz=>?_)
 obtain ⟨H1,I1,q1⟩:=hz
 cases c with
|true=>exact ⟨H1,I1,q1⟩
|false=>exact hb wh pins s1 Y H1 Q I1 q1
theorem zo8 (ha:PT X a tA):PT X (.UnaryOp .Not a pos) (tNot tA):=by
 intro pins s Y H Q I h
 exact isTrue_not (ha pins s Y H (λ c H1=>Q (!c) H1) I h)
def zka1 (ta tb:TE):TE:=λ Y H Q=>ta Y H λ x H1=>∃ c,x=.bl c/\if c=true then tb Y H1 Q else Q (.bl false) H1
def zdx (ta:TE):TE:=λ Y H Q=>ta Y H λ x H1=>∃ c,x=.bl c/\Q (.bl (!c)) H1
theorem ztp {op} {t:TE} (h:PE X a t):PE X (.BoolOp op [a] pos) t:=λ pins s Y H Q I hw=>BoolOp_one (h pins s Y H Q I hw)
theorem zdl (ha:PE X a ta) (hb:PE X (.BoolOp .And (b :: rest) pos) tb):PE X (.BoolOp .And (a :: b :: rest) pos) (zka1 ta tb):=by
 intro pins s Y H Q I h
 refine BoolOp_and (thn (ha pins s Y H _ I h) λ v s1 hz=>?_)
 obtain ⟨x,H1,I1,r1,q1⟩:=hz
 obtain ⟨c,rfl,q1⟩:=q1
 cases r1
 refine wpAny_truthy_bool ?_
 cases c with
|true=>exact hb pins s1 Y H1 Q I1 q1
|false=>exact ⟨.bl false,H1,I1,rfl,q1⟩
theorem zlw (ha:PE X a ta):PE X (.UnaryOp .Not a pos) (zdx ta):=by
 intro pins s Y H Q I h
 refine UnaryOp_ (thn (ha pins s Y H _ I h) λ v s1 hz=>?_)
 obtain ⟨x,H1,I1,r1,q1⟩:=hz
 obtain ⟨c,rfl,q1⟩:=q1
 cases r1
 exact not_of (wpAny_truthy_bool ⟨.bl (!c),H1,I1,rfl,q1⟩)
def tIf (t:TT) (ta tb:TE):TE:=λ Y H Q=>t Y H λ c H1=>if c=true then ta Y H1 Q else tb Y H1 Q
theorem zim {c:Expr} (hc:PT X c tA) (ha:PE X a ta) (hb:PE X b tb):PE X (.IfExp c a b pos) (tIf tA ta tb):=by
 intro pins s Y H Q I h
 refine wpAny_IfExp (thn (hc pins s Y H _ I h) λ d s1 hz=>?_)
 obtain ⟨H1,I1,q1⟩:=hz
 cases d with
|true=>exact ha pins s1 Y H1 Q I1 q1
|false=>exact hb pins s1 Y H1 Q I1 q1
end
def SqL (K:Fg) (H:Hp) (a:Addr) (xs:List V):Prop :=
 Rd H a (.lst xs) \/
  ∃ (o:Obj) (its:Array Value) (n:Nat),K.lookup a=some o/\o.cls=.type "list"/\o.dict=none/\o.data=.seq its n/\its.size<=sizeLine/\Vals xs its.toList
def SqT (K:Fg) (H:Hp) (a:Addr) (xs:List V):Prop :=
 Rd H a (.tup xs) \/
  ∃ (o:Obj) (its:Array Value) (n:Nat),K.lookup a=some o/\o.cls=.type "tuple"/\o.data=.seq its n/\its.size<=sizeLine/\Vals xs its.toList
def absV:Value->Option V
|.none=>some .non
|.bool b=>some (.bl b)
|.int i _=>some (.int i)
|.str x _=>some (.str x)
|.bytes b _=>some (.byt b)
|.float b _=>some (.flt b)
|.ref a=>some (.ref a)
|.type n=>some (.ty n)
|_=>none
theorem RelV.abs {x:V} {u:Value} (r:RelV x u):absV u=some x:=by
 cases x with
|non=>cases r;rfl
|bl _=>cases r;rfl
|int _=>obtain ⟨t,rfl⟩:=r;rfl
|str _=>obtain ⟨t,rfl⟩:=r;rfl
|byt _=>obtain ⟨t,rfl⟩:=r;rfl
|flt _=>obtain ⟨t,rfl⟩:=r;rfl
|ref _=>cases r;rfl
|ty _=>cases r;rfl
theorem RelV.inj {x y:V} {u:Value} (r:RelV x u) (q:RelV y u):x=y:=Option.some.inj (r.abs.symm.trans q.abs)
theorem Vals.inj:∀ {xs ys:List V} {us:List Value},Vals xs us->Vals ys us->xs=ys
|_,_,_,.nil,.nil=>rfl
|_,_,_,.cons r t,.cons r' t'=>by rw [r.inj r',Vals.inj t t']
section
variable {X:Cx} {pins:List (Addr×Obj)} {Y:St} {H:Hp} {s:Shared} {a:Addr} {xs ys:List V}
theorem SqL.of {K:Fg} (h:H a=some (.lst xs)):SqL K H a xs:=.inl (.inl h)
theorem SqT.of {K:Fg} (h:H a=some (.tup xs)):SqT K H a xs:=.inl (.inl h)
theorem Inv.list (I:Inv X pins Y H s) (h:SqL X.K H a xs):∃ its:List Value,Vals xs its/\PlainL s.heap a its.toArray/\xs.length<=sizeLine:=by
 rcases h with h|⟨o,its,n,hk,hc,hd,hs,hz,r⟩
 ·obtain ⟨z,its,n,r,e⟩:=h.ok I.hok
  exact ⟨its,r,⟨_,n,e,rfl,rfl,rfl⟩,z⟩
 ·refine ⟨its.toList,r,⟨o,n,I.kIn a o hk,hc,hd,by simpa using hs⟩,?_⟩
  have e:=r.length
  simp only [Array.length_toList] at e
  lia
theorem Inv.tuple (I:Inv X pins Y H s) (h:SqT X.K H a xs):∃ its:List Value,Vals xs its/\IsTup s.heap a its.toArray/\xs.length<=sizeLine:=by
 rcases h with h|⟨o,its,n,hk,hc,hs,hz,r⟩
 ·obtain ⟨z,its,r,p⟩:=h.ok I.hok
  exact ⟨its,r,p,z⟩
 ·refine ⟨its.toList,r,⟨o,I.kIn a o hk,hc,n,by simpa using hs⟩,?_⟩
  have e:=r.length
  simp only [Array.length_toList] at e
  lia
theorem Inv.list_inj (I:Inv X pins Y H s) (h:SqL X.K H a xs) (h':SqL X.K H a ys):xs=ys:=by
 obtain ⟨its,r,⟨o,n,e,_,_,d⟩,_⟩:=I.list h
 obtain ⟨its',r',⟨o',n',e',_,_,d'⟩,_⟩:=I.list h'
 rw [e] at e';cases e'
 rw [d] at d'
 injection d' with d1 _
 have:its=its':=by simpa using congrArg Array.toList d1
 subst this
 exact r.inj r'
theorem Inv.tuple_inj (I:Inv X pins Y H s) (h:SqT X.K H a xs) (h':SqT X.K H a ys):xs=ys:=by
 obtain ⟨its,r,⟨o,e,_,n,d⟩,_⟩:=I.tuple h
 obtain ⟨its',r',⟨o',e',_,n',d'⟩,_⟩:=I.tuple h'
 rw [e] at e';cases e'
 rw [d] at d'
 injection d' with d1 _
 have:its=its':=by simpa using congrArg Array.toList d1
 subst this
 exact r.inj r'
end
abbrev Cx.wish (X:Cx) (E:Value->Shared->Prop):Cx:={ X with xe:=E }
abbrev Cx.nox (X:Cx):Cx:=X.wish λ _ _=>False
theorem Cx.Ok.wish {X:Cx} (ok:X.Ok) (E:Value->Shared->Prop):(X.wish E).Ok :=
 ⟨ok.mod,ok.kind,ok.glob,ok.blt,ok.above,ok.inj,ok.has,ok.cab,ok.hd,ok.frames,ok.stk,ok.exf,ok.bs,ok.bsz,ok.noex,ok.exfs,ok.funs,ok.frf⟩
theorem Cx.Ok.unwish {X:Cx} {E:Value->Shared->Prop} (ok:(X.wish E).Ok):X.Ok :=
 ⟨ok.mod,ok.kind,ok.glob,ok.blt,ok.above,ok.inj,ok.has,ok.cab,ok.hd,ok.frames,ok.stk,ok.exf,ok.bs,ok.bsz,ok.noex,ok.exfs,ok.funs,ok.frf⟩
section
variable {X:Cx} {pins:List (Addr×Obj)} {Y:St} {H:Hp} {s:Shared} {E:Value->Shared->Prop}
theorem Inv.wish (I:Inv X pins Y H s) (E:Value->Shared->Prop):Inv (X.wish E) pins Y H s:=⟨I.ok.wish E,I.os,I.bare,I.base,I.loc,I.cell,I.free,I.freeC,I.pin,I.hok,I.len⟩
theorem Inv.unwish (I:Inv (X.wish E) pins Y H s):Inv X pins Y H s:=⟨I.ok.unwish,I.os,I.bare,I.base,I.loc,I.cell,I.free,I.freeC,I.pin,I.hok,I.len⟩
theorem SP.unwish {D:Ends} {f:Flow} {s':Shared} (h:SP (X.wish E) pins D f s'):SP X pins D f s':=by
 cases f with
|next=>obtain ⟨Y',H',I,q⟩:=h;exact ⟨Y',H',I.unwish,q⟩
|brk=>obtain ⟨Y',H',I,q⟩:=h;exact ⟨Y',H',I.unwish,q⟩
|cont=>obtain ⟨Y',H',I,q⟩:=h;exact ⟨Y',H',I.unwish,q⟩
|ret u=>obtain ⟨v,Y',H',I,r,q⟩:=h;exact ⟨v,Y',H',I.unwish,r,q⟩
theorem PE.nox {e:Expr} {t:TE} (h:PE X.nox e t):PE X e t:=λ pins s Y H Q I hw =>
 wpAny_mono (h pins s Y H Q (I.wish _) hw) (λ _ _ ⟨v,H',I',r,q⟩=>⟨v,H',I'.unwish,r,q⟩) λ _ _ z=>False.elim z
theorem PT.nox {e:Expr} {t:TT} (h:PT X.nox e t):PT X e t:=λ pins s Y H Q I hw =>
 wpAny_mono (h pins s Y H Q (I.wish _) hw) (λ _ _ ⟨H',I',q⟩=>⟨H',I'.unwish,q⟩) λ _ _ z=>False.elim z
theorem PSs.nox {st:List Stmt} {t:TS} (h:PSs X.nox st t):PSs X st t:=λ pins s Y H D I hw =>
 wpAny_mono (h pins s Y H D (I.wish _) hw) (λ _ _ q=>q.unwish) λ _ _ z=>False.elim z
end
section
variable {X:Cx} {st:Stmt} {rest:List Stmt} {t u:TS} {e:Expr} {te:TE} {pos:Pos}
def zva1:TS:=λ D Y H=>D.nx Y H
def tSeq (t u:TS):TS:=λ D Y H=>t { D with nx:=u D } Y H
theorem zg1:PSs X [] zva1:=λ _ _ Y H _ I h=>wpAny_execs_nil ⟨Y,H,I,h⟩
theorem zd0 (h1:PS X st t) (h2:PSs X rest u):PSs X (st :: rest) (tSeq t u):=by
 intro pins s Y H D I h
 refine wpAny_execs_cons (thn (h1 pins s Y H { D with nx:=u D } I h) λ f s1 q=>?_)
 cases f with
|next =>
  obtain ⟨Y',H',I',q⟩:=q
  exact h2 pins s1 Y' H' D I' q
|ret v=>exact q
|brk=>exact q
|cont=>exact q
theorem zk0 (h1:PS X st t):PSs X [st] t:=by
 intro pins s Y H D I h
 refine wpAny_execs_cons (thn (h1 pins s Y H D I h) λ f s1 q=>?_)
 cases f with
|next=>exact wpAny_execs_nil q
|ret v=>exact q
|brk=>exact q
|cont=>exact q
theorem Inv.quiet {pins:List (Addr×Obj)} {Y:St} {H:Hp} {s:Shared} (I:Inv X pins Y H s):interactive X.env=false:=by simp [interactive,I.ok.kind]
def zi61 (te:TE):TS:=λ D Y H=>te Y H λ _ H1=>D.nx Y H1
theorem zuf (he:PE X e te) (hs:swapsWith e none pos.line X.env=pure false:=by rfl):PS X (.Expr e pos) (zi61 te):=by
 intro pins s Y H D I h
 exact wpAny_Expr_any (thn (he pins s Y H _ I h) λ v s1 ⟨x,H1,I1,r1,q1⟩=>⟨Y,H1,I1,q1⟩) I.quiet hs
def tRet (te:TE):TS:=λ D Y H=>te Y H D.rt
theorem zz0 (he:PE X e te):PS X (.Return (some e) pos) (tRet te):=by
 intro pins s Y H D I h
 exact wpAny_Return_some (thn (he pins s Y H _ I h) λ v s1 ⟨x,H1,I1,r1,q1⟩=>⟨x,Y,H1,I1,r1,q1⟩)
def tIfS (c:TT) (t u:TS):TS:=λ D Y H=>c Y H λ b H1=>if b=true then t D Y H1 else u D Y H1
theorem zdb {c:Expr} {a b:List Stmt} {tc:TT} (hc:PT X c tc) (ha:PSs X a t) (hb:PSs X b u):PS X (.If c a b pos) (tIfS tc t u):=by
 intro pins s Y H D I h
 refine wpAny_If (thn (hc pins s Y H _ I h) λ d s1 hz=>?_)
 obtain ⟨H1,I1,q1⟩:=hz
 cases d with
|true=>exact ha pins s1 Y H1 D I1 q1
|false=>exact hb pins s1 Y H1 D I1 q1
end
abbrev TG:=V->St->Hp->(St->Hp->Prop)->Prop
abbrev TGs:=List V->St->Hp->(St->Hp->Prop)->Prop
def PG (X:Cx) (target:Expr) (t:TG):Prop :=
 ∀ (pins:List (Addr×Obj)) (s:Shared) (Y:St) (H:Hp) (v:V) (u:Value) (Q:St->Hp->Prop),Inv X pins Y H s->RelV v u->t v Y H Q ->
  wpAny (model X.prog X.w) X.A (assign target X.env u) (λ _ s'=>∃ Y' H',Inv X pins Y' H' s'/\Q Y' H') X.xe s
def PGs (X:Cx) (ts:List Expr) (t:TGs):Prop :=
 ∀ (pins:List (Addr×Obj)) (s:Shared) (Y:St) (H:Hp) (vs:List V) (us:List Value) (Q:St->Hp->Prop),Inv X pins Y H s->Vals vs us->t vs Y H Q ->
  wpAny (model X.prog X.w) X.A (assignInOrder ((assignEach ts X.env).map (·.2)) us) (λ _ s'=>∃ Y' H',Inv X pins Y' H' s'/\Q Y' H') X.xe s
abbrev TSet:=V->V->V->Hp->(Hp->Prop)->Prop
def PSet (X:Cx) (t:TSet):Prop :=
 ∀ (pins:List (Addr×Obj)) (s:Shared) (Y:St) (H:Hp) (o i v:V) (ov iv u:Value) (Q:Hp->Prop),Inv X pins Y H s->RelV o ov->RelV i iv->RelV v u->t o i v H Q ->
  wpAny (model X.prog X.w) X.A (setItem ov iv u) (λ _ s'=>∃ H',Inv X pins Y H' s'/\Q H') X.xe s
abbrev TIp:=V->V->Hp->VK->Prop
def PIp (X:Cx) (op:Operator) (t:TIp):Prop :=
 ∀ (pins:List (Addr×Obj)) (s:Shared) (Y:St) (H:Hp) (x y:V) (v u:Value) (Q:VK),Inv X pins Y H s->RelV x v->RelV y u->t x y H Q ->
  wpAny (model X.prog X.w) X.A (inplaceOp op v u) (EP X pins Y Q) X.xe s
section
variable {X:Cx} {pos:Pos}
def zhe (i:Nat):TG:=λ v Y H Q=>Q (Y.set i (some v)) H
theorem zc11 {i:Nat} {x:Str} (hN:X.N.Nodup) (hi:X.N[i]?=some x) (hx:Loc X.env.scope x) (hf:X.fn x=true \/ X.env.scope.names.lookup x=some .local:=by walk_at "vi"):PG X (.Name x pos) (zhe i):=by
 intro pins s Y H v u Q I r h
 exact wpAny_assign_Name (zge I hN hi hx r (λ s' I'=>⟨_,H,I',h⟩) hf)
def gNil:TGs:=λ vs Y H Q=>vs=[]/\Q Y H
def zs31 (t:TG) (u:TGs):TGs:=λ vs Y H Q=>∃ v r,vs=v :: r/\t v Y H λ Y' H'=>u r Y' H' Q
theorem zlk:PGs X [] gNil:=by
 intro pins s Y H vs us Q I r h
 obtain ⟨e,h⟩:=h
 subst e
 cases r
 exact assignInOrder_nil ⟨Y,H,I,h⟩
theorem zt4 {e:Expr} {es:List Expr} {t:TG} {u:TGs} (h1:PG X e t) (h2:PGs X es u)
  (hs:(assignEach (e :: es) X.env).map (·.2)=assign e X.env :: (assignEach es X.env).map (·.2):=by rfl):PGs X (e :: es) (zs31 t u):=by
 intro pins s Y H vs us Q I r h
 obtain ⟨v,vr,e1,h⟩:=h
 subst e1
 cases r with
|cons r rr =>
  rw [hs]
  refine assignInOrder_cons (thn (h1 pins s Y H _ _ _ I r h) λ _ s1 hz=>?_)
  obtain ⟨Y1,H1,I1,q1⟩:=hz
  exact h2 pins s1 Y1 H1 _ _ Q I1 rr q1
def gTup (K:Fg) (n:Nat) (t:TGs):TG:=λ v Y H Q=>∃ a xs,v=.ref a/\SqT K H a xs/\xs.length=n/\t xs Y H Q
theorem zw41 {es:List Expr} {k:Nat} {t:TGs} {n:Nat} (hc:X.calm=true) (h:PGs X es t)
  (hn:(assignEach es X.env).length=n:=by rfl) (hst:(assignEach es X.env).findIdx? (·.1)=none:=by rfl):PG X (.Tuple es k pos) (gTup X.K n t):=by
 intro pins s Y H v u Q I r hw
 obtain ⟨a,xs,e1,hq,hl,hw⟩:=hw
 subst e1
 cases r
 obtain ⟨its,rv,ht,hz⟩:=I.tuple hq
 refine assign_Tuple_tuple (I.ok.hd hc) ht (by simp [hn,<- hl,rv.length]) hst λ h' hx=>?_
 have I1:Inv X pins Y H { s with heap:=h' }:=I.kept (t':=s.toks) λ b o e=>hx b o (Nat.ne_of_lt (Heap.lt_size e)) e
 exact h pins _ Y H xs _ Q I1 (by simpa using rv) hw
def gSub (to ti:TE) (t:TSet):TG:=λ v Y H Q=>to Y H λ o H1=>ti Y H1 λ i H2=>t o i v H2 λ H3=>Q Y H3
theorem zcb {o i:Expr} {to ti:TE} {t:TSet} (ho:PE X o to) (hi:PE X i ti) (hs:PSet X t)
  (ha:∀ v,assign (.Subscript o i pos) X.env v=(do
   let ov <- holding [v] (eval o X.env)
   let iv <- holding [v,ov] (eval i X.env)
   standAt pos
   holding [v,ov,iv] (setItem ov iv v)
   release [v,ov,iv] []):=by intro _;rfl):PG X (.Subscript o i pos) (gSub to ti t):=by
 intro pins s Y H v u Q I r h
 rw [ha]
 refine wpAny_bind (wpAny_holding (thn (ho pins s Y H _ I h) λ ov s1 hz=>?_))
 obtain ⟨x,H1,I1,r1,q1⟩:=hz
 refine wpAny_bind (wpAny_holding (thn (hi pins s1 Y H1 _ I1 q1) λ iv s2 hz=>?_))
 obtain ⟨y,H2,I2,r2,q2⟩:=hz
 refine wpAny_bind (wpAny_standAt (wpAny_bind (wpAny_holding (thn (hs pins s2 Y H2 x y v ov iv u _ I2 r1 r2 r q2) λ _ s3 hz=>?_))))
 obtain ⟨H3,I3,q3⟩:=hz
 exact wpAny_release ⟨Y,H3,I3,q3⟩
def tAsg (te:TE) (g:TG):TS:=λ D Y H=>te Y H λ x H1=>g x Y H1 D.nx
theorem zbb {tg e:Expr} {te:TE} {g:TG} (he:PE X e te) (hg:PG X tg g) (hs:swapsWithSole [tg] e pos.line X.env=pure false:=by rfl) (hw:swappedStores [tg] e X.env=pure none:=by rfl)
  (h1:(assignEach [tg] X.env).map (·.2)=[assign tg X.env]:=by rfl):PS X (.Assign [tg] e pos) (tAsg te g):=by
 intro pins s Y H D I h
 refine wpAny_Assign_stores (thn (he pins s Y H _ I h) λ v s1 hz=>?_) hs hw
 obtain ⟨x,H1,I1,r1,q1⟩:=hz
 rw [h1]
 exact thn (hg pins s1 Y H1 x v _ I1 r1 q1) λ _ s2 q=>q
theorem ze51 {i:Nat} {x:Str} {e:Expr} {te:TE} {pos':Pos} (hN:X.N.Nodup) (hi:X.N[i]?=some x) (hx:Loc X.env.scope x) (he:PE X e te) (hs:swapsWith e (some (.Name x pos')) pos.line X.env=pure false:=by rfl) (hf:X.fn x=true \/ X.env.scope.names.lookup x=some .local:=by walk_at "vi") :
  PS X (.Assign [.Name x pos'] e pos) (tAsg te (zhe i)):=by
 intro pins s Y H D I h
 refine wpAny_Assign_Name (thn (he pins s Y H _ I h) λ v s1 hz=>?_) hs
 obtain ⟨y,H1,I1,r1,q1⟩:=hz
 exact zge I1 hN hi hx r1 (λ s2 I2=>⟨_,H1,I2,q1⟩) hf
def zq81 (to ti te:TE) (tget:V->V->Hp->VK->Prop) (tip:TIp) (tset:TSet):TS:=λ D Y H=>to Y H λ o H1=>ti Y H1 λ i H2=>tget o i H2 λ x H3=>te Y H3 λ y H4=>tip x y H4 λ z H5=>tset o i z H5 λ H6=>D.nx Y H6
def PGet (X:Cx) (t:V->V->Hp->VK->Prop):Prop :=
 ∀ (pins:List (Addr×Obj)) (s:Shared) (Y:St) (H:Hp) (o i:V) (ov iv:Value) (Q:VK),Inv X pins Y H s->RelV o ov->RelV i iv->t o i H Q ->
  wpAny (model X.prog X.w) X.A (getItem ov iv) (EP X pins Y Q) X.xe s
theorem zuj {o i e:Expr} {to ti te:TE} {tget:V->V->Hp->VK->Prop} {tip:TIp} {tset:TSet} {op:Operator} {tpos:Pos} (ho:PE X o to) (hi:PE X i ti) (hg:PGet X tget) (he:PE X e te) (hp:PIp X op tip) (hs:PSet X tset)
  (ha:∀ ov iv new,augStore i ov iv new=(do holding [new,ov,iv] (setItem ov iv new);release [new,ov,iv] [];pure .next):=by intros;rfl):PS X (.AugAssign (.Subscript o i tpos) op e pos) (zq81 to ti te tget tip tset):=by
 intro pins s Y H D I h
 refine wpAny_AugAssign_SubscriptAny (thn (ho pins s Y H _ I h) λ ov s1 hz=>?_) ha
 obtain ⟨x1,H1,I1,r1,q1⟩:=hz
 refine thn (hi pins s1 Y H1 _ I1 q1) λ iv s2 hz=>?_
 obtain ⟨x2,H2,I2,r2,q2⟩:=hz
 refine thn (hg pins s2 Y H2 x1 x2 ov iv _ I2 r1 r2 q2) λ old s3 hz=>?_
 obtain ⟨x3,H3,I3,r3,q3⟩:=hz
 refine thn (he pins s3 Y H3 _ I3 q3) λ v s4 hz=>?_
 obtain ⟨x4,H4,I4,r4,q4⟩:=hz
 refine thn (hp pins s4 Y H4 x3 x4 old v _ I4 r3 r4 q4) λ new s5 hz=>?_
 obtain ⟨x5,H5,I5,r5,q5⟩:=hz
 exact thn (hs pins s5 Y H5 x1 x2 x5 ov iv new _ I5 r1 r2 r5 q5) λ _ s6 ⟨H6,I6,q6⟩=>⟨Y,H6,I6,q6⟩
def ipI (f:Int->Int->Int):TIp:=λ x y H Q=>∃ i j,x=.int i/\y=.int j/\Q (.int (f i j)) H
theorem zpw:PIp X .Add (ipI λ i j=>i+j):=by
 intro pins s Y H x y v u Q I r1 r2 h
 obtain ⟨i,j,e1,e2,q⟩:=h
 subst e1;subst e2
 obtain ⟨t,rfl⟩:=r1
 obtain ⟨t',rfl⟩:=r2
 exact iadd_int ⟨.int _,H,I.tok _,⟨_,rfl⟩,q⟩
theorem zr81:PIp X .Sub (ipI λ i j=>i - j):=by
 intro pins s Y H x y v u Q I r1 r2 h
 obtain ⟨i,j,e1,e2,q⟩:=h
 subst e1;subst e2
 obtain ⟨t,rfl⟩:=r1
 obtain ⟨t',rfl⟩:=r2
 exact isub_int ⟨.int _,H,I.tok _,⟨_,rfl⟩,q⟩
end
section
variable {X:Cx} {pos:Pos}
def zv01 (c:TT) (tb:TS):TS:=λ D Y H=>∃ W:Nat->St->Hp->Prop,(∃ m,W m Y H)/\∀ m Y H,W m Y H ->
 c Y H λ b H1=>if b=true then ∃ N:St->Hp->Prop,(∀ Y' H',N Y' H'->∃ m',m' < m/\W m' Y' H')/\tb { D with nx:=N,ct:=N,bk:=D.nx } Y H1 else D.nx Y H1
theorem zyu {c:Expr} {body:List Stmt} {tc:TT} {tb:TS} (hp:PassesOwn (model X.prog X.w) X.A X.env X.xe) (hc:PT X c tc) (hb:PSs X body tb):PS X (.While c body [] pos) (zv01 tc tb):=by
 intro pins s Y H D I h
 obtain ⟨W,⟨m0,w0⟩,turn⟩:=h
 refine wpAny_While (codeAny_whileLoop (λ n s'=>∃ Y' H',Inv X pins Y' H' s'/\W n Y' H') ?_ m0 ⟨Y,H,I,w0⟩)
 rintro n s1 ⟨Y1,H1,I1,w1⟩
 refine wpAny_passesOwn hp (thn (hc pins s1 Y1 H1 _ I1 (turn n Y1 H1 w1)) λ b s2 hz=>?_)
 obtain ⟨H2,I2,q2⟩:=hz
 cases b with
|true =>
  obtain ⟨N,hN,q2⟩:=q2
  rw [if_pos rfl]
  refine wpAny_passesOwn hp (thn (hb pins s2 Y1 H2 _ I2 q2) λ f s3 q3=>?_)
  cases f with
 |next =>
   obtain ⟨Y3,H3,I3,n3⟩:=q3
   obtain ⟨m',hm,w3⟩:=hN Y3 H3 n3
   exact ⟨m',hm,Y3,H3,I3,w3⟩
 |cont =>
   obtain ⟨Y3,H3,I3,n3⟩:=q3
   obtain ⟨m',hm,w3⟩:=hN Y3 H3 n3
   exact ⟨m',hm,Y3,H3,I3,w3⟩
 |brk=>exact q3
 |ret v=>exact q3
|false =>
  rw [if_neg Bool.false_ne_true]
  exact wpAny_execs_nil ⟨Y1,H2,I2,q2⟩
end
structure It where
 go:Nat->Hp->Prop
 yld:Nat->Hp->V->Hp->Prop
 stop:Nat->Hp->Prop
def FpOk (X:Cx) (pins:List (Addr×Obj)) (H:Hp) (b:Addr):Prop :=
 H b=none/\b≠X.env.locals/\b ∉ X.fs/\(b∈X.ex \/ X.s₀.heap.objs.size<=b)/\(∀ x c,X.env.cells.lookup x=some c->c≠b)/\∀ p∈X.pn++pins,p.1≠b
theorem Inv.fpOk {X:Cx} {pins:List (Addr×Obj)} {Y:St} {H H':Hp} {s:Shared} {b:Addr} (I:Inv X pins Y H s) (hb:s.heap.objs.size<=b) (hn:H' b=none):FpOk X pins H' b:=by
 refine ⟨hn,Nat.ne_of_gt (Nat.lt_of_lt_of_le I.lt hb),I.nofs hb,.inr (Nat.le_trans I.sz hb),λ x c e z=>?_,λ p hp z=>?_⟩
 ·obtain ⟨v,q⟩:=I.cell x c e
  exact absurd (Nat.lt_of_lt_of_le q.lt (by rw [z];exact hb)) (Nat.lt_irrefl _)
 ·exact absurd (Nat.lt_of_lt_of_le (Heap.lt_size (I.pin p hp).1) (by rw [z];exact hb)) (Nat.lt_irrefl _)
structure Turn (P:Program) (w:World) (K:Fg) (tg:Expr) (J:It) (fp:List Addr) (it:Addr) (tn:Nat->Heap->Prop):Prop where
 mem:it∈fp
 obj:∀ i h,tn i h->∀ b∈fp,∃ o,h.get? b=some o/\∀ v,o.data≠.cell v
 keep:∀ i h h',tn i h->(∀ b∈fp,∀ o,h.get? b=some o->h'.get? b=some o)->tn i h'
 item:∀ (X:Cx),X.prog=P->X.w=w->X.K=K->X.calm=true->∀ (i:Nat) (pins:List (Addr×Obj)) (s:Shared) (Y:St) (H:Hp) (E:Value->Shared->Prop),Inv X pins Y H s->(∀ b∈fp,FpOk X pins H b)->tn i s.heap->J.go i H ->
  wpAny (model P w) X.A (pyNext (.ref it)) (λ r s1=>∃ u,r=some u /\
   wpAny (model P w) X.A (letOwnedTupleGo tg (.ref it) u) (λ _ s2=>∃ x H',Inv X pins Y H' s2/\RelV x u/\J.yld i H x H'/\tn (i+1) s2.heap/\∀ b∈fp,H' b=none) E s1) E s
 done:∀ (X:Cx),X.prog=P->X.w=w->X.K=K->X.calm=true->∀ (i:Nat) (pins:List (Addr×Obj)) (s:Shared) (Y:St) (H:Hp) (E:Value->Shared->Prop),Inv X pins Y H s->(∀ b∈fp,FpOk X pins H b)->tn i s.heap->J.stop i H ->
  wpAny (model P w) X.A (pyNext (.ref it)) (λ r s1=>r=none/\Inv X pins Y H s1) E s
 self:∀ (A:Around) (i:Nat) (s:Shared) (Q:Value->Shared->Prop) (E:Value->Shared->Prop),tn i s.heap->Q (.ref it) s->wpAny (model P w) A (pyIter (.ref it)) Q E s
abbrev TI:=St->Hp->(It->Hp->Prop)->Prop
def PIE (X:Cx) (pins:List (Addr×Obj)) (Y:St) (tg:Expr) (R:It->Hp->Prop) (itv:Value) (s2:Shared):Prop :=
 ∃ (it:Addr) (fp:List Addr) (tn:Nat->Heap->Prop) (J:It) (H':Hp),itv=.ref it/\Inv X pins Y H' s2/\Turn X.prog X.w X.K tg J fp it tn/\tn 0 s2.heap/\(∀ b∈fp,FpOk X pins H' b)/\R J H'
def PI (X:Cx) (tg iter:Expr) (wi:TI):Prop :=
 ∀ (pins:List (Addr×Obj)) (s:Shared) (Y:St) (H:Hp) (R:It->Hp->Prop),Inv X pins Y H s->wi Y H R ->
  wpAny (model X.prog X.w) X.A (eval iter X.env) (λ v s1=>wpAny (model X.prog X.w) X.A (pyIter v) (PIE X pins Y tg R) X.xe s1) X.xe s
theorem zw31 {M : Model} {A : Around} {E : Value → Shared → Prop} {s : Shared} {tg : Expr} {it : Addr} {u : Value} {o : Obj} {n : String} {vs : Array Value} {Q : Unit → Shared → Prop} (ho : s.heap.get? it = some o) (hc : o.cls = .type n) (hd : o.data = .fields vs)
    (hn : ["enumerate", "zip", "dict_itemiterator", "dict_reverseitemiterator", "odict_iterator", "itertools.zip_longest", "itertools.pairwise"].contains n = false) (hQ : Q () s) : wpAny M A (letOwnedTupleGo tg (.ref it) u) Q E s := by
  unfold letOwnedTupleGo
  cases tg <;> first
    | exact wpAny_pure hQ
    | (cases u <;> first
        | exact wpAny_pure hQ
        | (refine wpAny_bind (wpAny_load ho ?_)
           rw [hc, hd]
           show wpAny M A (if (["enumerate", "zip", "dict_itemiterator", "dict_reverseitemiterator", "odict_iterator", "itertools.zip_longest", "itertools.pairwise"].contains n && vs[0]? == some (rawInt _)) = true then _ else _) Q E s
           rw [if_neg (by intro h; rw [hn, Bool.false_and] at h; cases h)]
           exact wpAny_pure hQ))
def Itl (K:Fg) (a:Addr):It :=
 ⟨λ i H=>∃ xs x,SqL K H a xs/\xs[i]?=some x,λ i H x H'=>H'=H/\∀ xs,SqL K H a xs->xs[i]?=some x,λ i H=>∃ xs,SqL K H a xs/\xs.length<=i⟩
def Itt (K:Fg) (a:Addr):It :=
 ⟨λ i H=>∃ xs x,SqT K H a xs/\xs[i]?=some x,λ i H x H'=>H'=H/\∀ xs,SqT K H a xs->xs[i]?=some x,λ i H=>∃ xs,SqT K H a xs/\xs.length<=i⟩
def Itr (lo:Int) (n:Nat):It:=⟨λ i _=>i < n,λ i H x H'=>H'=H/\x=.int (lo+i),λ i _=>n<=i⟩
theorem znp {P:Program} {w:World} {K:Fg} {tg:Expr} (a it:Addr):Turn P w K tg (Itl K a) [it] it (λ i h=>h.IsListIter it a i) where
 mem:=by simp
 obj:=λ i h st b hb=>by
  have e:b=it:=by simpa using hb
  subst e
  obtain ⟨o,e,c,d⟩:=st
  exact ⟨o,e,λ v z=>by rw [d] at z;cases z⟩
 keep:=λ i h h' st k=>st.at λ o e=>k it (by simp) o e
 item:=by
  intro X hP hw hK hc i pins s Y H E I hf st hg
  subst hP hw hK
  obtain ⟨xs,x,hq,hx⟩:=hg
  obtain ⟨its,rv,p,hz⟩:=I.list hq
  obtain ⟨u,hu,ru⟩:=rv.get hx
  obtain ⟨f0,f1,f2,f3,f4,f5⟩:=hf it (by simp)
  refine wpAny_pyNext_list_item st p.isList (x:=u) (by simpa using hu) λ h' st' sb=>?_
  have I1:Inv X pins Y H { s with heap:=h' }:=I.turned (t':=s.toks) (λ b o hb e=>(sb.2 b hb).trans e) f0 f1 f3 f4 f5
  obtain ⟨o,e,c,d⟩:=id st'
  exact ⟨u,rfl,zw31 (s:={ s with heap:=h' }) e c d (by decide) ⟨x,H,I1,ru,⟨rfl,λ ys hy=>by rw [I.list_inj hy hq];exact hx⟩,st',λ b hb=>(hf b hb).1⟩⟩
 done:=by
  intro X hP hw hK hc i pins s Y H E I hf st hg
  subst hP hw hK
  obtain ⟨xs,hq,hx⟩:=hg
  obtain ⟨its,rv,p,hz⟩:=I.list hq
  obtain ⟨f0,f1,f2,f3,f4,f5⟩:=hf it (by simp)
  have hl:=rv.length
  exact wpAny_pyNext_list_end (I.ok.hd hc) st p.isList (by simp;lia) λ h' eb=>⟨rfl,I.turned (t':=s.toks) (λ b o hb e=>eb b o hb e) f0 f1 f3 f4 f5⟩
 self:=λ _ _ _ _ _ st h=>wpAny_pyIter_listiter st h
theorem zul {P:Program} {w:World} {K:Fg} {tg:Expr} (a it:Addr):Turn P w K tg (Itt K a) [it] it (λ i h=>h.IsTupleIter it a i) where
 mem:=by simp
 obj:=λ i h st b hb=>by
  have e:b=it:=by simpa using hb
  subst e
  obtain ⟨o,e,c,d⟩:=st
  exact ⟨o,e,λ v z=>by rw [d] at z;cases z⟩
 keep:=λ i h h' st k=>st.at λ o e=>k it (by simp) o e
 item:=by
  intro X hP hw hK hc i pins s Y H E I hf st hg
  subst hP hw hK
  obtain ⟨xs,x,hq,hx⟩:=hg
  obtain ⟨its,rv,p,hz⟩:=I.tuple hq
  obtain ⟨u,hu,ru⟩:=rv.get hx
  obtain ⟨f0,f1,f2,f3,f4,f5⟩:=hf it (by simp)
  refine wpAny_pyNext_tuple_item st (show s.heap.IsTuple a its.toArray from p) (x:=u) (by simpa using hu) λ h' st' sb=>?_
  have I1:Inv X pins Y H { s with heap:=h' }:=I.turned (t':=s.toks) (λ b o hb e=>(sb.2 b hb).trans e) f0 f1 f3 f4 f5
  obtain ⟨o,e,c,d⟩:=id st'
  exact ⟨u,rfl,zw31 (s:={ s with heap:=h' }) e c d (by decide) ⟨x,H,I1,ru,⟨rfl,λ ys hy=>by rw [I.tuple_inj hy hq];exact hx⟩,st',λ b hb=>(hf b hb).1⟩⟩
 done:=by
  intro X hP hw hK hc i pins s Y H E I hf st hg
  subst hP hw hK
  obtain ⟨xs,hq,hx⟩:=hg
  obtain ⟨its,rv,p,hz⟩:=I.tuple hq
  obtain ⟨f0,f1,f2,f3,f4,f5⟩:=hf it (by simp)
  have hl:=rv.length
  exact wpAny_pyNext_tuple_end (I.ok.hd hc) st (show s.heap.IsTuple a its.toArray from p) (by simp;lia) λ h' eb=>⟨rfl,I.turned (t':=s.toks) (λ b o hb e=>eb b o hb e) f0 f1 f3 f4 f5⟩
 self:=λ _ _ _ _ _ st h=>wpAny_pyIter_tupleiter st h
theorem zkn {P:Program} {w:World} {K:Fg} {tg:Expr} (it:Addr) (lo:Int) (n:Nat):Turn P w K tg (Itr lo n) [it] it (λ i h=>IsRangeIter h it (lo+(i:Nat) * 1) ((n:Int) - (i:Nat)) 1) where
 mem:=by simp
 obj:=λ i h st b hb=>by
  have e:b=it:=by simpa using hb
  subst e
  exact ⟨_,st,λ v z=>by
   have z':Data.fields _=Data.cell v:=z
   cases z'⟩
 keep:=λ i h h' st k=>k it (by simp) _ st
 item:=by
  intro X hP hw hK hc i pins s Y H E I hf st hg
  subst hP hw hK
  obtain ⟨f0,f1,f2,f3,f4,f5⟩:=hf it (by simp)
  have W:=Walks.range (prog:=X.prog) (w:=X.w) (I.ok.hd hc) it lo 1 n
  refine W.item i s _ _ hg st λ v h' tk hv st' kk=>?_
  obtain ⟨t,rfl⟩:=hv
  have I1:Inv X pins Y H { s with heap:=h',toks:=tk }:=I.turned (λ b o hb e=>kk b o (by simpa using hb) e) f0 f1 f3 f4 f5
  refine ⟨_,rfl,zw31 (s:={ s with heap:=h',toks:=tk }) (n := "range_iterator") st' rfl rfl (by decide) ⟨.int (lo+i),H,I1,⟨t,?_⟩,⟨rfl,rfl⟩,st',λ b hb=>(hf b hb).1⟩⟩
  rw [Int.mul_one]
 done:=by
  intro X hP hw hK hc i pins s Y H E I hf st hg
  subst hP hw hK
  obtain ⟨f0,f1,f2,f3,f4,f5⟩:=hf it (by simp)
  exact wpAny_pyNext_range_end (I.ok.hd hc) st (by have:n<=i:=hg;lia) λ h' eb=>⟨rfl,I.turned (t':=s.toks) (λ b o hb e=>eb b o hb e) f0 f1 f3 f4 f5⟩
 self:=λ _ _ _ _ _ st h=>wpAny_pyIter_rangeiter st h
section
variable {X:Cx} {tg:Expr}
theorem zcm {pins:List (Addr×Obj)} {Y:St} {H:Hp} {s:Shared} {R:It->Hp->Prop} {E:Value->Shared->Prop} {lo hi:Int} {t u v:Tok} {tk:Nat} (I:Inv X pins Y H s) (h1:-(2 ^ 62)<=lo) (h2:lo < 2 ^ 62) (h3:-(2 ^ 62)<=hi) (h4:hi < 2 ^ 62)
  (q:R (Itr lo (hi - lo).toNat) H):wpAny (model X.prog X.w) X.A (pyIter (.ref s.heap.objs.size)) (PIE X pins Y tg R) E { s with heap:=s.heap.push { cls:=.type "range",data:=.fields #[.int lo t,.int hi u,.int 1 v] },toks:=tk }:=by
 refine wpAny_pyIter_range (IsRange.new ..) (small_one h1 h2 h3 h4) ?_
 have I1:Inv X pins Y H { s with heap:=s.heap.push { cls:=.type "range",data:=.fields #[.int lo t,.int hi u,.int 1 v] },toks:=tk }:=I.kept λ b o e=>Heap.get?_push_of_some _ e
 refine ⟨(s.heap.push { cls:=.type "range",data:=.fields #[.int lo t,.int hi u,.int 1 v] }).objs.size,[(s.heap.push { cls:=.type "range",data:=.fields #[.int lo t,.int hi u,.int 1 v] }).objs.size],_,_,H,rfl,
  I1.kept (t':=tk) λ b o e=>Heap.get?_push_of_some _ e,zkn _ lo (hi - lo).toNat,?_,λ b hb=>?_,q⟩
 ·have e1:lo+((0:Nat):Int) * 1=lo:=by simp
  have e2:(((hi - lo).toNat:Nat):Int) - ((0:Nat):Int)=Builtin.Range.rangeSize lo hi 1:=by rw [rangeSize_one];split <;> lia
  show IsRangeIter _ _ (lo+((0:Nat):Int) * 1) ((((hi - lo).toNat:Nat):Int) - ((0:Nat):Int)) 1
  rw [e1,e2]
  exact Heap.get?_push_size _ rfl
 ·have e:b=(s.heap.push { cls:=.type "range",data:=.fields #[.int lo t,.int hi u,.int 1 v] }).objs.size:=by simpa using hb
  subst e
  exact I1.fpOk (Nat.le_refl _) (I1.hok.fresh (Nat.le_refl _))
def zua1 (ta:TA):TI:=λ Y H R=>ta Y H λ vs H1=>∃ j:Int,vs=[.int j]/\-(2 ^ 62)<=j/\j < 2 ^ 62/\R (Itr 0 j.toNat) H1
def zfa1 (ta:TA):TI:=λ Y H R=>ta Y H λ vs H1=>∃ i j:Int,vs=[.int i,.int j]/\(-(2 ^ 62)<=i/\i < 2 ^ 62/\-(2 ^ 62)<=j/\j < 2 ^ 62)/\R (Itr i (j - i).toNat) H1
theorem zz1 {a:Expr} {ta:TA} {p pos:Pos} (hg:Gl X "range") (hm:X.mg "range"=none) (ha:PA X [a] ta) (hs:starEach [a] X.env=[(false,eval a X.env)]:=by rfl):PI X tg (.Call (.Name "range" p) [a] [] pos) (zua1 ta):=by
 intro pins s Y H R I h
 refine Call_ (zji I hg hm boot_range (PyProof.Rows.callWith_type1 (thn (ha pos pins s Y H _ I h) λ us s1 hz=>?_) hs rfl))
 obtain ⟨vs,H1,I1,r1,q1⟩:=hz
 obtain ⟨j,e,q1,q2,q⟩:=q1
 subst e
 cases r1 with
|cons r rr =>
  cases rr
  obtain ⟨t,rfl⟩:=r
  exact call_range_1 (zcm I1 (by lia) (by lia) q1 q2 (by simpa using q))
theorem zgq {a b:Expr} {ta:TA} {p pos:Pos} (hg:Gl X "range") (hm:X.mg "range"=none) (ha:PA X [a,b] ta) (hs:starEach [a,b] X.env=[(false,eval a X.env),(false,eval b X.env)]:=by rfl) (hs2:starEach [b] X.env=[(false,eval b X.env)]:=by rfl) :
  PI X tg (.Call (.Name "range" p) [a,b] [] pos) (zfa1 ta):=by
 intro pins s Y H R I h
 refine Call_ (zji I hg hm boot_range (PyProof.Rows.callWith_type1 (thn (ha pos pins s Y H _ I h) λ us s1 hz=>?_) (by rw [hs,hs2]) (by rw [hs2];rfl)))
 obtain ⟨vs,H1,I1,r1,q1⟩:=hz
 obtain ⟨i,j,e,⟨q1,q2,q3,q4⟩,q⟩:=q1
 subst e
 cases r1 with
|cons r rr =>
  cases rr with
 |cons r' rr =>
   cases rr
   obtain ⟨t,rfl⟩:=r
   obtain ⟨t',rfl⟩:=r'
   exact call_range_2 (zcm I1 q1 q2 q3 q4 q)
def tFor (wi:TI) (g:TG) (tb:TS):TS:=λ D Y H=>wi Y H λ J H1=>∃ W:Nat->Nat->St->Hp->Prop,(∃ m,W 0 m Y H1)/\∀ i m Y H,W i m Y H ->
 (J.stop i H/\D.nx Y H) \/ (J.go i H/\∃ N:St->Hp->Prop,(∀ Y' H',N Y' H'->∃ m',m' < m/\W (i+1) m' Y' H')/\∀ x H',J.yld i H x H'->g x Y H' λ Y2 H2=>tb { D with nx:=N,ct:=N,bk:=D.nx } Y2 H2)
def zgm (fp:List Addr) (h:Heap):List (Addr×Obj):=fp.filterMap λ b=>(h.get? b).map λ o=>(b,o)
theorem zx6 {fp:List Addr} {h:Heap} {b:Addr} {o:Obj} (hb:b∈fp) (e:h.get? b=some o):(b,o)∈zgm fp h:=List.mem_filterMap.mpr ⟨b,hb,by rw [e];rfl⟩
theorem zzq {fp:List Addr} {h:Heap} {p:Addr×Obj} (hp:p∈zgm fp h):p.1∈fp/\h.get? p.1=some p.2:=by
 obtain ⟨b,hb,e⟩:=List.mem_filterMap.mp hp
 cases q:h.get? b with
|none=>rw [q] at e;cases e
|some o =>
  rw [q] at e
  have e':(b,o)=p:=Option.some.inj e
  subst e'
  exact ⟨hb,q⟩
theorem Inv.pinned {pins:List (Addr×Obj)} {Y:St} {H:Hp} {s:Shared} {fp:List Addr} (I:Inv X pins Y H s) (hf:∀ b∈fp,FpOk X pins H b) (ho:∀ b∈fp,∃ o,s.heap.get? b=some o/\∀ v,o.data≠.cell v):Inv X (pins++zgm fp s.heap) Y H s :=
 I.pins_of λ p hp=>(List.mem_append.mp hp).elim (λ z=>I.pin p (List.mem_append_right _ z)) λ z=>by
  obtain ⟨hb,e⟩:=zzq z
  obtain ⟨f0,f1,f2,_⟩:=hf p.1 hb
  obtain ⟨o,e',d⟩:=ho p.1 hb
  rw [e] at e';cases e'
  exact ⟨e,f0,f1,f2,d⟩
theorem Inv.unpinned {pins pl:List (Addr×Obj)} {Y:St} {H:Hp} {s:Shared} (I:Inv X (pins++pl) Y H s):Inv X pins Y H s:=I.pins_of λ p hp=>I.pin p (List.mem_append_right _ (List.mem_append_left _ hp))
theorem zub {iter:Expr} {body:List Stmt} {wi:TI} {g:TG} {tb:TS} {pos:Pos} (hp:PassesOwn (model X.prog X.w) X.A X.env X.xe) (hc:X.calm=true) (hi:PI X tg iter wi) (hg:PG X tg g) (hb:PSs X body tb)
  (hs:∀ x,foldedSetIterable iter X.env x=pure x:=by intro _;rfl):PS X (.For tg iter body [] pos) (tFor wi g tb):=by
 intro pins s Y H D I h
 refine wpAny_For (thn (hi pins s Y H _ I h) λ v s1 h1=>thn h1 λ itv s2 h2=>?_) hs
 obtain ⟨it,fp,tn,J,H2,e,I2,T,st2,f2,W,⟨m0,w0⟩,turn⟩:=h2
 subst e
 -- what stays true of the iterator's objects through the loop
 have stat:∀ {H':Hp},(∀ b∈fp,H' b=none)->∀ b∈fp,FpOk X pins H' b:=λ hn b hb=>⟨hn b hb,(f2 b hb).2⟩
 refine codeAny_forLoop_any (λ n s'=>∃ i Y' H',Inv X pins Y' H' s'/\tn i s'.heap/\(∀ b∈fp,H' b=none)/\W i n Y' H') ?_ m0 ⟨0,Y,H2,I2,st2,λ b hb=>(f2 b hb).1,w0⟩
 rintro n s3 ⟨i,Y3,H3,I3,st3,fr3,w3⟩
 rcases turn i n Y3 H3 w3 with ⟨stop,qn⟩|⟨go,N,hN,step⟩
 ·refine wpAny_passesOwn hp (thn (T.done X rfl rfl rfl hc i pins s3 Y3 H3 X.xe I3 (stat fr3) st3 stop) λ r s4 hz=>?_)
  obtain ⟨hr,I4⟩:=hz
  subst hr
  exact wpAny_execs_nil ⟨Y3,H3,I4,qn⟩
 ·refine wpAny_passesOwn hp (thn (T.item X rfl rfl rfl hc i pins s3 Y3 H3 X.xe I3 (stat fr3) st3 go) λ r s4 hz=>?_)
  obtain ⟨u,hr,h4⟩:=hz
  subst hr
  refine wpAny_passesOwn hp (thn h4 λ _ s5 hz=>?_)
  obtain ⟨x,H5,I5,r5,y5,st5,fr5⟩:=hz
  have I5':=I5.pinned (stat fr5) (T.obj _ _ st5)
  refine wpAny_passesOwn hp (thn (hg _ s5 Y3 H5 x u _ I5' r5 (step x H5 y5)) λ _ s6 hz=>?_)
  obtain ⟨Y6,H6,I6,q6⟩:=hz
  refine wpAny_passesOwn hp (thn (hb _ s6 Y6 H6 _ I6 q6) λ f s7 q7=>?_)
  have again:∀ {Y7:St} {H7:Hp},Inv X (pins++zgm fp s5.heap) Y7 H7 s7->N Y7 H7->∃ m,m < n/\∃ i Y' H',Inv X pins Y' H' s7/\tn i s7.heap/\(∀ b∈fp,H' b=none)/\W i m Y' H':=λ {Y7 H7} I7 n7=>by
   obtain ⟨m',hm,w7⟩:=hN Y7 H7 n7
   refine ⟨m',hm,i+1,Y7,H7,I7.unpinned,T.keep _ _ _ st5 λ b hb o e=>(I7.pin (b,o) (List.mem_append_right _ (List.mem_append_right _ (zx6 hb e)))).1,λ b hb=>?_,w7⟩
   obtain ⟨o,e,d⟩:=T.obj _ _ st5 b hb
   exact (I7.pin (b,o) (List.mem_append_right _ (List.mem_append_right _ (zx6 hb e)))).2.1
  cases f with
 |next=>obtain ⟨Y7,H7,I7,n7⟩:=q7;exact again I7 n7
 |cont=>obtain ⟨Y7,H7,I7,n7⟩:=q7;exact again I7 n7
 |brk=>obtain ⟨Y7,H7,I7,q7⟩:=q7;exact ⟨Y7,H7,I7.unpinned,q7⟩
 |ret v=>obtain ⟨x7,Y7,H7,I7,r7,q7⟩:=q7;exact ⟨x7,Y7,H7,I7.unpinned,r7,q7⟩
end
abbrev R2:=V->V->Hp->VK->Prop
def OpR (X:Cx) (f:Value->Value->Sem Value) (r:R2):Prop :=
 ∀ (pins:List (Addr×Obj)) (s:Shared) (Y:St) (H:Hp) (x y:V) (v u:Value) (Q:VK),Inv X pins Y H s->RelV x v->RelV y u->r x y H Q ->
  wpAny (model X.prog X.w) X.A (f v u) (EP X pins Y Q) X.xe s
def CallR (X:Cx) (f:Value) (r:List V->Hp->VK->Prop):Prop :=
 ∀ (pins:List (Addr×Obj)) (s:Shared) (Y:St) (H:Hp) (xs:List V) (us:List Value) (Q:VK),Inv X pins Y H s->Vals xs us->r xs H Q ->
  wpAny (model X.prog X.w) X.A (call f us) (EP X pins Y Q) X.xe s
def TruR (X:Cx) (r:V->Hp->(Bool->Hp->Prop)->Prop):Prop :=
 ∀ (pins:List (Addr×Obj)) (s:Shared) (Y:St) (H:Hp) (x:V) (v:Value) (Q:Bool->Hp->Prop),Inv X pins Y H s->RelV x v->r x H Q ->
  wpAny (model X.prog X.w) X.A (truthy v) (TP X pins Y Q) X.xe s
def tOp (r:R2) (ta tb:TE):TE:=λ Y H Q=>ta Y H λ x H1=>tb Y H1 λ y H2=>r x y H2 Q
def rI (C:Int->Int->Prop) (g:Int->Int->V):R2:=λ x y H Q=>∃ i j,x=.int i/\y=.int j/\C i j/\Q (g i j) H
def rI0 (g:Int->Int->V):R2:=λ x y H Q=>∃ i j,x=.int i/\y=.int j/\Q (g i j) H
section
variable {X:Cx} {a b c:Expr} {ta tb tc:TE} {pos:Pos}
theorem binT (ha:PE X a ta) (hb:PE X b tb) {pins:List (Addr×Obj)} {s:Shared} {Y:St} {H:Hp} {R:V->V->Hp->Prop} (I:Inv X pins Y H s)
  (h:ta Y H λ x H1=>tb Y H1 λ y H2=>R x y H2) {Q:Value->Shared->Prop} {f:Value->Value->Sem Value}
  (hf:∀ v u s2 x y H2,Inv X pins Y H2 s2->RelV x v->RelV y u->R x y H2->wpAny (model X.prog X.w) X.A (f v u) Q X.xe s2) :
  wpAny (model X.prog X.w) X.A (eval a X.env) (λ v s₁=>wpAny (model X.prog X.w) X.A (eval b X.env) (λ u s₂=>wpAny (model X.prog X.w) X.A (f v u) Q X.xe s₂) X.xe s₁) X.xe s:=by
 refine thn (ha pins s Y H _ I h) λ v s1 hz=>?_
 obtain ⟨x,H1,I1,r1,q1⟩:=hz
 refine thn (hb pins s1 Y H1 _ I1 q1) λ u s2 hz=>?_
 obtain ⟨y,H2,I2,r2,q2⟩:=hz
 exact hf v u s2 x y H2 I2 r1 r2 q2
theorem zw0 {op:Operator} {r:R2} (ho:OpR X (binaryOp op) r) (ha:PE X a ta) (hb:PE X b tb):PE X (.BinOp a op b pos) (tOp r ta tb):=by
 intro pins s Y H Q I h
 exact wpAny_BinOp (binT ha hb I h λ v u s2 x y H2 I2 rx ry q=>ho pins s2 Y H2 x y v u Q I2 rx ry q)
theorem opI {f:Value->Value->Sem Value} {C:Int->Int->Prop} {g:Int->Int->Int}
  (rule:∀ (i j:Int) (t u:Tok) (s:Shared) (Q:Value->Shared->Prop) (E:Value->Shared->Prop),C i j->Q (.int (g i j) s.toks) { s with toks:=s.toks+1 }->wpAny (model X.prog X.w) X.A (f (.int i t) (.int j u)) Q E s) :
  OpR X f (rI C λ i j=>.int (g i j)):=by
 intro pins s Y H x y v u Q I rx ry h
 obtain ⟨i,j,rfl,rfl,hc,q⟩:=h
 obtain ⟨t,rfl⟩:=rx
 obtain ⟨t',rfl⟩:=ry
 exact rule i j t t' s _ _ hc ⟨.int (g i j),H,I.tok _,⟨_,rfl⟩,q⟩
theorem opI0 {f:Value->Value->Sem Value} {g:Int->Int->Int}
  (rule:∀ (i j:Int) (t u:Tok) (s:Shared) (Q:Value->Shared->Prop) (E:Value->Shared->Prop),Q (.int (g i j) s.toks) { s with toks:=s.toks+1 }->wpAny (model X.prog X.w) X.A (f (.int i t) (.int j u)) Q E s) :
  OpR X f (rI0 λ i j=>.int (g i j)):=by
 intro pins s Y H x y v u Q I rx ry h
 obtain ⟨i,j,rfl,rfl,q⟩:=h
 obtain ⟨t,rfl⟩:=rx
 obtain ⟨t',rfl⟩:=ry
 exact rule i j t t' s _ _ ⟨.int (g i j),H,I.tok _,⟨_,rfl⟩,q⟩
theorem opB0 {f:Value->Value->Sem Value} {g:Int->Int->Bool}
  (rule:∀ (i j:Int) (t u:Tok) (s:Shared) (Q:Value->Shared->Prop) (E:Value->Shared->Prop),Q (.bool (g i j)) s->wpAny (model X.prog X.w) X.A (f (.int i t) (.int j u)) Q E s) :
  OpR X f (rI0 λ i j=>.bl (g i j)):=by
 intro pins s Y H x y v u Q I rx ry h
 obtain ⟨i,j,rfl,rfl,q⟩:=h
 obtain ⟨t,rfl⟩:=rx
 obtain ⟨t',rfl⟩:=ry
 exact rule i j t t' s _ _ ⟨.bl (g i j),H,I,rfl,q⟩
def CPow (i j:Int):Prop:=0<=j/\j<=1000000/\i.natAbs < 2 ^ 64
def CMul (i j:Int):Prop:=(-(2 ^ 64) < i/\i < 2 ^ 64) \/ (-(2 ^ 64) < j/\j < 2 ^ 64)
theorem CMul.ok {i j:Int} (h:CMul i j):IntMulOk i j:=by
 rcases h with ⟨h1,h2⟩|⟨h1,h2⟩
 ·exact .of_left (intBits_le_64 h1 h2)
 ·exact .of_right (intBits_le_64 h1 h2)
theorem zb51:OpR X (binaryOp .Add) (rI0 λ i j=>.int (i+j)):=opI0 λ _ _ _ _ _ _ _ q=>add_int q
theorem zin:OpR X (binaryOp .Sub) (rI0 λ i j=>.int (i - j)):=opI0 λ _ _ _ _ _ _ _ q=>sub_int q
theorem zk71:OpR X (binaryOp .Mult) (rI CMul λ i j=>.int (i * j)):=opI λ _ _ _ _ _ _ _ hc q=>mul_int q hc.ok
theorem zc4:OpR X (binaryOp .Mod) (rI (λ _ j=>0 < j) λ i j=>.int (i % j)):=opI λ i j _ _ _ _ _ hc q=>by
 have h1:(0:Int) < j:=hc
 exact mod_int' (by lia) (by rw [Int.fmod_eq_emod_of_nonneg i (by lia)];exact q)
theorem zal:OpR X (binaryOp .Pow) (rI CPow λ i j=>.int (i ^ j.toNat)):=opI λ _ _ _ _ _ _ _ hc q=>pow_int_small hc.1 hc.2.1 hc.2.2 q
end
def scal:V->V->Bool
|.non,.non=>true|.non,.int _=>true|.int _,.non=>true|.non,.bl _=>true|.bl _,.non=>true|.non,.str _=>true|.str _,.non=>true
|.int _,.int _=>true|.bl _,.bl _=>true|.str _,.str _=>true|.byt _,.byt _=>true
|.int _,.str _=>true|.str _,.int _=>true|.bl _,.str _=>true|.str _,.bl _=>true
|_,_=>false
def rEq:R2:=λ x y H Q=>scal x y=true/\Q (.bl (decide (x=y))) H
def rNe:R2:=λ x y H Q=>scal x y=true/\Q (.bl (!decide (x=y))) H
theorem zrg {i j:Int}:decide (V.int i=V.int j)=(i == j):=by
 rw [Bool.eq_iff_iff]
 simp
theorem zzm {i j:Bool}:decide (V.bl i=V.bl j)=(i == j):=by
 rw [Bool.eq_iff_iff]
 simp
theorem zsf {i j:Str}:decide (V.str i=V.str j)=(i == j):=by
 rw [Bool.eq_iff_iff]
 simp
theorem zws {i j:Array UInt8}:decide (V.byt i=V.byt j)=(i.toList == j.toList):=by
 rw [Bool.eq_iff_iff]
 cases i
 cases j
 simp
section
variable {X:Cx} {a b c:Expr} {ta tb tc:TE} {pos:Pos}
theorem zm1 {pins:List (Addr×Obj)} {Y:St} {H:Hp} {s:Shared} {Q:VK} {k k':Bool} (I:Inv X pins Y H s) (q:Q (.bl k) H) (e:k=k'):EP X pins Y Q (.bool k') s:=by
 subst e
 exact ⟨.bl k,H,I,rfl,q⟩
theorem zgc1:OpR X (compareOp .Eq) rEq:=by
 intro pins s Y H x y v u Q I rx ry h
 obtain ⟨hs,q⟩:=h
 cases x with
|non =>
  cases rx
  cases y with
 |non=>cases ry;exact PySem.EqNone.eq_none_none (zm1 I q (by simp))
 |bl j=>cases ry;exact PySem.EqNone.eq_none_bool (zm1 I q (by simp))
 |int j=>obtain ⟨t',rfl⟩:=ry;exact PySem.EqNone.eq_none_int (zm1 I q (by simp))
 |str j=>obtain ⟨t',rfl⟩:=ry;exact PySem.EqNone.eq_none_str (zm1 I q (by simp))
 |_=>exact absurd (show false=true from hs) Bool.false_ne_true
|bl i =>
  cases rx
  cases y with
 |non=>cases ry;exact PySem.EqNone.eq_bool_none (zm1 I q (by simp))
 |bl j=>cases ry;exact eq_bool (zm1 I q zzm)
 |str j=>obtain ⟨t',rfl⟩:=ry;exact PySem.EqMixed.eq_bool_str (zm1 I q (by simp))
 |_=>exact absurd (show false=true from hs) Bool.false_ne_true
|int i =>
  obtain ⟨t,rfl⟩:=rx
  cases y with
 |non=>cases ry;exact PySem.EqNone.eq_int_none (zm1 I q (by simp))
 |int j=>obtain ⟨t',rfl⟩:=ry;exact eq_int (zm1 I q zrg)
 |str j=>obtain ⟨t',rfl⟩:=ry;exact PySem.EqMixed.eq_int_str (zm1 I q (by simp))
 |_=>exact absurd (show false=true from hs) Bool.false_ne_true
|str i =>
  obtain ⟨t,rfl⟩:=rx
  cases y with
 |non=>cases ry;exact PySem.EqNone.eq_str_none (zm1 I q (by simp))
 |bl j=>cases ry;exact PySem.EqMixed.eq_str_bool (zm1 I q (by simp))
 |int j=>obtain ⟨t',rfl⟩:=ry;exact PySem.EqMixed.eq_str_int (zm1 I q (by simp))
 |str j=>obtain ⟨t',rfl⟩:=ry;exact eq_str (zm1 I q zsf)
 |_=>exact absurd (show false=true from hs) Bool.false_ne_true
|byt i =>
  obtain ⟨t,rfl⟩:=rx
  cases y with
 |byt j=>obtain ⟨t',rfl⟩:=ry;exact PySem.W.eq_bytes (zm1 I q zws)
 |_=>exact absurd (show false=true from hs) Bool.false_ne_true
|_=>cases y <;> exact absurd (show false=true from hs) Bool.false_ne_true
theorem zrb1:OpR X (compareOp .NotEq) rNe:=by
 intro pins s Y H x y v u Q I rx ry h
 obtain ⟨hs,q⟩:=h
 cases x with
|non =>
  cases rx
  cases y with
 |non=>cases ry;exact PySem.EqNone.ne_none_none (zm1 I q (by simp))
 |bl j=>cases ry;exact PySem.EqNone.ne_none_bool (zm1 I q (by simp))
 |int j=>obtain ⟨t',rfl⟩:=ry;exact PySem.EqNone.ne_none_int (zm1 I q (by simp))
 |str j=>obtain ⟨t',rfl⟩:=ry;exact PySem.EqNone.ne_none_str (zm1 I q (by simp))
 |_=>exact absurd (show false=true from hs) Bool.false_ne_true
|bl i =>
  cases rx
  cases y with
 |non=>cases ry;exact PySem.EqNone.ne_bool_none (zm1 I q (by simp))
 |bl j=>cases ry;exact ne_bool (zm1 I q (congrArg not zzm))
 |str j=>obtain ⟨t',rfl⟩:=ry;exact PySem.EqMixed.ne_bool_str (zm1 I q (by simp))
 |_=>exact absurd (show false=true from hs) Bool.false_ne_true
|int i =>
  obtain ⟨t,rfl⟩:=rx
  cases y with
 |non=>cases ry;exact PySem.EqNone.ne_int_none (zm1 I q (by simp))
 |int j=>obtain ⟨t',rfl⟩:=ry;exact ne_int (zm1 I q (congrArg not zrg))
 |str j=>obtain ⟨t',rfl⟩:=ry;exact PySem.EqMixed.ne_int_str (zm1 I q (by simp))
 |_=>exact absurd (show false=true from hs) Bool.false_ne_true
|str i =>
  obtain ⟨t,rfl⟩:=rx
  cases y with
 |non=>cases ry;exact PySem.EqNone.ne_str_none (zm1 I q (by simp))
 |bl j=>cases ry;exact PySem.EqMixed.ne_str_bool (zm1 I q (by simp))
 |int j=>obtain ⟨t',rfl⟩:=ry;exact PySem.EqMixed.ne_str_int (zm1 I q (by simp))
 |str j=>obtain ⟨t',rfl⟩:=ry;exact ne_str (zm1 I q (congrArg not zsf))
 |_=>exact absurd (show false=true from hs) Bool.false_ne_true
|byt i =>
  obtain ⟨t,rfl⟩:=rx
  cases y with
 |byt j=>obtain ⟨t',rfl⟩:=ry;exact PySem.W.ne_bytes (zm1 I q (congrArg not zws))
 |_=>exact absurd (show false=true from hs) Bool.false_ne_true
|_=>cases y <;> exact absurd (show false=true from hs) Bool.false_ne_true
theorem zv41:OpR X (compareOp .Lt) (rI0 λ i j=>.bl (decide (i < j))):=opB0 λ _ _ _ _ _ _ _ q=>lt_int q
theorem zyc1:OpR X (compareOp .LtE) (rI0 λ i j=>.bl (decide (i<=j))):=opB0 λ _ _ _ _ _ _ _ q=>le_int q
theorem zhp:OpR X (compareOp .Gt) (rI0 λ i j=>.bl (decide (j < i))):=opB0 λ _ _ _ _ _ _ _ q=>gt_int q
theorem zab1:OpR X (compareOp .GtE) (rI0 λ i j=>.bl (decide (j<=i))):=opB0 λ _ _ _ _ _ _ _ q=>ge_int q
theorem OpR.or {f:Value->Value->Sem Value} {r r':R2} (h:OpR X f r) (h':OpR X f r'):OpR X f (λ x y H Q=>r x y H Q \/ r' x y H Q):=by
 intro pins s Y H x y v u Q I rx ry q
 rcases q with q|q
 ·exact h pins s Y H x y v u Q I rx ry q
 ·exact h' pins s Y H x y v u Q I rx ry q
theorem zr2 (b:Expr) {op:CmpOp} (h:op≠.In:=by decide) (h2:op≠.NotIn:=by decide):behindInMarks op b=false:=by
 have e1:(op == CmpOp.In)=false:=by cases op <;> first|rfl|exact absurd rfl h
 have e2:(op == CmpOp.NotIn)=false:=by cases op <;> first|rfl|exact absurd rfl h2
 cases b <;> simp [behindInMarks,e1,e2]
theorem zug {op:CmpOp} {r:R2} (ho:OpR X (compareOp op) r) (ha:PE X a ta) (hb:PE X b tb) (hm:behindInMarks op b=false):PE X (.Compare a [op] [b] pos) (tOp r ta tb):=by
 intro pins s Y H Q I h
 exact wpAny_Compare1 (binT ha hb I h λ v u s2 x y H2 I2 rx ry q=>ho pins s2 Y H2 x y v u Q I2 rx ry q) hm
def zv91 (t:TE):TT:=λ Y H Q=>t Y H λ x H'=>∃ k,x=.bl k/\Q k H'
theorem zjz {op:CmpOp} {r:R2} (ho:OpR X (compareOp op) r) (ha:PE X a ta) (hb:PE X b tb) (hm:behindInMarks op b=false):PT X (.Compare a [op] [b] pos) (zv91 (tOp r ta tb)):=by
 intro pins s Y H Q I h
 refine wpAny_isTrue_Compare1 (thn (ha pins s Y H _ I h) λ v s1 ⟨x,H1,I1,r1,q1⟩=>thn (hb pins s1 Y H1 _ I1 q1) λ u s2 ⟨y,H2,I2,r2,q2⟩ =>
  thn (ho pins s2 Y H2 x y v u _ I2 r1 r2 q2) λ c s3 hz=>?_) hm
 obtain ⟨z,H3,I3,r3,k,e,q3⟩:=hz
 subst e
 cases r3
 exact wpAny_truthy_bool ⟨H3,I3,q3⟩
def znt (r r':R2) (ta tb tc:TE):TE:=λ Y H Q=>ta Y H λ x H1=>tb Y H1 λ y H2=>r x y H2 λ z H3=>∃ k,z=.bl k /\
 (if k=true then tc Y H3 λ w' H4=>r' y w' H4 Q else Q (.bl false) H3)
theorem zbw {op op':CmpOp} {r r':R2} (ho:OpR X (compareOp op) r) (ho':OpR X (compareOp op') r') (ha:PE X a ta) (hb:PE X b tb) (hc:PE X c tc)
  (hm:lastMarks [op,op'] [b,c]=false:=by with_unfolding_all rfl):PT X (.Compare a [op,op'] [b,c] pos) (zv91 (znt r r' ta tb tc)):=by
 intro pins s Y H Q I h
 refine isTrue_chain (thn (ha pins s Y H _ I h) λ v s1 ⟨x,H1,I1,r1,q1⟩=>test_link (thn (hb pins s1 Y H1 _ I1 q1) λ u s2 ⟨y,H2,I2,r2,q2⟩ =>
  thn (ho pins s2 Y H2 x y v u _ I2 r1 r2 q2) λ d s3 hz=>?_)) hm
 obtain ⟨z,H3,I3,r3,k,e,q3⟩:=hz
 subst e
 cases r3
 refine wpAny_truthy_bool ?_
 cases k with
|false =>
  obtain ⟨k',e',q'⟩:=q3
  cases e'
  exact ite_ff ⟨H3,I3,q'⟩
|true =>
  refine ite_tt (test_last (thn (hc pins s3 Y H3 _ I3 q3) λ w' s4 ⟨z',H4,I4,r4,q4⟩=>thn (ho' pins s4 Y H4 y z' u w' _ I4 r2 r4 q4) λ d' s5 hz=>?_))
  obtain ⟨z2,H5,I5,r5,k2,e2,q5⟩:=hz
  subst e2
  cases r5
  exact wpAny_truthy_bool ⟨H5,I5,q5⟩
def TruV (K:Fg) (x:V) (H:Hp) (k:Bool):Prop :=
 match x with
|.non=>k=false
|.bl b=>k=b
|.int i=>k=(i != 0)
|.str y=>y.length<=sizeLine/\k=((y.length:Int) != 0)
|.byt y=>y.size<=sizeLine/\k=((y.size:Int) != 0)
|.ref p=>(∃ xs,SqL K H p xs/\k=!xs.isEmpty) \/ (∃ xs,SqT K H p xs/\k=!xs.isEmpty) \/ ∃ kvs,H p=some (.dK kvs)/\k=!kvs.isEmpty
|_=>False
theorem zgn {κ:Type} {kvs:List (κ×V)} {vs:List (κ×Value)} (r:KV kvs vs):(!vs.isEmpty)=!kvs.isEmpty:=by
 cases r <;> rfl
theorem zwf {xs:List V} {its:List Value} (r:Vals xs its):(!its.toArray.isEmpty)=!xs.isEmpty:=by
 cases r <;> simp
theorem zqi:(sizeLine:Nat) < 2 ^ 63:=by rw [sizeLine_eq];decide
theorem zn51:TruR X (λ x H Q=>∃ k,TruV X.K x H k/\Q k H):=by
 intro pins s Y H x v Q I rx h
 obtain ⟨k,e,q⟩:=h
 have hl:=zqi
 have hs:sizeLine=16777216:=sizeLine_eq
 cases x with
|non =>
  cases rx
  have e':k=false:=e
  subst e'
  exact truthy_none ⟨H,I,q⟩
|bl b =>
  cases rx
  have e':k=b:=e
  subst e'
  exact wpAny_truthy_bool ⟨H,I,q⟩
|int i =>
  obtain ⟨t,rfl⟩:=rx
  have e':k=(i != 0):=e
  subst e'
  exact PySem.P.truthy_int ⟨H,I,q⟩
|str y =>
  obtain ⟨t,rfl⟩:=rx
  obtain ⟨hy,e'⟩:y.length<=sizeLine/\k=((y.length:Int) != 0):=e
  subst e'
  exact PySem.P.truthy_str (by lia) ⟨H,I.tok _,q⟩
|byt y =>
  obtain ⟨t,rfl⟩:=rx
  obtain ⟨hy,e'⟩:y.size<=sizeLine/\k=((y.size:Int) != 0):=e
  subst e'
  exact PySem.W.truthy_bytes (by lia) ⟨H,I.tok _,q⟩
|ref p =>
  cases rx
  have e':(∃ xs,SqL X.K H p xs/\k=!xs.isEmpty) \/ (∃ xs,SqT X.K H p xs/\k=!xs.isEmpty) \/ ∃ kvs,H p=some (.dK kvs)/\k=!kvs.isEmpty:=e
  rcases e' with ⟨xs,hx,e'⟩|⟨xs,hx,e'⟩|⟨kvs,hx,e'⟩
  ·subst e'
   obtain ⟨its,r,pl,hz⟩:=I.list hx
   have hlen:=r.length
   exact wpAny_truthy_list pl.isList (by simp only [List.size_toArray];lia) ⟨H,I.tok _,by rw [zwf r];exact q⟩
  ·subst e'
   obtain ⟨its,r,pl,hz⟩:=I.tuple hx
   have hlen:=r.length
   exact truthy_tuple pl (by simp only [List.size_toArray];lia) ⟨H,I.tok _,by rw [zwf r];exact q⟩
  ·subst e'
   obtain ⟨hz,hS,vs,r,m⟩:kvs.length<=sizeLine/\(p == sysModules)=false/\∃ vs,KV kvs vs/\s.heap.DictOf (zw1 X.prog X.w) p vs:=I.hok p _ hx
   have hlen:kvs.length=vs.length:=Paired.length r
   exact wpAny_truthy_dict hS m (by lia) ⟨H,I.tok _,by rw [zgn r];exact q⟩
|_=>exact (show False from e).elim
theorem zxw (ha:PE X a ta) (he:∀ whole,isTrue a X.env whole=(do let v <- whole;standAt a.pos;holding [v] (truthy v))) :
  PT X a (λ Y H Q=>ta Y H λ x H'=>∃ k,TruV X.K x H' k/\Q k H'):=by
 intro pins s Y H Q I h
 exact isTrue_plain (thn (ha pins s Y H _ I h) λ v s1 ⟨x,H1,I1,r1,q1⟩=>zn51 pins s1 Y H1 x v Q I1 r1 q1) (he _)
theorem zwo:OpR X (binaryOp .Add) (λ x y H Q=>∃ i j,x=.str i/\y=.str j/\i.length+j.length<=sizeLine/\Q (.str (i++j)) H):=by
 intro pins s Y H x y v u Q I rx ry h
 obtain ⟨i,j,rfl,rfl,hz,q⟩:=h
 obtain ⟨t,rfl⟩:=rx
 obtain ⟨t',rfl⟩:=ry
 exact add_str (λ t' tk=>⟨.str (i++j),H,I.tok _,⟨_,rfl⟩,q⟩) hz
theorem zfx {x:V} {us:List Value} (r:Vals [x] us):∃ u,us=[u]/\RelV x u:=by
 cases r with
|cons r1 r2=>cases r2;exact ⟨_,rfl,r1⟩
theorem zy71 {x y:V} {us:List Value} (r:Vals [x,y] us):∃ u w',us=[u,w']/\RelV x u/\RelV y w':=by
 cases r with
|cons r1 r2 =>
  cases r2 with
 |cons r3 r4=>cases r4;exact ⟨_,_,rfl,r1,r3⟩
theorem zlq (hc:X.calm=true):CallR X (.builtin "min") (λ xs H Q=>∃ i j,xs=[.int i,.int j]/\Q (.int (if j < i then j else i)) H):=by
 intro pins s Y H xs us Q I r h
 obtain ⟨i,j,rfl,q⟩:=h
 obtain ⟨u,w',rfl,⟨t,rfl⟩,⟨t',rfl⟩⟩:=zy71 r
 refine min_two_ints (I.ok.hd hc) λ h' tk k=>⟨_,H,I.kept k,?_,q⟩
 by_cases hj:j < i
 ·rw [if_pos hj,if_pos hj];exact ⟨_,rfl⟩
 ·rw [if_neg hj,if_neg hj];exact ⟨_,rfl⟩
theorem zzp:CallR X (.type "int") (λ xs H Q=>(∃ i,xs=[.int i]/\Q (.int i) H) \/ ∃ k,xs=[.bl k]/\Q (.int (if k then 1 else 0)) H):=by
 intro pins s Y H xs us Q I r h
 rcases h with ⟨i,rfl,q⟩|⟨k,rfl,q⟩
 ·obtain ⟨u,rfl,t,rfl⟩:=zfx r
  exact call_int_int ⟨.int i,H,I,⟨_,rfl⟩,q⟩
 ·obtain ⟨u,rfl,r1⟩:=zfx r
  cases r1
  exact call_int_bool ⟨.int (if k then 1 else 0),H,I.tok _,⟨_,rfl⟩,q⟩
def LenV (K:Fg) (x:V) (H:Hp) (n:Nat):Prop :=
 match x with
|.str y=>y.length<=sizeLine/\n=y.length
|.byt y=>y.size<=sizeLine/\n=y.size
|.ref p=>(∃ xs,SqL K H p xs/\n=xs.length) \/ ∃ xs,SqT K H p xs/\n=xs.length
|_=>False
theorem zqw:CallR X (.builtin "len") (λ xs H Q=>∃ x n,xs=[x]/\LenV X.K x H n/\Q (.int n) H):=by
 intro pins s Y H xs us Q I r h
 obtain ⟨x,n,rfl,e,q⟩:=h
 obtain ⟨u,rfl,rx⟩:=zfx r
 have hl:=zqi
 have hs:sizeLine=16777216:=sizeLine_eq
 cases x with
|str y =>
  obtain ⟨t,rfl⟩:=rx
  obtain ⟨hy,e'⟩:y.length<=sizeLine/\n=y.length:=e
  subst e'
  exact len_str (by lia) ⟨.int _,H,I.tok _,⟨_,rfl⟩,q⟩
|byt y =>
  obtain ⟨t,rfl⟩:=rx
  obtain ⟨hy,e'⟩:y.size<=sizeLine/\n=y.size:=e
  subst e'
  exact PySem.W.len_bytes (by lia) ⟨.int _,H,I.tok _,⟨_,rfl⟩,q⟩
|ref p =>
  cases rx
  have e':(∃ xs,SqL X.K H p xs/\n=xs.length) \/ ∃ xs,SqT X.K H p xs/\n=xs.length:=e
  rcases e' with ⟨xs,hx,e'⟩|⟨xs,hx,e'⟩
  ·subst e'
   obtain ⟨its,r',pl,hz⟩:=I.list hx
   have hlen:=r'.length
   exact Calls.call_len_list pl.isList (by simp only [List.size_toArray];lia) ⟨.int xs.length,H,I.tok _,⟨_,by simp only [List.size_toArray];rw [hlen]⟩,q⟩
  ·subst e'
   obtain ⟨its,r',pl,hz⟩:=I.tuple hx
   have hlen:=r'.length
   exact len_tuple pl (by simp only [List.size_toArray];lia) ⟨.int xs.length,H,I.tok _,⟨_,by simp only [List.size_toArray];rw [hlen]⟩,q⟩
|_=>exact (show False from e).elim
end
structure ObjM (h:Heap) (x dx C:Addr) (mA:Str->Option Value):Prop where
 obj:h.get? x=some (PySem.W.instObj C dx)
 ns:h.Ns1 dx mA
 ne:dx≠x
theorem zeq {h:Heap} {dx:Addr} {mA:Str->Option Value} (n:h.Ns1 dx mA):∃ od,h.get? dx=some od/\∀ name,PySem.W.lookIn name od=some (mA name):=by
 obtain ⟨o,es,ep,ho,hd,hk,_,hm⟩:=n
 refine ⟨o,ho,λ name=>?_⟩
 have e:=hm name
 unfold nsFind findBy at e
 rw [<- Array.find?_toList] at e
 unfold PySem.W.lookIn
 rw [hd]
 dsimp only
 split
 ·rename_i y q
  rw [q] at e
  exact congrArg some e
 ·rename_i q
  rw [q] at e
  have a:es.toList.any (·.refKey)=false:=by
   rw [List.any_eq_false]
   intro y hy
   obtain ⟨z,t,hkey⟩:=hk y (Array.mem_toList_iff.mp hy)
   simp [DictEntry.refKey,hkey]
  have a':¬ es.toList.any (·.refKey)=true:=by rw [a];exact Bool.false_ne_true
  rw [if_neg a']
  exact congrArg some e
theorem ObjM.look {h:Heap} {x dx C:Addr} {mA:Str->Option Value} (I:ObjM h x dx C mA):∃ od,PySem.W.InstAt h x (PySem.W.instObj C dx) C (some od)/\∀ name,PySem.W.lookIn name od=some (mA name) :=
 let ⟨od,ho,hl⟩:=zeq I.ns
 ⟨od,⟨I.obj,rfl,rfl,ho⟩,hl⟩
section
variable {prog:Program} {w:World} {A:Around} {E:Value->Shared->Prop} {s:Shared} {K:Fg} {x dx C f:Addr} {mA:Str->Option Value} {name:Str} {v:Value}
theorem za21 {expr:Bool} {Q:Value->Shared->Prop} (X:K.In s.heap) (I:ObjM s.heap x dx C mA) (hg:PySem.W.plainGet K C name=true) (hh:PySem.W.hasDictIn K C=true)
  (ha:PySem.W.findIn K (.ref C) name=some none) (hv:mA name=some v) (hv':PySem.W.handedIn v=true) (h:Q v { s with toks:=s.toks+1 }) :
  wpAny (model prog w) A (getAttr (.ref x) name expr) Q E s:=by
 obtain ⟨od,J,hl⟩:=I.look
 exact PySem.W.get_value X J (PySem.W.plainGet_of hg).1 (PySem.W.findObj_own hh ha rfl (by rw [hl,hv])) hv' h
theorem zav {pl:Sem Bool} {Q:Value×List Value->Shared->Prop} (X:K.In s.heap) (I:ObjM s.heap x dx C mA) (hg:PySem.W.plainGet K C name=true)
  (hf:PySem.W.findIn K (.ref C) name=some (some (.ref f))) (ht:PySem.W.isFn K (.ref f)=true) (hv:mA name=none) (h:Q (.ref f,[.ref x]) s) :
  wpAny (model prog w) A (getMethod (.ref x) name pl) Q E s:=by
 obtain ⟨od,J,hl⟩:=I.look
 exact PySem.W.method_fn X J (PySem.W.plainGet_of hg).1 (PySem.W.plainGet_of hg).2 hf (beq_iff_eq.mp ht) (by show (PySem.W.lookIn name od).map (·.isSome)=some false;rw [hl,hv];rfl) h
theorem zb31 {ns:List Str} {Q:Unit->Shared->Prop} (X:K.In s.heap) (I:ObjM s.heap x dx C mA)
  (hs:PySem.W.findIn K (.ref C) "__setattr__"=some (some (.builtin "object.__setattr__"))) (hp:PySem.W.plainOver K C=true) (ht:PySem.W.takerIn K C name=some none) (hh:PySem.W.hasDictIn K C=true)
  (hw:PySem.Within mA ns) (hsz:ns.length<=sizeLine)
  (h:∀ h',ObjM h' x dx C (λ y=>if y=name then some v else mA y)->Heap.SameBut dx s.heap h'->Q () { s with heap:=h',toks:=s.toks+2 }) :
  wpAny (model prog w) A (setAttr (.ref x) name v) Q E s:=by
 obtain ⟨od,J,hl⟩:=I.look
 refine PySem.W.set_plain X J hs (PySem.W.osa_open (s:={ s with toks:=s.toks+1 }) (r:=none) X J hp ht λ b=>?_)
 obtain ⟨cd,hc,hd'⟩:=PySem.W.any_some hh
 have hx:s.heap.get? x=some ⟨.ref C,some dx,.plain,#[]⟩:=I.obj
 refine wpAny_bind (wpAny_pure (wpAny_bind (wpAny_bind (wpAny_loadPart hx (wpAny_bind (PySem.W.Looks.here (s:={ s with toks:=s.toks+1 }) (PySem.W.looks_clsIn X hc) ?_))))))
 rw [hd']
 refine wpAny_pure (a:=some dx) (wpAny_bind (wpAny_pure (wpAny_bind ?_)))
 refine wpAny_nsSet1 (s:={ s with toks:=s.toks+1 }) I.ns λ h' hn2 hs2=>?_
 obtain ⟨oD,esD,epD,hoD,hdD,hcD⟩:=hn2.count (PySem.Within.cons name v hw)
 refine wpAny_bind (wpAny_lookBehind hoD (by rw [hdD];exact pastItsLine_dict (Nat.le_trans hcD (by rw [List.length_cons];lia))) ?_)
 exact wpAny_pure (h _ ⟨(hs2.2 _ (Ne.symm I.ne)).trans I.obj,hn2,I.ne⟩ hs2)
theorem zwt {R:Result->Shared->Prop} {vs:List Value} {kw:List (Str×Value)} (X:K.In s.heap) (hm:PySem.W.makesIn K C=true)
  (hi:PySem.W.findIn K (.ref C) "__init__"=some (some (.ref f))) (hf:PySem.W.typeIn K (.ref f)=some (.type "function"))
  (h:codeAny (model prog w) (A.under (.builtin "type.__call__" ⟨.ref C :: vs,kw⟩)) (.call (.ref f) ⟨.ref (s.heap.objs.size+1) :: vs,kw⟩) (PySem.W.InitBack (s.heap.objs.size+1) R)
   { s with heap:=(s.heap.push PySem.W.emptyDict).push (PySem.W.instObj C s.heap.objs.size) }) :
  codeAny (model prog w) A (.call (.ref C) ⟨vs,kw⟩) R s:=by
 obtain ⟨hh,g,d,t,os⟩:=s
 exact PySem.W.make_core (PySem.W.makes_of X hm) (PySem.W.looks_findIn X hi) (λ self=>PySem.W.bind_fn X self hf) (.inl rfl) h
end
def putF (f:Str) (v:V):List (Str×V)->List (Str×V)
|[]=>[(f,v)]
|(g,x) :: r=>if g=f then (g,v) :: r else (g,x) :: putF f v r
theorem ztc (f g:Str) (v:V):∀ fs:List (Str×V),(putF f v fs).lookup g=if g=f then some v else fs.lookup g
|[]=>by
  show List.lookup g [(f,v)]=_
  by_cases h:g=f
  ·have hb:(g == f)=true:=beq_iff_eq.mpr h
   simp only [List.lookup,hb,if_pos h]
  ·have hb:(g == f)=false:=beq_eq_false_iff_ne.mpr h
   simp only [List.lookup,hb,if_neg h]
|(k,x) :: r=>by
  have ih:=ztc f g v r
  rw [show putF f v ((k,x) :: r)=(if k=f then (k,v) :: r else (k,x) :: putF f v r) from rfl]
  by_cases hk:k=f
  ·rw [if_pos hk]
   by_cases h:g=k
   ·have hb:(g == k)=true:=beq_iff_eq.mpr h
    simp only [List.lookup,hb,if_pos (h.trans hk)]
   ·have hb:(g == k)=false:=beq_eq_false_iff_ne.mpr h
    simp only [List.lookup,hb,if_neg (λ e:g=f=>h (e.trans hk.symm))]
  ·rw [if_neg hk]
   by_cases h:g=k
   ·have hb:(g == k)=true:=beq_iff_eq.mpr h
    simp only [List.lookup,hb,if_neg (λ e:g=f=>hk (h.symm.trans e))]
   ·have hb:(g == k)=false:=beq_eq_false_iff_ne.mpr h
    simp only [List.lookup,hb]
    exact ih
theorem zzd (f:Str) (v:V):∀ fs:List (Str×V),f∈(putF f v fs).map (·.1)/\∀ g,g∈fs.map (·.1)->g∈(putF f v fs).map (·.1)
|[]=>⟨by simp [putF],λ g h=>by simp at h⟩
|(k,x) :: r=>by
  obtain ⟨i1,i2⟩:=zzd f v r
  rw [show putF f v ((k,x) :: r)=(if k=f then (k,v) :: r else (k,x) :: putF f v r) from rfl]
  by_cases hk:k=f
  ·rw [if_pos hk]
   subst hk
   exact ⟨by simp,λ g h=>by simpa using h⟩
  ·rw [if_neg hk]
   refine ⟨?_,λ g h=>?_⟩
   ·rw [List.map_cons]
    exact List.mem_cons_of_mem _ i1
   ·rw [List.map_cons] at h ⊢
    rcases List.mem_cons.mp h with e|e
    ·exact List.mem_cons.mpr (.inl e)
    ·exact List.mem_cons_of_mem _ (i2 g e)
theorem zmc (f:Str) (v:V):∀ fs:List (Str×V),(putF f v fs).length<=fs.length+1
|[]=>by simp [putF]
|(k,x) :: r=>by
  have ih:=zmc f v r
  rw [show putF f v ((k,x) :: r)=(if k=f then (k,v) :: r else (k,x) :: putF f v r) from rfl]
  by_cases hk:k=f
  ·rw [if_pos hk,List.length_cons,List.length_cons];lia
  ·rw [if_neg hk,List.length_cons,List.length_cons];lia
theorem RelO.some_of {v:V} {o:Option Value} (r:RelO (some v) o):∃ u,o=some u/\RelV v u:=by
 cases o with
|none=>exact (show False from r).elim
|some u=>exact ⟨u,rfl,r⟩
theorem RelO.none_of {o:Option Value} (r:RelO none o):o=none:=by
 cases o with
|none=>rfl
|some u=>exact (show False from r).elim
theorem zhr {v:V} {u:Value} (r:RelV v u):PySem.W.handedIn u=true:=by
 cases v with
|non=>cases (show u=Value.none from r);rfl
|bl b=>cases (show u=Value.bool b from r);rfl
|int i=>obtain ⟨t,e⟩:=(show ∃ t,u=Value.int i t from r);cases e;rfl
|str x=>obtain ⟨t,e⟩:=(show ∃ t,u=Value.str x t from r);cases e;rfl
|byt b=>obtain ⟨t,e⟩:=(show ∃ t,u=Value.bytes b t from r);cases e;rfl
|flt b=>obtain ⟨t,e⟩:=(show ∃ t,u=Value.float b t from r);cases e;rfl
|ref a=>cases (show u=Value.ref a from r);rfl
|ty n=>cases (show u=Value.type n from r);rfl
section
variable {P:Program} {w:World} {H H':Hp} {h h':Heap} {a C dx:Addr} {fs fs':List (Str×V)}
theorem zsk (hok:HOk P w H h) (e:H a=some (.ins C dx fs)):∃ mA,ObjM h a dx C mA/\(∀ f,RelO (fs.lookup f) (mA f))/\PySem.Within mA (fs.map (·.1))/\fs.length<=1000/\H dx=some (.own a):=by
 obtain ⟨d,z,ne,ob,mA,n,r,q⟩:=(show ObjOk P w H h a (.ins C dx fs) from hok a _ e)
 exact ⟨mA,⟨ob,n,ne⟩,r,q,z,d⟩
end
structure Cls (K:Fg) (C:Addr):Prop where
 pg:PySem.W.plainGet K C Str.empty=true
 hd:PySem.W.hasDictIn K C=true
 po:PySem.W.plainOver K C=true
 sa:PySem.W.findIn K (.ref C) "__setattr__"=some (some (.builtin "object.__setattr__"))
theorem Cls.get {K:Fg} {C:Addr} (c:Cls K C) (f:Str):PySem.W.plainGet K C f=true:=c.pg
def NoAttr (K:Fg) (C:Addr) (f:Str):Prop:=PySem.W.findIn K (.ref C) f=some none
theorem NoAttr.taker {K:Fg} {C:Addr} {f:Str} (n:NoAttr K C f):PySem.W.takerIn K C f=some none:=by
 unfold PySem.W.takerIn
 rw [show PySem.W.findIn K (.ref C) f=some none from n]
 rfl
structure Con (K:Fg) (C:Addr) (f:Str) (v:V) (u:Value):Prop where
 at_:PySem.W.findIn K (.ref C) f=some (some u)
 rel:RelV v u
 get:PySem.W.specialIn K u "__get__"=some none
 cp:PySem.W.copiedNames.contains f=false
structure Meth (K:Fg) (C:Addr) (m:Str) (f:Addr):Prop where
 at_:PySem.W.findIn K (.ref C) m=some (some (.ref f))
 fn:PySem.W.isFn K (.ref f)=true
 kp:PySem.W.keepIn K (.ref f)=true
section
variable {X:Cx} {pins:List (Addr×Obj)} {Y:St} {H:Hp} {s:Shared} {a C dx:Addr} {fs:List (Str×V)} {f:Str} {v:V} {A:Around} {E:Value->Shared->Prop}
theorem zeg {b:Bool} {Q:Value->Shared->Prop} (I:Inv X pins Y H s) (e:H a=some (.ins C dx fs)) (c:Cls X.K C) (n:NoAttr X.K C f) (l:fs.lookup f=some v)
  (h:∀ u s',Inv X pins Y H s'->RelV v u->Q u s'):wpAny (model X.prog X.w) A (getAttr (.ref a) f b) Q E s:=by
 obtain ⟨mA,O,r,_,_,_⟩:=zsk I.hok e
 obtain ⟨u,hu,ru⟩:=RelO.some_of (v:=v) (o:=mA f) (by rw [<- l];exact r f)
 exact za21 I.kIn O (c.get f) c.hd n hu (zhr ru) (h u _ (I.tok _) ru)
theorem zi4 {m:Str} {g:Addr} {pl:Sem Bool} {Q:Value×List Value->Shared->Prop} (I:Inv X pins Y H s) (e:H a=some (.ins C dx fs)) (c:Cls X.K C) (k:Meth X.K C m g) (l:fs.lookup m=none)
  (h:Q (.ref g,[.ref a]) s):wpAny (model X.prog X.w) A (getMethod (.ref a) m pl) Q E s:=by
 obtain ⟨mA,O,r,_,_,_⟩:=zsk I.hok e
 have hn:mA m=none:=RelO.none_of (by rw [<- l];exact r m)
 exact zav I.kIn O (c.get m) k.at_ k.fn hn h
theorem zmg {y:V} {u:Value} {Q:Unit->Shared->Prop} (I:Inv X pins Y H s) (e:H a=some (.ins C dx fs)) (c:Cls X.K C) (n:NoAttr X.K C f) (hl:fs.length < 1000) (ry:RelV y u)
  (h:∀ s',Inv X pins Y (upd H a (.ins C dx (putF f y fs))) s'->Q () s'):wpAny (model X.prog X.w) A (setAttr (.ref a) f u) Q E s:=by
 obtain ⟨mA,O,r,wi,_,ho⟩:=zsk I.hok e
 have hz:(fs.map (·.1)).length<=sizeLine:=by rw [List.length_map,sizeLine_eq];lia
 refine zb31 I.kIn O c.sa c.po n.taker c.hd wi hz λ h' O' sb=>h _ ?_
 have hd:∃ o,h'.get? dx=some o:=let ⟨o,_,_,e',_⟩:=O'.ns;⟨o,e'⟩
 refine I.write (x:=a) (e:=dx) (by rw [e];exact True.intro) (.inr ho) (λ b q hb z=>(sb.2 b hb).trans z) hd ?_
 refine ⟨by rw [zj0 O.ne];exact ho,?_,O.ne,O'.obj,_,O'.ns,λ g=>?_,λ g hg=>?_⟩
 ·have:=zmc f y fs;lia
 ·show RelO ((putF f y fs).lookup g) (if g=f then some u else mA g)
  rw [ztc]
  by_cases q:g=f
  ·rw [if_pos q,if_pos q];exact ry
  ·rw [if_neg q,if_neg q];exact r g
 ·by_cases q:g=f
  ·rw [q];exact (zzd f y fs).1
  ·refine (zzd f y fs).2 g (wi g λ z=>hg ?_)
   show (if g=f then some u else mA g)=none
   rw [if_neg q];exact z
theorem Inv.made (I:Inv X pins Y H s):Inv X pins Y (upd (upd H s.heap.objs.size (.own (s.heap.objs.size+1))) (s.heap.objs.size+1) (.ins C s.heap.objs.size []))
  { s with heap:=(s.heap.push PySem.W.emptyDict).push (PySem.W.instObj C s.heap.objs.size) }:=by
 have e1:(s.heap.push PySem.W.emptyDict).get? s.heap.objs.size=some PySem.W.emptyDict:=Heap.get?_push_size s.heap rfl
 have e2:((s.heap.push PySem.W.emptyDict).push (PySem.W.instObj C s.heap.objs.size)).get? (s.heap.objs.size+1)=some (PySem.W.instObj C s.heap.objs.size):=by
  have:=Heap.get?_push_size (s.heap.push PySem.W.emptyDict) (o:=PySem.W.instObj C s.heap.objs.size) rfl
  rwa [Heap.size_push] at this
 have e3:(s.heap.push PySem.W.emptyDict).Ns s.heap.objs.size (λ _=>none):=⟨PySem.W.emptyDict,#[],_,e1,rfl,(λ e he=>absurd he (by simp)),λ _=>rfl⟩
 have I1:=I.laid (a:=s.heap.objs.size) (o:=.own (s.heap.objs.size+1)) (h':=s.heap.push PySem.W.emptyDict) (t':=s.toks) (λ b u q=>Heap.get?_push_of_some _ q) (Nat.le_refl _) ⟨_,e1⟩
 refine I1.laid (a:=s.heap.objs.size+1) (o:=.ins C s.heap.objs.size []) (t':=s.toks) (λ b u q=>Heap.get?_push_of_some _ q) (Nat.le_of_eq (Heap.size_push _ _)) ?_
 have ne:s.heap.objs.size≠s.heap.objs.size+1:=Nat.ne_of_lt (Nat.lt_succ_self _)
 refine ⟨by rw [zj0 ne,zi0],Nat.zero_le _,ne,e2,λ _=>none,(Heap.Ns1.of_empty e3).at λ o q=>Heap.get?_push_of_some _ q,λ _=>True.intro,λ y hy=>absurd rfl hy⟩
theorem zj21 {prog:Program} {w:World} {env:Env} {e:Expr} {f:Str} {pos:Pos} {s:Shared} {Q:Value->Shared->Prop} (hb:attributeBase e f env (eval e env)=eval e env)
  (h:wpAny (model prog w) A (eval e env) (λ o s₁=>wpAny (model prog w) A (getAttr o f true) Q E s₁) E s):wpAny (model prog w) A (eval (.Attribute e f pos) env) Q E s :=
 Attribute_any_ h (by rw [arm_eval_Attribute,hb])
end
def tFld (K:Fg) (ta:TE) (f:Str):TE:=λ Y H Q=>ta Y H λ x H1=>∃ a C dx fs v,x=.ref a/\H1 a=some (.ins C dx fs)/\Cls K C/\NoAttr K C f/\fs.lookup f=some v/\Q v H1
def sFld (K:Fg) (ta tv:TE) (f:Str):TS:=λ D Y H=>tv Y H λ y H1=>ta Y H1 λ x H2=>∃ a C dx fs,x=.ref a/\H2 a=some (.ins C dx fs)/\Cls K C/\NoAttr K C f/\fs.length < 1000 /\
 D.nx Y (upd H2 a (.ins C dx (putF f y fs)))
def InOp (X:Cx) (op:Operator) (rd:V->V->Hp->VK->Prop):Prop :=
 ∀ (pins:List (Addr×Obj)) (s:Shared) (Y:St) (H:Hp) (x y:V) (u v:Value) (Q:VK),Inv X pins Y H s->RelV x u->RelV y v->rd x y H Q->wpAny (model X.prog X.w) X.A (inplaceOp op u v) (EP X pins Y Q) X.xe s
def zor (K:Fg) (ta tv:TE) (rd:V->V->Hp->VK->Prop) (f:Str):TS:=λ D Y H=>ta Y H λ x H1=>∃ a C dx fs v,x=.ref a/\H1 a=some (.ins C dx fs)/\Cls K C/\NoAttr K C f/\fs.lookup f=some v /\
 tv Y H1 λ y H2=>rd v y H2 λ z H3=>∃ dx' fs',H3 a=some (.ins C dx' fs')/\fs'.length < 1000/\D.nx Y (upd H3 a (.ins C dx' (putF f z fs')))
section
variable {X:Cx} {o e value:Expr} {f:Str} {pos pos' tpos:Pos} {ta tv:TE}
theorem zb61 (he:PE X e ta) (hb:attributeBase e f X.env (eval e X.env)=eval e X.env):PE X (.Attribute e f pos) (tFld X.K ta f):=by
 intro pins s Y H Q I h
 refine zj21 hb (thn (he pins s Y H _ I h) λ u s1 hz=>?_)
 obtain ⟨x,H1,I1,rx,a,C,dx,fs,v,ex,ea,c,n,l,q⟩:=hz
 subst ex
 obtain rfl:u=Value.ref a:=rx
 exact zeg I1 ea c n l λ u' s2 I2 ru=>⟨v,H1,I2,ru,q⟩
theorem zg6 (ha:PE X o ta) (hv:PE X value tv) (hs:swapsWith value (some (.Attribute o f pos')) pos.line X.env=pure false):PS X (.Assign [.Attribute o f pos'] value pos) (sFld X.K ta tv f):=by
 intro pins s Y H D I h
 refine plainObj_wpAny_Assign_Attribute (thn (hv pins s Y H _ I h) λ u s1 ⟨y,H1,I1,ry,q⟩=>thn (ha pins s1 Y H1 _ I1 q) λ ov s2 hz=>?_) hs
 obtain ⟨x,H2,I2,rx,a,C,dx,fs,ex,ea,c,n,l,q2⟩:=hz
 subst ex
 obtain rfl:ov=Value.ref a:=rx
 exact zmg I2 ea c n l ry λ s3 I3=>⟨Y,_,I3,q2⟩
theorem zhj {op:Operator} {rd:V->V->Hp->VK->Prop} (ha:PE X o ta) (hv:PE X value tv) (hop:InOp X op rd):PS X (.AugAssign (.Attribute o f tpos) op value pos) (zor X.K ta tv rd f):=by
 intro pins s Y H D I h
 refine wpAny_AugAssign_AttributeAny (thn (ha pins s Y H _ I h) λ ov s1 hz=>?_)
 obtain ⟨x,H1,I1,rx,a,C,dx,fs,v,ex,ea,c,n,l,q⟩:=hz
 subst ex
 obtain rfl:ov=Value.ref a:=rx
 refine zeg I1 ea c n l λ u s2 I2 ru=>thn (hv pins s2 Y H1 _ I2 q) λ w3 s3 ⟨y,H2,I3,ry,q3⟩=>thn (hop pins s3 Y H2 v y u w3 _ I3 ru ry q3) λ w4 s4 hz=>?_
 obtain ⟨z,H3,I4,rz,dx',fs',ea',l',q4⟩:=hz
 exact zmg I4 ea' c n l' rz λ s5 I5=>⟨Y,_,I5,q4⟩
def rAdd:V->V->Hp->VK->Prop:=λ x y H Q=>∃ i j,x=.int i/\y=.int j/\Q (.int (i+j)) H
theorem zq21:InOp X .Add rAdd:=by
 rintro pins s Y H x y u v Q I rx ry ⟨i,j,rfl,rfl,q⟩
 obtain ⟨t,rfl⟩:=(show ∃ t,u=Value.int i t from rx)
 obtain ⟨t',rfl⟩:=(show ∃ t',v=Value.int j t' from ry)
 exact PyProof.Rows.iadd_int ⟨.int (i+j),H,I.tok _,⟨_,rfl⟩,q⟩
theorem zcx {pl:Sem Bool} {m:Str} {apos:Pos} {args:List Expr} {pins:List (Addr×Obj)} {s:Shared} {Y:St} {H:Hp} {Q:Value->Shared->Prop} {te:TE} (he:PE X e te) (I:Inv X pins Y H s)
  (h:te Y H λ x H1=>∃ a C dx fs g,x=.ref a/\H1 a=some (.ins C dx fs)/\Cls X.K C/\Meth X.K C m g/\fs.lookup m=none /\
   ∀ s1,Inv X pins Y H1 s1->wpAny (model X.prog X.w) X.A (callWith pos (.ref g) [.ref a] (backTo pos (starEach args X.env)) (backToKw pos (keywordEach [] X.env))) Q X.xe s1)
  (ht:eval (.Call (.Attribute e m apos) args [] pos) X.env=(do
   let ov <- eval e X.env
   standAt apos.atName
   let (f,first) <- holding [ov] (getMethod ov m pl)
   callWith pos f first (backTo pos (starEach args X.env)) (backToKw pos (keywordEach [] X.env)))) :
  wpAny (model X.prog X.w) X.A (eval (.Call (.Attribute e m apos) args [] pos) X.env) Q X.xe s:=by
 refine PySem.W.methodCall_KW (pl:=pl) (thn (he pins s Y H _ I h) λ u s1 hz=>?_) ht
 obtain ⟨x,H1,I1,rx,a,C,dx,fs,g,ex,ea,c,k,l,q⟩:=hz
 subst ex
 obtain rfl:u=Value.ref a:=rx
 exact zi4 I1 ea c k l (q s1 I1)
end
section
variable {X:Cx} {pins:List (Addr×Obj)} {Y:St} {H:Hp} {s:Shared} {A:Around} {E:Value->Shared->Prop} {Q:Value->Shared->Prop} {c:Value} {b:Bool}
inductive TyOf (K:Fg) (H:Hp):V->Value->Prop where
|non:TyOf K H .non (.type "NoneType")
|bl (x:Bool):TyOf K H (.bl x) (.type "bool")
|int (i:Int):TyOf K H (.int i) (.type "int")
|str (x:Str):TyOf K H (.str x) (.type "str")
|flt (x:UInt64):TyOf K H (.flt x) (.type "float")
|lst {a:Addr} {xs:List V} (e:H a=some (.lst xs)):TyOf K H (.ref a) (.type "list")
|frz {a:Addr} {o:Obj} {xs:List V} (e:H a=some (.frz o (.lst xs))):TyOf K H (.ref a) (.type "list")
|tup {a:Addr} {xs:List V} (e:H a=some (.tup xs)):TyOf K H (.ref a) (.type "tuple")
|dK {a:Addr} {kvs:List (Key×V)} (e:H a=some (.dK kvs)):TyOf K H (.ref a) (.type "dict")
|dT {a:Addr} {kvs:List (List Key×V)} (e:H a=some (.dT kvs)):TyOf K H (.ref a) (.type "dict")
|ins {a C dx:Addr} {fs:List (Str×V)} (e:H a=some (.ins C dx fs)) (cl:Cls K C) (ha:PySem.W.findIn K (.ref C) "__class__"=some (some (.builtin "object.__class__")))
   (hn:PySem.W.specialIn K (.builtin "object.__class__") "__get__"=some (some (.builtin "getset_descriptor.__get__"))) (htk:PySem.W.takesIn K (.builtin "object.__class__")=some true)
   (hm:PySem.W.mroIn K C (.type "object")=some true):TyOf K H (.ref a) (.ref C)
theorem zgp {x:V} {u t:Value} (I:Inv X pins Y H s) (rx:RelV x u) (ty:TyOf X.K H x t) (e:PySem.W.kitOne X.K t c=some b) (h:∀ tk,Q (.bool b) { s with toks:=tk }) :
  wpAny (model X.prog X.w) A (call (.builtin "isinstance") [u,c]) Q E s:=by
 cases ty with
|non=>cases (show u=Value.none from rx);exact PySem.W.kia_one PySem.W.kitx_none I.kIn True.intro e (λ z=>nomatch z) h
|bl y=>cases (show u=Value.bool y from rx);exact PySem.W.kia_one PySem.W.kitx_bool I.kIn True.intro e (λ z=>nomatch z) h
|int i=>obtain ⟨t,q⟩:=(show ∃ t,u=Value.int i t from rx);cases q;exact PySem.W.kia_one PySem.W.kitx_int I.kIn True.intro e (λ z=>nomatch z) h
|str y=>obtain ⟨t,q⟩:=(show ∃ t,u=Value.str y t from rx);cases q;exact PySem.W.kia_one PySem.W.kitx_str I.kIn True.intro e (λ z=>nomatch z) h
|flt y=>obtain ⟨t,q⟩:=(show ∃ t,u=Value.float y t from rx);cases q;exact PySem.W.kia_one PySem.W.kitx_float I.kIn True.intro e (λ z=>nomatch z) h
|@lst a xs ea =>
  cases (show u=Value.ref a from rx)
  obtain ⟨_,_,n,_,h1⟩:=(show ObjOk X.prog X.w H s.heap a (.lst xs) from I.hok a _ ea)
  exact PySem.W.kia_one PySem.W.kitx_list I.kIn ⟨_,h1,rfl⟩ e (λ z=>nomatch z) h
|@frz a ob xs ea =>
  cases (show u=Value.ref a from rx)
  obtain ⟨_,_,_,n,_,h1⟩:=(show ObjOk X.prog X.w H s.heap a (.frz ob (.lst xs)) from I.hok a _ ea)
  exact PySem.W.kia_one PySem.W.kitx_list I.kIn ⟨_,h1,rfl⟩ e (λ z=>nomatch z) h
|@tup a xs ea =>
  cases (show u=Value.ref a from rx)
  obtain ⟨_,_,_,p⟩:=(show ObjOk X.prog X.w H s.heap a (.tup xs) from I.hok a _ ea)
  obtain ⟨o,h1,h2,_⟩:=p
  exact PySem.W.kia_one PySem.W.kitx_tuple I.kIn ⟨o,h1,h2⟩ e (λ z=>nomatch z) h
|@dK a kvs ea =>
  cases (show u=Value.ref a from rx)
  obtain ⟨_,_,vs,_,p⟩:=(show ObjOk X.prog X.w H s.heap a (.dK kvs) from I.hok a _ ea)
  obtain ⟨o,es,ep,h1,h2,_⟩:=p
  exact PySem.W.kia_one PySem.W.kitx_dict I.kIn ⟨o,h1,h2.1⟩ e (λ z=>nomatch z) h
|@dT a kvs ea =>
  cases (show u=Value.ref a from rx)
  obtain ⟨_,_,xs,_,o,es,ep,h1,h2,_⟩:=(show ObjOk X.prog X.w H s.heap a (.dT kvs) from I.hok a _ ea)
  exact PySem.W.kia_one PySem.W.kitx_dict I.kIn ⟨o,h1,h2.1⟩ e (λ z=>nomatch z) h
|@ins a C dx fs ea cl ha hn htk hm =>
  cases (show u=Value.ref a from rx)
  obtain ⟨mA,O,_⟩:=zsk I.hok ea
  obtain ⟨od,J,_⟩:=O.look
  exact PySem.W.kia_one (PySem.W.kitx_own (cl.get _) cl.hd ha hn htk hm) I.kIn J e (λ z=>nomatch z) h
end
structure Room (k:Nat) (A:Around):Prop where
 hd:A.handled=none
 dp:A.depth+3 * k+5 < recursionLimit
 gd:A.guards=some []
 un:A.units+16 * k+200 < cLine
theorem Room.mono {j k:Nat} {A:Around} (r:Room k A) (h:j<=k):Room j A:=⟨r.hd,by have:=r.dp;lia,r.gd,by have:=r.un;lia⟩
theorem Room.deeper {k:Nat} {A:Around} (r:Room (k+1) A) (env:Env):Room k (A.deeper env) :=
 ⟨r.hd,by have:=r.dp;show A.depth+1+3 * k+5 < _;lia,r.gd,by have:=r.un;show A.units+3+16 * k+200 < _;lia⟩
theorem zdn {A:Around} {C:Addr} {us:List Value} {kw:List (Str×Value)}:(A.under (.builtin "type.__call__" ⟨.ref C :: us,kw⟩)).depth=A.depth+1:=by
 first|rfl|simp [Around.under,Code.weight,Code.isCreation,Code.isGuard,Code.isCaller,Code.frames,Code.isFrame,guardIds]
theorem zql {A:Around} {C:Addr} {us:List Value} {kw:List (Str×Value)}:(A.under (.builtin "type.__call__" ⟨.ref C :: us,kw⟩)).units=A.units+1:=by
 first|rfl|simp [Around.under,Code.cUnits,Code.frames,Code.isFrame]
theorem Room.make {k:Nat} {A:Around} (r:Room (k+1) A) (C:Addr) (us:List Value) (kw:List (Str×Value)):Room k (A.under (.builtin "type.__call__" ⟨.ref C :: us,kw⟩)) :=
 ⟨r.hd,by have:=r.dp;rw [zdn];lia,r.gd,by have:=r.un;rw [zql];lia⟩
theorem Room.depth {k:Nat} {A:Around} (r:Room k A):A.depth < recursionLimit:=by have:=r.dp;lia
theorem Room.units {k:Nat} {A:Around} (r:Room k A):A.units+64 < cLine:=by have:=r.un;lia
def tNil:TA:=λ _ H Q=>Q [] H
def zk2 (ta:TE) (tr:TA):TA:=λ Y H Q=>ta Y H λ x H1=>tr Y H1 λ xs H2=>Q (x :: xs) H2
section
variable {X:Cx} {e:Expr} {es:List Expr} {te:TE} {t:TA} {pos:Pos}
theorem zh0:PA X [] tNil:=λ _ _ _ _ H Q I h=>Calls.spliced_nil ⟨[],H,I,.nil,h⟩
theorem za0 (ha:PE X e te) (hr:PA X es t) (hs:starEach (e :: es) X.env=(false,eval e X.env) :: starEach es X.env:=by rfl):PA X (e :: es) (zk2 te t):=by
 intro pos pins s Y H Q I h
 rw [hs]
 show wpAny _ _ (spliced ((false,eval e X.env) :: backTo pos (starEach es X.env))) _ _ s
 refine Calls.spliced_cons (thn (ha pins s Y H _ I h) λ u s1 hz=>?_)
 obtain ⟨x,H1,I1,r1,q1⟩:=hz
 exact thn (hr pos pins s1 Y H1 _ I1 q1) λ us s2 ⟨xs,H2,I2,r2,q2⟩=>⟨x :: xs,H2,I2,.cons r1 r2,q2⟩
def tTup (t:TA):TE:=λ Y H Q=>t Y H λ xs H1=>xs.length<=sizeLine/\∀ p,H1 p=none->Q (.ref p) (upd H1 p (.tup xs))
def tLst (t:TA):TE:=λ Y H Q=>t Y H λ xs H1=>xs.length<=sizeLine/\∀ p,H1 p=none->Q (.ref p) (upd H1 p (.lst xs))
theorem zz71 {x1} (h:PA X es t):PE X (.Tuple es x1 pos) (tTup t):=by
 intro pins s Y H Q I hq
 refine wpAny_Tuple_spliced (thn (h pos pins s Y H _ I hq) λ us s1 ⟨xs,H1,I1,r,z,q⟩=>⟨by rw [<- r.length];exact z,?_⟩)
 have hf:H1 s1.heap.objs.size=none:=I1.hok.fresh (Nat.le_refl _)
 refine ⟨.ref s1.heap.objs.size,upd H1 s1.heap.objs.size (.tup xs),I1.laid (t':=s1.toks) (λ b u e=>Heap.get?_push_of_some _ e) (Nat.le_refl _) ?_,rfl,q _ hf⟩
 exact ⟨z,us,r,⟨_,Heap.get?_push_size _ rfl,rfl,_,rfl⟩⟩
theorem zh71 (h:PA X es t):PE X (.List es pos) (tLst t):=by
 intro pins s Y H Q I hq
 refine wpAny_List_spliced (thn (h pos pins s Y H _ I hq) λ us s1 ⟨xs,H1,I1,r,z,q⟩=>⟨by rw [<- r.length];exact z,?_⟩)
 have hf:H1 s1.heap.objs.size=none:=I1.hok.fresh (Nat.le_refl _)
 refine ⟨.ref s1.heap.objs.size,upd H1 s1.heap.objs.size (.lst xs),I1.laid (t':=s1.toks) (λ b u e=>Heap.get?_push_of_some _ e) (Nat.le_refl _) ?_,rfl,q _ hf⟩
 exact ⟨z,us,0,r,Heap.get?_push_size _ rfl⟩
end
abbrev Sp:=List V->Hp->VK->XK->Prop
abbrev CXT:=List Env->Hp->Shared->XK->Value->Shared->Prop
structure Env0 (P:Program) (w:World) (K:Fg) (mg:Str->Option Value) (base:Heap) (A:Around) (outer:List Env) (s:Shared) (H:Hp):Prop where
 frames:A.frames=some outer
 mod:Mod K mg base
 bs:∀ b o,base.get? b=some o->s.heap.get? b=some o/\H b=none
 bsz:base.objs.size<=s.heap.objs.size
 funs:s.heap.FunFrames base outer
 frf:∀ b∈frs outer,H b=none
 hok:HOk P w H s.heap
 bare:AllBare s.gens
def CE (outer:List Env) (P:Program) (w:World) (H:Hp) (s:Shared) (Q:VK) (u:Value) (s':Shared):Prop :=
 ∃ v H',s'.os=s.os/\AllBare s'.gens/\Un (frs outer) [] H H' s.heap s'.heap/\HOk P w H' s'.heap/\RelV v u/\Q v H'
def CR (CX:CXT) (outer:List Env) (P:Program) (w:World) (H:Hp) (s:Shared) (Q:VK) (E:XK) (r:Result) (s':Shared):Prop :=
 match r with
|.ok (.ret u)=>CE outer P w H s Q u s'
|.ok _=>False
|.error e=>CX outer H s E e s'
structure FnOk (P:Program) (w:World) (K:Fg) (mg:Str->Option Value) (base:Heap) (CX:CXT) (k:Nat) (f:Addr) (fd:FuncData) (ps:List Str) (sp:Sp):Prop where
 len:∀ vs H Q E,sp vs H Q E->vs.length=ps.length
 run:∀ (A:Around) (outer:List Env) (s:Shared) (H:Hp) (args:Args) (us:List Value) (vs:List V) (Q:VK) (E:XK),Room k A->Env0 P w K mg base A outer s H->BindsTo s fd args (ps.zip us)->Vals vs us->sp vs H Q E ->
  codeAny (model P w) A (.call (.ref f) args) (CR CX outer P w H s Q E) s
theorem Env0.make {P:Program} {w:World} {K:Fg} {mg:Str->Option Value} {base:Heap} {A:Around} {outer:List Env} {s:Shared} {H:Hp} (e:Env0 P w K mg base A outer s H) (C:Addr) (us:List Value) (kw:List (Str×Value)) :
  Env0 P w K mg base (A.under (.builtin "type.__call__" ⟨.ref C :: us,kw⟩)) outer s H:=⟨by first|exact e.frames|(simpa [Around.under,Code.envs,Code.isFrame,pushEnvs] using e.frames),e.mod,e.bs,e.bsz,e.funs,e.frf,e.hok,e.bare⟩
section
variable {X:Cx} {pins:List (Addr×Obj)} {Y:St} {H:Hp} {s s':Shared}
theorem Inv.env0 (I:Inv X pins Y H s):Env0 X.prog X.w X.K X.mg X.base X.A X.stack s H :=
 ⟨I.ok.frames,I.ok.mod,I.bs,Nat.le_trans I.ok.bsz I.sz,I.stack,I.stkFree,I.hok,I.bare⟩
theorem Inv.after {Q:VK} {u:Value} (I:Inv X pins Y H s) (h:CE X.stack X.prog X.w H s Q u s'):EP X pins Y Q u s':=by
 obtain ⟨v,H',os,bare,un,hok,r,q⟩:=h
 obtain ⟨hh,g,d,t,os'⟩:=s'
 obtain rfl:os'=s.os:=os
 exact ⟨v,H',I.call (h':=hh) (g':=g) (d':=d) (t':=t) (ch:=[]) un hok bare (λ b z=>absurd z (by simp)),r,q⟩
end
def zcs (sp:Sp) (dvs:List V) (E:XK) (t:TA):TE:=λ Y H Q=>t Y H λ vs H1=>sp (vs++dvs) H1 Q E
def zbx (C:Addr) (m:Str) (sp:Sp) (dvs:List V) (E:XK) (ta:TE) (t:TA):TE:=λ Y H Q=>ta Y H λ x H1=>∃ a dx fs,x=.ref a/\H1 a=some (.ins C dx fs)/\fs.lookup m=none /\
 t Y H1 λ vs H2=>sp (x :: (vs++dvs)) H2 Q E
def zp81 (C:Addr) (sp:Sp) (dvs:List V) (E:XK) (t:TA):TE:=λ Y H Q=>t Y H λ vs H1=>∀ x dx,H1 x=none->H1 dx=none->dx≠x ->
 sp (.ref x :: (vs++dvs)) (upd (upd H1 dx (.own x)) x (.ins C dx [])) (λ v H2=>v=.non/\Q (.ref x) H2) E
def Binds (K:Fg) (fd:FuncData) (ps:List Str) (ds:List Value):Prop :=
 ∀ (s:Shared) (us:List Value),K.In s.heap->(us++ds).length=ps.length->BindsTo s fd ⟨us,[]⟩ (ps.zip (us++ds))
theorem Binds.all {K:Fg} {fd:FuncData} {ps:List Str} (h:∀ us:List Value,us.length=ps.length->bindArgs fd ⟨us,[]⟩=pure (ps.zip us)):Binds K fd ps []:=λ s us _ hl=>by
 rw [List.append_nil] at hl ⊢
 exact .of_eq (h us hl)
def zyf (CX:CXT) (X:Cx) (E:XK):Prop:=∀ (pins:List (Addr×Obj)) (Y:St) (H:Hp) (s:Shared) (e:Value) (s':Shared),Inv X pins Y H s->CX X.stack H s E e s'->X.xe e s'
section
variable {X:Cx} {CX:CXT} {k:Nat} {f C:Addr} {fd:FuncData} {ps:List Str} {sp:Sp} {dvs:List V} {ds:List Value} {E:XK} {x m:Str} {p pos apos:Pos} {e o:Expr} {es:List Expr} {ta:TE} {t:TA}
theorem ztq {pins:List (Addr×Obj)} {Y:St} {H:Hp} {s:Shared} {Q:VK} {us:List Value} {vs:List V} (F:FnOk X.prog X.w X.K X.mg X.base CX k f fd ps sp) (hr:Room k X.A) (hb:Binds X.K fd ps ds) (hd:Vals dvs ds) (hx:zyf CX X E)
  (I:Inv X pins Y H s) (r:Vals vs us) (h:sp (vs++dvs) H Q E):wpAny (model X.prog X.w) X.A (call (.ref f) us) (EP X pins Y Q) X.xe s:=by
 have r2:Vals (vs++dvs) (us++ds):=r.append hd
 have hl:(us++ds).length=ps.length:=by rw [<- r2.length];exact F.len _ _ _ _ h
 refine wpAny_call (codeAny_mono (F.run X.A X.stack s H ⟨us,[]⟩ (us++ds) (vs++dvs) Q E hr I.env0 (hb s us I.kIn hl) r2 h) λ r s' hq=>?_)
 cases r with
|error e=>exact hx pins Y H s e s' I hq
|ok fl =>
  cases fl with
 |ret u=>exact I.after hq
 |next=>exact False.elim hq
 |brk=>exact False.elim hq
 |cont=>exact False.elim hq
theorem zw01 (F:FnOk X.prog X.w X.K X.mg X.base CX k f fd ps sp) (hr:Room k X.A) (hg:Gl X x) (hm:X.mg x=some (.ref f)) (hk:PySem.W.keepIn X.K (.ref f)=true) (hb:Binds X.K fd ps ds) (hd:Vals dvs ds) (hx:zyf CX X E)
  (ha:PA X (e :: es) t) (hdb:(x == ("__debug__":Str))=false:=by decide) (he:starEach (e :: es) X.env=(false,eval e X.env) :: starEach es X.env:=by rfl) (hpl:(backTo pos (starEach es X.env)).any (·.1)=false:=by rfl) :
  PE X (.Call (.Name x p) (e :: es) [] pos) (zcs sp dvs E t):=by
 intro pins s Y H Q I h
 refine wpAny_Call_Name_kw (zwc I hg hm ?_ hdb)
 refine PySem.W.callWith_K (h₀:=X.base) I.ok.mod.kin hk (thn (ha pos pins s Y H _ I h) λ us s1 ⟨vs,H1,I1,r,q⟩=>⟨I1.kIn,?_⟩) he hpl
 exact ztq F hr hb hd hx I1 r q
theorem zn11 {pl:Sem Bool} (he:PE X o ta) (c:Cls X.K C) (hm:Meth X.K C m f) (F:FnOk X.prog X.w X.K X.mg X.base CX k f fd ps sp) (hr:Room k X.A) (hb:Binds X.K fd ps ds) (hd:Vals dvs ds) (hx:zyf CX X E) (ha:PA X (e :: es) t)
  (hst:starEach (e :: es) X.env=(false,eval e X.env) :: starEach es X.env:=by rfl) (hpl:(backTo pos (starEach es X.env)).any (·.1)=false:=by rfl)
  (ht:eval (.Call (.Attribute o m apos) (e :: es) [] pos) X.env=(do
   let ov <- eval o X.env
   standAt apos.atName
   let (f,first) <- holding [ov] (getMethod ov m pl)
   callWith pos f first (backTo pos (starEach (e :: es) X.env)) (backToKw pos (keywordEach [] X.env))):=by rfl) :
  PE X (.Call (.Attribute o m apos) (e :: es) [] pos) (zbx C m sp dvs E ta t):=by
 intro pins s Y H Q I h
 refine PySem.W.methodCall_KW (pl:=pl) (thn (he pins s Y H _ I h) λ u s1 hz=>?_) ht
 obtain ⟨x,H1,I1,rx,a,dx,fs,ex,ea,l,q⟩:=hz
 subst ex
 obtain rfl:u=Value.ref a:=rx
 refine zi4 I1 ea c hm l ?_
 refine PySem.W.callWith_K (first:=[.ref a]) (h₀:=X.base) I.ok.mod.kin hm.kp (thn (ha pos pins s1 Y H1 _ I1 q) λ us s2 ⟨vs,H2,I2,r,q2⟩=>⟨I2.kIn,?_⟩) hst hpl
 exact ztq (us:=.ref a :: us) (vs:=.ref a :: vs) F hr hb hd hx I2 (.cons rfl r) q2
theorem zdu {pl:Sem Bool} (he:PE X o ta) (c:Cls X.K C) (hm:Meth X.K C m f) (F:FnOk X.prog X.w X.K X.mg X.base CX k f fd ps sp) (hr:Room k X.A) (hb:Binds X.K fd ps ds) (hd:Vals dvs ds) (hx:zyf CX X E)
  (ht:eval (.Call (.Attribute o m apos) [] [] pos) X.env=(do
   let ov <- eval o X.env
   standAt apos.atName
   let (f,first) <- holding [ov] (getMethod ov m pl)
   callWith pos f first (backTo pos (starEach [] X.env)) (backToKw pos (keywordEach [] X.env))):=by rfl) :
  PE X (.Call (.Attribute o m apos) [] [] pos) (zbx C m sp dvs E ta tNil):=by
 intro pins s Y H Q I h
 refine PySem.W.methodCall_KW (pl:=pl) (thn (he pins s Y H _ I h) λ u s1 hz=>?_) ht
 obtain ⟨x,H1,I1,rx,a,dx,fs,ex,ea,l,q⟩:=hz
 subst ex
 obtain rfl:u=Value.ref a:=rx
 refine zi4 I1 ea c hm l ?_
 exact PySem.W.callWith_K0 (first:=[.ref a]) I1.kIn hm.kp (ztq (us:=[.ref a]) (vs:=[.ref a]) F hr hb hd hx I1 (.cons rfl .nil) q)
structure Mk (K:Fg) (C f:Addr):Prop where
 makes:PySem.W.makesIn K C=true
 init:PySem.W.findIn K (.ref C) "__init__"=some (some (.ref f))
 fn:PySem.W.isFn K (.ref f)=true
 kp:PySem.W.keepIn K (.ref C)=true
theorem zyv {pins:List (Addr×Obj)} {Y:St} {H:Hp} {s:Shared} {Q:VK} {us:List Value} {vs:List V} (M:Mk X.K C f) (F:FnOk X.prog X.w X.K X.mg X.base CX k f fd ps sp) (hr:Room (k+1) X.A) (hb:Binds X.K fd ps ds) (hd:Vals dvs ds)
  (hx:zyf CX X E) (I:Inv X pins Y H s) (r:Vals vs us)
  (h:∀ x dx,H x=none->H dx=none->dx≠x->sp (.ref x :: (vs++dvs)) (upd (upd H dx (.own x)) x (.ins C dx [])) (λ v H2=>v=.non/\Q (.ref x) H2) E) :
  wpAny (model X.prog X.w) X.A (call (.ref C) us) (EP X pins Y Q) X.xe s:=by
 have hq:=h (s.heap.objs.size+1) s.heap.objs.size (I.hok.fresh (Nat.le_succ _)) (I.hok.fresh (Nat.le_refl _)) (Nat.ne_of_lt (Nat.lt_succ_self _))
 have I2:=Inv.made (C:=C) I
 have r2:Vals (V.ref (s.heap.objs.size+1) :: (vs++dvs)) (Value.ref (s.heap.objs.size+1) :: (us++ds)):=.cons rfl (r.append hd)
 have hl:(Value.ref (s.heap.objs.size+1) :: us++ds).length=ps.length:=by
  have e:=r2.length
  rw [F.len _ _ _ _ hq] at e
  exact e.symm
 refine wpAny_call (zwt (f:=f) I.kIn M.makes M.init (beq_iff_eq.mp M.fn) (codeAny_mono (F.run _ X.stack _ _ ⟨Value.ref (s.heap.objs.size+1) :: us,[]⟩ (Value.ref (s.heap.objs.size+1) :: (us++ds)) _ _ E (hr.make C us [])
  (I2.env0.make C us []) (hb _ (Value.ref (s.heap.objs.size+1) :: us) I2.kIn hl) r2 hq) λ r s' hq'=>?_))
 cases r with
|error e=>exact hx pins Y _ _ e s' I2 hq'
|ok fl =>
  cases fl with
 |ret u =>
   obtain ⟨v,H',I3,rv,ev,q3⟩:=I2.after hq'
   subst ev
   exact ⟨rv,⟨V.ref (s.heap.objs.size+1),H',I3,rfl,q3⟩⟩
 |next=>exact False.elim hq'
 |brk=>exact False.elim hq'
 |cont=>exact False.elim hq'
theorem zp01 (M:Mk X.K C f) (F:FnOk X.prog X.w X.K X.mg X.base CX k f fd ps sp) (hr:Room (k+1) X.A) (hg:Gl X x) (hm:X.mg x=some (.ref C)) (hb:Binds X.K fd ps ds) (hd:Vals dvs ds) (hx:zyf CX X E)
  (ha:PA X (e :: es) t) (hdb:(x == ("__debug__":Str))=false:=by decide) (he:starEach (e :: es) X.env=(false,eval e X.env) :: starEach es X.env:=by rfl) (hpl:(backTo pos (starEach es X.env)).any (·.1)=false:=by rfl) :
  PE X (.Call (.Name x p) (e :: es) [] pos) (zp81 C sp dvs E t):=by
 intro pins s Y H Q I h
 refine wpAny_Call_Name_kw (zwc I hg hm ?_ hdb)
 refine PySem.W.callWith_K (h₀:=X.base) I.ok.mod.kin M.kp (thn (ha pos pins s Y H _ I h) λ us s1 ⟨vs,H1,I1,r,q⟩=>⟨I1.kIn,?_⟩) he hpl
 exact zyv M F hr hb hd hx I1 r q
end
section
variable {X:Cx} {CX:CXT} {k:Nat} {f C:Addr} {fd:FuncData} {ps ks:List Str} {sp:Sp} {E:XK} {x m:Str} {p pos apos kpos:Pos} {e o:Expr} {es:List Expr} {kws:List Keyword} {te ta:TE} {t tk:TA} {nm:Option Str}
variable {g:List Value->List Value->List Value} {gV:List V->List V->List V}
end
structure FnScope (N P:List Str) (sc:Scope):Prop where
 kind:sc.kind=.function
 co:sc.isCoroutine=false
 gen:sc.isGenerator=false
 nd:N.Nodup
 pre:N.take P.length=P
 par:∀ x∈P,sc.names.lookup x=some .local \/ sc.names.lookup x=some .cell
 nofree:∀ y∈sc.names,y.2≠.free
theorem zkk {kindOf:Str->Option NameKind} {x:Str}:∀ {binds:List (Str×Value)} {m:Str->Option Value},(∀ v,(x,v) ∉ binds)->bindL kindOf binds m x=m x
|[],_,_=>rfl
|(n,v) :: r,m,h=>by
  unfold bindL
  rw [zkk λ w hw=>h w (List.mem_cons_of_mem _ hw)]
  split
  ·have:x≠n:=by rintro rfl;exact h v List.mem_cons_self
   simp [this]
  ·rfl
theorem zoj {kindOf:Str->Option NameKind} {x:Str}:∀ {binds:List (Str×Value)} {m:Str->Option Value},(∀ v,(x,v) ∉ binds)->bindC kindOf binds m x=m x
|[],_,_=>rfl
|(n,v) :: r,m,h=>by
  unfold bindC
  rw [zoj λ w hw=>h w (List.mem_cons_of_mem _ hw)]
  split
  ·rfl
  ·have:x≠n:=by rintro rfl;exact h v List.mem_cons_self
   simp [this]
theorem zrk {kindOf:Str->Option NameKind} {x:Str} {v:Value}:∀ {P:List Str} {vs:List Value} {i:Nat} {m:Str->Option Value},P.Nodup->P[i]?=some x->vs[i]?=some v->kindOf x=some .local ->
  bindL kindOf (P.zip vs) m x=some v
|[],_,_,_,_,h,_,_=>by simp at h
|_ :: _,[],_,_,_,_,h,_=>by simp at h
|p :: P,w :: vs,0,m,nd,h1,h2,hk=>by
  simp at h1 h2;subst h1;subst h2
  show bindL kindOf ((p,w) :: P.zip vs) m p=_
  unfold bindL
  rw [zkk λ v hv=>(List.nodup_cons.mp nd).1 (List.of_mem_zip hv).1,if_pos hk]
  simp
|p :: P,w :: vs,i+1,m,nd,h1,h2,hk=>by
  show bindL kindOf ((p,w) :: P.zip vs) m x=_
  unfold bindL
  exact zrk (i:=i) (List.nodup_cons.mp nd).2 (by simpa using h1) (by simpa using h2) hk
theorem zhk {kindOf:Str->Option NameKind} {x:Str} {v:Value}:∀ {P:List Str} {vs:List Value} {i:Nat} {m:Str->Option Value},P.Nodup->P[i]?=some x->vs[i]?=some v->kindOf x≠some .local ->
  bindC kindOf (P.zip vs) m x=some v
|[],_,_,_,_,h,_,_=>by simp at h
|_ :: _,[],_,_,_,_,h,_=>by simp at h
|p :: P,w :: vs,0,m,nd,h1,h2,hk=>by
  simp at h1 h2;subst h1;subst h2
  show bindC kindOf ((p,w) :: P.zip vs) m p=_
  unfold bindC
  rw [zoj λ v hv=>(List.nodup_cons.mp nd).1 (List.of_mem_zip hv).1,if_neg hk]
  simp
|p :: P,w :: vs,i+1,m,nd,h1,h2,hk=>by
  show bindC kindOf ((p,w) :: P.zip vs) m x=_
  unfold bindC
  exact zhk (i:=i) (List.nodup_cons.mp nd).2 (by simpa using h1) (by simpa using h2) hk
def start (N:List Str) (vs:List V):St:=vs.map some++List.replicate (N.length - vs.length) none
def cxOf (CX:CXT) (P:Program) (w:World) (K:Fg) (mg:Str->Option Value) (base:Heap) (N:List Str) (qual:Str) (scope:Scope) (f:Addr) (cd:Value) (A:Around) (outer:List Env) (s:Shared) (H:Hp) (E:XK):Cx where
 prog:=P
 w:=w
 K:=K
 mg:=mg
 base:=base
 A:=A.deeper (envOfC qual scope s.heap.objs.size f cd)
 N:=N
 s₀:=s
 H₀:=H
 env:=envOfC qual scope s.heap.objs.size f cd
 outer:=outer
 stack:=envOfC qual scope s.heap.objs.size f cd :: outer
 ex:=[]
 calm:=true
 fn:=λ _=>true
 pn:=[]
 xe:=λ e s'=>wpAny (model P w) (A.deeper (envOfC qual scope s.heap.objs.size f cd)) (leaving (envOfC qual scope s.heap.objs.size f cd) e) (λ _ s''=>CX outer H s E e s'') (λ e' s''=>CX outer H s E e' s'') s'
theorem zwm {sc:Scope} {n:Nat} {x:Str} (h:sc.names.lookup x=some .cell):∃ c,(cellsFrom n sc.names []).lookup x=some c:=by
 have q:=PySem.W.cellsFrom_some sc.names n [] (.inl h)
 exact Option.isSome_iff_exists.mp q
theorem zfr {CX:CXT} {P:Program} {w:World} {K:Fg} {mg:Str->Option Value} {base:Heap} {N ps:List Str} {qual:Str} {scope:Scope} {f:Addr} {cd:Value} {A:Around} {outer:List Env} {s s1:Shared} {H:Hp} {E:XK} {us:List Value} {vs:List V}
  (S:FnScope N ps scope) (hd:A.handled=none) (e0:Env0 P w K mg base A outer s H) (hl:vs.length=ps.length) (r:Vals vs us)
  (x:InCallC s s.heap.objs.size (bindL (envOfC qual scope s.heap.objs.size f cd).kindOf (ps.zip us) λ _=>none) (cellsFrom (s.heap.objs.size+1) scope.names []) (bindC (envOfC qual scope s.heap.objs.size f cd).kindOf (ps.zip us) λ _=>none) s1) :
  Inv (cxOf CX P w K mg base N qual scope f cd A outer s H E) [] (start N vs) H s1:=by
 have hpl:ps.length<=N.length:=by have:=congrArg List.length S.pre;rw [List.length_take] at this;lia
 obtain ⟨h1,tk,rfl,hk⟩:=x.done
 have noA:∀ b:Addr,b ∉ (cxOf CX P w K mg base N qual scope f cd A outer s H E).ex:=λ b z=>absurd (show b∈([]:List Addr) from z) (by simp)
 refine ⟨⟨e0.mod,S.kind,rfl,rfl,Nat.le_refl _,λ y z c h1 h2=>?_,λ y hy=>?_,λ y c _ h=>?_,λ _=>hd,Around.frames_deeper e0.frames,.inr ⟨rfl,rfl⟩,λ b z=>absurd z (noA b),e0.bs,e0.bsz,λ b _ _=>noA b,λ b z=>absurd z (noA b),e0.funs,e0.frf⟩,
  rfl,e0.bare,Un.kept hk,⟨_,x.toInCall.ns,λ i y v h1 h2 h3=>?_⟩,λ y c h=>⟨_,x.cell y c h⟩,e0.hok.fresh (Nat.le_refl _),λ y c h=>?_,λ p hp=>absurd (show p∈([]:List (Addr×Obj)) from hp) (by simp),e0.hok.kept hk,?_⟩
 ·exact name_of_addr x.apart (PySem.mem_of_lookup h1) (PySem.mem_of_lookup h2)
 ·have hy:scope.names.lookup y=some .cell \/ scope.names.lookup y=some .free:=hy
  rcases hy with hy|hy
  ·exact zwm hy
  ·exact absurd rfl (S.nofree _ (PySem.mem_of_lookup hy))
 ·exact Nat.le_of_lt (x.above y c (PySem.mem_of_lookup h))
 ·have hi:i < vs.length:=by
   unfold start at h2
   by_cases hi:i < vs.length
   ·exact hi
   ·rw [List.getElem?_append_right (by simpa using hi)] at h2
    rw [List.getElem?_replicate] at h2
    split at h2 <;> cases h2
  have ha:vs[i]?=some v:=by
   unfold start at h2
   rw [List.getElem?_append_left (by simpa using hi),List.getElem?_map] at h2
   cases e:vs[i]? with
  |none=>rw [e] at h2;cases h2
  |some a=>rw [e] at h2;cases h2;rfl
  obtain ⟨u,hu,rv⟩:=r.get ha
  have hp:ps[i]?=some y:=by
   rw [<- S.pre,List.getElem?_take_of_lt (by lia)];exact h1
  have ndP:ps.Nodup:=by rw [<- S.pre];exact S.nd.sublist (List.take_sublist _ _)
  refine ⟨u,rv,?_⟩
  rcases S.par y (List.mem_of_getElem? hp) with k|k
  ·exact .inl ⟨k,zrk ndP hp hu k⟩
  ·obtain ⟨c,e⟩:=zwm (n:=s.heap.objs.size+1) k
   refine .inr ⟨.inl k,c,e,?_⟩
   have q:=x.cell y c e
   rw [zhk ndP hp hu (by show scope.names.lookup y≠_;rw [k];decide)] at q
   exact q
 ·exact e0.hok.fresh (Nat.le_of_lt (x.above y c (PySem.mem_of_lookup h)))
 ·unfold start
  show _=N.length
  rw [List.length_append,List.length_map,List.length_replicate]
  lia
theorem zg91 {CX:CXT} {P:Program} {w:World} {K:Fg} {mg:Str->Option Value} {base:Heap} {k:Nat} {f:Addr} {name qual:Str} {params:Arguments} {body:List Stmt} {scope:Scope} {dV kV doc pm cdv ct oc:Value} {an od:Option Addr}
  {osl:Array (Option Value)} {N ps:List Str} {sp:Sp} (lk:K.lookup f=some ⟨oc,od,.func (PySem.W.fnOf name qual params body scope dV kV doc pm an cdv ct),osl⟩) (hcd:PySem.W.codeIn K cdv qual=true) (S:FnScope N ps scope)
  (len:∀ vs H Q E,sp vs H Q E->vs.length=ps.length)
  (hbody:∀ (A:Around) (outer:List Env) (s:Shared) (H:Hp) (vs:List V) (Q:VK) (E:XK),Room k (A.deeper (envOfC qual scope s.heap.objs.size f cdv))->sp vs H Q E ->
   ∃ t,PSs (cxOf CX P w K mg base N qual scope f cdv A outer s H E) body t/\t { nx:=λ _ H'=>Q .non H',rt:=Q } (start N vs) H) :
  FnOk P w K mg base CX (k+1) f (PySem.W.fnOf name qual params body scope dV kV doc pm an cdv ct) ps sp:=by
 refine ⟨len,λ A outer s H args us vs Q E hr e0 hb r hsp=>?_⟩
 have hl:=len _ _ _ _ hsp
 have KX:K.In s.heap:=e0.mod.kin.keeps λ b o e=>(e0.bs b o e).1
 have lim:s.heap.NoLimit:=e0.mod.nolimit.keeps λ b o e=>(e0.bs b o e).1
 have hkind:∀ y∈ps.zip us,scope.names.lookup y.1=some .local \/ (scope.names.lookup y.1=some .cell/\((cellsFrom (s.heap.objs.size+1) scope.names []).lookup y.1).isSome=true):=λ ⟨n,v⟩ hy=>by
  rcases S.par n (List.of_mem_zip hy).1 with q|q
  ·exact .inl q
  ·exact .inr ⟨q,PySem.W.cellsFrom_some _ _ _ (.inl q)⟩
 refine codeAny_call_function hr.depth (KX _ _ lk) rfl S.co S.gen rfl (PySem.W.codeRec_of KX hcd) (hb _ _ _ _ ?_)
 refine wpAny_newFunctionEnv_cells S.kind hkind λ env he s1 x=>?_
 subst he
 refine ⟨lim.keeps x.toInCall.keep,codeAny_func ?_⟩
 obtain ⟨t,ht,hq⟩:=hbody A outer s H vs Q E (hr.deeper _) hsp
 have I:Inv (cxOf CX P w K mg base N qual scope f cdv A outer s H E) [] (start N vs) H s1:=zfr S hr.hd e0 hl r x
 refine wpAny_mono (ht [] s1 (start N vs) H _ I hq) (λ fl s' hs=>?_) λ e s' hs=>hs
 have fin:∀ {Y':St} {H':Hp} {v:V} {u:Value},Inv (cxOf CX P w K mg base N qual scope f cdv A outer s H E) [] Y' H' s'->RelV v u->Q v H'->CE outer P w H s Q u s' :=
  λ {Y' H' v u} J rv q=>⟨v,H',J.os,J.bare,J.base,J.hok,rv,q⟩
 cases fl with
|ret u =>
  obtain ⟨v,Y',H',J,rv,q⟩:=hs
  exact fin J rv q
|next =>
  obtain ⟨Y',H',J,q⟩:=hs
  exact fin (v:=V.non) (u:=Value.none) J rfl q
|brk =>
  obtain ⟨_,_,_,q⟩:=hs
  exact False.elim q
|cont =>
  obtain ⟨_,_,_,q⟩:=hs
  exact False.elim q
section
variable {X:Cx} {x:Str} {p pos:Pos} {e:Expr} {es:List Expr} {t:TA} {id T:String} {r:List V->Hp->VK->Prop}
def tCB (r:List V->Hp->VK->Prop) (t:TA):TE:=λ Y H Q=>t Y H λ vs H1=>r vs H1 Q
theorem zu0 (hc:CallR X (.builtin id) r) (hg:Gl X x) (hm:X.mg x=none) (hv:bootBuiltins x=some (.builtin id)) (ha:PA X (e :: es) t) (hn:x ≠ "__name__":=by decide) (hdb:(x == ("__debug__":Str))=false:=by decide)
  (he:starEach (e :: es) X.env=(false,eval e X.env) :: starEach es X.env:=by rfl) (hpl:(backTo pos (starEach es X.env)).any (·.1)=false:=by rfl):PE X (.Call (.Name x p) (e :: es) [] pos) (tCB r t):=by
 intro pins s Y H Q I h
 refine wpAny_Call_Name_kw (zji I hg hm hv ?_ hn hdb)
 exact PyProof.Rows.callWith_builtin1 (thn (ha pos pins s Y H _ I h) λ us s1 ⟨vs,H1,I1,r1,q1⟩=>hc pins s1 Y H1 vs us Q I1 r1 q1) he hpl
theorem zn3 (hc:CallR X (.type T) r) (hg:Gl X x) (hm:X.mg x=none) (hv:bootBuiltins x=some (.type T)) (ha:PA X (e :: es) t) (hn:x ≠ "__name__":=by decide) (hdb:(x == ("__debug__":Str))=false:=by decide)
  (he:starEach (e :: es) X.env=(false,eval e X.env) :: starEach es X.env:=by rfl) (hpl:(backTo pos (starEach es X.env)).any (·.1)=false:=by rfl):PE X (.Call (.Name x p) (e :: es) [] pos) (tCB r t):=by
 intro pins s Y H Q I h
 refine wpAny_Call_Name_kw (zji I hg hm hv ?_ hn hdb)
 exact PyProof.Rows.callWith_type1 (thn (ha pos pins s Y H _ I h) λ us s1 ⟨vs,H1,I1,r1,q1⟩=>hc pins s1 Y H1 vs us Q I1 r1 q1) he hpl
end
end L2
namespace HT
open PySem PyProof.Rows
section
open PySem.SeqAt
open PySem.AutoSeq1 (wpAny_loadPart')
open PySem.MeetsSeq PySem.MeetsSeq2 PySem.MeetsSeq3
end
section
variable {prog:Program} {w:World} {A:Around} {E:Value->Shared->Prop} {s:Shared}
theorem cat_tup {t b:Addr} {vs ws:List Value} {Q:Value->Shared->Prop} (ht:IsTup s.heap t vs.toArray) (hb:IsTup s.heap b ws.toArray) (hv:vs≠[])
  (h1:ws=[]->Q (.ref t) s) (h2:ws≠[]->Q (.ref s.heap.objs.size) { s with heap:=s.heap.push { cls:=.type "tuple",data:=.seq (vs++ws).toArray } })
  (hsz:vs.length+ws.length<=sizeLine):wpAny (model prog w) A (binaryOp .Add (.ref t) (.ref b)) Q E s:=by
 obtain ⟨⟨cls,dd,data,sl⟩,ho,hc,n,hd⟩:=id ht
 obtain ⟨⟨cls2,dd2,data2,sl2⟩,ho2,hc2,n2,hd2⟩:=id hb
 simp only at hc hd hc2 hd2
 subst hc hd hc2 hd2
 have e:vs.toArray++ws.toArray=(vs++ws).toArray:=by simp
 by_cases hw:ws=[]
 ·exact concat_meets ⟨_,ho,rfl⟩ ⟨_,ho2,rfl⟩ noFill_tuple_add seq_tuple_add PySem.F.slot_tuple_add PySem.F.entry_tuple_add (PySem.F.args_tuple_add_2 _ _)
   (tuple_addW1 t b vs.toArray ws.toArray n n2 dd dd2 sl sl2 (by simpa using hv) (by simp [hw])) ⟨ho,ho2,h1 hw⟩
 ·refine concat_meets ⟨_,ho,rfl⟩ ⟨_,ho2,rfl⟩ noFill_tuple_add seq_tuple_add PySem.F.slot_tuple_add PySem.F.entry_tuple_add (PySem.F.args_tuple_add_2 _ _)
   (tuple_addW2 t b vs.toArray ws.toArray n n2 dd dd2 sl sl2 (by simpa using hv) (by simpa using hw) (by rw [List.size_toArray,List.size_toArray];exact hsz)) ⟨ho,ho2,?_⟩
  rw [e]
  exact h2 hw
def sIx (n d:Nat):Option Int->Nat
|none=>d
|some v=>if v < 0 then (v+(n:Int)).toNat else min v.toNat n
theorem sIx_none (n d:Nat):sIx n d none=d:=rfl
theorem sIx_nat (n d k:Nat):sIx n d (some (k:Int))=min k n:=by
 show (if (k:Int) < 0 then ((k:Int)+(n:Int)).toNat else min (k:Int).toNat n)=min k n
 rw [if_neg (by lia),Int.toNat_natCast]
theorem zz61 (n d:Nat) (hd:d<=n) (o:Option Int):sIx n d o<=n:=by
 cases o with
|none=>exact hd
|some v =>
  show (if v < 0 then (v+(n:Int)).toNat else min v.toNat n)<=n
  by_cases hv:v < 0
  ·rw [if_pos hv];lia
  ·rw [if_neg hv];exact Nat.min_le_right _ _
theorem zvr (v:Int) (n d:Nat):(if v < 0 then max (v+(n:Int)) 0 else min v (n:Int))=((sIx n d (some v):Nat):Int):=by
 show (if v < 0 then max (v+(n:Int)) 0 else min v (n:Int))=(((if v < 0 then (v+(n:Int)).toNat else min v.toNat n):Nat):Int)
 by_cases hv:v < 0
 ·simp only [if_pos hv];lia
 ·simp only [if_neg hv];lia
theorem zro (lo hi:Option Int) (n:Nat):Builtin.Slice.sliceAdjust lo hi 1 (n:Int)=(((sIx n 0 lo:Nat):Int),((sIx n n hi:Nat):Int)):=by
 have h1:¬ ((1:Int) < 0):=by lia
 unfold Builtin.Slice.sliceAdjust
 simp only [h1,if_false]
 refine Prod.ext ?_ ?_
 ·cases lo with
 |none=>rfl
 |some v=>exact zvr v n 0
 ·cases hi with
 |none=>rfl
 |some v=>exact zvr v n n
theorem zrm (i j:Nat):Builtin.Slice.slicePlaces (i:Int) (j:Int) 1=j - i:=by
 unfold Builtin.Slice.slicePlaces
 have h1:(1:Int) > 0:=by lia
 simp only [h1,if_true,Int.ediv_one]
 split <;> lia
theorem zlf {v:Value} {o:Option Int} {Q:Option Int->Shared->Prop} (p:IsPart v o) (h:Q o s):wpAny (model prog w) A (Builtin.Slice.slicePartIndex v) Q E s:=by
 cases p with
|none=>exact slicePart_none h
|int i t=>exact slicePart_int h
theorem zk9 {sl:Addr} {vl vu:Value} {lo hi:Option Int} {n:Nat} {Q:Int×Int×Nat->Shared->Prop} (hs:s.heap.IsSliceOf sl vl vu .none) (pl:IsPart vl lo) (pu:IsPart vu hi)
  (h:Q (((sIx n 0 lo:Nat):Int),1,sIx n n hi - sIx n 0 lo) s):wpAny (model prog w) A (Builtin.Slice.sliceApplied (.ref sl) (pure (n:Int))) Q E s:=by
 obtain ⟨os,hos,hcs,hds⟩:=id hs
 unfold Builtin.Slice.sliceApplied Builtin.Slice.sliceFields
 refine wpAny_bind (wpAny_bind (wpAny_field hos hds (x:=vl) rfl (wpAny_bind (wpAny_field hos hds (x:=vu) rfl (wpAny_bind (wpAny_field hos hds (x:=.none) rfl (wpAny_pure ?_)))))))
 refine wpAny_bind (slicePart_none ?_)
 show wpAny _ _ (if ((1:Int) == 0)=true then _ else _) _ _ s
 rw [if_neg (by decide)]
 refine wpAny_bind (zlf pl (wpAny_bind (zlf pu (wpAny_bind (wpAny_pure ?_)))))
 show wpAny _ _ (match Builtin.Slice.sliceAdjust lo hi 1 (n:Int) with|(lo,hi)=>pure (lo,(1:Int),Builtin.Slice.slicePlaces lo hi 1)) _ _ s
 rw [zro lo hi n]
 show wpAny _ _ (pure (((sIx n 0 lo:Nat):Int),(1:Int),Builtin.Slice.slicePlaces ((sIx n 0 lo:Nat):Int) ((sIx n n hi:Nat):Int) 1)) _ _ s
 rw [zrm]
 exact wpAny_pure h
theorem zsv (xs:Array Value) (i k:Nat):((List.range k).filterMap λ (m:Nat)=>xs[((i:Int)+(m:Int) * 1).toNat]?).toArray=((xs.toList.drop i).take k).toArray:=by
 have e:(λ (m:Nat)=>xs[((i:Int)+(m:Int) * 1).toNat]?)=λ m=>xs[i+m]?:=by
  funext m
  have:((i:Int)+(m:Int) * 1).toNat=i+m:=by lia
  rw [this]
 rw [e]
 have:=pick_run xs i k
 rw [List.filterMap_map] at this
 have e2:((λ x=>xs[x]?) ∘ λ x=>i+x)=λ m=>xs[i+m]?:=rfl
 rw [e2] at this
 rw [this]
theorem getItem_tuple_cut {t sl:Addr} {items:Array Value} {vl vu:Value} {lo hi:Option Int} {Q:Value->Shared->Prop} (ht:IsTup s.heap t items) (hs:s.heap.IsSliceOf sl vl vu .none) (pl:IsPart vl lo) (pu:IsPart vu hi)
  (hw:¬ (sIx items.size 0 lo=0/\sIx items.size items.size hi=items.size))
  (h:Q (.ref s.heap.objs.size) { s with heap:=s.heap.push { cls:=.type "tuple",data:=.seq ((items.toList.drop (sIx items.size 0 lo)).take (sIx items.size items.size hi - sIx items.size 0 lo)).toArray } })
  (hsz:items.size<=sizeLine):wpAny (model prog w) A (getItem (.ref t) (.ref sl)) Q E s:=by
 have htake:sizeOk (.seq ((items.toList.drop (sIx items.size 0 lo)).take (sIx items.size items.size hi - sIx items.size 0 lo)).toArray):=by
  show ((items.toList.drop (sIx items.size 0 lo)).take (sIx items.size items.size hi - sIx items.size 0 lo)).toArray.size<=sizeLine
  rw [List.size_toArray,List.length_take,List.length_drop,Array.length_toList]
  lia
 have hj:sIx items.size items.size hi<=items.size:=zz61 _ _ (Nat.le_refl _) hi
 obtain ⟨os,hos,hcs,hds⟩:=id hs
 have hTs:s.TypeIs (.ref sl) "slice":=⟨os,hos,hcs⟩
 unfold getItem
 try with_reducible refine wpAny_holding ?_
 first|refine wpAny_bind (wpAny_pure ?_)|skip
 refine wpAny_bind (wpAny_sequenceKey ht.typeIs (by decide) ?_)
 refine wpAny_bind (wpAny_callSpecial?_slot (name:=Str.ofString "__getitem__") ht.typeIs PyProof.Rows.slot_tuple_getitem
  (wpAny_call_entry PyProof.Rows.slot_tuple_getitem ht.typeIs entry_tuple_getitem ?_ (args_tuple_getitem _ _)))
 show wpAny _ _ (Builtin.Tuple.tupleItemsOf (.ref t) >>= _) _ _ s
 refine wpAny_bind (tupleItemsOf_ ht ?_)
 refine wpAny_bind (wpAny_typeOf hTs ?_)
 rw [if_pos (by decide)]
 refine wpAny_bind (zk9 hs pl pu ?_)
 have hno:¬ ((((sIx items.size 0 lo:Nat):Int) == 0 && (1:Int) == 1 && (sIx items.size items.size hi - sIx items.size 0 lo) == items.size)=true):=by
  intro q
  rw [Bool.and_eq_true,Bool.and_eq_true] at q
  have q1:((sIx items.size 0 lo:Nat):Int)=0:=eq_of_beq q.1.1
  have q2:sIx items.size items.size hi - sIx items.size 0 lo=items.size:=eq_of_beq q.2
  exact hw ⟨by lia,by lia⟩
 show wpAny _ _ (if (((sIx items.size 0 lo:Nat):Int) == 0 && (1:Int) == 1 && (sIx items.size items.size hi - sIx items.size 0 lo) == items.size)=true then _ else _) _ _ s
 rw [if_neg hno,zsv]
 first
 |exact wpAny_bind (m:=Builtin.Tuple.tupleExact _) (wpAny_newObj_type (wpAny_pure ⟨_,rfl,wpAny_pure h⟩) htake)
 |exact wpAny_bind (m:=Builtin.Tuple.tupleExact _) (wpAny_newObj_type (wpAny_bind (wpAny_pure (wpAny_pure ⟨_,rfl,wpAny_pure h⟩))) htake)
 |exact wpAny_bind (wpAny_bind (m:=Builtin.Tuple.tupleExact _) (wpAny_newObj_type (wpAny_pure (wpAny_pure ⟨_,rfl,wpAny_pure h⟩)) htake))
 |exact wpAny_bind (wpAny_bind (m:=Builtin.Tuple.tupleExact _) (wpAny_newObj_type (wpAny_pure ⟨_,rfl,wpAny_pure h⟩) htake))
end
end HT
namespace L2
open PySem PySem.Spec PyProof.Rows
abbrev TO:=St->Hp->(Option Int->Hp->Prop)->Prop
def PO (X:Cx) (e:Option Expr) (t:TO):Prop :=
 ∀ (pins:List (Addr×Obj)) (s:Shared) (Y:St) (H:Hp) (Q:Option Int->Hp->Prop),Inv X pins Y H s->t Y H Q ->
  wpAny (model X.prog X.w) X.A (evalPart e X.env) (λ u s'=>∃ o H',Inv X pins Y H' s'/\IsPart u o/\Q o H') X.xe s
def zzr:TO:=λ _ H Q=>Q none H
def zfd1 (t:TE):TO:=λ Y H Q=>t Y H λ x H1=>∃ i,x=.int i/\Q (some i) H1
theorem zon {ns:List Int}:∀ {us:List Value},Vals (ns.map V.int) us->IntsAre us ns:=by
 induction ns with
|nil=>intro us r;rw [List.map_nil] at r;cases r;exact .nil
|cons n ns ih =>
  intro us r
  rw [List.map_cons] at r
  cases r with
 |cons r1 r2 =>
   obtain ⟨t,e⟩:=r1
   subst e
   exact .cons n t (ih r2)
section
variable {X:Cx} {e:Expr} {te:TE} {lo hi:Option Expr} {tl th:TO} {pos p2:Pos}
theorem zvm:PO X none zzr:=by
 intro pins s Y H Q I h
 rw [evalPart_none]
 exact wpAny_pure ⟨none,H,I,.none,h⟩
theorem zk01 (h:PE X e te):PO X (some e) (zfd1 te):=by
 intro pins s Y H Q I hw
 rw [evalPart_some]
 refine thn (h pins s Y H _ I hw) λ u s1 hz=>?_
 obtain ⟨x,H1,I1,r1,q1⟩:=hz
 obtain ⟨i,rfl,q⟩:=q1
 obtain ⟨t,rfl⟩:=r1
 exact ⟨some i,H1,I1,.int i t,q⟩
def SlR (X:Cx) (r:V->Option Int->Option Int->Hp->VK->Prop):Prop :=
 ∀ (pins:List (Addr×Obj)) (s:Shared) (Y:St) (H:Hp) (x:V) (v vl vu:Value) (lo hi:Option Int) (sl:Addr) (Q:VK),Inv X pins Y H s->RelV x v->s.heap.IsSliceOf sl vl vu .none->IsPart vl lo->IsPart vu hi->r x lo hi H Q ->
  ∃ T id,typeLookup (.type T) "__getitem__"=pure (some (.builtin id))/\s.TypeIs v T/\wpAny (model X.prog X.w) X.A (getItem v (.ref sl)) (EP X pins Y Q) X.xe s
theorem SlR.or {r r':V->Option Int->Option Int->Hp->VK->Prop} (h:SlR X r) (h':SlR X r'):SlR X (λ x lo hi H Q=>r x lo hi H Q \/ r' x lo hi H Q):=by
 intro pins s Y H x v vl vu lo hi sl Q I rx hs pl pu q
 rcases q with q|q
 ·exact h pins s Y H x v vl vu lo hi sl Q I rx hs pl pu q
 ·exact h' pins s Y H x v vl vu lo hi sl Q I rx hs pl pu q
def tSl (r:V->Option Int->Option Int->Hp->VK->Prop) (te:TE) (tl th:TO):TE:=λ Y H Q=>te Y H λ x H1=>tl Y H1 λ l H2=>th Y H2 λ u H3=>r x l u H3 Q
theorem zbo {r:V->Option Int->Option Int->Hp->VK->Prop} (hr:SlR X r) (he:PE X e te) (hl:PO X lo tl) (hu:PO X hi th):PE X (.Subscript e (.Slice lo hi none p2) pos) (tSl r te tl th):=by
 intro pins s Y H Q I h
 refine Subscript_ (thn (he pins s Y H _ I h) λ v s1 hz=>?_)
 obtain ⟨x,H1,I1,r1,q1⟩:=hz
 refine wpAny_Slice (thn (hl pins s1 Y H1 _ I1 q1) λ vl s2 ⟨l,H2,I2,pl,q2⟩=>thn (hu pins s2 Y H2 _ I2 q2) λ vu s3 hz=>?_)
 obtain ⟨u,H3,I3,pu,q3⟩:=hz
 rw [evalPart_none]
 refine wpAny_pure ?_
 have I4:Inv X pins Y H3 { s3 with heap:=s3.heap.push { cls:=.type "slice",data:=.fields #[vl,vu,.none] } }:=I3.kept (t':=s3.toks) λ b ob q=>Heap.get?_push_of_some _ q
 obtain ⟨T,id,hT,ht,hg⟩:=hr pins { s3 with heap:=s3.heap.push { cls:=.type "slice",data:=.fields #[vl,vu,.none] } } Y H3 x v vl vu l u s3.heap.objs.size Q I4 r1 (Heap.IsSliceOf.new ..) pl pu q3
 show wpAny (model X.prog X.w) X.A (subscriptTail e (.Slice lo hi none p2) v (.ref s3.heap.objs.size)) (EP X pins Y Q) X.xe { s3 with heap:=s3.heap.push { cls:=.type "slice",data:=.fields #[vl,vu,.none] } }
 exact tail_any (ops:=[.ref s3.heap.objs.size,v]) ht hT hg (by with_unfolding_all rfl)
def cutV (xs:List V) (lo hi:Option Int):List V:=(xs.drop (HT.sIx xs.length 0 lo)).take (HT.sIx xs.length xs.length hi - HT.sIx xs.length 0 lo)
theorem zyc (xs:List V) (lo hi:Option Int):(cutV xs lo hi).length<=xs.length:=by
 unfold cutV
 rw [List.length_take,List.length_drop]
 lia
def rSlT (K:Fg):V->Option Int->Option Int->Hp->VK->Prop:=λ x lo hi H Q=>∃ a xs,x=.ref a/\SqT K H a xs /\
 ¬ (HT.sIx xs.length 0 lo=0/\HT.sIx xs.length xs.length hi=xs.length)/\∀ p,H p=none->Q (.ref p) (upd H p (.tup (cutV xs lo hi)))
theorem zv81:SlR X (rSlT X.K):=by
 intro pins s Y H x v vl vu lo hi sl Q I rx hs pl pu h
 obtain ⟨a,xs,rfl,hx,hw,q⟩:=h
 cases rx
 obtain ⟨its,r,ht,hz⟩:=I.tuple hx
 have hlen:its.toArray.size=xs.length:=by rw [List.size_toArray];exact r.length.symm
 refine ⟨"tuple",_,PyProof.Rows.slot_tuple_getitem.lookup,ht.typeIs,?_⟩
 refine HT.getItem_tuple_cut ht hs pl pu (by rw [hlen];exact hw) ?_ (by rw [hlen];exact hz)
 rw [hlen]
 refine ⟨.ref s.heap.objs.size,_,I.laid (t':=s.toks) (o:=.tup (cutV xs lo hi)) (λ b ob q=>Heap.get?_push_of_some _ q) (Nat.le_refl _) ?_,rfl,q _ (I.hok.fresh (Nat.le_refl _))⟩
 exact ⟨Nat.le_trans (zyc xs lo hi) hz,_,(r.drop (HT.sIx xs.length 0 lo)).take (HT.sIx xs.length xs.length hi - HT.sIx xs.length 0 lo),IsTup.new _ _⟩
def ze91 (K:Fg):R2:=λ x y H Q=>∃ a b xs ys,x=.ref a/\y=.ref b/\SqT K H a xs/\SqT K H b ys/\xs≠[]/\xs.length+ys.length<=sizeLine /\
 (ys=[]->Q (.ref a) H)/\(ys≠[]->∀ p,H p=none->Q (.ref p) (upd H p (.tup (xs++ys))))
theorem Vals.nil_iff {xs:List V} {us:List Value} (r:Vals xs us):us=[] ↔ xs=[]:=by
 cases r with
|nil=>simp
|cons _ _=>simp
theorem zox:OpR X (binaryOp .Add) (ze91 X.K):=by
 intro pins s Y H x y v u Q I rx ry h
 obtain ⟨a,b,xs,ys,rfl,rfl,ha,hb,hx,hz,q1,q2⟩:=h
 cases rx
 cases ry
 obtain ⟨its,r1,p1,_⟩:=I.tuple ha
 obtain ⟨its2,r2,p2,_⟩:=I.tuple hb
 refine HT.cat_tup p1 p2 (λ z=>hx (r1.nil_iff.mp z)) (λ z=>⟨.ref a,H,I,rfl,q1 (r2.nil_iff.mp z)⟩) (λ z=>?_) (by rw [<- r1.length,<- r2.length];exact hz)
 refine ⟨.ref s.heap.objs.size,_,I.laid (t':=s.toks) (o:=.tup (xs++ys)) (λ b ob q=>Heap.get?_push_of_some _ q) (Nat.le_refl _) ?_,rfl,q2 (λ w=>z (r2.nil_iff.mpr w)) _ (I.hok.fresh (Nat.le_refl _))⟩
 exact ⟨by rw [List.length_append];exact hz,_,r1.append r2,IsTup.new _ _⟩
end
def ixN (n:Nat) (i:Int):Option Nat:=if 0<=i then (if i < n then some i.toNat else none) else if -(n:Int)<=i then some (i+n).toNat else none
def atI {α:Type} (xs:List α) (i:Int):Option α:=(ixN xs.length i).bind λ j=>xs[j]?
theorem zps {n:Nat} {i:Int} {j:Nat} (h:ixN n i=some j):seqIndex? i n=some j/\j < n/\-(n:Int)<=i/\i < n:=by
 unfold ixN at h
 by_cases h0:0<=i
 ·rw [if_pos h0] at h
  by_cases h1:i < n
  ·rw [if_pos h1] at h
   have e:i.toNat=j:=Option.some.inj h
   exact ⟨by rw [seqIndex_of h0 h1,e],by lia,by lia,h1⟩
  ·rw [if_neg h1] at h;cases h
 ·rw [if_neg h0] at h
  by_cases h1:-(n:Int)<=i
  ·rw [if_pos h1] at h
   have e:(i+n).toNat=j:=Option.some.inj h
   exact ⟨by rw [seqIndex_neg (by lia) h1,e],by lia,h1,by lia⟩
  ·rw [if_neg h1] at h;cases h
theorem zpm {α:Type} {xs:List α} {i:Int} {v:α} (h:atI xs i=some v):∃ j,seqIndex? i xs.length=some j/\xs[j]?=some v/\j < xs.length/\-(xs.length:Int)<=i/\i < xs.length:=by
 unfold atI at h
 cases e:ixN xs.length i with
|none=>rw [e] at h;cases h
|some j =>
  rw [e] at h
  obtain ⟨h1,h2,h3,h4⟩:=zps e
  exact ⟨j,h1,h,h2,h3,h4⟩
theorem ze01 {α:Type} {xs:List α} {j:Nat} {v:α} (h:xs[j]?=some v):atI xs (j:Int)=some v:=by
 have hj:j < xs.length:=(List.getElem?_eq_some_iff.mp h).1
 have e:ixN xs.length (j:Int)=some j:=by
  unfold ixN
  rw [if_pos (by lia),if_pos (by lia)];simp
 unfold atI;rw [e];exact h
def zxs (b:Expr):Prop:=∀ o i,subscripted b false o i=operate [o,i] (getItem o i)
def IxR (X:Cx) (r:R2):Prop :=
 ∀ (value slice:Expr) (pins:List (Addr×Obj)) (s:Shared) (Y:St) (H:Hp) (x y:V) (v u:Value) (Q:VK),Inv X pins Y H s->RelV x v->RelV y u->r x y H Q ->
  subscripted slice false v u=operate [v,u] (getItem v u)->wpAny (model X.prog X.w) X.A (subscriptTail value slice v u) (EP X pins Y Q) X.xe s
def MtR (X:Cx) (id:String) (r:V->List V->Hp->VK->Prop):Prop :=
 ∀ (pins:List (Addr×Obj)) (s:Shared) (Y:St) (H:Hp) (x:V) (xs:List V) (v:Value) (us:List Value) (Q:VK),Inv X pins Y H s->RelV x v->Vals xs us->r x xs H Q ->
  wpAny (model X.prog X.w) X.A (call (.builtin id) (v :: us)) (EP X pins Y Q) X.xe s
section
variable {X:Cx} {a b:Expr} {ta tb:TE} {pos:Pos}
theorem IxR.or {r r':R2} (h:IxR X r) (h':IxR X r'):IxR X (λ x y H Q=>r x y H Q \/ r' x y H Q):=by
 intro value slice pins s Y H x y v u Q I rx ry q hs
 rcases q with q|q
 ·exact h value slice pins s Y H x y v u Q I rx ry q hs
 ·exact h' value slice pins s Y H x y v u Q I rx ry q hs
theorem zbd1 {r:R2} (hr:IxR X r) (ha:PE X a ta) (hb:PE X b tb) (hs:zxs b):PE X (.Subscript a b pos) (tOp r ta tb):=by
 intro pins s Y H Q I h
 exact Subscript_ (binT ha hb I h λ v u s2 x y H2 I2 rx ry q=>hr a b pins s2 Y H2 x y v u Q I2 rx ry q (hs _ _))
def rIxL (K:Fg):R2:=λ x y H Q=>∃ p xs i v,x=.ref p/\y=.int i/\SqL K H p xs/\atI xs i=some v/\Q v H
def rIxT (K:Fg):R2:=λ x y H Q=>∃ p xs i v,x=.ref p/\y=.int i/\SqT K H p xs/\atI xs i=some v/\Q v H
def rIxS:R2:=λ x y H Q=>∃ z i c,x=.str z/\y=.int i/\z.length<=sizeLine/\atI z.cps.toList i=some c/\Q (.str ⟨#[c]⟩) H
theorem zy21:IxR X (rIxL X.K):=by
 intro value slice pins s Y H x y v u Q I rx ry h hs
 obtain ⟨p,xs,i,z,rfl,rfl,hq,he,q⟩:=h
 cases rx
 obtain ⟨t,rfl⟩:=ry
 obtain ⟨its,r,pl,hz⟩:=I.list hq
 obtain ⟨j,h1,h2,h3,h4,h5⟩:=zpm he
 obtain ⟨w,ew,rw'⟩:=r.get h2
 have hl:=r.length
 have hn:=zqi
 have fin:EP X pins Y Q w s:=⟨z,H,I,rw',q⟩
 by_cases h0:0<=i
 ·have hj:i.toNat=j:=by
   rw [seqIndex_of h0 h5] at h1
   exact Option.some.inj h1
  exact item_listR pl.isList h0 (by lia) (by rw [hj];simpa using ew) fin hs
 ·have hj:(i+(its.toArray.size:Int)).toNat=j:=by
   rw [seqIndex_neg (by lia) h4] at h1
   rw [List.size_toArray,<- hl]
   exact Option.some.inj h1
  exact subscriptTail_builtinR (x:=w) pl.isList.typeIs slot_list_getitem.lookup
   (wpAny_getItem_list_neg (Q:=λ r s'=>r=w/\EP X pins Y Q r s') pl.isList (by lia) (by rw [List.size_toArray] <;> lia) (by lia) (by rw [hj];simpa using ew) ⟨rfl,fin⟩) hs
theorem zd61:IxR X (rIxT X.K):=by
 intro value slice pins s Y H x y v u Q I rx ry h hs
 obtain ⟨p,xs,i,z,rfl,rfl,hq,he,q⟩:=h
 cases rx
 obtain ⟨t,rfl⟩:=ry
 obtain ⟨its,r,pl,hz⟩:=I.tuple hq
 obtain ⟨j,h1,h2,h3,h4,h5⟩:=zpm he
 obtain ⟨w,ew,rw'⟩:=r.get h2
 have hl:=r.length
 have hn:=zqi
 have fin:EP X pins Y Q w s:=⟨z,H,I,rw',q⟩
 exact subscriptTail_builtinR (x:=w) pl.typeIs slot_tuple_getitem.lookup
  (getItem_tuple (j:=j) (Q:=λ r s'=>r=w/\EP X pins Y Q r s') pl (by lia) (by lia) (by rw [List.size_toArray,<- hl];exact h1) (by simpa using ew) ⟨rfl,fin⟩) hs
theorem zq41:IxR X rIxS:=by
 intro value slice pins s Y H x y v u Q I rx ry h hs
 obtain ⟨z,i,c,rfl,rfl,hz,he,q⟩:=h
 obtain ⟨t,rfl⟩:=rx
 obtain ⟨t',rfl⟩:=ry
 obtain ⟨j,h1,h2,h3,h4,h5⟩:=zpm he
 have hl:z.cps.toList.length=z.length:=by simp [Str.length]
 rw [hl] at h1 h4 h5
 have hn:=zqi
 exact tail_any (typeIs_str s z t) slot_str_getitem.lookup (getItem_str (c:=c) (by
  have e1:decide (i < -(2 ^ 63:Int))=false:=decide_eq_false (by lia)
  have e2:decide (i ≥ 2 ^ 63)=false:=decide_eq_false (by lia)
  rw [e1,e2,Bool.or_false]) (by rw [h1];simpa using h2) ⟨.str ⟨#[c]⟩,H,I.tok _,⟨_,rfl⟩,q⟩) hs
def rIx (K:Fg):R2:=λ x y H Q=>rIxL K x y H Q \/ rIxT K x y H Q \/ rIxS x y H Q
theorem zs41:IxR X (rIx X.K):=zy21.or (zd61.or zq41)
theorem znn (its:List Value) (n j:Nat) (u:Value):Obj.mapSeq (·.setIfInBounds j u) { cls:=.type "list",data:=.seq its.toArray n }={ cls:=.type "list",data:=.seq (its.set j u).toArray n }:=by
 simp [Obj.mapSeq]
theorem Inv.lst {pins:List (Addr×Obj)} {Y:St} {H:Hp} {s:Shared} {p:Addr} {xs:List V} (I:Inv X pins Y H s) (h:H p=some (.lst xs)) :
  ∃ (its:List Value) (n:Nat),Vals xs its/\s.heap.get? p=some { cls:=.type "list",data:=.seq its.toArray n }/\xs.length<=sizeLine:=by
 obtain ⟨z,its,n,r,e⟩:=I.hok p _ h
 exact ⟨its,n,r,e,z⟩
theorem Inv.lstUpd {pins:List (Addr×Obj)} {Y:St} {H:Hp} {s:Shared} {p:Addr} {xs ys:List V} {its its':List Value} {n n':Nat} {f:Obj->Obj} (I:Inv X pins Y H s) (h:H p=some (.lst xs))
  (ho:s.heap.get? p=some { cls:=.type "list",data:=.seq its.toArray n }) (hf:f { cls:=.type "list",data:=.seq its.toArray n }={ cls:=.type "list",data:=.seq its'.toArray n' }) (r:Vals ys its') (hz:ys.length<=sizeLine) (t:Nat) :
  Inv X pins Y (upd H p (.lst ys)) { s with heap:=s.heap.update p f,toks:=t }:=by
 have e:(s.heap.update p f).get? p=some { cls:=.type "list",data:=.seq its'.toArray n' }:=by
  rw [Heap.get?_update_self f ho (by rw [hf] <;> rfl),hf]
 refine I.write (x:=p) (e:=p) (by rw [h];trivial) (.inl rfl) (λ b u hb q=>(Heap.get?_update_other _ _ (Ne.symm hb)).trans q) ⟨_,e⟩ ?_
 exact ⟨hz,its',n',r,e⟩
def zta1:V->V->V->Hp->(Hp->Prop)->Prop:=λ o i v H Q=>∃ p xs k j,o=.ref p/\i=.int k/\H p=some (.lst xs)/\ixN xs.length k=some j/\Q (upd H p (.lst (xs.set j v)))
theorem zrv:PSet X zta1:=by
 intro pins s Y H o i v ov iv u Q I ro ri rv h
 obtain ⟨p,xs,k,j,rfl,rfl,hp,hj,q⟩:=h
 cases ro
 obtain ⟨t,rfl⟩:=ri
 obtain ⟨its,n,r,ho,hz⟩:=I.lst hp
 obtain ⟨h1,h2,h3,h4⟩:=zps hj
 have hl:=r.length
 have hn:=zqi
 have I':Inv X pins Y (upd H p (.lst (xs.set j v))) { s with heap:=s.heap.update p (Obj.mapSeq (·.setIfInBounds j u)) } :=
  I.lstUpd hp ho (znn its n j u) (r.set rv j) (by rw [List.length_set];exact hz) s.toks
 by_cases h0:0<=k
 ·have hk:k.toNat=j:=by
   rw [seqIndex_of h0 h4] at h1
   exact Option.some.inj h1
  exact PySem.W.ki_setAt ho h0 (by lia) (by rw [List.size_toArray,<- hl];exact h4) (by rw [hk];exact ⟨_,I',q⟩)
 ·have hk:(k+(its.toArray.size:Int)).toNat=j:=by
   rw [seqIndex_neg (by lia) h3] at h1
   rw [List.size_toArray,<- hl]
   exact Option.some.inj h1
  exact PySem.W.ki_setBack ho (by lia) (by rw [List.size_toArray,<- hl];exact h3) (by lia) (by rw [hk];exact ⟨_,I',q⟩)
theorem zth (lo hi:Option Int) (n:Nat):(sliceBounds lo hi none n).1=((HT.sIx n 0 lo:Nat):Int)/\(sliceBounds lo hi none n).2.1=((HT.sIx n n hi:Nat):Int)/\(sliceBounds lo hi none n).2.2=1:=by
 refine ⟨?_,?_,rfl⟩
 ·cases lo with
 |none=>simp [sliceBounds,HT.sIx]
 |some i =>
   simp only [sliceBounds,HT.sIx,Option.getD_none,show (1:Int) > 0 by decide,if_true]
   by_cases h:i < 0
   ·simp only [h,if_true] <;> lia
   ·simp only [h,if_false] <;> lia
 ·cases hi with
 |none=>simp [sliceBounds,HT.sIx]
 |some i =>
   simp only [sliceBounds,HT.sIx,Option.getD_none,show (1:Int) > 0 by decide,if_true]
   by_cases h:i < 0
   ·simp only [h,if_true] <;> lia
   ·simp only [h,if_false] <;> lia
theorem zkf (its:List Value) (lo hi:Option Int):slicePick its.toArray lo hi none=((its.drop (HT.sIx its.length 0 lo)).take (HT.sIx its.length its.length hi - HT.sIx its.length 0 lo)).toArray:=by
 obtain ⟨h1,h2,h3⟩:=zth lo hi its.toArray.size
 unfold slicePick
 rw [h1,h2,h3]
 simp only [sliceRange_one,pick_run,List.size_toArray] <;> rfl
def rSlL (K:Fg):V->Option Int->Option Int->Hp->VK->Prop:=λ x lo hi H Q=>∃ a xs,x=.ref a/\SqL K H a xs/\∀ p,H p=none->Q (.ref p) (upd H p (.lst (cutV xs lo hi)))
theorem zr31:SlR X (rSlL X.K):=by
 intro pins s Y H x v vl vu lo hi sl Q I rx hs pl pu h
 obtain ⟨a,xs,rfl,hx,q⟩:=h
 cases rx
 obtain ⟨its,r,ht,hz⟩:=I.list hx
 have hlen:=r.length
 refine ⟨"list",_,slot_list_getitem.lookup,ht.isList.typeIs,?_⟩
 refine wpAny_getItem_list_slice ht.isList hs pl pu .none (by simp) ?_ (by rw [List.size_toArray] <;> lia)
 rw [zkf,<- hlen]
 refine ⟨.ref s.heap.objs.size,_,I.laid (t':=s.toks) (o:=.lst (cutV xs lo hi)) (λ b ob q=>Heap.get?_push_of_some _ q) (Nat.le_refl _) ?_,rfl,q _ (I.hok.fresh (Nat.le_refl _))⟩
 exact ⟨Nat.le_trans (zyc xs lo hi) hz,_,0,(r.drop (HT.sIx xs.length 0 lo)).take (HT.sIx xs.length xs.length hi - HT.sIx xs.length 0 lo),Heap.get?_push_size _ rfl⟩
def zct:V->Bool
|.non=>true
|.bl _=>true
|.int _=>true
|.str _=>true
|_=>false
def eqV:V->V->Bool
|.non,.non=>true
|.bl a,.bl b=>a == b
|.bl a,.int b=>(if a then 1 else 0) == b
|.int a,.bl b=>a == (if b then 1 else 0)
|.int a,.int b=>a == b
|.str a,.str b=>a == b
|_,_=>false
theorem zx71 {A:Around} {s:Shared} {y x:V} {u v:Value} (ry:RelV y u) (rx:RelV x v) (fy:zct y=true) (fx:zct x=true):SeqAt.EqAt A s u v (eqV y x):=by
 cases y with
|non =>
  cases ry
  cases x with
 |non=>cases rx;exact SeqAt.EqAt.same _
 |bl b=>cases rx;exact SeqAt.EqAt.none_bool b
 |int b=>obtain ⟨t,rfl⟩:=rx;exact SeqAt.EqAt.none_int b t
 |str b=>obtain ⟨t,rfl⟩:=rx;exact SeqAt.EqAt.none_str b t
 |_=>exact absurd (show false=true from fx) Bool.false_ne_true
|bl a =>
  cases ry
  cases x with
 |non=>cases rx;exact SeqAt.EqAt.bool_none a
 |bl b=>cases rx;exact SeqAt.EqAt.bool_bool a b
 |int b=>obtain ⟨t,rfl⟩:=rx;exact SeqAt.EqAt.bool_int a b t
 |str b=>obtain ⟨t,rfl⟩:=rx;exact SeqAt.EqAt.bool_str a b t
 |_=>exact absurd (show false=true from fx) Bool.false_ne_true
|int a =>
  obtain ⟨t',rfl⟩:=ry
  cases x with
 |non=>cases rx;exact SeqAt.EqAt.int_none a t'
 |bl b=>cases rx;exact SeqAt.EqAt.int_bool a t' b
 |int b=>obtain ⟨t,rfl⟩:=rx;exact SeqAt.EqAt.int_int a t' b t
 |str b=>obtain ⟨t,rfl⟩:=rx;exact SeqAt.EqAt.int_str a t' b t
 |_=>exact absurd (show false=true from fx) Bool.false_ne_true
|str a =>
  obtain ⟨t',rfl⟩:=ry
  cases x with
 |non=>cases rx;exact SeqAt.EqAt.str_none a t'
 |bl b=>cases rx;exact SeqAt.EqAt.str_bool a t' b
 |int b=>obtain ⟨t,rfl⟩:=rx;exact SeqAt.EqAt.str_int a t' b t
 |str b=>obtain ⟨t,rfl⟩:=rx;exact SeqAt.EqAt.str_str a t' b t
 |_=>exact absurd (show false=true from fx) Bool.false_ne_true
|_=>exact absurd (show false=true from fy) Bool.false_ne_true
def eqU (x:V) (u:Value):Bool:=match u with
|.none=>eqV .non x
|.bool b=>eqV (.bl b) x
|.int i _=>eqV (.int i) x
|.str z _=>eqV (.str z) x
|_=>false
theorem zcz {x y:V} {u:Value} (r:RelV y u) (f:zct y=true):eqU x u=eqV y x:=by
 cases y with
|non=>cases r;rfl
|bl b=>cases r;rfl
|int i=>obtain ⟨t,rfl⟩:=r;rfl
|str z=>obtain ⟨t,rfl⟩:=r;rfl
|_=>exact absurd (show false=true from f) Bool.false_ne_true
theorem zpl {A:Around} {s:Shared} {x:V} {v:Value} (rx:RelV x v) (fx:zct x=true):∀ {xs:List V} {us:List Value},Vals xs us->xs.all zct=true->∀ u∈us,SeqAt.EqAt A s u v (eqU x u)
|_,_,.nil,_=>λ u hu=>by cases hu
|y :: xs,u :: us,.cons r t,f=>λ u' hu=>by
  rw [List.all_cons,Bool.and_eq_true] at f
  rcases List.mem_cons.mp hu with rfl|hu
  ·rw [zcz r f.1];exact zx71 r rx f.1 fx
  ·exact zpl rx fx t f.2 u' hu
theorem CallR.or {f:Value} {r r':List V->Hp->VK->Prop} (h:CallR X f r) (h':CallR X f r'):CallR X f (λ xs H Q=>r xs H Q \/ r' xs H Q):=by
 intro pins s Y H xs us Q I rs q
 rcases q with q|q
 ·exact h pins s Y H xs us Q I rs q
 ·exact h' pins s Y H xs us Q I rs q
theorem zqh:CallR X (.type "list") (λ xs H Q=>∃ p ys,xs=[.ref p]/\(SqL X.K H p ys \/ SqT X.K H p ys)/\∀ l,H l=none->Q (.ref l) (upd H l (.lst ys))):=by
 intro pins s Y H xs us Q I r h
 obtain ⟨p,ys,rfl,hq,q⟩:=h
 obtain ⟨u,rfl,rx⟩:=zfx r
 cases rx
 have fin:∀ (its:List Value),Vals ys its->ys.length<=sizeLine->∀ (h':Heap) (c':Nat),(∀ b o',s.heap.get? b=some o'->h'.get? b=some o') ->
   h'.get? s.heap.objs.size=some { cls:=.type "list",dict:=none,data:=.seq its.toArray c',slots:=#[] }->EP X pins Y Q (.ref s.heap.objs.size) { s with heap:=h' }:=λ its r' hz h' c' kp e =>
  ⟨.ref s.heap.objs.size,_,I.laid (t':=s.toks) kp (Nat.le_refl _) (show ObjOk X.prog X.w _ h' _ (.lst ys) from ⟨hz,its,c',r',e⟩),rfl,q _ (I.hok.fresh (Nat.le_refl _))⟩
 rcases hq with hq|hq
 ·obtain ⟨its,r',pl,hz⟩:=I.list hq
  have hlen:=r'.length
  obtain ⟨o,ho,hc,n,hd⟩:=pl.isList
  exact call_list_seq p (.inl rfl) ho hc hd (λ h' c' kp e=>fin its r' hz h' c' kp e) (by simp only [List.size_toArray] <;> lia)
 ·obtain ⟨its,r',pl,hz⟩:=I.tuple hq
  have hlen:=r'.length
  obtain ⟨o,ho,hc,n,hd⟩:=pl
  exact call_list_seq p (.inr rfl) ho hc hd (λ h' c' kp e=>fin its r' hz h' c' kp e) (by simp only [List.size_toArray] <;> lia)
def tyV (K:Fg) (T:String) (x:V) (H:Hp):Prop:=match x with
|.str _=>T = "str"
|.int _=>T = "int"
|.ref p=>(T = "list"/\∃ xs,SqL K H p xs) \/ (T = "tuple"/\∃ o,K.lookup p=some o/\o.cls=.type "tuple"/\o.dict=none) \/
   (T = "dict"/\((∃ kvs,H p=some (.dK kvs)) \/ ∃ kvs,H p=some (.dT kvs))) \/ (T = "set"/\∃ S n,H p=some (.set S n))
|_=>False
theorem zz41 {pins:List (Addr×Obj)} {Y:St} {H:Hp} {s:Shared} {T:String} {x:V} {v:Value} (I:Inv X pins Y H s) (r:RelV x v) (ty:tyV X.K T x H) :
  s.TypeIs v T/\∀ a,v=.ref a->∃ ob,s.heap.get? a=some ob/\ob.dict=none:=by
 cases x with
|str z =>
  obtain ⟨t,rfl⟩:=r
  cases (show T = "str" from ty)
  exact ⟨typeIs_str s z t,λ _ e=>nomatch e⟩
|int i =>
  obtain ⟨t,rfl⟩:=r
  cases (show T = "int" from ty)
  exact ⟨typeIs_int s i t,λ _ e=>nomatch e⟩
|ref p =>
  cases r
  rcases ty with ⟨rfl,xs,hq⟩|⟨rfl,o,hk,hc,hd⟩|⟨rfl,hk⟩|⟨rfl,S,n,hk⟩
  ·obtain ⟨its,_,pl,_⟩:=I.list hq
   refine ⟨pl.isList.typeIs,λ a e=>?_⟩
   cases e
   obtain ⟨o,n,e,c,hd,_⟩:=pl
   exact ⟨o,e,hd⟩
  ·refine ⟨⟨o,I.kIn p o hk,hc⟩,λ a e=>?_⟩
   cases e
   exact ⟨o,I.kIn _ o hk,hd⟩
  ·have z:∃ o,s.heap.get? p=some o/\o.ExactDict:=by
    rcases hk with ⟨kvs,hk⟩|⟨kvs,hk⟩
    ·obtain ⟨_,_,_,_,o,_,_,e,ex,_⟩:=I.hok p _ hk
     exact ⟨o,e,ex⟩
    ·obtain ⟨_,_,_,_,o,_,_,e,ex,_⟩:=I.hok p _ hk
     exact ⟨o,e,ex⟩
   obtain ⟨o,e,ex⟩:=z
   refine ⟨⟨o,e,ex.1⟩,λ a e2=>?_⟩
   cases e2
   exact ⟨o,e,ex.2.1⟩
  ·obtain ⟨o,_,_,_,e,ex,_⟩:=I.hok p _ hk
   refine ⟨⟨o,e,ex.1⟩,λ a e2=>?_⟩
   cases e2
   exact ⟨o,e,ex.2.1⟩
|_=>exact False.elim ty
def tBM (K:Fg) (T:String) (r:V->List V->Hp->VK->Prop) (to:TE) (t:TA):TE:=λ Y H Q=>to Y H λ x H1=>tyV K T x H1/\t Y H1 λ xs H2=>r x xs H2 Q
variable {o e:Expr} {es:List Expr} {to:TE} {t:TA} {name:Str} {apos cpos:Pos} {T id:String} {r:V->List V->Hp->VK->Prop}
theorem zwb1 (pa:PlainAttrs T) (slot:Slot T name id) (hty:typeOf (.builtin id)=pure (.type "method_descriptor")) (hm:MtR X id r) (ho:PE X o to) (ha:PA X (e :: es) t)
  (hbase:attributeBase o name X.env (eval o X.env)=eval o X.env:=by rfl)
  (hfew:((backTo cpos (starEach (e :: es) X.env)).all (λ x=>!x.1) && (backToKw cpos (keywordEach [] X.env)).all (λ x=>x.1.isSome)
   && decide ((e :: es).length+([]:List Keyword).length+(if ([]:List Keyword).isEmpty then 0 else 1) < 30))=true:=by rfl)
  (hline:(apos.endLine == cpos.line)=true:=by rfl) (hs:starEach (e :: es) X.env=(false,eval e X.env) :: starEach es X.env:=by rfl) (hplain:(backTo cpos (starEach es X.env)).any (·.1)=false:=by rfl) :
  PE X (.Call (.Attribute o name apos) (e :: es) [] cpos) (tBM X.K T r to t):=by
 intro pins s Y H Q I h
 refine wpAny_Call_method_late hbase hfew hline rfl (thn (ho pins s Y H _ I h) λ v s1 hz=>?_)
 obtain ⟨x,H1,I1,r1,ty,q1⟩:=hz
 obtain ⟨h1,h2⟩:=zz41 I1 r1 ty
 refine ⟨T,id,pa,slot,hty,h1,h2,?_⟩
 have hA:=ha cpos pins s1 Y H1 _ I1 q1
 rw [hs] at hA ⊢
 refine Calls.callWith_builtin (by show (false || (backTo cpos (starEach es X.env)).any (·.1))=false;rw [hplain] <;> rfl) (Calls.evalArgs_plain ?_)
 exact thn hA λ us s2 ⟨vs,H2,I2,r2,q2⟩=>hm pins s2 Y H2 x vs v us Q I2 r1 r2 q2
end
def MtM (X:Cx) (id:String) (r:V->List V->Hp->VK->Prop):Prop :=
 ∀ (pins:List (Addr×Obj)) (s:Shared) (Y:St) (H:Hp) (x:V) (xs:List V) (v:Value) (us:List Value) (Q:VK),Inv X pins Y H s->RelV x v->Vals xs us->r x xs H Q ->
  wpAny (model X.prog X.w) X.A (call (.builtin id) (v :: us)) (EP X pins Y Q) X.xe s
theorem Vals.one {x:V} {us:List Value} (h:Vals [x] us):∃ u,us=[u]/\RelV x u:=by cases h with|cons r t=>cases t;exact ⟨_,rfl,r⟩
theorem Vals.two {x y:V} {us:List Value} (h:Vals [x,y] us):∃ u v,us=[u,v]/\RelV x u/\RelV y v:=by cases h with|cons r t=>cases t with|cons q t=>cases t;exact ⟨_,_,rfl,r,q⟩
theorem Vals.rep {xs:List V} {us:List Value} (h:Vals xs us):∀ k:Nat,Vals (List.replicate k xs).flatten (List.replicate k us).flatten
|0=>.nil
|k+1=>by
  rw [List.replicate_succ,List.replicate_succ,List.flatten_cons,List.flatten_cons]
  exact Vals.append h (Vals.rep h k)
theorem znj (its:List Value):∀ (k:Nat) (acc:List Value),
  List.foldl (λ x1 x2=>x1++x2) acc.toArray (List.replicate k its.toArray)=(acc++(List.replicate k its).flatten).toArray
|0,acc=>by simp
|k+1,acc=>by
  have e:acc.toArray++its.toArray=(acc++its).toArray:=by simp
  have e2:(acc++its)++(List.replicate k its).flatten=acc++(List.replicate (k+1) its).flatten:=by
   rw [List.replicate_succ,List.flatten_cons,List.append_assoc]
  rw [<- e2,<- znj its k (acc++its),<- e,List.replicate_succ,List.foldl_cons]
section
variable {X:Cx} {pins:List (Addr×Obj)} {Y:St} {H:Hp} {s:Shared} {l b:Addr} {xs ys zs:List V}
theorem Inv.lset {its its':List Value} {n:Nat} {f:Array Value->Array Value} {t':Nat} (I:Inv X pins Y H s) (hH:H l=some (.lst xs))
  (e:s.heap.get? l=some { cls:=.type "list",data:=.seq its.toArray n }) (hf:f its.toArray=its'.toArray) (hv:Vals ys its') (hz:ys.length<=sizeLine) :
  Inv X pins Y (upd H l (.lst ys)) { s with heap:=s.heap.update l (Obj.mapSeq f),toks:=t' }:=by
 have q:=PySem.IsL.update e f
 rw [hf] at q
 refine I.write (x:=l) (e:=l) (by rw [hH];exact trivial) (.inl rfl) (λ b' u hb hu=>(Heap.get?_update_other s.heap (Obj.mapSeq f) (Ne.symm hb)).trans hu) ⟨_,q⟩ ?_
 exact ⟨hz,its',_,hv,q⟩
theorem Inv.lnew {its:List Value} {t':Nat} (I:Inv X pins Y H s) (hv:Vals ys its) (hz:ys.length<=sizeLine) :
  Inv X pins Y (upd H s.heap.objs.size (.lst ys)) { s with heap:=s.heap.push { cls:=.type "list",data:=.seq its.toArray },toks:=t' } :=
 I.laid (λ _ _ q=>Heap.get?_push_of_some _ q) (Nat.le_refl _) ⟨hz,its,0,hv,Heap.get?_push_size _ rfl⟩
theorem Inv.fresh (I:Inv X pins Y H s):H s.heap.objs.size=none:=I.hok.fresh (Nat.le_refl _)
theorem Inv.lstM (I:Inv X pins Y H s) (hH:H l=some (.lst xs)):xs.length<=sizeLine/\∃ (its:List Value) (n:Nat),Vals xs its/\xs.length=its.length/\s.heap.get? l=some { cls:=.type "list",data:=.seq its.toArray n }:=by
 obtain ⟨z,its,n,r,e⟩:=I.hok l _ hH
 exact ⟨z,its,n,r,r.length,e⟩
theorem zvo {n:Nat} (h:n<=sizeLine):Builtin.List.listTooLong n=false:=by
 unfold Builtin.List.listTooLong
 exact decide_eq_false (by lia)
end
section
variable {X:Cx}
def zkt:V->List V->Hp->VK->Prop:=λ x vs H Q=>∃ l xs y,x=.ref l/\vs=[y]/\H l=some (.lst xs)/\xs.length < sizeLine/\Q .non (upd H l (.lst (xs++[y])))
theorem zrd:MtM X "list.append" zkt:=by
 intro pins s Y H x vs v us Q I rx rv h
 obtain ⟨l,xs,y,rfl,rfl,hH,hz,q⟩:=h
 cases rx
 obtain ⟨u,rfl,ru⟩:=rv.one
 obtain ⟨z,its,n,r,hl,e⟩:=I.lstM hH
 refine call_meets F.slot_list_append ⟨_,e,rfl⟩ F.entry_list_append (F.args_list_append_2 _ _) (PySem.list_append l its.toArray n u (by rw [List.size_toArray];lia)) ⟨e,?_⟩
 refine ⟨.non,_,I.lset (its':=its++[u]) hH e (by simp) (r.append (.cons ru .nil)) ?_,rfl,q⟩
 rw [List.length_append,List.length_singleton]
 lia
def zx11:V->List V->Hp->VK->Prop:=λ x vs H Q=>∃ l b xs zs,x=.ref l/\vs=[.ref b]/\H l=some (.lst xs)/\H b=some (.lst zs)/\xs.length+zs.length<=sizeLine/\Q .non (upd H l (.lst (xs++zs)))
theorem zz31:MtM X "list.extend" zx11:=by
 intro pins s Y H x vs v us Q I rx rv h
 obtain ⟨l,b,xs,zs,rfl,rfl,hH,hB,hz,q⟩:=h
 cases rx
 obtain ⟨u,rfl,ru⟩:=rv.one
 cases ru
 obtain ⟨z,its,n,r,hl,e⟩:=I.lstM hH
 obtain ⟨z2,its2,n2,r2,hl2,e2⟩:=I.lstM hB
 have hsz:its.toArray.size+its2.toArray.size<=sizeLine:=by rw [List.size_toArray,List.size_toArray];lia
 have hlong:¬ (!its.toArray.isEmpty && Builtin.List.listTooLong (its.toArray.size+its2.toArray.size))=true:=by
  rw [zvo hsz,Bool.and_false]
  exact Bool.false_ne_true
 refine call_meets F.slot_list_extend ⟨_,e,rfl⟩ F.entry_list_extend (F.args_list_extend_2 _ _)
  (AutoSeq1.list_extend_list_list_0 l its.toArray n b its2.toArray n2 hlong (by rw [List.size_toArray];lia) (by lia)) ⟨e,e2,?_⟩
 refine ⟨.non,_,I.lset (its':=its++its2) hH e (by simp) (r.append r2) ?_,rfl,q⟩
 rw [List.length_append]
 lia
def rCat:R2:=λ x y H Q=>∃ l b xs zs,x=.ref l/\y=.ref b/\H l=some (.lst xs)/\H b=some (.lst zs)/\xs.length+zs.length<=sizeLine/\∀ p,H p=none->Q (.ref p) (upd H p (.lst (xs++zs)))
theorem zp51:OpR X (binaryOp .Add) rCat:=by
 intro pins s Y H x y v u Q I rx ry h
 obtain ⟨l,b,xs,zs,rfl,rfl,hH,hB,hz,q⟩:=h
 cases rx
 cases ry
 obtain ⟨z,its,n,r,hl,e⟩:=I.lstM hH
 obtain ⟨z2,its2,n2,r2,hl2,e2⟩:=I.lstM hB
 refine PySem.P.add_list e e2 ?_ (by rw [List.size_toArray,List.size_toArray];lia)
 have ea:its.toArray++its2.toArray=(its++its2).toArray:=by simp
 rw [ea]
 exact ⟨.ref _,_,I.lnew (t':=s.toks) (r.append r2) (by rw [List.length_append];lia),rfl,q _ I.fresh⟩
def rRep:R2:=λ x y H Q=>∃ l k xs,x=.ref l/\y=.int k/\H l=some (.lst xs)/\-(2 ^ 63)<=k/\k < 2 ^ 63/\xs.length * k.toNat<=sizeLine /\
 ∀ p,H p=none->Q (.ref p) (upd H p (.lst (List.replicate k.toNat xs).flatten))
theorem zfy {α:Type} (xs:List α) (k:Nat):(List.replicate k xs).flatten.length=k * xs.length:=by
 induction k with
|zero=>simp
|succ k ih=>rw [List.replicate_succ,List.flatten_cons,List.length_append,ih,Nat.succ_mul,Nat.add_comm]
theorem zv21:OpR X (binaryOp .Mult) rRep:=by
 intro pins s Y H x y v u Q I rx ry h
 obtain ⟨l,k,xs,rfl,rfl,hH,h1,h2,hz,q⟩:=h
 cases rx
 obtain ⟨t,rfl⟩:=ry
 obtain ⟨z,its,n,r,hl,e⟩:=I.lstM hH
 have hlen:its.toArray.size * k.toNat<=sizeLine:=by rw [List.size_toArray,<- hl];exact hz
 have hcap:¬ its.toArray.size * k.toNat > (2 ^ 63 - 1) / 8:=by
  have:(sizeLine:Nat)<=(2 ^ 63 - 1) / 8:=by decide
  lia
 have hfit:¬ (!Builtin.List.listFitsIndex k)=true:=by
  rw [fitsIndex_both h1 h2]
  exact Bool.false_ne_true
 have hlong:¬ Builtin.List.listTooLong (its.toArray.size * k.toNat)=true:=by
  rw [zvo hlen]
  exact Bool.false_ne_true
 have hnew:List.foldl (λ x1 x2=>x1++x2) #[] (List.replicate (if its.toArray.isEmpty=true then 0 else k.toNat) its.toArray)=(List.replicate k.toNat its).flatten.toArray:=by
  have f0:∀ m:Nat,List.foldl (λ x1 x2=>x1++x2) #[] (List.replicate m its.toArray)=(List.replicate m its).flatten.toArray:=λ m=>by
   have:=znj its m []
   rw [List.nil_append] at this
   exact this
  rw [f0]
  cases its with
 |nil=>simp
 |cons a r'=>rw [if_neg (by simp)]
 refine wpAny_binaryOp_repeat_ref (T := "list") (U := "int") (by decide) ⟨_,e,rfl⟩ (λ s'=>typeIs_int s' k t) noFill_list_mul F.fills_int_mul F.slot_int_rmul repeat_list F.slot_int_index.lookup
  (call_meets F.slot_int_rmul (typeIs_int s k t) F.entry_int_rmul (F.args_int_rmul_2 _ _) (int___rmul___int_list k t l its.toArray n)
   ⟨e,rfl,⟨_,e,rfl⟩,call_meets F.slot_list_mul ⟨_,e,rfl⟩ F.entry_list_mul (F.args_list_mul_2 _ _) (AutoListH.list___mul___list_int_3 l its.toArray n k t hfit hcap hlong) ⟨e,?_⟩⟩)
 rw [hnew]
 exact ⟨.ref _,_,I.lnew (t':=s.toks) (r.rep k.toNat) (by rw [zfy,Nat.mul_comm];exact hz),rfl,q _ I.fresh⟩
end
section
variable {prog:Program} {w:World} {A:Around} {E:Value->Shared->Prop} {s:Shared}
end
section
variable {X:Cx}
end
end L2
namespace Att
open PySem PySem.W PySem.Calls PyProof.Rows
theorem zbc {P:Params} {h:Heap}:∀ (ns:List Int) (vs:List Value),WellAll P h vs (ns.map WData.int)->IntsAre vs ns:=by
 intro ns
 induction ns with
|nil =>
  intro vs w
  rw [List.map_nil] at w
  cases w
  exact .nil
|cons n ns ih =>
  intro vs w
  rw [List.map_cons] at w
  cases w with
 |cons a b =>
   cases a
   exact .cons _ _ (ih _ b)
theorem zsp {l:OpenLaw} {n:Nat} (hn:l.most=some n) {P:Params} {h:Heap} {args:List WData} {vals:List Value}
  (hpre:l.row.toRowW.claim.pre args=true) (hwl:WellAll P h vals args) :
  ∃ a vs ns,vals=[Value.ref a]/\args=[WData.list (ns.map WData.int)]/\h.get? a=some { cls:=.type "list",data:=.seq vs.toArray }/\IntsAre vs ns/\ns.length<=n:=by
 have hsh:WShape.hasAll [] args [.list .int]=true:=(pre_splitW hpre).1
 have hc:l.pre.holds [] { args:=args }=true:=(pre_splitW hpre).2
 obtain ⟨d,r,rfl,h1,h2⟩:=hasAllW_cons hsh
 obtain rfl:=hasAllW_nil h2
 obtain ⟨xs,rfl,h3⟩:=hasW_list h1
 obtain ⟨ns,rfl⟩:=items_int h3
 have hlen:ns.length<=n:=by
  unfold OpenLaw.pre at hc
  have h4:(WTm.not (.lt (.lit (.int (n:Int))) (.len (.arg 0)))).holds [] { args:=[.list (ns.map .int)] }=true:=by
   have h4:=(holds_andW hc).1
   rw [hn] at h4
   exact h4
  have h5:=condW_of h4 (w_not (w_lt w_lit (w_len_list (w_arg rfl))))
  rw [List.length_map] at h5
  refine Nat.le_of_not_lt λ q=>?_
  have q':(n:Int) < ((ns.length:Nat):Int):=by lia
  first
  |(rw [decide_eq_true q'] at h5;exact absurd h5 (by decide))
  |(simp at h5;lia)
 cases hwl with
|cons w1 w2 =>
  cases w2
  cases w1 with
 |list ho hall=>exact ⟨_,_,ns,rfl,rfl,ho,zbc ns _ hall,hlen⟩
theorem zyp (l:OpenLaw) (args:List WData):l.row.toRowW.claim.post args (.bool true) args=true :=
 postW_of (r:=l.row.toRowW) (X:=(true == true))
  (show WShape.has [] (.bool true) .bool=true by first|rfl|decide|simp [WShape.has,WShape.arms,WShape.armsAll])
  (show (WTm.eq .res (.lit (.bool true))).value [] { args:=args,res:=some (.bool true),after:=args }=some (.bool (true == true)) from w_eq_bool (w_res rfl) w_lit) rfl
theorem attach_call {l:OpenLaw} {n:Nat} {q:Program} {loose:List Str} {XP:(Str->Option Value)->Heap->Prop} {YP:World->Heap->Prop} {d:DefRec}
  (hn:l.most=some n) (hdf:d.params.defaults=[])
  (call:∀ (w:World) (s₀ s₁:Shared) (mg mb:Str->Option Value) (fa:Addr) (o:Obj) (pm cd doc:Value) (a:Addr) (vs:List Value) (ns:List Int),
   Ground q loose [] XP w s₀ mg mb s₁.heap->YP w s₁.heap ->
   s₁.heap.get? fa=some o->o.data=.func (docDef d.name d.params d.body d.scope pm cd doc)->s₁.heap.CodeRec cd d.name->mg d.name=some (.ref fa) ->
   s₁.heap.get? a=some { cls:=.type "list",data:=.seq vs.toArray }->IntsAre vs ns->ns.length<=n->s₁.gens=#[] ->
   codeAny (model l.prog w) callerA (.call (.ref fa) ⟨[.ref a],[]⟩) (λ r s'=>r=.ok (.ret (.bool true))/\OldK s₁.heap s'.heap/\s'.os=s₁.os/\AllBare s'.gens) s₁) :
  WalkO q loose XP YP l.row.toRowW d [] (λ f vs=>PySem.call f vs):=by
 intro w s₀ s₁ mg mb G Yv fa o pm cd doc dV kV ho hd hcd hD hmg hg args vals as hpre hlay hrd hwl hlo
 obtain rfl:dV=.none:=Dflts.none hD hdf
 obtain rfl:kV=.none:=Dflts.noKw hD
 obtain ⟨a,vs,ns,rfl,rfl,hobj,hints,hlen⟩:=zsp hn hpre hwl
 refine enter_call (codeAny_mono (call w s₀ s₁ mg mb fa o pm cd doc a vs ns G Yv ho (fd_plain hd) hcd hmg hobj hints hlen hg) λ r s' hq=>?_)
 obtain ⟨rfl,h2,h3,h4⟩:=hq
 exact ⟨.inl ⟨.bool true,.bool true,[],rfl,λ _=>rfl,.bool true,zyp l _,λ _=>⟨List.Pairwise.nil,λ _ hm=>(nomatch hm)⟩⟩,h2,h3,h4⟩
section
variable {prog:Program} {w:World} {A:Around} {E:Value->Shared->Prop} {s:Shared} {K:Frag}
end
end Att
namespace L2
open PySem PySem.Spec PyProof.Rows
theorem zkj:∀ {vs:List Value} {ns:List Int},IntsAre vs ns->Vals (ns.map V.int) vs
|_,_,.nil=>.nil
|_,_,.cons n t h=>.cons ⟨t,rfl⟩ (zkj h)
def Only (H:Hp):Prop:=∀ b,H b=none \/ ∃ o xs,H b=some (.frz o (.lst xs))
theorem zst {P:Program} {w:World} {K:Fg} {mg mb:Str->Option Value} {CX:CXT} {k:Nat} {fa a:Addr} {fd:FuncData} {x:Str} {sp:Sp} {s₁:Shared} {vs:List Value} {ns:List Int}
  (KX:K.In s₁.heap) (hns:s₁.heap.Ns mainGlobals mg) (hb:s₁.heap.Ns builtinsNs mb) (hbb:∀ x:Str,x ≠ "__name__"->mb x=bootBuiltins x) (hlim:s₁.heap.NoLimit) (hg:s₁.gens=#[])
  (ha:s₁.heap.get? a=some { cls:=.type "list",data:=.seq vs.toArray }) (hi:IntsAre vs ns) (hl:ns.length<=sizeLine) (hr:Room k callerA)
  (F:∀ base:Heap,K.In base->base.Ns mainGlobals mg->FnOk P w K mg base CX k fa fd [x] sp) (hbind:∀ (s:Shared) (u:Value),BindsTo s fd ⟨[u],[]⟩ [(x,u)])
  (hsp:∀ H:Hp,Only H->SqL K H a (ns.map V.int)->sp [.ref a] H (λ v _=>v=.bl true) λ _ _ _=>False)
  (hCX:∀ H e s',CX [] H s₁ (λ _ _ _=>False) e s'->False) :
  codeAny (model P w) callerA (.call (.ref fa) ⟨[.ref a],[]⟩) (λ r s'=>r=.ok (.ret (.bool true))/\OldK s₁.heap s'.heap/\s'.os=s₁.os/\AllBare s'.gens) s₁:=by
 have rv:=zkj hi
 have lenV:=hi.length
 -- from an abstract heap in which nothing but the script may be tracked
 have core:∀ H:Hp,Only H->SqL K H a (ns.map V.int)->HOk P w H s₁.heap->(∀ b,H b≠none->b=a)->(H a≠none->K.lookup a=none) ->
   codeAny (model P w) callerA (.call (.ref fa) ⟨[.ref a],[]⟩) (λ r s'=>r=.ok (.ret (.bool true))/\OldK s₁.heap s'.heap/\s'.os=s₁.os/\AllBare s'.gens) s₁:=by
  intro H hO hS hok hA hK
  have base_of:∀ {b:Addr} {o:Obj},s₁.heap.get? b=some o->H b=none->(hidT s₁.heap H).get? b=some o:=λ e n=>zvu e n
  have noA:∀ {b:Addr} {o:Obj} {es:Array DictEntry} {ep:Nat},s₁.heap.get? b=some o->o.data=.dict es ep->H b=none:=λ {b o es ep} e d=>by
   cases q:H b with
  |none=>rfl
  |some u =>
    have e':b=a:=hA b (by rw [q];simp)
    subst e'
    rw [ha] at e;cases e
    have d':Data.seq vs.toArray _=Data.dict es ep:=d
    cases d'
  have nsK:∀ {b:Addr} {m:Str->Option Value},s₁.heap.Ns b m->(hidT s₁.heap H).Ns b m:=λ {b m} ⟨o,es,ep,e,d,r⟩=>⟨o,es,ep,base_of e (noA e d),d,r⟩
  have hKb:K.In (hidT s₁.heap H):=λ b o e=>base_of (KX b o e) (by
   cases q:H b with
  |none=>rfl
  |some u =>
    have e':b=a:=hA b (by rw [q];simp)
    subst e'
    rw [hK (by rw [q];simp)] at e;cases e)
  have hM:Mod K mg (hidT s₁.heap H):=⟨hKb,nsK hns,⟨mb,nsK hb,hbb⟩,let ⟨mc,h1,h2⟩:=hlim;⟨mc,nsK h1,h2⟩⟩
  have e0:Env0 P w K mg (hidT s₁.heap H) callerA [] s₁ H:=⟨rfl,hM,λ b o e=>za01 e,Nat.le_of_eq (znq _ _),trivial,λ b hb=>absurd (show b∈([]:List Addr) from hb) (by simp),hok,.of_eq hg⟩
  refine codeAny_mono ((F _ hKb (nsK hns)).run callerA [] s₁ H ⟨[.ref a],[]⟩ [.ref a] [.ref a] _ _ hr e0 (hbind s₁ (.ref a)) (.cons rfl .nil) (hsp H hO hS)) λ r s' h=>?_
  cases r with
 |error e=>exact (hCX H e s' h).elim
 |ok fl =>
   cases fl with
  |next=>exact False.elim h
  |brk=>exact False.elim h
  |cont=>exact False.elim h
  |ret u =>
    obtain ⟨v,H',os,bare,un,hok',r',q⟩:=h
    have q':v=.bl true:=q
    subst q'
    obtain rfl:u=Value.bool true:=r'
    refine ⟨rfl,OldK.of_keep λ b o e=>?_,os,bare⟩
    cases q:H b with
   |none=>exact un.keep b o e q (by intro z;exact absurd (show b∈([]:List Addr) from z) (by simp)) (by simp)
   |some u =>
     rcases hO b with z|⟨ob,xs,z⟩
     ·rw [q] at z;cases z
     ·have z2:=un.frzs b ob _ z
      obtain ⟨e1,_⟩:=hok b _ z
      obtain ⟨e2,_⟩:=hok' b _ z2
      rw [e] at e1;cases e1
      exact e2
 cases hk:K.lookup a with
|some o =>
  -- the script is one of the module's own objects
  have e:=KX a o hk
  rw [ha] at e
  cases e
  refine core (λ _=>none) (λ _=>.inl rfl) (.inr ⟨_,vs.toArray,_,hk,rfl,rfl,rfl,by rw [List.size_toArray,lenV];exact hl,by simpa using rv⟩) (λ b u z=>by have z':(none:Option HO)=some u:=z;cases z') (λ b z=>absurd rfl z) λ z=>absurd rfl z
|none =>
  refine core (λ b=>if b=a then some (.frz { cls:=.type "list",data:=.seq vs.toArray } (.lst (ns.map V.int))) else none) (λ b=>?_) (.inl (.inr ⟨{ cls:=.type "list",data:=.seq vs.toArray },if_pos rfl⟩)) (λ b u z=>?_) (λ b z=>?_) λ _=>hk
  ·by_cases hb:b=a
   ·exact .inr ⟨_,_,if_pos hb⟩
   ·exact .inl (if_neg hb)
  ·by_cases hb:b=a
   ·have z':=(if_pos hb).symm.trans z
    cases z'
    subst hb
    exact ⟨ha,by rw [List.length_map];exact hl,vs,_,rv,ha⟩
   ·have z':=(if_neg hb).symm.trans z
    cases z'
  ·by_cases hb:b=a
   ·exact hb
   ·exact absurd (if_neg hb) z
theorem walk_of {l:PySem.W.OpenLaw} {n k:Nat} {q:Program} {loose:List Str} {XP:(Str->Option Value)->Heap->Prop} {YP:World->Heap->Prop} {d:DefRec} {K:Params->Fg} {CX:World->CXT} {sp:World->Sp} {x:Str}
  (hn:l.most=some n) (hn2:n<=sizeLine) (hdf:d.params.defaults=[]) (hr:Room k callerA)
  (hY:∀ (w:World) (h:Heap),YP w h->(K w.params).In h)
  (F:∀ (w:World) (mg:Str->Option Value) (fa:Addr) (h:Heap),(K w.params).In h->h.Ns mainGlobals mg->mg d.name=some (.ref fa) ->
   ∃ fd:FuncData,(∀ (s:Shared) (u:Value),BindsTo s fd ⟨[u],[]⟩ [(x,u)]) /\
    ∀ base:Heap,(K w.params).In base->base.Ns mainGlobals mg->FnOk l.prog w (K w.params) mg base (CX w) k fa fd [x] (sp w))
  (hsp:∀ (w:World) (H:Hp) (a:Addr) (ns:List Int),ns.length<=n->Only H->SqL (K w.params) H a (ns.map V.int)->sp w [.ref a] H (λ v _=>v=.bl true) λ _ _ _=>False)
  (hCX:∀ (w:World) (H:Hp) (s:Shared) (e:Value) (s':Shared),CX w [] H s (λ _ _ _=>False) e s'->False) :
  PySem.W.WalkO q loose XP YP l.row.toRowW d [] (λ f vs=>PySem.call f vs):=by
 refine Att.attach_call hn hdf λ w s₀ s₁ mg mb fa o pm cd doc a vs ns G Yv ho hd hcd hmg hobj hints hlen hg=>?_
 have KX:=hY w _ Yv
 obtain ⟨fd,hb,hF⟩:=F w mg fa _ KX G.T.g hmg
 exact zst KX G.T.g G.T.b G.T.builtins G.T.nolimit hg hobj hints (Nat.le_trans hlen hn2) hr hF hb (λ H hO hS=>hsp w H a ns hlen hO hS) λ H e s'=>hCX w H s₁ e s'
def zw2 (s:Stmt) (j:Nat):Stmt:=match s with
|.ClassDef _ _ _ body _ _ _ _ _ _ _=>body.getD j (.Pass ⟨0,0,0,0⟩)
|_=>.Pass ⟨0,0,0,0⟩
def zi7 (s:Stmt):Arguments:=match s with
|.FunctionDef _ a _ _ _ _ _ _ _ _=>a
|_=>{ posonlyargs:=[],args:=[],vararg:=none,kwonlyargs:=[],kw_defaults:=[],kwarg:=none,defaults:=[] }
def zu1 (s:Stmt):List Stmt:=match s with
|.FunctionDef _ _ b _ _ _ _ _ _ _=>b
|_=>[]
def zf0 (s:Stmt):Scope:=match s with
|.FunctionDef _ _ _ _ _ _ sc _ _ _=>sc
|_=>{ kind:=.function,names:=[],isGenerator:=false,isCoroutine:=false }
abbrev CX0:CXT:=λ _ _ _ _ _ _=>False
abbrev E0:XK:=λ _ _ _=>False
theorem zpy {X:Cx}:zyf CX0 X E0:=λ _ _ _ _ _ _ _ h=>h.elim
structure Fun (K:Fg) (x qual:Str) (st:Stmt) (f:Addr) (fd:FuncData):Prop where
 ex:∃ (oc:Value) (od:Option Addr) (kV doc pm:Value) (an:Option Addr) (cdv ct:Value) (osl:Array (Option Value)),
  fd=PySem.W.fnOf x qual (zi7 st) (zu1 st) (zf0 st) .none kV doc pm an cdv ct/\K.lookup f=some ⟨oc,od,.func fd,osl⟩/\PySem.W.codeIn K cdv qual=true
 kp:PySem.W.keepIn K (.ref f)=true
section
variable {P:Program} {w:World} {K:Fg} {mg:Str->Option Value} {base:Heap}
theorem Fun.ok {x qual:Str} {st:Stmt} {f:Addr} {fd:FuncData} {N ps:List Str} {k:Nat} {sp:Sp} (F:Fun K x qual st f fd) (S:FnScope N ps (zf0 st)) (len:∀ vs H Q E,sp vs H Q E->vs.length=ps.length)
  (hbody:∀ (cdv:Value) (A:Around) (outer:List Env) (s:Shared) (H:Hp) (vs:List V) (Q:VK) (E:XK),Room k (A.deeper (envOfC qual (zf0 st) s.heap.objs.size f cdv))->sp vs H Q E ->
   ∃ t,PSs (cxOf CX0 P w K mg base N qual (zf0 st) f cdv A outer s H E).nox (zu1 st) t/\t { nx:=λ _ H'=>Q .non H',rt:=Q } (start N vs) H):FnOk P w K mg base CX0 (k+1) f fd ps sp:=by
 obtain ⟨oc,od,kV,doc,pm,an,cdv,ct,osl,rfl,lk,hcd⟩:=F.ex
 refine zg91 lk hcd S len λ A outer s H vs Q E hr hsp=>?_
 obtain ⟨t,h,q⟩:=hbody cdv A outer s H vs Q E hr hsp
 exact ⟨t,h.nox,q⟩
theorem Fun.binds {x qual:Str} {st:Stmt} {f:Addr} {fd:FuncData} {ps:List Str} (F:Fun K x qual st f fd)
  (h:∀ (kV doc pm:Value) (an:Option Addr) (cdv ct:Value) (us:List Value),us.length=ps.length->bindArgs (PySem.W.fnOf x qual (zi7 st) (zu1 st) (zf0 st) .none kV doc pm an cdv ct) ⟨us,[]⟩=pure (ps.zip us)):Binds K fd ps []:=by
 obtain ⟨oc,od,kV,doc,pm,an,cdv,ct,osl,rfl,lk,hcd⟩:=F.ex
 exact .all (h kV doc pm an cdv ct)
theorem zlz {x qual:Str} {st:Stmt} {f:Addr} {oc:Value} {od an:Option Addr} {osl:Array (Option Value)} {kV doc pm cdv ct:Value} (l:K.lookup f=some ⟨oc,od,.func (PySem.W.fnOf x qual (zi7 st) (zu1 st) (zf0 st) .none kV doc pm an cdv ct),osl⟩)
  (c:PySem.W.codeIn K cdv qual=true) (k:PySem.W.keepIn K (.ref f)=true):Fun K x qual st f (PySem.W.fnOf x qual (zi7 st) (zu1 st) (zf0 st) .none kV doc pm an cdv ct):=⟨⟨oc,od,kV,doc,pm,an,cdv,ct,osl,rfl,l,c⟩,k⟩
end
section
variable {X:Cx}
theorem pv (i:Nat) {x:Str} {pos:Pos} (hN:X.N[i]?=some x:=by rfl) (hv:Vis X.env.scope x:=by first|exact Or.inl rfl|exact Or.inr (Or.inl rfl)|exact Or.inr (Or.inr rfl)) (hd:(x == ("__debug__":Str))=false:=by decide)
  (hcd:(x == ("__classdict__":Str))=false:=by decide):PE X (.Name x pos) (tVar i):=zu81 hN hv hd hcd
end
def Same (H H':Hp):Prop:=∀ b o,H b=some o->H' b=some o
theorem Same.refl (H:Hp):Same H H:=λ _ _ h=>h
theorem Same.trans {H H1 H2:Hp} (a:Same H H1) (b:Same H1 H2):Same H H2:=λ c o h=>b c o (a c o h)
theorem Same.seq {K:Fg} {H H':Hp} {a:Addr} {xs:List V} (e:Same H H') (h:SqL K H a xs):SqL K H' a xs:=by
 rcases h with (h|⟨o,h⟩)|h
 ·exact .inl (.inl (e _ _ h))
 ·exact .inl (.inr ⟨o,e _ _ h⟩)
 ·exact .inr h
end L2
namespace L3
open PySem PySem.Spec PyProof.Rows L2
abbrev St:=L2.St
def zl3 (env:Env):List (Str×NameKind)->List (Str×Addr)->List (Str×Addr)
|[],cs=>cs
|(n,k) :: r,cs=>zl3 env r (if k == .free then (match env.cells.lookup n with|some c=>(n,c) :: cs|none=>cs) else cs)
theorem zn9 {env:Env}:∀ (names:List (Str×NameKind)) (cs:List (Str×Addr)),(∀ y∈names,y.2=.free->∃ c,env.cells.lookup y.1=some c) ->
  (forIn names cs (λ (x:Str×NameKind) (r:List (Str×Addr))=>(match x with|(name,kind)=>if kind == .free then do let c <- cellOf env name;pure (ForInStep.yield ((name,c) :: r)) else pure (ForInStep.yield r):Sem (ForInStep (List (Str×Addr))))):Sem (List (Str×Addr)))=pure (zl3 env names cs)
|[],cs,_=>rfl
|(n,k) :: r,cs,h=>by
  rw [List.forIn_cons]
  by_cases hk:k=.free
  ·subst hk
   obtain ⟨c,hc⟩:=h (n,.free) List.mem_cons_self rfl
   have hc':env.cells.lookup n=some c:=hc
   have e1:cellOf env n=pure c:=by unfold cellOf;rw [hc']
   simp only [beq_self_eq_true,if_true,e1]
   have:=zn9 r ((n,c) :: cs) λ y hy=>h y (List.mem_cons_of_mem _ hy)
   unfold zl3
   simp only [beq_self_eq_true,if_true,hc']
   exact this
  ·have hb:(k == NameKind.free)=false:=by simpa using hk
   simp only [hb,Bool.false_eq_true,if_false]
   have:=zn9 r cs λ y hy=>h y (List.mem_cons_of_mem _ hy)
   unfold zl3
   simp only [hb,Bool.false_eq_true,if_false]
   exact this
theorem zdh {env:Env} {scope:Scope} (h:∀ y∈scope.names,y.2=.free->∃ c,env.cells.lookup y.1=some c):closureFor scope env=pure (zl3 env scope.names []):=by
 unfold closureFor
 show (forIn scope.names [] _ >>= λ cs=>pure cs)=_
 rw [zn9 scope.names [] h]
 rfl
theorem zyd {env:Env} {x:Str} {c:Addr}:∀ (names:List (Str×NameKind)) (cs:List (Str×Addr)),(∀ x c,cs.lookup x=some c->env.cells.lookup x=some c)->(zl3 env names cs).lookup x=some c->env.cells.lookup x=some c
|[],cs,h,e=>h x c e
|(n,k) :: r,cs,h,e=>by
  unfold zl3 at e
  refine zyd r _ (λ y d q=>?_) e
  split at q
  ·split at q
   ·rename_i c' hc'
    rw [List.lookup_cons] at q
    split at q
    ·rename_i hy
     cases q
     rw [beq_iff_eq.mp hy];exact hc'
    ·exact h y d q
   ·exact h y d q
  ·exact h y d q
theorem zzc {env:Env} {x:Str}:∀ (names:List (Str×NameKind)) (cs:List (Str×Addr)),(∃ c,cs.lookup x=some c)->∃ c,(zl3 env names cs).lookup x=some c
|[],cs,h=>h
|(n,k) :: r,cs,⟨c,h⟩=>by
  unfold zl3
  refine zzc r _ ?_
  split
  ·split
   ·rename_i c' hc'
    rw [List.lookup_cons]
    split
    ·exact ⟨_,rfl⟩
    ·exact ⟨c,h⟩
   ·exact ⟨c,h⟩
  ·exact ⟨c,h⟩
theorem zla {env:Env} {x:Str}:∀ (names:List (Str×NameKind)) (cs:List (Str×Addr)),(x,NameKind.free)∈names->(∃ c,env.cells.lookup x=some c)->∃ c,(zl3 env names cs).lookup x=some c
|[],cs,h,_=>nomatch h
|(n,k) :: r,cs,h,⟨c,hc⟩=>by
  rcases List.mem_cons.mp h with e|h
  ·cases e
   unfold zl3
   simp only [beq_self_eq_true,if_true,hc]
   exact zzc r _ ⟨c,by simp [List.lookup_cons]⟩
  ·unfold zl3
   exact zla r _ h ⟨c,hc⟩
theorem zjc {env:Env} {x:Str} {c:Addr}:∀ (names:List (Str×NameKind)) (cs:List (Str×Addr)),(zl3 env names cs).lookup x=some c->(x,NameKind.free)∈names \/ cs.lookup x=some c
|[],cs,e=>.inr e
|(n,k) :: r,cs,e=>by
  unfold zl3 at e
  rcases zjc r _ e with q|q
  ·exact .inl (List.mem_cons_of_mem _ q)
  ·split at q
   ·rename_i hk
    split at q
    ·rw [List.lookup_cons] at q
     split at q
     ·rename_i hy
      rw [beq_iff_eq.mp hy,<- beq_iff_eq.mp hk];exact .inl List.mem_cons_self
     ·exact .inr q
    ·exact .inr q
   ·exact .inr q
theorem zd21 {x:Str} {c:Addr}:∀ (names:List (Str×NameKind)) (n:Nat) (acc:List (Str×Addr)),(cellsFrom n names acc).lookup x=some c->acc.lookup x=some c \/ ((x,NameKind.cell)∈names/\n<=c)
|[],_,_,e=>.inl e
|(y,k) :: r,n,acc,e=>by
  unfold cellsFrom at e
  split at e
  ·rename_i hk
   rcases zd21 r (n+1) _ e with q|q
   ·rw [List.lookup_cons] at q
    split at q
    ·rename_i hy
     cases q
     rw [beq_iff_eq.mp hy,<- beq_iff_eq.mp hk]
     exact .inr ⟨List.mem_cons_self,Nat.le_refl _⟩
    ·exact .inl q
   ·exact .inr ⟨List.mem_cons_of_mem _ q.1,Nat.le_of_succ_le q.2⟩
  ·rcases zd21 r n _ e with q|q
   ·exact .inl q
   ·exact .inr ⟨List.mem_cons_of_mem _ q.1,q.2⟩
theorem zlt {x:Str}:∀ (names:List (Str×NameKind)) (n:Nat) (acc:List (Str×Addr)),(x,NameKind.cell) ∉ names->(cellsFrom n names acc).lookup x=acc.lookup x
|[],_,_,_=>rfl
|(y,k) :: r,n,acc,h=>by
  unfold cellsFrom
  split
  ·rename_i hk
   rw [zlt r _ _ λ z=>h (List.mem_cons_of_mem _ z),List.lookup_cons]
   have:(x == y)=false:=by
    refine beq_eq_false_iff_ne.mpr λ e=>h ?_
    rw [e,<- beq_iff_eq.mp hk];exact List.mem_cons_self
   rw [this]
  ·exact zlt r _ _ λ z=>h (List.mem_cons_of_mem _ z)
theorem zzv:∀ (names:List (Str×NameKind)) (n:Nat) (acc:List (Str×Addr)),(∀ x c,acc.lookup x=some c->c < n)->(∀ x y c,acc.lookup x=some c->acc.lookup y=some c->x=y) ->
  ∀ x y c,(cellsFrom n names acc).lookup x=some c->(cellsFrom n names acc).lookup y=some c->x=y
|[],_,_,_,h=>h
|(z,k) :: r,n,acc,hb,h=>by
  unfold cellsFrom
  split
  ·refine zzv r (n+1) _ (λ x c e=>?_) λ x y c e1 e2=>?_
   ·rw [List.lookup_cons] at e
    split at e
    ·cases e;exact Nat.lt_succ_self _
    ·exact Nat.lt_succ_of_lt (hb x c e)
   ·rw [List.lookup_cons] at e1 e2
    by_cases a:(x == z)=true <;> by_cases b:(y == z)=true
    ·rw [beq_iff_eq.mp a,beq_iff_eq.mp b]
    ·rw [a] at e1;rw [Bool.not_eq_true] at b;rw [b] at e2
     cases e1;exact absurd (hb _ _ e2) (Nat.lt_irrefl _)
    ·rw [b] at e2;rw [Bool.not_eq_true] at a;rw [a] at e1
     cases e2;exact absurd (hb _ _ e1) (Nat.lt_irrefl _)
    ·rw [Bool.not_eq_true] at a b;rw [a] at e1;rw [b] at e2
     exact h x y c e1 e2
  ·exact zzv r n acc hb h
theorem zzl:∀ (names:List (Str×NameKind)) (h:Heap) (acc:List (Str×Addr)),(∀ x c,acc.lookup x=some c->∃ v,h.IsCell c v) ->
  ∀ x c,(cellsFrom h.objs.size names acc).lookup x=some c->∃ v,(pushCells h names).IsCell c v
|[],_,_,p=>p
|(y,k) :: r,h,acc,p=>by
  unfold cellsFrom pushCells
  split
  ·have q:=zzl r (h.push { cls:=.type "cell",data:=.cell none }) ((y,h.objs.size) :: acc) (by
    intro x c e
    rw [List.lookup_cons] at e
    split at e
    ·cases e;exact ⟨none,_,Heap.get?_push_size _ rfl,rfl⟩
    ·obtain ⟨v,z⟩:=p x c e
     exact ⟨v,z.keeps λ b o e=>Heap.get?_push_of_some _ e⟩)
   rwa [Heap.size_push] at q
  ·exact zzl r h acc p
theorem zjh {x:Str} {k k':NameKind}:∀ {names:List (Str×NameKind)},(names.map (·.1)).Nodup->(x,k)∈names->(x,k')∈names->k=k'
|(y,j) :: r,h,a,b=>by
  obtain ⟨h1,h2⟩:=List.nodup_cons.mp h
  rcases List.mem_cons.mp a with e|a' <;> rcases List.mem_cons.mp b with e'|b'
  ·cases e;cases e';rfl
  ·cases e;exact (h1 (List.mem_map.mpr ⟨_,b',rfl⟩)).elim
  ·cases e';exact (h1 (List.mem_map.mpr ⟨_,a',rfl⟩)).elim
  ·exact zjh h2 a' b'
theorem zpf {M:Model} {A:Around} {E:Value->Shared->Prop} {s:Shared} {scope:Scope} {globals:Addr} {cl:List (Str×Addr)} {qual:Str} {env:Env} {Q:Env->Shared->Prop}
  (h:Q { scope,locals:=s.heap.objs.size,globals,cells:=cellsFrom (s.heap.objs.size+1) scope.names cl,qual,func:=none,code:=env.code,frame:=env.frame,builtins:=env.builtins } { s with heap:=pushCells (s.heap.push { cls:=.type "dict",data:=.dict #[] }) scope.names }) :
  wpAny M A (newFunctionEnv scope globals cl [] qual none .none (some env)) Q E s:=by
 simp only [newFunctionEnv,Option.isSome_some,if_true]
 refine wpAny_bind (wpAny_alloc ?_)
 refine wpAny_bind (wpAny_layCells _ (λ name kind cells=>by cases hkc:kind == NameKind.cell <;> simp [hkc]) _ _ _ _ ?_)
 rw [show ({ s with heap:=s.heap.push { cls:=.type "dict",data:=.dict #[] } }:Shared).heap.objs.size=s.heap.objs.size+1 from Heap.size_push ..]
 rw [List.forIn_nil]
 exact wpAny_bind (wpAny_pure (wpAny_pure h))
section
variable {prog:Program} {w:World} {A:Around} {R:Result->Shared->Prop} {s:Shared}
theorem zvh {elt target iter:Expr} {ifs:List Expr} {scope:Scope} {pos:Pos} {it acc:Value} {env:Env} (I:Nat->Shared->Prop)
  (turn:∀ n s,I n s->wpAny (model prog w) A (pyNext it) (λ r s₁=>match r with
  |none=>R (.ok .next) s₁
  |some v=>wpAny (model prog w) A (letOwnedTupleGo target it v) (λ _ s₁'=>wpAny (model prog w) A (assign target env v) (λ _ s₂ =>
     wpAny (model prog w) A (forIn ifs true λ c r=>if r=true then do let ok <- isTrue c env (eval c env);pure (ForInStep.yield ok) else pure (ForInStep.yield r)) (λ ok s₃ =>
      if ok=true then wpAny (model prog w) A (eval elt env) (λ x s₄ =>
       wpAny (model prog w) A (call (.builtin "list.append") [acc,x]) (λ _ s₅=>∃ m,m < n/\I m s₅) (notedBy (model prog w) A env λ e s'=>R (.error e) s') s₄) (notedBy (model prog w) A env λ e s'=>R (.error e) s') s₃
      else ∃ m,m < n/\I m s₃) (notedBy (model prog w) A env λ e s'=>R (.error e) s') s₂) (notedBy (model prog w) A env λ e s'=>R (.error e) s') s₁') (notedBy (model prog w) A env λ e s'=>R (.error e) s') s₁) (notedBy (model prog w) A env λ e s'=>R (.error e) s') s)
  (n:Nat) (h:I n s) :
  codeAny (model prog w) A (.compLoop (.ListComp elt [⟨target,iter,ifs,0⟩] scope pos) 0 it acc env) R s:=by
 refine codeAny_loop rfl I (λ n s hI=>?_) n h
 show wpAny _ A ((compTurn (.ListComp elt [⟨target,iter,ifs,0⟩] scope pos) 0 it acc env).onRaise (λ x=>do noteFrame x env;theTreesLotGoes x)) _ _ s
 refine wpAny_noted ?_
 rw [compTurn_list]
 refine wpAny_bind (wpAny_standAt (wpAny_bind (wpAny_mono (turn n s hI) (λ r s₁ h₁=>?_) λ _ _ h'=>h')))
 cases r with
|none=>exact wpAny_pure h₁
|some v =>
  refine wpAny_bind (wpAny_mono h₁ (λ _ s₁' h₁'=>?_) λ _ _ h'=>h')
  refine wpAny_bind (wpAny_mono h₁' (λ _ s₂ h₂=>wpAny_bind (wpAny_mono h₂ (λ ok s₃ h₃=>?_) λ _ _ h'=>h')) λ _ _ h'=>h')
  cases ok with
 |false=>exact wpAny_pure ⟨rfl,h₃⟩
 |true =>
   exact wpAny_bind (wpAny_bind (wpAny_mono h₃ (λ x s₄ h₄=>wpAny_bind (wpAny_mono h₄ (λ _ s₅ h₅=>wpAny_pure (wpAny_pure ⟨rfl,h₅⟩)) λ _ _ h'=>h')) λ _ _ h'=>h'))
end
abbrev zxp (X:Cx) (scope:Scope) (C:Addr):List (Str×Addr):=cellsFrom (C+1) scope.names (zl3 X.env scope.names [])
def zh4 (X:Cx) (scope:Scope) (N:List Str) (s₀:Shared) (H₀:Hp) (C:Addr) (fp:List Addr):Cx where
 prog:=X.prog
 w:=X.w
 K:=X.K
 mg:=X.mg
 base:=X.base
 A:=X.A
 N:=N
 s₀:=s₀
 H₀:=H₀
 env:=compEnvC scope (zxp X scope C) C X.env
 outer:=X.stack
 stack:=X.stack
 ex:=fp
 fn:=λ x=>decide (scope.names.lookup x=some .cell)
 calm:=X.calm
 pn:=[]
 xe:=λ _ _=>False
def zbf (N:List Str) (own:List Str) (ix:List Nat):List Str:=own++ix.map λ i=>N.getD i ""
def compY (n:Nat) (ix:List Nat) (Y:St):St:=List.replicate n none++ix.map λ i=>Y.getD i none
structure CompSc (sc:Scope) (N own:List Str) (ix:List Nat) (scope:Scope):Prop where
 kind:scope.kind=.function
 cell:(scope.names.map (·.1)).Nodup
 names:∀ y∈scope.names,y.2=.local->scope.names.lookup y.1=some .local
 free:∀ y∈scope.names,y.2=.free->sc.names.lookup y.1=some .cell \/ sc.names.lookup y.1=some .free
 caps:∀ i∈ix,i < N.length/\scope.names.lookup (N.getD i "")≠some .local/\scope.names.lookup (N.getD i "")≠some .cell
theorem zt9 {env : Env} {x : Str} : ∀ (names : List (Str × NameKind)),
    ((names.map fun (n, k) => if (k == NameKind.free && env.scope.kind == .function && env.kindOf n == some .cell) then (n, NameKind.cell) else (n, k)).lookup x = some .cell ∨
     (names.map fun (n, k) => if (k == NameKind.free && env.scope.kind == .function && env.kindOf n == some .cell) then (n, NameKind.cell) else (n, k)).lookup x = some .free) → names.lookup x = some .free ∨ names.lookup x = some .cell
  | [], h => by rcases h with h | h <;> cases h
  | (n, k) :: r, h => by
    have ih := zt9 (env := env) (x := x) r
    rw [List.map_cons] at h
    by_cases hx : (x == n) = true
    · rw [List.lookup_cons, hx]
      dsimp only at h ⊢
      by_cases hcc : (k == NameKind.free && env.scope.kind == .function && env.kindOf n == some .cell) = true
      · have : k = .free := by
          have := (Bool.and_eq_true_iff.mp (Bool.and_eq_true_iff.mp hcc).1).1
          exact beq_iff_eq.mp this
        rw [this]; exact .inl rfl
      · rw [if_neg hcc, List.lookup_cons, hx] at h
        exact h.symm
    · have hx' : (x == n) = false := by simpa using hx
      rw [List.lookup_cons, hx']
      refine ih ?_
      by_cases hcc : (k == NameKind.free && env.scope.kind == .function && env.kindOf n == some .cell) = true
      · simp only [hcc, if_true] at h
        rw [List.lookup_cons, hx'] at h
        exact h
      · simp only [hcc, Bool.false_eq_true, if_false] at h
        rw [List.lookup_cons, hx'] at h
        exact h
section
variable {X:Cx} {pins:List (Addr×Obj)} {Y:St} {H H':Hp} {s:Shared}
theorem zku {scope:Scope} {own:List Str} {ix:List Nat} {fp:List Addr} {h₁:Heap} {m:Str->Option Value} {t':Nat} (I:Inv X pins Y H s) (S:CompSc X.env.scope X.N own ix scope)
  (hns:h₁.Ns s.heap.objs.size m) (kc:∀ x c,(zxp X scope s.heap.objs.size).lookup x=some c->∃ v,h₁.IsCell c v) (k:∀ b o,s.heap.get? b=some o->h₁.get? b=some o) (hf:∀ b∈fp,FpOk X pins H b) (hfo:∀ b∈fp,b < s.heap.objs.size) :
  Inv (zh4 X scope (zbf X.N own ix) s H s.heap.objs.size fp) [] (compY own.length ix Y) H { s with heap:=h₁,toks:=t' }:=by
 have hcl:∀ x c,(zl3 X.env scope.names []).lookup x=some c->X.env.cells.lookup x=some c:=λ x c e=>zyd scope.names [] (λ _ _ q=>by cases q) e
 have hcl2:∀ x c,(zxp X scope s.heap.objs.size).lookup x=some c->X.env.cells.lookup x=some c \/ s.heap.objs.size+1<=c:=λ x c e=>(zd21 _ _ _ e).imp (hcl x c) And.right
 have hfree:∀ x,((relabel scope X.env).names.lookup x=some .cell \/ (relabel scope X.env).names.lookup x=some .free)->scope.names.lookup x=some .free \/ scope.names.lookup x=some .cell:=λ x hx=>zt9 scope.names hx
 have hX:∀ x,scope.names.lookup x=some .free->X.env.kindOf x=some .cell \/ X.env.kindOf x=some .free:=λ x hx=>S.free (x,.free) (PySem.mem_of_lookup hx) rfl
 refine ⟨⟨I.ok.mod,S.kind,I.ok.glob,I.ok.blt,Nat.le_refl _,zzv _ _ _ (λ x c e=>?_) (λ x y c e1 e2=>I.ok.inj x y c (hcl x c e1) (hcl y c e2)),λ x hx=>?_,λ x c z e=>?_,I.ok.hd,I.ok.frames,.inl rfl,λ b hb=>?_,I.bs,Nat.le_trans I.ok.bsz I.sz,λ b o e hb=>?_,λ b hb hs=>?_,I.stack,I.stkFree⟩,
  rfl,I.bare,Un.kept k,⟨m,hns,λ i x v e1 e2 e3=>?_⟩,kc,I.hok.fresh (Nat.le_refl _),λ x c e=>(hcl2 x c e).elim (I.freeC x c) (λ z=>I.hok.fresh (Nat.le_of_succ_le z)),λ p hp=>absurd (show p∈([]:List (Addr×Obj)) from hp) (by simp),I.hok.kept k,?_⟩
 ·obtain ⟨v,z⟩:=I.cell x c (hcl x c e)
  exact Nat.lt_succ_of_lt z.lt
 ·refine Option.isSome_iff_exists.mp (PySem.W.cellsFrom_some _ _ _ ?_)
  rcases hfree x hx with hx1|hx1
  ·exact .inr (Option.isSome_iff_exists.mpr (zla scope.names [] (PySem.mem_of_lookup hx1) (I.ok.has x (hX x hx1))))
  ·exact .inl hx1
 ·rcases zd21 _ _ _ e with q|q
  ·rcases zjc _ _ q with q|q
   ·have:=zjh S.cell (PySem.mem_of_lookup (of_decide_eq_true z)) q
    cases this
   ·cases q
  ·exact Nat.le_of_succ_le q.2
 ·exact ⟨Nat.ne_of_lt (hfo b hb),λ x c e=>(hcl2 x c e).elim ((hf b hb).2.2.2.2.1 x c) λ z e2=>absurd (Nat.lt_of_lt_of_le (hfo b hb) (Nat.le_of_succ_le (e2 ▸ z))) (Nat.lt_irrefl _)⟩
 ·rcases (hf b hb).2.2.2.1 with z|z
  ·exact I.ok.noex b o e z
  ·exact absurd (Nat.lt_of_lt_of_le (Heap.lt_size e) (Nat.le_trans I.ok.bsz z)) (Nat.lt_irrefl _)
 ·rcases List.mem_cons.mp (I.stkSub b hs) with z|z
  ·exact (hf b hb).2.1 z
  ·exact (hf b hb).2.2.1 z
 ·-- a captured name
  have e2':(List.replicate own.length (none:Option V)++ix.map λ i=>Y.getD i none)[i]?=some (some v):=e2
  have e1':(own++ix.map λ i=>X.N.getD i "")[i]?=some x:=e1
  by_cases hi:i < own.length
  ·rw [List.getElem?_append_left (by simpa using hi),List.getElem?_replicate] at e2'
   split at e2' <;> cases e2'
  ·have hi':own.length<=i:=Nat.le_of_not_lt hi
   rw [List.getElem?_append_right (by simpa using hi'),List.length_replicate,List.getElem?_map] at e2'
   rw [List.getElem?_append_right hi',List.getElem?_map] at e1'
   cases hq:ix[i - own.length]? with
  |none=>rw [hq] at e2';cases e2'
  |some q =>
    rw [hq] at e1' e2'
    have ex:X.N.getD q ""=x:=Option.some.inj e1'
    have ev:Y.getD q none=some v:=Option.some.inj e2'
    obtain ⟨hql,hnl⟩:=S.caps q (List.mem_of_getElem? hq)
    rw [ex] at hnl
    have hnc:=hnl.2
    replace hnl:=hnl.1
    have e3':(relabel scope X.env).names.lookup x=some .local \/ (relabel scope X.env).names.lookup x=some .cell \/ (relabel scope X.env).names.lookup x=some .free:=e3
    have hcf:(relabel scope X.env).names.lookup x=some .cell \/ (relabel scope X.env).names.lookup x=some .free:=by
     rcases e3' with z|z
     ·exfalso
      cases hs:scope.names.lookup x with
     |none =>
       have:∀ (names:List (Str×NameKind)),names.lookup x=none->(names.map λ (n,k)=>if (k == NameKind.free && X.env.scope.kind == .function && X.env.kindOf n == some .cell) then (n,NameKind.cell) else (n,k)).lookup x=none:=by
        intro names
        induction names with
       |nil=>intro _;rfl
       |cons y r ih =>
         obtain ⟨n,kk⟩:=y
         intro hh
         rw [List.lookup_cons] at hh
         by_cases hxn:(x == n)=true
         ·rw [hxn] at hh;cases hh
         ·have hx':(x == n)=false:=by simpa using hxn
          rw [hx'] at hh
          rw [List.map_cons]
          by_cases hcc:(kk == NameKind.free && X.env.scope.kind == .function && X.env.kindOf n == some .cell)=true
          ·simp only [hcc,if_true];rw [List.lookup_cons,hx'];exact ih hh
          ·simp only [hcc,Bool.false_eq_true,if_false];rw [List.lookup_cons,hx'];exact ih hh
       have q0:=this scope.names hs
       have z':(scope.names.map λ (n,k)=>if (k == NameKind.free && X.env.scope.kind == .function && X.env.kindOf n == some .cell) then (n,NameKind.cell) else (n,k)).lookup x=some .local:=z
       rw [q0] at z';cases z'
     |some kk =>
       have:∀ (names:List (Str×NameKind)),names.lookup x=some kk->(names.map λ (n,k)=>if (k == NameKind.free && X.env.scope.kind == .function && X.env.kindOf n == some .cell) then (n,NameKind.cell) else (n,k)).lookup x=some .local->kk=.local:=by
        intro names
        induction names with
       |nil=>intro h;cases h
       |cons y r ih =>
         obtain ⟨n,k2⟩:=y
         intro hh hz
         rw [List.lookup_cons] at hh
         rw [List.map_cons] at hz
         by_cases hxn:(x == n)=true
         ·rw [hxn] at hh
          have hk2:k2=kk:=Option.some.inj hh
          by_cases hcc:(k2 == NameKind.free && X.env.scope.kind == .function && X.env.kindOf n == some .cell)=true
          ·simp only [hcc,if_true] at hz;rw [List.lookup_cons,hxn] at hz;cases hz
          ·simp only [hcc,Bool.false_eq_true,if_false] at hz;rw [List.lookup_cons,hxn] at hz
           rw [<- hk2];exact Option.some.inj hz
         ·have hx':(x == n)=false:=by simpa using hxn
          rw [hx'] at hh
          by_cases hcc:(k2 == NameKind.free && X.env.scope.kind == .function && X.env.kindOf n == some .cell)=true
          ·simp only [hcc,if_true] at hz;rw [List.lookup_cons,hx'] at hz;exact ih hh hz
          ·simp only [hcc,Bool.false_eq_true,if_false] at hz;rw [List.lookup_cons,hx'] at hz;exact ih hh hz
       have:=this scope.names hs z
       rw [this] at hs
       exact hnl hs
     ·exact z
    have hfr:=(hfree x hcf).resolve_right hnc
    have hkX:=hX x hfr
    obtain ⟨mX,hnX,hlX⟩:=I.loc
    have eN:X.N[q]?=some x:=by
     rw [<- ex,List.getD_eq_getElem?_getD]
     rw [List.getElem?_eq_getElem hql];rfl
    have eY:Y[q]?=some (some v):=by
     rw [List.getD_eq_getElem?_getD] at ev
     cases hs:Y[q]? with
    |none=>rw [hs] at ev;cases ev
    |some o=>rw [hs] at ev;exact congrArg some ev
    obtain ⟨u,r,l⟩:=hlX q x v eN eY (.inr hkX)
    refine ⟨u,r,.inr ⟨hcf,?_⟩⟩
    rcases l with ⟨hk,_⟩|⟨_,c,ec,hcell⟩
    ·exfalso
     rcases hkX with z|z
     ·rw [hk] at z;cases z
     ·rw [hk] at z;cases z
    ·obtain ⟨c',ec'⟩:=zla scope.names [] (PySem.mem_of_lookup hfr) ⟨c,ec⟩
     have:=hcl x c' ec'
     rw [ec] at this
     cases this
     exact ⟨c,(zlt _ _ _ λ z=>by cases zjh S.cell z (PySem.mem_of_lookup hfr)).trans ec',hcell.keeps k⟩
 ·show (compY own.length ix Y).length=(zbf X.N own ix).length
  unfold compY zbf
  simp
theorem zwl {scope:Scope} {N:List Str} {pins':List (Addr×Obj)} {Y':St} {fp:List Addr} {s':Shared} {h'':Heap} (I:Inv X pins Y H s) (hf:∀ b∈fp,FpOk X pins H b)
  (I':Inv (zh4 X scope N s H s.heap.objs.size fp) pins' Y' H' s') (sb:Heap.SameBut s.heap.objs.size s'.heap h''):Inv X pins Y H' { s' with heap:=h'' }:=by
 have ext:∀ b o,b≠s.heap.objs.size->s'.heap.get? b=some o->h''.get? b=some o:=λ b o nb e=>by rw [sb.2 b nb];exact e
 have old:∀ b o,s.heap.get? b=some o->b≠s.heap.objs.size:=λ b o e=>Nat.ne_of_lt (Heap.lt_size e)
 have u:=I'.base
 refine I.call' (ch:=fp) I'.os ⟨λ b o e n hb hx=>ext b o (old b o e) (u.keep b o e n hb hx),λ b o e n hb hx=>?_,u.free,λ b o e hx=>?_,u.tups,u.frzs,u.tbls⟩ (λ b ob e=>?_) I'.bare λ b hb=>⟨(hf b hb).2.2.2.1,(hf b hb).2.1,(hf b hb).2.2.2.2.1,(hf b hb).2.2.2.2.2⟩
 ·obtain ⟨sl,q⟩:=u.slot b o e n hb hx
  exact ⟨sl,ext b _ (old b o e) q⟩
 ·obtain ⟨o',q⟩:=u.there b o e hx
  exact ⟨o',ext b _ (old b o e) q⟩
 ·have nC:∀ c v,H' c=some v->c≠s.heap.objs.size:=λ c v q z=>by
   have:=I'.free
   rw [z] at q
   have z2:H' s.heap.objs.size=none:=this
   rw [z2] at q;cases q
  refine (I'.hok b ob e).stay (λ c v hc q=>ext c v ?_ q) (λ _ q=>q) λ _ _ q=>q
  rcases hc with z|z
  ·rw [z];exact nC b ob e
  ·exact nC c _ z
end
def zha1 (n:Nat) (ix:List Nat) (g:TG) (tt:TT) (te:TE) (Y:St) (J:It) (H1:Hp) (Q:VK):Prop:=∀ D,H1 D=none->∃ W:Nat->Nat->List V->St->Hp->Prop,(∃ m,W 0 m [] (compY n ix Y) (upd H1 D (.lst []))) /\
 ∀ i m acc Y' H',W i m acc Y' H'->(J.stop i H'/\Q (.ref D) H') \/ (J.go i H'/\∃ N:List V->St->Hp->Prop,(∀ acc' Y2 H2,N acc' Y2 H2->∃ m',m' < m/\W (i+1) m' acc' Y2 H2) /\
  ∀ x H2,J.yld i H' x H2->g x Y' H2 λ Y2 H3=>tt Y2 H3 λ b H4=>if b=true then te Y2 H4 λ y H5=>H5 D=some (.lst acc)/\acc.length < sizeLine/\N (acc++[y]) Y2 (upd H5 D (.lst (acc++[y]))) else N acc Y2 H4)
def zi21 (wi:TI) (n:Nat) (ix:List Nat) (g:TG) (tt:TT) (te:TE):TE:=λ Y H Q=>wi Y H λ J H1=>zha1 n ix g tt te Y J H1 Q
def zb21:TT:=λ _ H Q=>Q true H
def PIf (X:Cx) (ifs:List Expr) (t:TT):Prop :=
 ∀ (pins:List (Addr×Obj)) (s:Shared) (Y:St) (H:Hp) (Q:Bool->Hp->Prop),Inv X pins Y H s->t Y H Q ->
  wpAny (model X.prog X.w) X.A (forIn ifs true λ c r=>if r=true then do let ok <- isTrue c X.env (eval c X.env);pure (ForInStep.yield ok) else pure (ForInStep.yield r)) (TP X pins Y Q) X.xe s
theorem zl5 {X:Cx}:PIf X [] zb21:=λ pins s Y H Q I h=>wpAny_tests_nil ⟨H,I,h⟩
theorem zko {X:Cx} {c:Expr} {t:TT} (h:PT X c t):PIf X [c] t:=λ pins s Y H Q I q=>wpAny_tests_one (h pins s Y H Q I q)
section
variable {X:Cx} {tg iter elt:Expr} {ifs:List Expr} {scope:Scope} {pos:Pos} {own:List Str} {ix:List Nat} {wi:TI} {g:TG} {tt:TT} {te:TE} {sc:Scope} {N:List Str}
theorem zif {pins:List (Addr×Obj)} {Y:St} {s2:Shared} {itv:Value} {Q:VK} {RR:Value->Addr->Result->Shared->Prop} {E:Value->Shared->Prop} (hc:X.calm=true) (S:CompSc X.env.scope X.N own ix scope)
  (hb:∀ s₀ H₀ C fp,PG (zh4 X scope (zbf X.N own ix) s₀ H₀ C fp) tg g/\PIf (zh4 X scope (zbf X.N own ix) s₀ H₀ C fp) ifs tt/\PE (zh4 X scope (zbf X.N own ix) s₀ H₀ C fp) elt te)
  (h2:PIE X pins Y tg (λ J H1=>zha1 own.length ix g tt te Y J H1 Q) itv s2)
  (hR:∀ (D C:Addr) (m:Str->Option Value) (s':Shared) (H':Hp),s'.heap.Ns C m->C≠X.env.locals->(∀ x c,X.env.cells.lookup x=some c->c≠C)->H' C=none->(X.s₀.heap.objs.size<=C)->(∀ p∈X.pn++pins,p.1≠C) ->
   (∀ h'',Heap.SameBut C s'.heap h''->Inv X pins Y H' { s' with heap:=h'' })->Q (.ref D) H'->RR (.ref D) C (.ok .next) s') :
  wpAny (model X.prog X.w) X.A (newList []) (λ acc s₃=>wpAny (model X.prog X.w) X.A (newFunctionEnv scope X.env.globals (zl3 X.env scope.names []) [] X.env.qual none .none (some X.env)) (λ cenv s₄ =>
   codeAny (model X.prog X.w) X.A (.compStart (.ListComp elt [⟨tg,iter,ifs,0⟩] scope pos) 0 itv acc { cenv with scope:=relabel scope X.env }) (RR acc cenv.locals) s₄) E s₃) E s2:=by
 obtain ⟨it,fp,tn,J,H1,e,I2,T,st2,f2,h⟩:=h2
 subst e
 have hD:H1 s2.heap.objs.size=none:=I2.hok.fresh (Nat.le_refl _)
 obtain ⟨W,⟨m0,w0⟩,turn⟩:=h _ hD
 have hlt:∀ b∈fp,b < s2.heap.objs.size:=λ b hbf=>by obtain ⟨o,e,_⟩:=T.obj 0 _ st2 b hbf;exact Heap.lt_size e
 refine wpAny_newObj_type ?_
 -- the new list is tracked
 have I3:Inv X pins Y (upd H1 s2.heap.objs.size (.lst [])) { s2 with heap:=s2.heap.push { cls:=.type "list",dict:=none,data:=.seq ([]:List Value).toArray } }:=I2.lnew (ys:=[]) (its:=[]) .nil (Nat.zero_le _)
 generalize hs3:({ s2 with heap:=s2.heap.push { cls:=.type "list",dict:=none,data:=.seq ([]:List Value).toArray } }:Shared)=s3 at I3 ⊢
 have hsz:s3.heap.objs.size=s2.heap.objs.size+1:=by rw [<- hs3];exact Heap.size_push ..
 have k3:∀ b o,s2.heap.get? b=some o->s3.heap.get? b=some o:=λ b o e=>by rw [<- hs3];exact Heap.get?_push_of_some _ e
 have neD:∀ b∈fp,b≠s2.heap.objs.size:=λ b hbf=>Nat.ne_of_lt (hlt b hbf)
 have f3:∀ b∈fp,FpOk X pins (upd H1 s2.heap.objs.size (.lst [])) b:=λ b hbf=>⟨by rw [zj0 (neD b hbf)];exact (f2 b hbf).1,(f2 b hbf).2⟩
 have hlt3:∀ b∈fp,b < s3.heap.objs.size:=λ b hbf=>by rw [hsz];exact Nat.lt_succ_of_lt (hlt b hbf)
 refine zpf ?_
 have hns₁:=(Heap.Ns.new s3.heap (.type "dict")).keeps (pushCells_keeps scope.names _)
 have k4:∀ b o,s3.heap.get? b=some o->(pushCells (s3.heap.push { cls:=.type "dict",data:=.dict #[] }) scope.names).get? b=some o:=λ b o e=>pushCells_keeps _ _ b o (Heap.get?_push_of_some _ e)
 have hcl:∀ x c,(zl3 X.env scope.names []).lookup x=some c->X.env.cells.lookup x=some c:=λ x c e=>zyd scope.names [] (λ _ _ q=>by cases q) e
 have kc:=zzl scope.names (s3.heap.push { cls:=.type "dict",data:=.dict #[] }) (zl3 X.env scope.names []) (λ x c e=>by
  obtain ⟨v,z⟩:=I3.cell x c (hcl x c e)
  exact ⟨v,z.keeps λ b o e=>Heap.get?_push_of_some _ e⟩)
 rw [Heap.size_push] at kc
 generalize pushCells (s3.heap.push { cls:=.type "dict",data:=.dict #[] }) scope.names=h₁ at hns₁ k4 kc ⊢
 have I4:=zku (t':=s3.toks) I3 S hns₁ kc k4 f3 hlt3
 obtain ⟨hG,hT,hE⟩:=hb s3 (upd H1 s2.heap.objs.size (.lst [])) s3.heap.objs.size fp
 have fp':∀ {H':Hp},(∀ b∈fp,H' b=none)->∀ b∈fp,FpOk (zh4 X scope (zbf X.N own ix) s3 (upd H1 s2.heap.objs.size (.lst [])) s3.heap.objs.size fp) [] H' b:=λ {H'} hn b hbf=>by
  refine ⟨hn b hbf,Nat.ne_of_lt (hlt3 b hbf),?_,.inl hbf,λ x c e=>(zd21 _ _ _ e).elim (λ q=>(f2 b hbf).2.2.2.2.1 x c (hcl x c q)) (λ q e2=>absurd (Nat.lt_of_lt_of_le (hlt3 b hbf) (Nat.le_of_succ_le (e2 ▸ q.2))) (Nat.lt_irrefl _)),λ p hp=>absurd (show p∈([]:List (Addr×Obj)) from hp) (by simp)⟩
  intro z
  rcases List.mem_cons.mp (I3.stkSub b z) with z|z
  ·exact (f2 b hbf).2.1 z
  ·exact (f2 b hbf).2.2.1 z
 have st4:tn 0 h₁:=T.keep _ _ _ st2 λ b _ o e=>k4 b o (k3 b o e)
 have cne:∀ x c,X.env.cells.lookup x=some c->c≠s3.heap.objs.size:=λ x c e z=>by
  obtain ⟨v,q⟩:=I3.cell x c e
  exact absurd q.lt (by rw [z];exact Nat.lt_irrefl _)
 have loop:codeAny (model X.prog X.w) X.A (.compLoop (.ListComp elt [⟨tg,iter,ifs,0⟩] scope pos) 0 (.ref it) (.ref s2.heap.objs.size) (compEnvC scope (zxp X scope s3.heap.objs.size) s3.heap.objs.size X.env)) (RR (.ref s2.heap.objs.size) s3.heap.objs.size) { s3 with heap:=h₁ }:=by
  refine zvh (λ n s'=>∃ i acc Y' H',Inv (zh4 X scope (zbf X.N own ix) s3 (upd H1 s2.heap.objs.size (.lst [])) s3.heap.objs.size fp) [] Y' H' s'/\tn i s'.heap/\(∀ b∈fp,H' b=none)/\W i n acc Y' H') ?_ m0 ⟨0,[],_,_,I4,st4,λ b hbf=>(f3 b hbf).1,w0⟩
  rintro n s5 ⟨i,acc,Y5,H5,I5,st5,fr5,w5⟩
  rcases turn i n acc Y5 H5 w5 with ⟨stop,qn⟩|⟨go,NN,hN,step⟩
  ·refine thn (T.done (zh4 X scope (zbf X.N own ix) s3 (upd H1 s2.heap.objs.size (.lst [])) s3.heap.objs.size fp) rfl rfl rfl hc i [] s5 Y5 H5 _ I5 (fp' fr5) st5 stop) λ r s6 hz=>?_
   obtain ⟨hr,I6⟩:=hz
   subst hr
   obtain ⟨m6,hn6,_⟩:=I6.loc
   exact hR _ _ m6 s6 H5 hn6 (Nat.ne_of_gt I3.lt) cne I6.free (I3.sz) (λ p hp z=>absurd (Heap.lt_size (I3.pin p hp).1) (by rw [z];exact Nat.lt_irrefl _)) (λ h'' sb=>zwl I3 f3 I6 sb) qn
  ·refine thn (T.item (zh4 X scope (zbf X.N own ix) s3 (upd H1 s2.heap.objs.size (.lst [])) s3.heap.objs.size fp) rfl rfl rfl hc i [] s5 Y5 H5 _ I5 (fp' fr5) st5 go) λ r s6 hz=>?_
   obtain ⟨u,hr,h6⟩:=hz
   subst hr
   refine thn h6 λ _ s7 hz=>?_
   obtain ⟨x,H7,I7,r7,y7,st7,fr7⟩:=hz
   have I7':=I7.pinned (fp' fr7) (T.obj _ _ st7)
   have noE:∀ {α:Type} {t:Sem α} {Q1:α->Shared->Prop} {E1:Value->Shared->Prop} {sx:Shared},wpAny (model X.prog X.w) X.A t Q1 (λ _ _=>False) sx->wpAny (model X.prog X.w) X.A t Q1 E1 sx:=λ q=>wpAny_noRaise q
   refine noE (thn (hG _ s7 Y5 H7 x u _ I7' r7 (step x H7 y7)) λ _ s8 hz=>?_)
   obtain ⟨Y8,H8,I8,q8⟩:=hz
   refine noE (thn (hT _ s8 Y8 H8 _ I8 q8) λ b s9 hz=>?_)
   obtain ⟨H9,I9,q9⟩:=hz
   have again:∀ {Yz:St} {Hz:Hp} {sz:Shared} {accz:List V},Inv (zh4 X scope (zbf X.N own ix) s3 (upd H1 s2.heap.objs.size (.lst [])) s3.heap.objs.size fp) ([]++zgm fp s7.heap) Yz Hz sz->NN accz Yz Hz->∃ m,m < n/\∃ i acc Y' H',Inv (zh4 X scope (zbf X.N own ix) s3 (upd H1 s2.heap.objs.size (.lst [])) s3.heap.objs.size fp) [] Y' H' sz/\tn i sz.heap/\(∀ b∈fp,H' b=none)/\W i m acc Y' H':=λ {Yz Hz sz accz} Iz nz=>by
    obtain ⟨m',hm,wz⟩:=hN accz Yz Hz nz
    refine ⟨m',hm,i+1,accz,Yz,Hz,Iz.unpinned,T.keep _ _ _ st7 λ b hbf o e=>(Iz.pin (b,o) (List.mem_append_right _ (List.mem_append_right _ (zx6 hbf e)))).1,λ b hbf=>?_,wz⟩
    obtain ⟨o,e,d⟩:=T.obj _ _ st7 b hbf
    exact (Iz.pin (b,o) (List.mem_append_right _ (List.mem_append_right _ (zx6 hbf e)))).2.1
   cases b with
  |false =>
    have q9':NN acc Y8 H9:=by simpa using q9
    simp only [Bool.false_eq_true,if_false]
    exact again I9 q9'
  |true =>
    have q9':te Y8 H9 λ y H5=>H5 s2.heap.objs.size=some (.lst acc)/\acc.length < sizeLine/\NN (acc++[y]) Y8 (upd H5 s2.heap.objs.size (.lst (acc++[y]))):=by simpa using q9
    simp only [if_true]
    refine noE (thn (hE _ s9 Y8 H9 _ I9 q9') λ y s10 hz=>?_)
    obtain ⟨yv,H10,I10,r10,hl,hz,q10⟩:=hz
    refine noE (thn (zrd _ s10 Y8 H10 (.ref s2.heap.objs.size) [yv] (.ref s2.heap.objs.size) [y] (λ _ H'=>NN (acc++[yv]) Y8 H') I10 rfl (.cons r10 .nil) ⟨_,acc,yv,rfl,rfl,hl,hz,q10⟩) λ _ s11 hz=>?_)
    obtain ⟨_,H11,I11,_,q11⟩:=hz
    exact again I11 q11
 exact codeAny_compStart_list loop (T.self X.A 0 _ _ _ st4 loop)
theorem zt6 (hc:X.calm=true) (hsc:X.env.scope=sc) (hN:X.N=N) (S:CompSc sc N own ix scope) (hi:PI X tg iter wi)
  (hb:∀ s₀ H₀ C fp,PG (zh4 X scope (zbf N own ix) s₀ H₀ C fp) tg g/\PIf (zh4 X scope (zbf N own ix) s₀ H₀ C fp) ifs tt/\PE (zh4 X scope (zbf N own ix) s₀ H₀ C fp) elt te)
  (hs:∀ x,foldedSetIterable iter X.env x=pure x:=by intro _;rfl):PE X (.ListComp elt [⟨tg,iter,ifs,0⟩] scope pos) (zi21 wi own.length ix g tt te):=by
 subst hsc hN
 intro pins s Y H Q I h
 rw [eval_ListComp]
 refine wpAny_comprehension_free (use:=none) (g:=⟨tg,iter,ifs,0⟩) (gs:=[]) rfl hs (zdh λ y hy hf=>I.ok.has y.1 (S.free y hy hf)) S.kind S.names ?_
 show wpAny _ _ (eval iter X.env) _ _ _
 refine thn (hi pins s Y H _ I h) λ v s1 h1=>thn h1 λ itv s2 h2=>?_
 refine zif (Q:=Q) (RR:=λ acc C=>compPost (model X.prog X.w) X.A X.xe none (EP X pins Y Q) acc C) hc S hb h2 ?_
 intro D C m s' H' hns _ _ _ _ _ hI q
 exact ⟨m,hns,λ h'' sb=>⟨.ref D,H',hI h'' sb,rfl,q⟩⟩
theorem zw6 {i:Nat} {x:Str} {pos' pos2:Pos} (hc:X.calm=true) (hsc:X.env.scope=sc) (hN:X.N=N) (S:CompSc sc N own ix scope) (hnd:X.N.Nodup) (hxi:X.N[i]?=some x) (hx:X.env.scope.names.lookup x=some .local) (hi:PI X tg iter wi)
  (hb:∀ s₀ H₀ C fp,PG (zh4 X scope (zbf N own ix) s₀ H₀ C fp) tg g/\PIf (zh4 X scope (zbf N own ix) s₀ H₀ C fp) ifs tt/\PE (zh4 X scope (zbf N own ix) s₀ H₀ C fp) elt te)
  (hsw:swapsWith (.ListComp elt [⟨tg,iter,ifs,0⟩] scope pos) (some (.Name x pos')) pos2.line X.env=pure true:=by rfl)
  (hs:∀ x,foldedSetIterable iter X.env x=pure x:=by intro _;rfl):PS X (.Assign [.Name x pos'] (.ListComp elt [⟨tg,iter,ifs,0⟩] scope pos) pos2) (tAsg (zi21 wi own.length ix g tt te) (zhe i)):=by
 subst hsc hN
 intro pins s Y H D I h
 rw [exec_Assign_Name_used _ _ _ _ hsw]
 refine wpAny_bind (wpAny_standAt (wpAny_bind ?_))
 show wpAny _ X.A (do let _ <- comprehension (.ListComp elt [⟨tg,iter,ifs,0⟩] scope pos) scope X.env _ (newList []) false (eval iter X.env) (some (assign (.Name x pos') X.env))) _ _ s
 refine wpAny_bind (wpAny_mono (wpAny_comprehension_free (use:=some (assign (.Name x pos') X.env)) (g:=⟨tg,iter,ifs,0⟩) (gs:=[]) (Q:=λ _ s'=>SP X pins D .next s') rfl hs (zdh λ y hy hf=>I.ok.has y.1 (S.free y hy hf)) S.kind S.names
  (thn (hi pins s Y H _ I h) λ v s1 h1=>thn h1 λ itv s2 h2=>?_)) (λ _ s' hq=>wpAny_pure (wpAny_pure hq)) λ _ _ e=>e)
 refine zif (Q:=λ v H1=>zhe i v Y H1 D.nx) (RR:=λ acc C=>compPost (model X.prog X.w) X.A X.xe (some (assign (.Name x pos') X.env)) (λ _ s'=>SP X pins D .next s') acc C) hc S hb h2 ?_
 intro L C m s' H' hns nL nC hC hC0 hCp hI q
 show wpAny _ _ (assign (.Name x pos') X.env (.ref L)) _ _ s'
 have I':Inv X pins Y H' s':=hI s'.heap ⟨rfl,λ _ _=>rfl⟩
 refine wpAny_assign_Name (zfk I' hnd hxi (.inl hx) (v:=.ref L) rfl (λ s2 I2 hch=>?_) (.inr hx))
 obtain ⟨a,sba,ha⟩:=hch
 have naC:C≠a:=by
  rcases ha with z|z
  ·rw [z];exact nL
  ·exact λ e=>nC x a z e.symm
 refine ⟨m,hns.sameBut sba naC,λ h'' sb=>?_⟩
 refine ⟨_,H',I2.turned (t':=s2.toks) (it:=C) (λ b o nb e=>?_) hC nL (.inr hC0) nC hCp,q⟩
 rw [sb.2 b nb];exact e
end
def zf91 (K:Fg):R2:=λ x y H Q=>rI0 (λ i j=>.int (i+j)) x y H Q \/ (∃ i j,x=.str i/\y=.str j/\i.length+j.length<=sizeLine/\Q (.str (i++j)) H) \/ rCat x y H Q \/ ze91 K x y H Q
def zz81:R2:=λ x y H Q=>rI CMul (λ i j=>.int (i * j)) x y H Q \/ rRep x y H Q
def rSlU (K:Fg):V->Option Int->Option Int->Hp->VK->Prop:=λ x lo hi H Q=>rSlL K x lo hi H Q \/ rSlT K x lo hi H Q
def zac1 (K:Fg) (x:V) (H:Hp) (R:It->Hp->Prop):Prop:=(∃ a,x=.ref a/\(∃ xs,SqL K H a xs)/\R (Itl K a) H) \/ (∃ a,x=.ref a/\(∃ xs,SqT K H a xs)/\R (Itt K a) H)
def rLen (K:Fg):List V->Hp->VK->Prop:=λ xs H Q=>∃ x n,xs=[x]/\LenV K x H n/\Q (.int (n:Nat)) H
def zpb1 (xs:List V) (H:Hp) (Q:VK):Prop:=xs.length<=sizeLine/\∀ p,H p=none->Q (.ref p) (upd H p (.tup xs))
def zoc1 (xs:List V) (H:Hp) (Q:VK):Prop:=xs.length<=sizeLine/\∀ p,H p=none->Q (.ref p) (upd H p (.lst xs))
def zm81 (t:TA):TE:=λ Y H Q=>t Y H λ xs H1=>zpb1 xs H1 Q
def zqq (t:TA):TE:=λ Y H Q=>t Y H λ xs H1=>zoc1 xs H1 Q
def ztb1 (x:V) (H:Hp) (Q:Option Int->Hp->Prop):Prop:=∃ i,x=.int i/\Q (some i) H
def ze21 (t:TE):TO:=λ Y H Q=>t Y H λ x H1=>ztb1 x H1 Q
def kFld (K:Fg) (f:Str) (x:V) (H:Hp) (Q:VK):Prop:=∃ a C dx fs v,x=.ref a/\H a=some (.ins C dx fs)/\Cls K C/\NoAttr K C f/\fs.lookup f=some v/\Q v H
def zia1 (K:Fg) (ta:TE) (f:Str):TE:=λ Y H Q=>ta Y H λ x H1=>kFld K f x H1 Q
def kBl (x:V) (H:Hp) (Q:Bool->Hp->Prop):Prop:=∃ k,x=.bl k/\Q k H
def ztt (t:TE):TT:=λ Y H Q=>t Y H λ x H'=>kBl x H' Q
def kTru (K:Fg) (x:V) (H:Hp) (Q:Bool->Hp->Prop):Prop:=∃ k,TruV K x H k/\Q k H
def zz51 (K:Fg) (t:TE):TT:=λ Y H Q=>t Y H λ x H'=>kTru K x H' Q
section
variable {X:Cx} {tg:Expr}
theorem zh31 {K:Fg} (h:X.K=K):OpR X (binaryOp .Add) (zf91 K):=h ▸ zb51.or (zwo.or (zp51.or zox))
theorem zf21:OpR X (binaryOp .Mult) zz81:=zk71.or zv21
theorem ix_U {K:Fg} (h:X.K=K):IxR X (rIx K):=h ▸ zs41
theorem sl_U {K:Fg} (h:X.K=K):SlR X (rSlU K):=h ▸ zr31.or zv81
theorem zb2 {K:Fg} (h:X.K=K):CallR X (.builtin "len") (rLen K):=h ▸ zqw
theorem zh2 {es:List Expr} {t:TA} {x1} {pos:Pos} (h:PA X es t):PE X (.Tuple es x1 pos) (zm81 t):=zz71 h
theorem zt1 {es:List Expr} {t:TA} {pos:Pos} (h:PA X es t):PE X (.List es pos) (zqq t):=zh71 h
theorem zqd {e:Expr} {te:TE} (h:PE X e te):PO X (some e) (ze21 te):=zk01 h
theorem zt0 {K:Fg} (h:X.K=K) {e:Expr} {f:Str} {pos:Pos} {ta:TE} (he:PE X e ta) (hb:attributeBase e f X.env (eval e X.env)=eval e X.env):PE X (.Attribute e f pos) (zia1 K ta f):=h ▸ zb61 he hb
theorem zc2 {a b:Expr} {ta tb:TE} {pos:Pos} {op:CmpOp} {r:R2} (ho:OpR X (compareOp op) r) (ha:PE X a ta) (hb:PE X b tb) (hm:behindInMarks op b=false):PT X (.Compare a [op] [b] pos) (ztt (tOp r ta tb)):=zjz ho ha hb hm
theorem zqp {a b c:Expr} {ta tb tc:TE} {pos:Pos} {op op':CmpOp} {r r':R2} (ho:OpR X (compareOp op) r) (ho':OpR X (compareOp op') r') (ha:PE X a ta) (hb:PE X b tb) (hc:PE X c tc)
  (hm:lastMarks [op,op'] [b,c]=false:=by with_unfolding_all rfl):PT X (.Compare a [op,op'] [b,c] pos) (ztt (znt r r' ta tb tc)):=zbw ho ho' ha hb hc hm
theorem ze3 {K:Fg} (h:X.K=K) {a:Expr} {ta:TE} (ha:PE X a ta) (he:∀ whole,isTrue a X.env whole=(do let v <- whole;standAt a.pos;holding [v] (truthy v))):PT X a (zz51 K ta):=h ▸ zxw ha he
def clsV:V->Option Value
|.ty n=>some (.type n)
|.ref a=>some (.ref a)
|_=>none
theorem zsi {cV:V} {c v:Value} (h:clsV cV=some c) (r:RelV cV v):v=c:=by
 cases cV with
|ty n=>cases h;exact r
|ref a=>cases h;exact r
|_=>cases h
def rIsI (K:Fg):List V->Hp->VK->Prop:=λ xs H Q=>∃ x cV c t b,xs=[x,cV]/\clsV cV=some c/\TyOf K H x t/\PySem.W.kitOne K t c=some b/\Q (.bl b) H
theorem zbl {K:Fg} (h:X.K=K):CallR X (.builtin "isinstance") (rIsI K):=by
 subst h
 intro pins s Y H xs us Q I r h
 obtain ⟨x,cV,c,t,b,rfl,rc,ty,e,q⟩:=h
 obtain ⟨u,v,rfl,ru,rv⟩:=r.two
 obtain rfl:=zsi rc rv
 exact zgp I ru ty e λ tk=>⟨.bl b,H,I.tok tk,rfl,q⟩
end
def Def (P:Program) (w:World) (K:Fg) (mg:Str->Option Value) (base:Heap) (x:Str) (k:Nat) (ps:List Str) (sp:Sp):Prop :=
 ∃ f fd,FnOk P w K mg base CX0 k f fd ps sp/\Binds K fd ps []/\PySem.W.keepIn K (.ref f)=true/\mg x=some (.ref f)
def zzo (P:Program) (w:World) (K:Fg) (mg:Str->Option Value) (base:Heap) (x:Str) (C:Addr) (k:Nat) (ps:List Str) (sp:Sp):Prop :=
 ∃ f fd,Mk K C f/\FnOk P w K mg base CX0 k f fd ps sp/\Binds K fd ps []/\mg x=some (.ref C)
def zh5 (P:Program) (w:World) (K:Fg) (mg:Str->Option Value) (base:Heap) (C:Addr) (m:Str) (k:Nat) (ps:List Str) (sp:Sp):Prop :=
 ∃ f fd,Cls K C/\Meth K C m f/\FnOk P w K mg base CX0 k f fd ps sp/\Binds K fd ps []
section
variable {X:Cx} {k:Nat} {C:Addr} {ps:List Str} {sp:Sp} {x m:Str} {p pos apos:Pos} {e o:Expr} {es:List Expr} {ta:TE} {t:TA}
theorem zp0 (d:Def X.prog X.w X.K X.mg X.base x k ps sp) (hr:Room k X.A) (hg:Gl X x) (ha:PA X (e :: es) t) (hdb:(x == ("__debug__":Str))=false:=by decide)
  (he:starEach (e :: es) X.env=(false,eval e X.env) :: starEach es X.env:=by rfl) (hpl:(backTo pos (starEach es X.env)).any (·.1)=false:=by rfl):PE X (.Call (.Name x p) (e :: es) [] pos) (zcs sp [] E0 t):=by
 obtain ⟨f,fd,F,b,kp,m⟩:=d
 exact zw01 F hr hg m kp b .nil zpy ha hdb he hpl
theorem zee (d:zzo X.prog X.w X.K X.mg X.base x C k ps sp) (hr:Room (k+1) X.A) (hg:Gl X x) (ha:PA X (e :: es) t) (hdb:(x == ("__debug__":Str))=false:=by decide)
  (he:starEach (e :: es) X.env=(false,eval e X.env) :: starEach es X.env:=by rfl) (hpl:(backTo pos (starEach es X.env)).any (·.1)=false:=by rfl):PE X (.Call (.Name x p) (e :: es) [] pos) (zp81 C sp [] E0 t):=by
 obtain ⟨f,fd,M,F,b,m⟩:=d
 exact zp01 M F hr hg m b .nil zpy ha hdb he hpl
theorem zio {pl:Sem Bool} (d:zh5 X.prog X.w X.K X.mg X.base C m k ps sp) (hr:Room k X.A) (he:PE X o ta) (ha:PA X (e :: es) t)
  (hst:starEach (e :: es) X.env=(false,eval e X.env) :: starEach es X.env:=by rfl) (hpl:(backTo pos (starEach es X.env)).any (·.1)=false:=by rfl)
  (ht:eval (.Call (.Attribute o m apos) (e :: es) [] pos) X.env=(do
   let ov <- eval o X.env
   standAt apos.atName
   let (f,first) <- holding [ov] (getMethod ov m pl)
   callWith pos f first (backTo pos (starEach (e :: es) X.env)) (backToKw pos (keywordEach [] X.env))):=by rfl) :
  PE X (.Call (.Attribute o m apos) (e :: es) [] pos) (zbx C m sp [] E0 ta t):=by
 obtain ⟨f,fd,c,M,F,b⟩:=d
 exact zn11 he c M F hr b .nil zpy ha hst hpl ht
end
theorem ze2 {H:Hp} {p:Addr} (h:H p=none) (o:HO):Same H (upd H p o):=λ b u q=>by rw [zj0 (zf3 q h)];exact q
theorem zwp {K:Fg} {H H':Hp} {a:Addr} {xs:List V} (e:Same H H') (h:SqT K H a xs):SqT K H' a xs:=by
 rcases h with (h|⟨o,h⟩)|h
 ·exact .inl (.inl (e _ _ h))
 ·exact .inl (.inr ⟨o,e _ _ h⟩)
 ·exact .inr h
section
variable {K:Fg} {Y:St} {H:Hp} {Q:VK} {D:Ends} {a b p:Addr} {i j k:Int} {x y v:V} {xs ys:List V} {ta tb te:TE} {t u:TS} {tA:TA} {tt tt':TT} {A B:Prop}
theorem zfb1 (h:SqT K H a xs) (e:atI xs i=some v) (q:Q v H):rIx K (.ref a) (.int i) H Q:=.inr (.inl ⟨a,xs,i,v,rfl,rfl,h,e,q⟩)
end
theorem zac:bootBuiltins "len"=some (.builtin "len"):=by decide +kernel
theorem zs71:bootBuiltins "min"=some (.builtin "min"):=by decide +kernel
theorem zr0:bootBuiltins "isinstance"=some (.builtin "isinstance"):=by decide +kernel
theorem zjy:bootBuiltins "int"=some (.type "int"):=by decide +kernel
theorem zm11:bootBuiltins "bool"=some (.type "bool"):=by decide +kernel
theorem zja:bootBuiltins "list"=some (.type "list"):=by decide +kernel
structure Md (K:Fg) (mg:Str->Option Value):Prop where
 ex:∃ h:Heap,K.In h/\h.Ns mainGlobals mg
theorem Md.got {K:Fg} {mg:Str->Option Value} (M:Md K mg) {x:Str} {v:Value} (e:PySem.W.nsIn K mainGlobals x=some (some v)):mg x=some v:=let ⟨_,X,G⟩:=M.ex;PySem.W.mg_of X G e
theorem Md.not {K:Fg} {mg:Str->Option Value} (M:Md K mg) {x:Str} (e:PySem.W.nsIn K mainGlobals x=some none):mg x=none:=let ⟨_,X,G⟩:=M.ex;PySem.W.mg_none_of X G e
structure TopDef (K:Fg) (x:Str) (st:Stmt):Prop where
 ex:∃ f fd,PySem.W.nsIn K mainGlobals x=some (some (.ref f))/\Fun K x x st f fd
theorem zjp {K:Fg} {x:Str} {st:Stmt} {f:Addr} {oc:Value} {od an:Option Addr} {osl:Array (Option Value)} {kV doc pm cdv ct:Value} (a:PySem.W.nsIn K mainGlobals x=some (some (.ref f)))
  (l:K.lookup f=some ⟨oc,od,.func (PySem.W.fnOf x x (zi7 st) (zu1 st) (zf0 st) .none kV doc pm an cdv ct),osl⟩) (c:PySem.W.codeIn K cdv x=true) (k:PySem.W.keepIn K (.ref f)=true):TopDef K x st:=⟨⟨_,_,a,zlz l c k⟩⟩
structure TopMeth (K:Fg) (C:Addr) (m qual:Str) (st:Stmt):Prop where
 ex:∃ f fd,PySem.W.findIn K (.ref C) m=some (some (.ref f))/\PySem.W.isFn K (.ref f)=true/\Fun K m qual st f fd
theorem zhm {K:Fg} {C:Addr} {x qual:Str} {st:Stmt} {f:Addr} {oc:Value} {od an:Option Addr} {osl:Array (Option Value)} {kV doc pm cdv ct:Value} (a:PySem.W.findIn K (.ref C) x=some (some (.ref f))) (i:PySem.W.isFn K (.ref f)=true)
  (l:K.lookup f=some ⟨oc,od,.func (PySem.W.fnOf x qual (zi7 st) (zu1 st) (zf0 st) .none kV doc pm an cdv ct),osl⟩) (c:PySem.W.codeIn K cdv qual=true) (k:PySem.W.keepIn K (.ref f)=true):TopMeth K C x qual st:=⟨⟨_,_,a,i,zlz l c k⟩⟩
structure TopCls (K:Fg) (x:Str) (C:Addr):Prop where
 at_:PySem.W.nsIn K mainGlobals x=some (some (.ref C))
 cls:Cls K C
 mkk:PySem.W.makesIn K C=true
 kp:PySem.W.keepIn K (.ref C)=true
theorem zlr {K:Fg} {x:Str} {C:Addr} (a:PySem.W.nsIn K mainGlobals x=some (some (.ref C))) (pg:PySem.W.plainGet K C Str.empty=true) (hd:PySem.W.hasDictIn K C=true) (po:PySem.W.plainOver K C=true)
  (sa:PySem.W.findIn K (.ref C) "__setattr__"=some (some (.builtin "object.__setattr__"))) (mk:PySem.W.makesIn K C=true) (kc:PySem.W.keepIn K (.ref C)=true):TopCls K x C:=⟨a,⟨pg,hd,po,sa⟩,mk,kc⟩
section
variable {P:Program} {w:World} {K:Fg} {mg:Str->Option Value} {base:Heap}
abbrev zi6 (x qual:Str) (st:Stmt) (ps:List Str):Prop :=
 ∀ (kV doc pm:Value) (an:Option Addr) (cdv ct:Value) (us:List Value),us.length=ps.length->bindArgs (PySem.W.fnOf x qual (zi7 st) (zu1 st) (zf0 st) .none kV doc pm an cdv ct) ⟨us,[]⟩=pure (ps.zip us)
abbrev zl6 (P:Program) (w:World) (K:Fg) (mg:Str->Option Value) (base:Heap) (qual:Str) (st:Stmt) (N:List Str) (k:Nat) (sp:Sp):Prop :=
 ∀ (f:Addr) (cdv:Value) (A:Around) (outer:List Env) (s:Shared) (H:Hp) (vs:List V) (Q:VK) (E:XK),Room k (A.deeper (envOfC qual (zf0 st) s.heap.objs.size f cdv))->sp vs H Q E ->
   ∃ t,PSs (cxOf CX0 P w K mg base N qual (zf0 st) f cdv A outer s H E).nox (zu1 st) t/\t { nx:=λ _ H'=>Q .non H',rt:=Q } (start N vs) H
theorem zb7 {x:Str} {st:Stmt} {N ps:List Str} {k:Nat} {sp:Sp} (M:Md K mg) (T:TopDef K x st) (S:FnScope N ps (zf0 st)) (hb:zi6 x x st ps) (len:∀ vs H Q E,sp vs H Q E->vs.length=ps.length)
  (body:zl6 P w K mg base x st N k sp):Def P w K mg base x (k+1) ps sp:=by
 obtain ⟨f,fd,a,F⟩:=T.ex
 exact ⟨f,fd,F.ok S len (λ cdv A outer s H vs Q E hr h=>body f cdv A outer s H vs Q E hr h),F.binds hb,F.kp,M.got a⟩
theorem zq5 {C:Addr} {m qual:Str} {st:Stmt} {N ps:List Str} {k:Nat} {sp:Sp} (c:Cls K C) (T:TopMeth K C m qual st) (S:FnScope N ps (zf0 st)) (hb:zi6 m qual st ps) (len:∀ vs H Q E,sp vs H Q E->vs.length=ps.length)
  (body:zl6 P w K mg base qual st N k sp):zh5 P w K mg base C m (k+1) ps sp:=by
 obtain ⟨f,fd,a,i,F⟩:=T.ex
 exact ⟨f,fd,c,⟨a,i,F.kp⟩,F.ok S len (λ cdv A outer s H vs Q E hr h=>body f cdv A outer s H vs Q E hr h),F.binds hb⟩
theorem zxj {x qual:Str} {C:Addr} {st:Stmt} {N ps:List Str} {k:Nat} {sp:Sp} (M:Md K mg) (c:TopCls K x C) (T:TopMeth K C "__init__" qual st) (S:FnScope N ps (zf0 st)) (hb:zi6 "__init__" qual st ps)
  (len:∀ vs H Q E,sp vs H Q E->vs.length=ps.length) (body:zl6 P w K mg base qual st N k sp):zzo P w K mg base x C (k+1) ps sp:=by
 obtain ⟨f,fd,a,i,F⟩:=T.ex
 exact ⟨f,fd,⟨c.mkk,a,i,c.kp⟩,F.ok S len (λ cdv A outer s H vs Q E hr h=>body f cdv A outer s H vs Q E hr h),F.binds hb,M.got c.at_⟩
theorem zk81 {st:Stmt} {N:List Str} {k:Nat} {sp:Sp} {fa:Addr} (M:Md K mg) (T:TopDef K "law" st) (hfa:mg "law"=some (.ref fa)) (S:FnScope N ["script"] (zf0 st)) (hb:zi6 "law" "law" st ["script"]) (len:∀ vs H Q E,sp vs H Q E->vs.length=1)
  (body:∀ base:Heap,K.In base->base.Ns mainGlobals mg->zl6 P w K mg base "law" st N k sp) :
  ∃ fd:FuncData,(∀ (s:Shared) (v:Value),BindsTo s fd ⟨[v],[]⟩ [("script",v)])/\∀ base:Heap,K.In base->base.Ns mainGlobals mg->FnOk P w K mg base CX0 (k+1) fa fd ["script"] sp:=by
 obtain ⟨f,fd,a,F⟩:=T.ex
 have e:=hfa.symm.trans (M.got a)
 cases e
 obtain ⟨oc,od,kV,doc,pm,an,cdv,ct,osl,e1,lk,hcd⟩:=id F.ex
 refine ⟨fd,λ s v=>.of_eq ?_,λ base kb nb=>F.ok S len λ cdv A outer s H vs Q E hr h=>body base kb nb fa cdv A outer s H vs Q E hr h⟩
 rw [e1]
 exact hb kV doc pm an cdv ct [v] rfl
end
section
variable {K:Fg} {a D:Addr} {xs:List V} {Q:VK} {Y:St} {H:Hp} {n:Nat} {ix:List Nat} {g:TG} {tt:TT} {te:TE}
end
def zvz:PyData->Bool
|.int _=>true
|.str _=>true
|_=>false
mutual
inductive Is (K:Fg) (H:Hp):V->PyData->Prop
|non:Is K H .non .none
|bl (b:Bool):Is K H (.bl b) (.bool b)
|int (i:Int):Is K H (.int i) (.int i)
|str (x:Str):Is K H (.str x) (.str x)
|lst {a:Addr} {xs:List V} {ds:List PyData}:SqL K H a xs->IsAll K H xs ds->Is K H (.ref a) (.list ds)
|tup {a:Addr} {xs:List V} {ds:List PyData}:H a=some (.tup xs)->IsAll K H xs ds->Is K H (.ref a) (.tuple ds)
|tuc {a:Addr} {xs:List V} {ds:List PyData}:SqT K H a xs->IsAll K H xs ds->ds.all zvz=false->Is K H (.ref a) (.tuple ds)
inductive IsAll (K:Fg) (H:Hp):List V->List PyData->Prop
|nil:IsAll K H [] []
|cons {x:V} {d:PyData} {xs:List V} {ds:List PyData}:Is K H x d->IsAll K H xs ds->IsAll K H (x :: xs) (d :: ds)
end
mutual
theorem Is.mono {K:Fg} {H H':Hp} (s:Same H H'):∀ {v:V} {d:PyData},Is K H v d->Is K H' v d
|_,_,.non=>.non
|_,_,.bl b=>.bl b
|_,_,.int i=>.int i
|_,_,.str x=>.str x
|_,_,.lst h r=>.lst (s.seq h) (IsAll.mono s r)
|_,_,.tup h r=>.tup (s _ _ h) (IsAll.mono s r)
|_,_,.tuc h r n=>.tuc (zwp s h) (IsAll.mono s r) n
theorem IsAll.mono {K:Fg} {H H':Hp} (s:Same H H'):∀ {v:List V} {d:List PyData},IsAll K H v d->IsAll K H' v d
|_,_,.nil=>.nil
|_,_,.cons h r=>.cons (Is.mono s h) (IsAll.mono s r)
end
section
variable {X:Cx} {pins:List (Addr×Obj)} {Y:St} {H:Hp} {s:Shared}
mutual
theorem zw7 (I:Inv X pins Y H s):∀ {v:V} {d:PyData} {u:Value},Is X.K H v d->RelV v u->∃ as,Reads s.heap u d as
|_,_,_,.non,r=>by cases r;exact ⟨_,.none⟩
|_,_,_,.bl b,r=>by cases r;exact ⟨_,.bool b⟩
|_,_,_,.int i,r=>by obtain ⟨t,rfl⟩:=r;exact ⟨_,.int i t⟩
|_,_,_,.str x,r=>by obtain ⟨t,rfl⟩:=r;exact ⟨_,.str x t⟩
|_,_,_,.lst h q,r=>by
  cases r
  obtain ⟨its,rv,p,_⟩:=I.list h
  obtain ⟨as,z⟩:=za5 I q rv
  obtain ⟨o,ho,hc,n,hd⟩:=p.isList
  exact ⟨_,.list ho hc hd (by simpa using z)⟩
|_,_,_,.tup h q,r=>by
  cases r
  obtain ⟨its,rv,p,_⟩:=I.tuple (SqT.of h)
  obtain ⟨as,z⟩:=za5 I q rv
  obtain ⟨o,ho,hc,n,hd⟩:=(show s.heap.IsTuple _ its.toArray from p)
  exact ⟨_,.tuple ho hc hd (by simpa using z)⟩
|_,_,_,.tuc h q _,r=>by
  cases r
  obtain ⟨its,rv,p,_⟩:=I.tuple h
  obtain ⟨as,z⟩:=za5 I q rv
  obtain ⟨o,ho,hc,n,hd⟩:=(show s.heap.IsTuple _ its.toArray from p)
  exact ⟨_,.tuple ho hc hd (by simpa using z)⟩
theorem za5 (I:Inv X pins Y H s):∀ {v:List V} {d:List PyData} {u:List Value},IsAll X.K H v d->Vals v u->∃ as,ReadsAll s.heap u d as
|_,_,_,.nil,r=>by cases r;exact ⟨_,.nil⟩
|_,_,_,.cons h q,r=>by
  cases r with
 |cons r1 r2 =>
   obtain ⟨as,z⟩:=zw7 I h r1
   obtain ⟨bs,y⟩:=za5 I q r2
   exact ⟨_,.cons z y⟩
end
end
def rEqU (K:Fg):R2:=λ x y H Q=>rEq x y H Q \/ (∃ d e,Is K H x d/\Is K H y e/\SeqAt.shaped d=true/\SeqAt.shaped e=true/\Q (.bl (PyData.eqv d e)) H)
def rNeU (K:Fg):R2:=λ x y H Q=>rNe x y H Q \/ (∃ d e,Is K H x d/\Is K H y e/\SeqAt.shaped d=true/\SeqAt.shaped e=true/\Q (.bl (!PyData.eqv d e)) H)
section
variable {X:Cx}
theorem zig {K:Fg} (h:X.K=K) (hu:X.A.units+64 < cLine):OpR X (compareOp .Eq) (rEqU K):=by
 subst h
 refine zgc1.or ?_
 intro pins s Y H x y v u Q I rx ry q
 obtain ⟨d,e,hd,he,sd,se,q⟩:=q
 obtain ⟨as,r1⟩:=zw7 I hd rx
 obtain ⟨bs,r2⟩:=zw7 I he ry
 exact eq_dataH r1 r2 sd se hu ⟨.bl _,H,I,rfl,q⟩
theorem zbz {K:Fg} (h:X.K=K) (hu:X.A.units+64 < cLine):OpR X (compareOp .NotEq) (rNeU K):=by
 subst h
 refine zrb1.or ?_
 intro pins s Y H x y v u Q I rx ry q
 obtain ⟨d,e,hd,he,sd,se,q⟩:=q
 obtain ⟨as,r1⟩:=zw7 I hd rx
 obtain ⟨bs,r2⟩:=zw7 I he ry
 exact ne_dataH r1 r2 sd se hu ⟨.bl _,H,I,rfl,q⟩
structure MkO (K:Fg) (C:Addr):Prop where
 makes:PySem.W.makesIn K C=true
 init:PySem.W.findIn K (.ref C) "__init__"=some (some (.builtin "object.__init__"))
 kp:PySem.W.keepIn K (.ref C)=true
def zh11 (P:Program) (w:World) (K:Fg) (mg:Str->Option Value) (base:Heap) (m:Str) (k:Nat) (ta:TE) (t:TA):TE:=λ Y H Q=>ta Y H λ x H1=>∃ a C dx fs ps sp,x=.ref a/\H1 a=some (.ins C dx fs)/\fs.lookup m=none /\
 zh5 P w K mg base C m k ps sp/\t Y H1 λ vs H2=>sp (x :: vs) H2 Q E0
theorem zou {P:Program} {w:World} {K:Fg} {mg:Str->Option Value} {base:Heap} {k:Nat} {m:Str} {pos apos:Pos} {e o:Expr} {es:List Expr} {ta:TE} {t:TA} {pl:Sem Bool} (hP:X.prog=P) (hw:X.w=w) (hK:X.K=K) (hmg:X.mg=mg) (hbs:X.base=base) (hr:Room k X.A) (he:PE X o ta) (ha:PA X (e :: es) t)
  (hst:starEach (e :: es) X.env=(false,eval e X.env) :: starEach es X.env:=by rfl) (hpl:(backTo pos (starEach es X.env)).any (·.1)=false:=by rfl)
  (ht:eval (.Call (.Attribute o m apos) (e :: es) [] pos) X.env=(do
   let ov <- eval o X.env
   standAt apos.atName
   let (f,first) <- holding [ov] (getMethod ov m pl)
   callWith pos f first (backTo pos (starEach (e :: es) X.env)) (backToKw pos (keywordEach [] X.env))):=by rfl) :
  PE X (.Call (.Attribute o m apos) (e :: es) [] pos) (zh11 P w K mg base m k ta t):=by
 subst hP hw hK hmg hbs
 intro pins s Y H Q I h
 refine PySem.W.methodCall_KW (pl:=pl) (thn (he pins s Y H _ I h) λ u s1 hz=>?_) ht
 obtain ⟨x,H1,I1,rx,a,C,dx,fs,ps,sp,ex,ea,l,d,q⟩:=hz
 subst ex
 obtain rfl:u=Value.ref a:=rx
 obtain ⟨f,fd,c,hm,F,b⟩:=d
 refine zi4 I1 ea c hm l ?_
 refine PySem.W.callWith_K (first:=[.ref a]) (h₀:=X.base) I.ok.mod.kin hm.kp (thn (ha pos pins s1 Y H1 _ I1 q) λ us s2 ⟨vs,H2,I2,r,q2⟩=>⟨I2.kIn,?_⟩) hst hpl
 exact ztq (us:=.ref a :: us) (vs:=.ref a :: vs) (dvs:=[]) (ds:=[]) F hr b .nil zpy I2 (.cons rfl r) (by rw [List.append_nil];exact q2)
end
section
variable {K:Fg} {Y:St} {H:Hp} {Q:VK} {x y:V} {ta:TE} {tA:TA}
end
end L3
namespace L3
open PySem PySem.Builtin PySem.Builtin.Str PySem.StrLaws
end L3
namespace L3
open PySem PySem.Spec PyProof.Rows L2
section
variable {X:Cx}
abbrev TJ:=Str->St->Hp->(Str->Hp->Prop)->Prop
def PJ (X:Cx) (es:List Expr) (t:TJ):Prop :=
 ∀ (acc:Str) (pins:List (Addr×Obj)) (s:Shared) (Y:St) (H:Hp) (Q:Str->Hp->Prop),Inv X pins Y H s->t acc Y H Q ->
  wpAny (model X.prog X.w) X.A (joinParts acc (evalEach es X.env)) (λ v s'=>∃ z H' tk,v=.str z tk/\Inv X pins Y H' s'/\Q z H') X.xe s
def jNil:TJ:=λ acc _ H Q=>acc.length<=sizeLine/\Q acc H
def zsa1 (y:Str) (t:TJ):TJ:=λ acc Y H Q=>(acc++y).length<=sizeLine/\t (acc++y) Y H Q
def kFmt (x:V) (H:Hp) (Q:Str->Hp->Prop):Prop:=(∃ z,x=.str z/\z.length<=sizeLine/\Q z H) \/ ∃ i:Int,x=.int i/\i.natAbs.log2 < 1920/\Q (Str.ofString (toString i)) H
theorem zm51:PJ X [] jNil:=λ acc pins s Y H Q I h=>joinParts_nil ⟨acc,H,_,rfl,I.tok _,h.2⟩ h.1
theorem zbs {y:Str} {j:Nat} {pos:Pos} {es:List Expr} {t:TJ} (h:PJ X es t):PJ X (.Constant (.str y) j pos :: es) (zsa1 y t):=by
 intro acc pins s Y H Q I q
 refine joinParts_cons (Calls.Constant_str ?_)
 exact ⟨q.1,h _ pins _ Y H Q (I.tok _) q.2⟩
def zqs (t:TJ):TE:=λ Y H Q=>t Str.empty Y H λ z H'=>Q (.str z) H'
theorem zcp {v₁ v₂:Expr} {rest:List Expr} {pos:Pos} {t:TJ} (h:PJ X (v₁ :: v₂ :: rest) t):PE X (.JoinedStr (v₁ :: v₂ :: rest) pos) (zqs t):=by
 intro pins s Y H Q I q
 refine JoinedStr_many (thn (h Str.empty pins s Y H _ I q) λ v s1 hz=>?_)
 obtain ⟨z,H',tk,e,I1,q1⟩:=hz
 subst e
 exact ⟨.str z,H',I1,⟨tk,rfl⟩,q1⟩
def rInt:List V->Hp->VK->Prop:=λ xs H Q=>((∃ i,xs=[.int i]/\Q (.int i) H) \/ ∃ k,xs=[.bl k]/\Q (.int (if k then 1 else 0)) H) \/ ∃ z n,xs=[.str z]/\PySem.intText? z=some n/\z.length<=640/\Q (.int n) H
theorem zkq:CallR X (.type "int") rInt:=by
 intro pins s Y H xs us Q I r h
 rcases h with h|⟨z,n,rfl,hn,hl,q⟩
 ·exact zzp pins s Y H xs us Q I r h
 ·obtain ⟨u,rfl,t,rfl⟩:=r.one
  exact PySem.W.KIN.call_text hn hl ⟨.int n,H,I.tok _,⟨_,rfl⟩,q⟩
def Its (z:Str):It:=⟨λ i _=>i < z.cps.size,λ i H x H'=>H'=H/\∃ c,z.cps[i]?=some c/\x=.str ⟨#[c]⟩,λ i _=>z.cps.size<=i⟩
theorem zdw {P:Program} {w:World} {K:Fg} {tg:Expr} (z:Str) (t:Tok) (it:Addr):Turn P w K tg (Its z) [it] it (λ i h=>h.IsStrIter it "str_ascii_iterator" z t i) where
 mem:=by simp
 obj:=λ i h st b hb=>by
  have e:b=it:=by simpa using hb
  subst e
  obtain ⟨o,e,c,d⟩:=st
  exact ⟨o,e,λ v z=>by rw [d] at z;cases z⟩
 keep:=λ i h h' st k=>by
  obtain ⟨o,e,c,d⟩:=st
  exact ⟨o,k it (by simp) o e,c,d⟩
 item:=by
  intro X hP hw hK hc i pins s Y H E I hf st hg
  subst hP hw hK
  have hg':i < z.cps.size:=hg
  obtain ⟨f0,f1,f2,f3,f4,f5⟩:=hf it (by simp)
  have hx:z.cps[i]?=some z.cps[i]:=by simp [hg']
  refine wpAny_pyNext_ascii_item st hx λ h' st' sb=>?_
  have I1:Inv X pins Y H { s with heap:=h',toks:=s.toks+1 }:=I.turned (t':=s.toks+1) (λ b o hb e=>(sb.2 b hb).trans e) f0 f1 f3 f4 f5
  obtain ⟨o,e,c,d⟩:=id st'
  exact ⟨_,rfl,zw31 (s:={ s with heap:=h',toks:=s.toks+1 }) e c d (by decide) ⟨.str ⟨#[z.cps[i]]⟩,H,I1,⟨_,rfl⟩,⟨rfl,_,hx,rfl⟩,st',λ b hb=>(hf b hb).1⟩⟩
 done:=by
  intro X hP hw hK hc i pins s Y H E I hf st hg
  subst hP hw hK
  have hg':z.cps.size<=i:=hg
  obtain ⟨f0,f1,f2,f3,f4,f5⟩:=hf it (by simp)
  have hx:z.cps[i]?=none:=by simp [hg']
  exact wpAny_pyNext_ascii_end (I.ok.hd hc) st hx λ h' eb=>⟨rfl,I.turned (t':=s.toks) (λ b o hb e=>eb b o hb e) f0 f1 f3 f4 f5⟩
 self:=λ A i s Q E st h=>wpAny_pyIter_striter_ascii st h
def zvx:V->List V->Hp->VK->Prop:=λ x vs H Q=>∃ a xs y,x=.ref a/\vs=[y]/\H a=some (.lst xs)/\zct y=true/\xs.all zct=true/\∃ j:Nat,(∃ z,xs[j]?=some z/\eqV z y=true)/\(∀ (m:Nat) z,m < j->xs[m]?=some z->eqV z y=false)/\Q (.int j) H
theorem zno:MtM X "list.index" zvx:=by
 intro pins s Y H x vs v us Q I rx rv h
 obtain ⟨a,xs,y,rfl,rfl,hH,fy,fx,j,⟨z,hz,ez⟩,hno,q⟩:=h
 cases rx
 obtain ⟨u,rfl,ru⟩:=rv.one
 obtain ⟨zz,its,n,r,hl,e⟩:=I.lstM hH
 have hj:j < its.length:=by have:=(List.getElem?_eq_some_iff.mp hz).1;lia
 have s16:sizeLine=16777216:=sizeLine_eq
 have at_:∀ (m:Nat) (hm:m < its.length),∃ z,xs[m]?=some z/\eqU y its[m]=eqV z y:=λ m hm=>by
  have hx:m < xs.length:=by lia
  obtain ⟨w,hw,rw'⟩:=r.get (i:=m) (x:=xs[m]) (List.getElem?_eq_getElem hx)
  have e1:its[m]=w:=by
   have:=List.getElem?_eq_getElem hm
   rw [this] at hw
   exact Option.some.inj hw
  exact ⟨xs[m],List.getElem?_eq_getElem hx,by rw [e1];exact zcz rw' (List.all_eq_true.mp fx _ (List.getElem_mem hx))⟩
 refine call_meets F.slot_list_index ⟨_,e,rfl⟩ F.entry_list_index (F.args_list_index_2 _ _) (SeqAt.list_indexAt a its.toArray n none #[] u (eqU y) j (by simpa using hj) (by lia) ?_ ?_) ⟨e,λ w hw=>zpl ru fy r fx w (by simpa using hw),⟨.int j,H,I.tok _,⟨_,rfl⟩,q⟩⟩
 ·obtain ⟨z',hz',e'⟩:=at_ j hj
  rw [hz] at hz'
  cases hz'
  simpa [e'] using ez
 ·intro m hm hmj
  obtain ⟨z',hz',e'⟩:=at_ m (by simpa using hm)
  have:=hno m z' hmj hz'
  simpa [e'] using this
end
theorem zz7 {P:Program} {w:World} {H:Hp} {h:Heap} {a:Addr} {o:HO} (x:ObjOk P w H h a o):∃ ob,h.get? a=some ob:=by
 cases o with
|lst xs=>obtain ⟨_,_,_,_,e⟩:=x;exact ⟨_,e⟩
|tup xs=>obtain ⟨_,_,_,o,e,_⟩:=x;exact ⟨o,e⟩
|dK kvs=>obtain ⟨_,_,_,_,o,_,_,e,_⟩:=x;exact ⟨o,e⟩
|dT kvs=>obtain ⟨_,_,_,_,o,_,_,e,_⟩:=x;exact ⟨o,e⟩
|set S n=>obtain ⟨o,_,_,_,e,_⟩:=x;exact ⟨o,e⟩
|ins C dx fs=>obtain ⟨_,_,_,e,_⟩:=x;exact ⟨_,e⟩
|own y=>exact x
|xd fs=>obtain ⟨_,⟨_,_,_,e,_⟩,_⟩:=x;exact ⟨_,e⟩
|rng lo hi=>obtain ⟨_,_,_,e⟩:=x;exact ⟨_,e⟩
|frz ob u=>obtain ⟨e,_⟩:=x;exact ⟨_,e⟩
|tbl ps=>exact ⟨_,(show h.get? a=some _ from x)⟩
|met f y=>exact ⟨_,(show h.get? a=some _ from x)⟩
|ext φ=>obtain ⟨_,e,_⟩:=x;exact e
theorem zb01 {K:Fg} {mg:Str->Option Value} {base:Heap} (M:Mod K mg base) (p:Program):∃ loose mb,PySem.W.TopRead p loose mg mb base:=by
 obtain ⟨o,es,ep,ho,hd,hk,hf⟩:=id M.glob
 obtain ⟨mb,hb,hbb⟩:=M.blt
 refine ⟨es.toList.filterMap λ e=>match e.key with|.str n _=>some n|_=>none,mb,M.glob,hb,M.nolimit,hbb,λ x _ hx _ _ _=>?_⟩
 rw [<- hf x]
 cases q:nsFind es x with
|none=>rfl
|some v =>
  exfalso
  unfold nsFind findBy at q
  cases z:es.find? (λ e=>e.key.isStr x) with
 |none=>rw [z] at q;cases q
 |some e =>
   have h1:=Array.find?_some z
   have h2:=Array.mem_of_find?_eq_some z
   apply hx
   refine List.mem_filterMap.mpr ⟨e,by simpa using h2,?_⟩
   obtain ⟨n,t,hn⟩:=hk e h2
   have h1':e.key.isStr x=true:=h1
   rw [hn] at h1' ⊢
   have:n=x:=by simpa [Value.isStr] using h1'
   rw [this]
abbrev vbm:List Value:=[.type "ValueError",.type "Exception",.type "BaseException",.type "object"]
structure XCls (K:Fg) (x:Str) (C:Addr):Prop where
 at_:PySem.W.nsIn K mainGlobals x=some (some (.ref C))
 ok:PySem.W.excIn K C vbm "ValueError.__new__"=true
theorem zg71 {K:Fg} {mg:Str->Option Value} {base:Heap} {x:Str} {C:Addr} (M:Mod K mg base) (c:XCls K x C):OwnCls x C vbm "ValueError.__new__" mg base:=by
 obtain ⟨loose,mb,T⟩:=zb01 M ⟨⟨[],⟨.module,[],false,false,[]⟩,false, "",[]⟩,[],[],[],[],{ argv:=[],stdin:=[],environ:=none }⟩
 exact PySem.W.own_of_in M.kin T c.at_ c.ok
def zjo (X:Cx) (E:XK):Prop:=∀ (pins:List (Addr×Obj)) (Y:St) (H:Hp) (s:Shared) (h':Heap) (ea C:Addr) (vs:List Value),Inv X pins Y H s->Heap.MadeExcOf s.heap h' ea (.ref C) vs->E (.ref C) none H->X.xe (.ref ea) { s with heap:=h' }
def zd31 (C:Addr) (E:XK) (t:TA):TS:=λ _ Y H=>t Y H λ vs H1=>vs.length<=sizeLine/\E (.ref C) none H1
theorem ziw {X:Cx} {E:XK} {C:Addr} {x:Str} {np cpos pos:Pos} {e:Expr} {es:List Expr} {t:TA} (hx:zjo X E) (c:XCls X.K x C) (hc:X.calm=true) (hg:Gl X x) (ha:PA X (e :: es) t) (hdb:(x == ("__debug__":Str))=false:=by decide)
  (he:starEach (e :: es) X.env=(false,eval e X.env) :: starEach es X.env:=by rfl) (hpl:(backTo cpos (starEach es X.env)).any (·.1)=false:=by rfl):PS X (.Raise (some (.Call (.Name x np) (e :: es) [] cpos)) none pos) (zd31 C E t):=by
 intro pins s Y H D I h
 obtain ⟨bnd,tl,N,nm,q,bs,hdct,sn,sub,ab,col,dd,k0,k1,k2,k3,k5,mN,hC,hN,hni,T⟩:=zg71 I.mod c
 refine wpAny_Raise_call_subT (C:=C) (nm:=nm) (q:=q) (N:=N) (bs:=bs) (bm:=tl) (hdct:=hdct) (sn:=sn) (sub:=sub) (ab:=ab) (col:=col) (dd:=dd) (k0:=k0) (k1:=k1) (k2:=k2) (k3:=k3) (k5:=k5)
  PySem.F.excBase_ValueError (mN:=mN) (T.hasType (by decide)) (I.ok.hd hc) (by rw [he];show (false || (backTo cpos (starEach es X.env)).any (·.1))=false;rw [hpl];rfl) hni (zwc I hg bnd ⟨rfl,?_⟩ hdb)
 have hA:=ha cpos pins s Y H _ I h
 rw [he] at hA ⊢
 refine Calls.evalArgs_plain (thn hA λ us s1 ⟨vs,H1,I1,r,hz,q1⟩=>⟨rfl,by rw [<- r.length];exact hz,I1.bk _ _ hC,hN.keeps I1.bk,T.keeps I1.bk,λ h' ea m=>?_⟩)
 exact hx pins Y H1 s1 h' ea C us I1 m q1
def CX1 (P:Program) (w:World):CXT:=λ outer H s E e s'=>∃ (ea C:Addr) (B:Heap) (a0:Value) (H':Hp),e=.ref ea/\Heap.FlyingW B outer ea (.ref C) a0 s'.heap/\s'.os=s.os/\AllBare s'.gens/\Un (frs outer) [] H H' s.heap s'.heap/\HOk P w H' s'.heap /\
 (∀ b o u,s'.heap.get? b=some o->H' b=some u->B.get? b=some o)/\(∀ b o,s.heap.get? b=some o->H b=none->b ∉ frs outer->B.get? b=some o)/\(∀ b o,s.heap.get? b=some o->b ∉ frs outer->∃ o',B.get? b=some o')/\E (.ref C) none H'
section
variable {P:Program} {w:World} {K:Fg} {mg:Str->Option Value} {base:Heap} {N:List Str} {qual:Str} {scope:Scope} {f:Addr} {cd:Value} {A:Around} {outer:List Env} {s:Shared} {H:Hp} {E:XK}
theorem zpn:zjo (cxOf (CX1 P w) P w K mg base N qual scope f cd A outer s H E) E:=by
 intro pins Y H1 s1 h' ea C vs I m hE
 show wpAny (model P w) (A.deeper (envOfC qual scope s.heap.objs.size f cd)) (leaving (envOfC qual scope s.heap.objs.size f cd) (.ref ea)) (λ _ s''=>CX1 P w outer H s E (.ref ea) s'') (λ e' s''=>CX1 P w outer H s E e' s'') { s1 with heap:=h' }
 obtain ⟨t,he,ht0,ht⟩:=m.there
 have stk:s1.heap.FunFrames base (envOfC qual scope s.heap.objs.size f cd :: outer):=I.stack
 have hin:∀ env∈(envOfC qual scope s.heap.objs.size f cd :: outer),∀ b,env.frame=some b->b∈frs (envOfC qual scope s.heap.objs.size f cd :: outer):=λ env he b hb=>List.mem_filterMap.mpr ⟨env,he,hb⟩
 have hen:(PySem.W.hideAll s1.heap (frs (envOfC qual scope s.heap.objs.size f cd :: outer))).get? ea=none:=by
  cases q:(PySem.W.hideAll s1.heap (frs (envOfC qual scope s.heap.objs.size f cd :: outer))).get? ea with
 |none=>rfl
 |some o=>have:=PySem.W.of_hideAll _ q;rw [m.new] at this;cases this
 refine wpAny_leaving_firstW (a0:=.ref t) (show (A.deeper (envOfC qual scope s.heap.objs.size f cd)).frames=some (envOfC qual scope s.heap.objs.size f cd :: outer) from I.ok.frames) ((PySem.W.funFrames_hide stk hin).of_keeps λ b o hb _=>⟨o,m.keeps b o hb,rfl⟩) (L:=s.heap.objs.size) rfl he
  (λ b o hb=>m.keeps b o (PySem.W.of_hideAll _ hb)) hen rfl rfl rfl λ h'' hL=>?_
 obtain ⟨k1,⟨_,_,k2⟩,k3,k4⟩:=hL
 have u:Un (frs outer) [] H H1 s.heap s1.heap:=I.base
 have nL:∀ b o,s.heap.get? b=some o->b ∉ frs outer->b ∉ frs (envOfC qual scope s.heap.objs.size f cd :: outer):=λ b o e hb z=>by
  have z':b=s.heap.objs.size \/ b∈frs outer:=by
   have:frs (envOfC qual scope s.heap.objs.size f cd :: outer)=s.heap.objs.size :: frs outer:=rfl
   rw [this] at z
   exact List.mem_cons.mp z
  rcases z' with z'|z'
  ·exact absurd (Heap.lt_size e) (by rw [z'];exact Nat.lt_irrefl _)
  ·exact hb z'
 have inB:∀ b o,s1.heap.get? b=some o->b ∉ frs (envOfC qual scope s.heap.objs.size f cd :: outer)->(PySem.W.hideAll s1.heap (frs (envOfC qual scope s.heap.objs.size f cd :: outer))).get? b=some o:=λ b o e n=>PySem.W.hideAll_get _ e n
 have trk:∀ b u,H1 b=some u->b ∉ frs (envOfC qual scope s.heap.objs.size f cd :: outer):=λ b u e z=>by
  have:=I.stkFree b z
  rw [e] at this;cases this
 have slotOf:∀ b,b∈frs (envOfC qual scope s.heap.objs.size f cd :: outer)->∀ o,s1.heap.get? b=some o->∃ sl,h''.get? b=some { o with slots:=sl }:=λ b hb o e=>by
  obtain ⟨_,o',e',hd⟩:=stk.mem hb
  rw [e] at e';cases e'
  exact k4 b o (m.keeps b o e) hd
 refine ⟨ea,C,_,.ref t,H1,rfl,⟨k1,hen,k2,k3⟩,I.os,I.bare,⟨λ b o e n hb hx=>?_,λ b o e n hb hx=>?_,u.free,λ b o e hx=>?_,u.tups,u.frzs,u.tbls⟩,λ b o e=>?_,λ b o v e1 e2=>?_,λ b o e n hb=>?_,λ b o e hb=>?_,hE⟩
 ·exact k1 b o (inB b o (u.keep b o e n hb hx) (nL b o e hb))
 ·obtain ⟨sl,q⟩:=u.slot b o e n hb hx
  obtain ⟨sl',q'⟩:=slotOf b (List.mem_cons_of_mem _ hb) _ q
  exact ⟨sl',q'⟩
 ·obtain ⟨o',q⟩:=u.there b o e hx
  by_cases hb:b∈frs (envOfC qual scope s.heap.objs.size f cd :: outer)
  ·obtain ⟨sl,q'⟩:=slotOf b hb o' q
   exact ⟨_,q'⟩
  ·exact ⟨o',k1 b o' (inB b o' q hb)⟩
 ·refine (I.hok b o e).stay (λ c v hc q=>k1 c v (inB c v q ?_)) (λ _ q=>q) λ _ _ q=>q
  rcases hc with z|z
  ·rw [z];exact trk b o e
  ·exact trk c _ z
 ·obtain ⟨o1,q1⟩:=zz7 (I.hok b v e2)
  have q2:=inB b o1 q1 (trk b v e2)
  have q3:=k1 b o1 q2
  rw [e1] at q3
  cases q3
  exact q2
 ·exact inB b o (u.keep b o e n hb (by simp)) (nL b o e hb)
 ·obtain ⟨o',q⟩:=u.there b o e (by simp)
  exact ⟨o',inB b o' q (nL b o e hb)⟩
theorem ztm:zyf (CX1 P w) (cxOf (CX1 P w) P w K mg base N qual scope f cd A outer s H E) E:=by
 intro pins Y H1 s1 e s2 I h
 obtain ⟨ea,C,B,a0,H2,rfl,hfl,hos,hbare,u2,hok,hB,hB2,hB3,hE⟩:=h
 show wpAny (model P w) (A.deeper (envOfC qual scope s.heap.objs.size f cd)) (leaving (envOfC qual scope s.heap.objs.size f cd) (.ref ea)) (λ _ s''=>CX1 P w outer H s E (.ref ea) s'') (λ e' s''=>CX1 P w outer H s E e' s'') s2
 have hfl':Heap.FlyingW B (envOfC qual scope s.heap.objs.size f cd :: outer) ea (.ref C) a0 s2.heap:=hfl
 refine wpAny_leaves_onW (show (A.deeper (envOfC qual scope s.heap.objs.size f cd)).frames=some (envOfC qual scope s.heap.objs.size f cd :: outer) from I.ok.frames) (L:=s.heap.objs.size) rfl hfl' λ h'' x1 x2=>?_
 have u1:Un (frs outer) [] H H1 s.heap s1.heap:=I.base
 have u2':Un (frs (envOfC qual scope s.heap.objs.size f cd :: outer)) [] H1 H2 s1.heap s2.heap:=u2
 have nL:∀ b o,s.heap.get? b=some o->b ∉ frs outer->b ∉ frs (envOfC qual scope s.heap.objs.size f cd :: outer):=λ b o e hb z=>by
  have z':b=s.heap.objs.size \/ b∈frs outer:=List.mem_cons.mp (show b∈s.heap.objs.size :: frs outer from z)
  rcases z' with z'|z'
  ·exact absurd (Heap.lt_size e) (by rw [z'];exact Nat.lt_irrefl _)
  ·exact hb z'
 have k1:=x1.1
 have toB:∀ b o,s.heap.get? b=some o->H b=none->b ∉ frs outer->B.get? b=some o:=λ b o e n hb=>hB2 b o (u1.keep b o e n hb (by simp)) (u1.free b o e n (by simp)) (nL b o e hb)
 have toB3:∀ b o,s.heap.get? b=some o->b ∉ frs outer->∃ o',B.get? b=some o':=λ b o e hb=>by
  obtain ⟨o1,q1⟩:=u1.there b o e (by simp)
  exact hB3 b o1 q1 (nL b o e hb)
 refine ⟨ea,C,B,a0,H2,rfl,x1,hos.trans I.os,hbare,⟨λ b o e n hb hx=>k1 b o (toB b o e n hb),λ b o e n hb hx=>?_,λ b o e n hx=>?_,λ b o e hx=>?_,λ b xs q=>u2'.tups b xs (u1.tups b xs q),λ b o v q=>u2'.frzs b o v (u1.frzs b o v q),λ b ps q=>?_⟩,λ b o e=>?_,λ b o v e1 e2=>?_,toB,toB3,hE⟩
 ·obtain ⟨sl,q⟩:=u1.slot b o e n hb (by simp)
  obtain ⟨sl',q'⟩:=u2'.slot b _ q (u1.free b o e n (by simp)) (List.mem_cons_of_mem _ hb) (by simp)
  have st:=I.stack.mem (b:=b) (List.mem_cons_of_mem _ hb)
  obtain ⟨_,o',e',hd⟩:=st
  rw [q] at e';cases e'
  obtain ⟨sl2,q2⟩:=x2 b _ q' hd
  exact ⟨sl2,q2⟩
 ·obtain ⟨o',q⟩:=u1.there b o e (by simp)
  exact u2'.free b o' q (u1.free b o e n (by simp)) (by simp)
 ·by_cases hb:b∈frs outer
  ·obtain ⟨o1,q1⟩:=u1.there b o e (by simp)
   have nb:H1 b=none:=I.stkFree b (List.mem_cons_of_mem _ hb)
   obtain ⟨sl',q'⟩:=u2'.slot b _ q1 nb (List.mem_cons_of_mem _ hb) (by simp)
   have st:=I.stack.mem (b:=b) (List.mem_cons_of_mem _ hb)
   obtain ⟨_,o',e',hd⟩:=st
   rw [q1] at e';cases e'
   obtain ⟨sl2,q2⟩:=x2 b _ q' hd
   exact ⟨_,q2⟩
  ·obtain ⟨o',q⟩:=toB3 b o e hb
   exact ⟨o',k1 b o' q⟩
 ·obtain ⟨m1,q1⟩:=u1.tbls b ps q
  obtain ⟨m2,q2⟩:=u2'.tbls b _ q1
  exact ⟨m1++m2,by rw [q2,Array.append_assoc]⟩
 ·refine (hok b o e).stay (λ c v hc q=>k1 c v ?_) (λ _ q=>q) λ _ _ q=>q
  rcases hc with z|z
  ·exact hB c v o (by rw [z] at q ⊢;exact q) (by rw [z];exact e)
  ·exact hB c v _ q z
 ·obtain ⟨o1,q1⟩:=zz7 (hok b v e2)
  have q2:=hB b o1 v q1 e2
  have q3:=k1 b o1 q2
  rw [e1] at q3
  cases q3
  exact q2
end
structure Come (X:Cx) (H:Hp) (s:Shared) (ea C:Addr) (B:Heap) (a0:Value) (H':Hp) (s':Shared):Prop where
 os:s'.os=s.os
 bare:AllBare s'.gens
 un:Un (frs X.stack) [] H H' s.heap s'.heap
 hok:HOk X.prog X.w H' s'.heap
 b1:∀ b o u,s'.heap.get? b=some o->H' b=some u->B.get? b=some o
 b2:∀ b o,s.heap.get? b=some o->H b=none->b ∉ frs X.stack->B.get? b=some o
 b3:∀ b o,s.heap.get? b=some o->b ∉ frs X.stack->∃ o',B.get? b=some o'
section
variable {X:Cx} {pins:List (Addr×Obj)} {Y:St} {H H':Hp} {s s':Shared} {ea C:Addr} {B:Heap} {a0:Value}
theorem zxl (I:Inv X pins Y H s) (c:Come X H s ea C B a0 H' s') {h:Heap} {tk:Nat} (k1:B.StaysIn h) (x2:s'.heap.UpToSlots h):Inv X pins Y H' { s' with heap:=h,toks:=tk }:=by
 refine I.call' (s':={ s' with heap:=h,toks:=tk }) (ch:=[]) c.os ⟨λ b o e n hb hx=>k1 b o (c.b2 b o e n hb),λ b o e n hb hx=>?_,c.un.free,λ b o e hx=>?_,c.un.tups,c.un.frzs,c.un.tbls⟩ (λ b o e=>?_) c.bare λ b z=>absurd z (by simp)
 ·obtain ⟨sl,q⟩:=c.un.slot b o e n hb hx
  obtain ⟨_,o',e',hd⟩:=I.stack.mem (b:=b) hb
  rw [e] at e';cases e'
  obtain ⟨sl2,q2⟩:=x2 b _ q hd
  exact ⟨sl2,q2⟩
 ·by_cases hb:b∈frs X.stack
  ·have nb:H b=none:=I.stkFree b hb
   obtain ⟨sl,q⟩:=c.un.slot b o e nb hb hx
   obtain ⟨_,o',e',hd⟩:=I.stack.mem (b:=b) hb
   rw [e] at e';cases e'
   obtain ⟨sl2,q2⟩:=x2 b _ q hd
   exact ⟨_,q2⟩
  ·obtain ⟨o',q⟩:=c.b3 b o e hb
   exact ⟨o',k1 b o' q⟩
 ·refine (c.hok b o e).stay (λ d v hc q=>k1 d v ?_) (λ _ q=>q) λ _ _ q=>q
  rcases hc with z|z
  ·exact c.b1 d v o q (by rw [z];exact e)
  ·exact c.b1 d v _ q z
def zq11 (X:Cx) (ea:Addr):Cx:={ X with A:=X.A.mark (some (.ref ea)),calm:=false,xe:=λ _ _=>False }
theorem znm (I:Inv X pins Y H s) (ea:Addr):Inv (zq11 X ea) pins Y H s :=
 ⟨⟨I.ok.mod,I.ok.kind,I.ok.glob,I.ok.blt,I.ok.above,I.ok.inj,I.ok.has,I.ok.cab,λ z=>Bool.noConfusion z,I.ok.frames,I.ok.stk,I.ok.exf,I.ok.bs,I.ok.bsz,I.ok.noex,I.ok.exfs,I.ok.funs,I.ok.frf⟩,I.os,I.bare,I.base,I.loc,I.cell,I.free,I.freeC,I.pin,I.hok,I.len⟩
end
inductive Hands (X:Cx):List ExceptHandler->List (Value×TS)->Prop
|nil:Hands X [] []
|cons {x:Str} {np pos:Pos} {b₀:Stmt} {suite:List Stmt} {c:Value} {t:TS} {hs:List ExceptHandler} {l:List (Value×TS)}:Gl X x->(X.mg x=some c \/ (X.mg x=none/\bootBuiltins x=some c/\x ≠ "__name__"))->(x == ("__debug__":Str))=false->(∀ ea,PSs (zq11 X ea) (b₀ :: suite) t)->Hands X hs l ->
   Hands X (.ExceptHandler (some (.Name x np)) none (b₀ :: suite) pos :: hs) ((c,t) :: l)
section
variable {X:Cx} {pins:List (Addr×Obj)} {Y:St} {H H':Hp} {s s':Shared} {ea C:Addr} {B:Heap} {a0:Value}
def zm9 (CX:CXT) (X:Cx) (E:XK) (Y:St):Prop:=∀ (pins:List (Addr×Obj)) (H:Hp) (s:Shared) (e:Value) (s':Shared),Inv X pins Y H s->CX X.stack H s E e s'->X.xe e s'
def tryX (X:Cx) (D:Ends) (hs:List ExceptHandler):Value->Shared->Prop:=λ e s₁=>wpAny (model X.prog X.w) X.A (noteFrame e X.env) (λ _ s₂=>wpAny (model X.prog X.w) X.A (setFlight e none) (λ _ s₃=>wpAny (model X.prog X.w) X.A (handleBy e X.env hs) (SP X [] D) X.xe s₃) X.xe s₂) X.xe s₁
end
def zil (X:Cx) (pn:List (Addr×Obj)) (xe:Value->Shared->Prop):Cx:={ X with pn:=pn,xe:=xe }
section
variable {X:Cx} {pins:List (Addr×Obj)} {Y:St} {H:Hp} {s:Shared}
theorem ze11 (ok:X.Ok) (pn:List (Addr×Obj)) (xe:Value->Shared->Prop):(zil X pn xe).Ok:=⟨ok.mod,ok.kind,ok.glob,ok.blt,ok.above,ok.inj,ok.has,ok.cab,ok.hd,ok.frames,ok.stk,ok.exf,ok.bs,ok.bsz,ok.noex,ok.exfs,ok.funs,ok.frf⟩
theorem zut (I:Inv X pins Y H s) (xe:Value->Shared->Prop):Inv (zil X (X.pn++pins) xe) [] Y H s :=
 ⟨ze11 I.ok _ _,I.os,I.bare,I.base,I.loc,I.cell,I.free,I.freeC,λ p hp=>I.pin p (by have hp':p∈(X.pn++pins)++[]:=hp;rw [List.append_nil] at hp';exact hp'),I.hok,I.len⟩
theorem zsm {pn:List (Addr×Obj)} {xe xe':Value->Shared->Prop} {ps:List (Addr×Obj)} (I:Inv (zil X pn xe) ps Y H s):Inv (zil X pn xe') [] Y H s :=
 ⟨⟨I.ok.mod,I.ok.kind,I.ok.glob,I.ok.blt,I.ok.above,I.ok.inj,I.ok.has,I.ok.cab,I.ok.hd,I.ok.frames,I.ok.stk,I.ok.exf,I.ok.bs,I.ok.bsz,I.ok.noex,I.ok.exfs,I.ok.funs,I.ok.frf⟩,I.os,I.bare,I.base,I.loc,I.cell,I.free,I.freeC,λ p hp=>I.pin p (List.mem_append_left _ (by have hp':p∈pn++[]:=hp;rw [List.append_nil] at hp';exact hp')),I.hok,I.len⟩
theorem zd5 (ok:X.Ok) {xe:Value->Shared->Prop} (I:Inv (zil X (X.pn++pins) xe) [] Y H s):Inv X pins Y H s :=
 ⟨ok,I.os,I.bare,I.base,I.loc,I.cell,I.free,I.freeC,λ p hp=>I.pin p (List.mem_append_left _ hp),I.hok,I.len⟩
theorem zg4 (ok:X.Ok) {xe:Value->Shared->Prop} {D:Ends} {f:Flow} (h:SP (zil X (X.pn++pins) xe) [] D f s):SP X pins D f s:=by
 cases f with
|next=>obtain ⟨Y',H',I,q⟩:=h;exact ⟨Y',H',zd5 ok I,q⟩
|brk=>obtain ⟨Y',H',I,q⟩:=h;exact ⟨Y',H',zd5 ok I,q⟩
|cont=>obtain ⟨Y',H',I,q⟩:=h;exact ⟨Y',H',zd5 ok I,q⟩
|ret u=>obtain ⟨v,Y',H',I,r,q⟩:=h;exact ⟨v,Y',H',zd5 ok I,r,q⟩
def tTry (tb:Ends->TS):TS:=λ D Y H=>tb D D Y H
end
def Def1 (P:Program) (w:World) (K:Fg) (mg:Str->Option Value) (base:Heap) (x:Str) (k:Nat) (ps:List Str) (sp:Sp):Prop :=
 ∃ f fd,FnOk P w K mg base (CX1 P w) k f fd ps sp/\Binds K fd ps []/\PySem.W.keepIn K (.ref f)=true/\mg x=some (.ref f)
def zpz (P:Program) (w:World) (K:Fg) (mg:Str->Option Value) (base:Heap) (C:Addr) (m:Str) (k:Nat) (ps:List Str) (sp:Sp):Prop :=
 ∃ f fd,Cls K C/\Meth K C m f/\FnOk P w K mg base (CX1 P w) k f fd ps sp/\Binds K fd ps []
section
variable {X:Cx} {k:Nat} {f C:Addr} {fd:FuncData} {ps:List Str} {sp:Sp} {x m:Str} {p pos apos:Pos} {e o:Expr} {es:List Expr} {ta:TE} {t:TA} {EY:St->XK}
theorem zo11 {pins:List (Addr×Obj)} {Y:St} {H:Hp} {s:Shared} {Q:VK} {us:List Value} {vs:List V} (F:FnOk X.prog X.w X.K X.mg X.base (CX1 X.prog X.w) k f fd ps sp) (hr:Room k X.A) (hb:Binds X.K fd ps []) (hx:zm9 (CX1 X.prog X.w) X (EY Y) Y)
  (I:Inv X pins Y H s) (r:Vals vs us) (h:sp vs H Q (EY Y)):wpAny (model X.prog X.w) X.A (call (.ref f) us) (EP X pins Y Q) X.xe s:=by
 have hl:us.length=ps.length:=by rw [<- r.length];exact F.len _ _ _ _ h
 have bt:=hb s us I.kIn (by rw [List.append_nil];exact hl)
 rw [List.append_nil] at bt
 refine wpAny_call (codeAny_mono (F.run X.A X.stack s H ⟨us,[]⟩ us vs Q (EY Y) hr I.env0 bt r h) λ res s2 hq=>?_)
 cases res with
|error z=>exact hx pins H s z s2 I hq
|ok fl =>
  cases fl with
 |ret u=>exact I.after hq
 |next=>exact False.elim hq
 |brk=>exact False.elim hq
 |cont=>exact False.elim hq
def ztx (sp:Sp) (EY:St->XK) (t:TA):TE:=λ Y H Q=>t Y H λ vs H1=>sp vs H1 Q (EY Y)
theorem zvt (d:Def1 X.prog X.w X.K X.mg X.base x k ps sp) (hr:Room k X.A) (hg:Gl X x) (hx:∀ Y,zm9 (CX1 X.prog X.w) X (EY Y) Y) (ha:PA X (e :: es) t) (hdb:(x == ("__debug__":Str))=false:=by decide)
  (he:starEach (e :: es) X.env=(false,eval e X.env) :: starEach es X.env:=by rfl) (hpl:(backTo pos (starEach es X.env)).any (·.1)=false:=by rfl):PE X (.Call (.Name x p) (e :: es) [] pos) (ztx sp EY t):=by
 obtain ⟨f,fd,F,b,kp,mm⟩:=d
 intro pins s Y H Q I h
 refine wpAny_Call_Name_kw (zwc I hg mm ?_ hdb)
 refine PySem.W.callWith_K (h₀:=X.base) I.ok.mod.kin kp (thn (ha pos pins s Y H _ I h) λ us s1 ⟨vs,H1,I1,r,q⟩=>⟨I1.kIn,?_⟩) he hpl
 exact zo11 F hr b (hx Y) I1 r q
theorem zai {P:Program} {w:World} {K:Fg} {mg:Str->Option Value} {base:Heap} {N:List Str} {qual:Str} {scope:Scope} {f:Addr} {cd:Value} {A:Around} {outer:List Env} {s:Shared} {H:Hp} {E:XK} (Y:St) :
  zm9 (CX1 P w) (cxOf (CX1 P w) P w K mg base N qual scope f cd A outer s H E) E Y:=λ pins H1 s1 e s2 I c=>ztm pins Y H1 s1 e s2 I c
def zsy (P:Program) (w:World) (K:Fg) (mg:Str->Option Value) (base:Heap) (m:Str) (k:Nat) (EY:St->XK) (ta:TE) (t:TA):TE:=λ Y H Q=>ta Y H λ x H1=>∃ a C dx fs ps sp,x=.ref a/\H1 a=some (.ins C dx fs)/\fs.lookup m=none /\
 zpz P w K mg base C m k ps sp/\t Y H1 λ vs H2=>sp (x :: vs) H2 Q (EY Y)
end
section
variable {P:Program} {w:World} {K:Fg} {mg:Str->Option Value} {base:Heap}
abbrev zy8 (P:Program) (w:World) (K:Fg) (mg:Str->Option Value) (base:Heap) (qual:Str) (st:Stmt) (N:List Str) (k:Nat) (sp:Sp):Prop :=
 ∀ (f:Addr) (cdv:Value) (A:Around) (outer:List Env) (s:Shared) (H:Hp) (vs:List V) (Q:VK) (E:XK),Room k (A.deeper (envOfC qual (zf0 st) s.heap.objs.size f cdv))->sp vs H Q E ->
   ∃ t,PSs (cxOf (CX1 P w) P w K mg base N qual (zf0 st) f cdv A outer s H E) (zu1 st) t/\t { nx:=λ _ H'=>Q .non H',rt:=Q } (start N vs) H
theorem zit {x qual:Str} {st:Stmt} {f:Addr} {fd:FuncData} {N ps:List Str} {k:Nat} {sp:Sp} (F:Fun K x qual st f fd) (S:FnScope N ps (zf0 st)) (len:∀ vs H Q E,sp vs H Q E->vs.length=ps.length)
  (body:zy8 P w K mg base qual st N k sp):FnOk P w K mg base (CX1 P w) (k+1) f fd ps sp:=by
 obtain ⟨oc,od,kV,doc,pm,an,cdv,ct,osl,rfl,lk,hcd⟩:=F.ex
 exact zg91 lk hcd S len λ A outer s H vs Q E hr hsp=>body f cdv A outer s H vs Q E hr hsp
theorem zc01 {x:Str} {st:Stmt} {N ps:List Str} {k:Nat} {sp:Sp} (M:Md K mg) (T:TopDef K x st) (S:FnScope N ps (zf0 st)) (hb:zi6 x x st ps) (len:∀ vs H Q E,sp vs H Q E->vs.length=ps.length)
  (body:zy8 P w K mg base x st N k sp):Def1 P w K mg base x (k+1) ps sp:=by
 obtain ⟨f,fd,a,F⟩:=T.ex
 exact ⟨f,fd,zit F S len body,F.binds hb,F.kp,M.got a⟩
theorem zww {C:Addr} {m qual:Str} {st:Stmt} {N ps:List Str} {k:Nat} {sp:Sp} (c:Cls K C) (T:TopMeth K C m qual st) (S:FnScope N ps (zf0 st)) (hb:zi6 m qual st ps) (len:∀ vs H Q E,sp vs H Q E->vs.length=ps.length)
  (body:zy8 P w K mg base qual st N k sp):zpz P w K mg base C m (k+1) ps sp:=by
 obtain ⟨f,fd,a,i,F⟩:=T.ex
 exact ⟨f,fd,c,⟨a,i,F.kp⟩,zit F S len body,F.binds hb⟩
end
section
variable {X:Cx}
def repS (x:Str) (n:Nat):Str:=⟨(List.replicate n x.cps).foldl (·++·) #[]⟩
theorem zhv (c:List (Array Nat)):∀ a:Array Nat,c.foldl (·++·) a=a++(c.map Array.toList).flatten.toArray:=by
 induction c with
|nil=>intro a;simp
|cons y r ih=>intro a;rw [List.foldl_cons,ih,Array.append_assoc];congr 1;apply Array.toList_inj.mp;simp
theorem zuv (x:Str) (n:Nat):(repS x n).cps.toList=(List.replicate n x.cps.toList).flatten:=by
 unfold repS
 rw [zhv]
 simp
def zja1:R2:=λ x y H Q=>∃ z n,x=.str z/\y=.int n/\0<=n/\z.length * n.toNat<=sizeLine/\n<=sizeLine/\Q (.str (repS z n.toNat)) H
theorem zo31:OpR X (binaryOp .Mult) zja1:=by
 intro pins s Y H x y v u Q I rx ry h
 obtain ⟨z,n,rfl,rfl,h1,h2,h3,q⟩:=h
 obtain ⟨t,rfl⟩:=rx
 obtain ⟨t',rfl⟩:=ry
 have hl:sizeLine=16777216:=sizeLine_eq
 have hz:z.length=z.cps.size:=rfl
 by_cases n0:n=0
 ·subst n0
  refine P.mul_str (by rw [decide_eq_false (by lia),decide_eq_false (by lia)];rfl) (λ a b hc=>?_) (λ a b=>?_) ?_
  ·exact absurd a (by decide)
  ·exact decide_eq_false (by simp)
  ·rw [if_pos (by decide)]
   exact ⟨by decide,.str (repS z 0),H,I.tok _,⟨_,rfl⟩,q⟩
 have h1:0 < n:=by lia
 refine P.mul_str (by rw [decide_eq_false (by lia),decide_eq_false (by lia)];rfl) (λ _ _ hc=>?_) (λ _ _=>?_) ?_
 ·have h4:(2 ^ 63 - 1:Int) / n ≥ z.length:=by
   refine (Int.le_ediv_iff_mul_le h1).mpr ?_
   have h5:((z.length * n.toNat:Nat):Int)=(z.length:Int) * n:=by rw [Int.natCast_mul,Int.toNat_of_nonneg (by lia)]
   have h6:((z.length * n.toNat:Nat):Int)<=(sizeLine:Nat):=by exact_mod_cast h2
   lia
  lia
 ·exact decide_eq_false (by lia)
 ·rw [if_neg (by lia)]
  by_cases hc:(n == 1 || z.length == 0)=true
  ·rw [if_pos hc]
   refine ⟨.str (repS z n.toNat),H,I,⟨t,?_⟩,q⟩
   have:repS z n.toNat=z:=by
    have e:(repS z n.toNat).cps.toList=z.cps.toList:=by
     rw [zuv]
     rcases (Bool.or_eq_true _ _).mp hc with hc|hc
     ·have:n=1:=by simpa using hc
      subst this;simp
     ·have:z.cps.toList=[]:=by
       have:z.cps.size=0:=by simpa [hz] using hc
       simpa using this
      rw [this];simp
    cases z with|mk c =>
     show repS ⟨c⟩ n.toNat=⟨c⟩
     have e2:(repS ⟨c⟩ n.toNat).cps=c:=Array.toList_inj.mp e
     cases hq:repS ⟨c⟩ n.toNat with|mk d=>rw [hq] at e2;cases e2;rfl
   rw [this]
  ·rw [if_neg hc]
   exact ⟨fits_reps (decide_eq_false (by lia)),.str (repS z n.toNat),H,I.tok _,⟨_,rfl⟩,q⟩
end
section
variable {X:Cx}
def rSlS:V->Option Int->Option Int->Hp->VK->Prop:=λ x lo hi H Q=>∃ z,x=.str z/\z.length<=sizeLine/\Q (.str (Txt.slice z lo hi)) H
theorem zl21:SlR X rSlS:=by
 intro pins s Y H x v vl vu lo hi sl Q I rx hs pl pu h
 obtain ⟨z,rfl,hz,q⟩:=h
 obtain ⟨t,rfl⟩:=rx
 obtain ⟨o,ho,hc,hd⟩:=hs
 have go:∀ (l u:Option (Int×Tok)),partValue l=vl->partValue u=vu->l.map (·.1)=lo->u.map (·.1)=hi->wpAny (model X.prog X.w) X.A (getItem (.str z t) (.ref sl)) (EP X pins Y Q) X.xe s:=λ l u e1 e2 e3 e4=>by
  subst e3 e4
  refine wpAny_getItem_str_slice (l:=l) (u:=u) (st:=none) ⟨o,ho,hc,by rw [e1,e2];exact hd⟩ rfl (post_val_or_str ⟨Nat.le_trans (Txt.slice_le z _ _) hz,λ t' k=>?_⟩)
  exact ⟨.str (Txt.slice z (l.map (·.1)) (u.map (·.1))),H,I.tok _,⟨_,rfl⟩,q⟩
 refine ⟨"str",_,F.slot_str_getitem.lookup,typeIs_str _ _ _,?_⟩
 cases pl with
|none=>cases pu with
 |none=>exact go none none rfl rfl rfl rfl
 |int j u=>exact go none (some (j,u)) rfl rfl rfl rfl
|int i t=>cases pu with
 |none=>exact go (some (i,t)) none rfl rfl rfl rfl
 |int j u=>exact go (some (i,t)) (some (j,u)) rfl rfl rfl rfl
end
section
variable {prog:Program} {w:World} {A:Around} {E:Value->Shared->Prop} {s:Shared}
end
theorem zqr {X:Cx} {pins:List (Addr×Obj)} {Y:St} {H:Hp} {s:Shared} {b:Addr} {h':Heap} {tk:Nat} (I:Inv X pins Y H s) (f:FpOk X pins H b) (k:Heap.SameBut b s.heap h'):Inv X pins Y H { s with heap:=h',toks:=tk } :=
 let ⟨f0,f1,_,f3,f4,f5⟩:=f
 I.turned (λ c o hc e=>(k.2 c hc).trans e) f0 f1 f3 f4 f5
theorem zyx {X:Cx} {pins:List (Addr×Obj)} {Y:St} {H:Hp} {s:Shared} {b:Addr} {h':Heap} {tk:Nat} (I:Inv X pins Y H s) (f:FpOk X pins H b) (k:Heap.ExtBut b s.heap h'):Inv X pins Y H { s with heap:=h',toks:=tk } :=
 let ⟨f0,f1,_,f3,f4,f5⟩:=f
 I.turned (λ c o hc e=>k c o hc e) f0 f1 f3 f4 f5
section
variable {X:Cx} {pins:List (Addr×Obj)} {Y:St} {H:Hp} {s:Shared} {J1 J2:It} {z TI TO i1 i2:Addr} {st1 st2:Nat->Heap->Prop} {i:Nat}
end
section
variable {X:Cx} {elts:List Expr}
end
def entM (w:World) (e:Str×Tok×Value):DictEntry:=⟨PyData.keyHash w.params e.1,.str e.1 e.2.1,e.2.2⟩
structure KD (w:World) (K:Fg) (d:Addr) (kvs:List (Str×V)):Prop where
 ne:(d == sysModules)=false
 ex:∃ (l:List (Str×Tok×Value)) (n:Nat),K.lookup d=some { cls:=.type "dict",data:=.dict (l.map (entM w)).toArray n }/\Paired (λ (p:Str×V) (q:Str×Tok×Value)=>p.1=q.1/\RelV p.2 q.2.2) kvs l
theorem zz11 {w:World} {k:Str}:∀ {kvs:List (Str×V)} {l:List (Str×Tok×Value)},Paired (λ (p:Str×V) (q:Str×Tok×Value)=>p.1=q.1/\RelV p.2 q.2.2) kvs l ->
  RelO (kvs.lookup k) (((l.map (entM w)).find? λ e=>Value.isStrOf k e.key).map (·.val))
|_,_,.nil=>trivial
|_,_,.cons (a:=p) (b:=q) h r=>by
  obtain ⟨x,v⟩:=p
  obtain ⟨y,t,u⟩:=q
  obtain ⟨e,rv⟩:=h
  cases e
  have ih:=zz11 (w:=w) (k:=k) r
  show RelO (List.lookup k ((x,v) :: _)) (((entM w (x,t,u) :: _).find? λ e=>Value.isStrOf k e.key).map (·.val))
  rw [List.lookup_cons,List.find?_cons]
  by_cases hk:k=x
  ·subst hk
   have h1:(k == k)=true:=beq_self_eq_true k
   have h2:Value.isStrOf k (entM w (k,t,u)).key=true:=by simp [entM,Value.isStrOf]
   rw [h1,h2]
   exact rv
  ·have h1:(k == x)=false:=beq_eq_false_iff_ne.mpr hk
   have h2:Value.isStrOf k (entM w (x,t,u)).key=false:=by
    show (x == k)=false
    exact beq_eq_false_iff_ne.mpr λ e=>hk e.symm
   rw [h1,h2]
   exact ih
section
variable {X:Cx} {pins:List (Addr×Obj)} {Y:St} {H:Hp} {s:Shared} {d:Addr} {kvs:List (Str×V)}
theorem KD.map (D:KD X.w X.K d kvs) (I:Inv X pins Y H s):∃ f:Str->Option Value,s.heap.MapOf (PySem.strKind X.prog X.w) d f/\∀ k,RelO (kvs.lookup k) (f k):=by
 obtain ⟨l,n,e,r⟩:=D.ex
 refine ⟨λ k=>((l.map (entM X.w)).find? λ e=>Value.isStrOf k e.key).map (·.val),⟨_,(l.map (entM X.w)).toArray,n,I.kIn d _ e,⟨rfl,rfl,rfl⟩,rfl,λ e he=>?_,λ k=>?_⟩,λ k=>zz11 r⟩
 ·obtain ⟨q,_,rfl⟩:=List.mem_map.mp (by simpa using he:e∈l.map (entM X.w))
  exact ⟨q.1,by simp [entM,PySem.strKind,Value.isStrOf],rfl⟩
 ·show findBy (PySem.strKind X.prog X.w).is _ k=_
  unfold findBy
  rw [List.find?_toArray]
  rfl
def rIxM (w:World) (K:Fg):R2:=λ x y H Q=>∃ d kvs z v,x=.ref d/\y=.str z/\KD w K d kvs/\kvs.lookup z=some v/\Q v H
theorem ix_M {w:World} {K:Fg} (hw:X.w=w) (hK:X.K=K):IxR X (rIxM w K):=by
 subst hw hK
 intro value slice pins s Y H x y v u Q I rx ry h hs
 obtain ⟨d,kvs,z,r0,rfl,rfl,D,e,q⟩:=h
 cases rx
 obtain ⟨t,rfl⟩:=ry
 obtain ⟨f,m,r⟩:=D.map I
 have rz:=r z
 rw [e] at rz
 obtain ⟨u,eu,ru⟩:=rz.some_of
 exact tail_any m.typeIs PySem.F.slot_dict_getitem.lookup (wpAny_getItem_of (k:=z) (PySem.strKind_is X.prog X.w z t) m eu ⟨r0,H,I.tok _,ru,q⟩) hs
end
section
variable {K:Fg} {H:Hp} {a:Addr} {xs:List V}
def SameX (D:Addr) (H H':Hp):Prop:=∀ b o,b≠D->H b=some o->H' b=some o
variable {Q:VK} {Y caps:St} {n:Nat} {ix:List Nat} {g:TG} {te:TE} {m:Nat} {J:It} {Yv:Nat->V->Hp->Prop}
end
def zj91:R2:=λ x y H Q=>zz81 x y H Q \/ zja1 x y H Q
def rIxW (w:World) (K:Fg):R2:=λ x y H Q=>rIx K x y H Q \/ rIxM w K x y H Q
def rSlW (K:Fg):V->Option Int->Option Int->Hp->VK->Prop:=λ x lo hi H Q=>rSlU K x lo hi H Q \/ rSlS x lo hi H Q
def zh51 (K:Fg) (x:V) (H:Hp) (R:It->Hp->Prop):Prop:=zac1 K x H R \/ ∃ z:Str,x=.str z/\z.cps.all (· < 128)=true/\R (Its z) H
def iW (K:Fg) (tl:TE):TI:=λ Y H R=>tl Y H λ x H1=>zh51 K x H1 R
section
variable {X:Cx} {w:World} {K:Fg} {tg:Expr}
theorem zxy:OpR X (binaryOp .Mult) zj91:=zf21.or zo31
theorem ix_W (hw:X.w=w) (hK:X.K=K):IxR X (rIxW w K):=(ix_U hK).or (ix_M hw hK)
theorem sl_W (hK:X.K=K):SlR X (rSlW K):=(sl_U hK).or zl21
theorem pi_W (h:X.K=K) {l:Expr} {tl:TE} (hl:PE X l tl):PI X tg l (iW K tl):=by
 subst h
 intro pins s Y H R I h
 refine thn (hl pins s Y H _ I h) λ v s1 hz=>?_
 obtain ⟨x,H1,I1,r1,q1⟩:=hz
 rcases q1 with (⟨a,e,⟨xs,hq⟩,q⟩|⟨a,e,⟨xs,hq⟩,q⟩)|⟨z,rfl,ha,q⟩
 ·subst e
  cases r1
  obtain ⟨its,rv,p,hz⟩:=I1.list hq
  refine wpAny_pyIter_list p.isList ?_
  refine ⟨s1.heap.objs.size,[s1.heap.objs.size],_,_,H1,rfl,I1.kept (t':=s1.toks) λ b o e=>Heap.get?_push_of_some _ e,znp a _,⟨_,Heap.get?_push_size _ rfl,rfl,rfl⟩,λ b hb=>?_,q⟩
  have e:b=s1.heap.objs.size:=by simpa using hb
  subst e
  exact I1.fpOk (Nat.le_refl _) (I1.hok.fresh (Nat.le_refl _))
 ·subst e
  cases r1
  obtain ⟨its,rv,p,hz⟩:=I1.tuple hq
  refine wpAny_pyIter_tuple (show s1.heap.IsTuple a its.toArray from p) ?_
  refine ⟨s1.heap.objs.size,[s1.heap.objs.size],_,_,H1,rfl,I1.kept (t':=s1.toks) λ b o e=>Heap.get?_push_of_some _ e,zul a _,⟨_,Heap.get?_push_size _ rfl,rfl,rfl⟩,λ b hb=>?_,q⟩
  have e:b=s1.heap.objs.size:=by simpa using hb
  subst e
  exact I1.fpOk (Nat.le_refl _) (I1.hok.fresh (Nat.le_refl _))
 ·obtain ⟨t,rfl⟩:=r1
  refine wpAny_pyIter_ascii ha ?_
  refine ⟨s1.heap.objs.size,[s1.heap.objs.size],_,_,H1,rfl,I1.kept (t':=s1.toks) λ b o e=>Heap.get?_push_of_some _ e,zdw z t _,⟨_,Heap.get?_push_size _ rfl,rfl,rfl⟩,λ b hb=>?_,q⟩
  have e:b=s1.heap.objs.size:=by simpa using hb
  subst e
  exact I1.fpOk (Nat.le_refl _) (I1.hok.fresh (Nat.le_refl _))
def zed1:TS:=λ _ _ _=>False
theorem zhg {st:Stmt}:PS X st zed1:=λ _ _ _ _ _ _ h=>False.elim h
def zm91 (K:Fg):List V->Hp->VK->Prop:=λ xs H Q=>∃ p ys,xs=[.ref p]/\(SqL K H p ys \/ SqT K H p ys)/\∀ l,H l=none->Q (.ref l) (upd H l (.lst ys))
theorem zi3 (h:X.K=K):CallR X (.type "list") (zm91 K):=h ▸ zqh
end
section
variable {K:Fg} {w:World} {H:Hp} {Q:VK} {a b:Addr} {xs ys:List V} {i:Int} {v:V} {z:Str} {kvs:List (Str×V)} {d:Addr}
theorem zqb1 (h:SqT K H a xs) (e:atI xs i=some v) (q:Q v H):rIxW w K (.ref a) (.int i) H Q:=.inl (zfb1 h e q)
end
section
variable {K:Fg} {w:World} {H:Hp} {Q:VK} {a:Addr} {xs:List V} {i:Int} {v:V} {z:Str} {Y:St} {r r':R2} {ta tb tc:TE} {tA:TA} {D:Ends}
end
theorem sIx_nat {n d a:Nat} (h:a<=n):HT.sIx n d (some (a:Int))=a:=by
 unfold HT.sIx
 simp
 rw [if_neg (by lia)]
 lia
theorem sIx_none {n d:Nat}:HT.sIx n d none=d:=rfl
theorem zgo {xs:List V} {a:Nat} (h:a<=xs.length):cutV xs (some (a:Int)) none=xs.drop a:=by
 unfold cutV
 rw [sIx_nat h,sIx_none]
 exact List.take_of_length_le (by simp)
theorem zcy {xs:List V} {b:Nat} (hb:b<=xs.length):cutV xs none (some (b:Int))=xs.take b:=by
 unfold cutV
 rw [sIx_none,sIx_nat hb]
 simp
section
variable {K:Fg} {H:Hp} {a:Addr} {xs:List V} {Y:St} {ta:TA} {Q:VK}
end
theorem zck {X:Cx} {pos:Pos} {K:Fg} {n:Nat} (hK:X.K=K) {es:List Expr} {k:Nat} {t:TGs} (hc:X.calm=true) (h:PGs X es t)
  (hn:(assignEach es X.env).length=n:=by rfl) (hst:(assignEach es X.env).findIdx? (·.1)=none:=by rfl):PG X (.Tuple es k pos) (gTup K n t):=by
 subst hK
 exact zw41 hc h hn hst
def kBM (K:Fg) (T:String) (r:V->List V->Hp->VK->Prop) (t:TA) (Y:St) (x:V) (H:Hp) (Q:VK):Prop:=tyV K T x H/\t Y H λ xs H2=>r x xs H2 Q
def tBMU (K:Fg) (T:String) (r:V->List V->Hp->VK->Prop) (to:TE) (t:TA):TE:=λ Y H Q=>to Y H λ x H1=>kBM K T r t Y x H1 Q
theorem zpi {X:Cx} {K:Fg} (hK:X.K=K) {o e:Expr} {es:List Expr} {to:TE} {t:TA} {name:Str} {apos cpos:Pos} {T id:String} {r:V->List V->Hp->VK->Prop} (pa:PlainAttrs T) (slot:Slot T name id) (hty:typeOf (.builtin id)=pure (.type "method_descriptor")) (hm:MtR X id r) (ho:PE X o to) (ha:PA X (e :: es) t)
  (hbase:attributeBase o name X.env (eval o X.env)=eval o X.env:=by rfl)
  (hfew:((backTo cpos (starEach (e :: es) X.env)).all (λ x=>!x.1) && (backToKw cpos (keywordEach [] X.env)).all (λ x=>x.1.isSome)
   && decide ((e :: es).length+([]:List Keyword).length+(if ([]:List Keyword).isEmpty then 0 else 1) < 30))=true:=by rfl)
  (hline:(apos.endLine == cpos.line)=true:=by rfl) (hs:starEach (e :: es) X.env=(false,eval e X.env) :: starEach es X.env:=by rfl) (hplain:(backTo cpos (starEach es X.env)).any (·.1)=false:=by rfl) :
  PE X (.Call (.Attribute o name apos) (e :: es) [] cpos) (tBMU K T r to t):=by
 subst hK
 exact zwb1 pa slot hty hm ho ha hbase hfew hline hs hplain
section
variable {K:Fg} {T:String} {r:V->List V->Hp->VK->Prop} {to:TE} {t:TA} {Y:St} {H:Hp} {Q:VK} {a:Addr} {xs:List V} {z:Str}
end
section
variable {t:TJ} {te:TE} {Y:L2.St} {H:Hp} {acc y z:Str} {i:Int}
end
def za41 (_ j:Int):Prop:=0 < j/\j < 2 ^ 200
theorem znw {j:Int} (h0:0 < j) (h1:j < 2 ^ 200):j.natAbs.log2 < 9000:=by
 have h:j.natAbs.log2 < 200:=(Nat.log2_lt (by lia)).mpr (by lia)
 lia
theorem zu9 {X:Cx}:OpR X (binaryOp .FloorDiv) (rI za41 λ i j=>.int (i / j)):=opI λ i j _ _ _ _ _ hc q=>by
 have h1:(0:Int) < j:=hc.1
 exact floordiv_int (by lia) (by rw [Int.fdiv_eq_ediv_of_nonneg i (by lia)];exact q) (.inl (PyProof.noPylong_of_log2 (znw hc.1 hc.2)))
def zjl {α:Type} (xs:List α) (lo hi st:Option Int):List α:=(sliceRange (sliceBounds lo hi st xs.length).1 (sliceBounds lo hi st xs.length).2.1 (sliceBounds lo hi st xs.length).2.2).filterMap (xs[·]?)
theorem zrc {xs:List V} {vs:List Value} (h:Vals xs vs):∀ js:List Nat,Vals (js.filterMap (xs[·]?)) (js.filterMap (vs[·]?))
|[]=>.nil
|j :: js=>by
  have ih:=zrc h js
  cases hn:xs[j]? with
 |some n =>
   obtain ⟨u,hu,r⟩:=h.get hn
   simp only [List.filterMap_cons,hn,hu]
   exact .cons r ih
 |none =>
   have hv:=h.none_of hn
   simp only [List.filterMap_cons,hn,hv]
   exact ih
theorem zir {xs:List V} {vs:List Value} (h:Vals xs vs) (lo hi st:Option Int):Vals (zjl xs lo hi st) (slicePick vs.toArray lo hi st).toList:=by
 have e:(slicePick vs.toArray lo hi st).toList=(sliceRange (sliceBounds lo hi st xs.length).1 (sliceBounds lo hi st xs.length).2.1 (sliceBounds lo hi st xs.length).2.2).filterMap (vs[·]?):=by
  simp [slicePick,h.length]
 rw [e]
 exact zrc h _
def rSl3 (K:Fg):V->Option Int->Option Int->Option Int->Hp->VK->Prop:=λ x lo hi st H Q=>∃ a xs,x=.ref a/\SqL K H a xs/\st≠some 0/\∀ p,H p=none->Q (.ref p) (upd H p (.lst (zjl xs lo hi st)))
def tSl3 (K:Fg) (te:TE) (tl th tk:TO):TE:=λ Y H Q=>te Y H λ x H1=>tl Y H1 λ l H2=>th Y H2 λ u H3=>tk Y H3 λ st H4=>rSl3 K x l u st H4 Q
theorem zdr {X:Cx} {K:Fg} (hK:X.K=K) {e:Expr} {te:TE} {lo hi:Option Expr} {st:Expr} {tl th tk:TO} {pos p2:Pos} (he:PE X e te) (hl:PO X lo tl) (hu:PO X hi th) (hs:PO X (some st) tk):PE X (.Subscript e (.Slice lo hi (some st) p2) pos) (tSl3 K te tl th tk):=by
 subst hK
 intro pins s Y H Q I h
 refine Subscript_ (thn (he pins s Y H _ I h) λ v s1 hz=>?_)
 obtain ⟨x,H1,I1,r1,q1⟩:=hz
 refine wpAny_Slice (thn (hl pins s1 Y H1 _ I1 q1) λ vl s2 ⟨l,H2,I2,pl,q2⟩=>thn (hu pins s2 Y H2 _ I2 q2) λ vu s3 ⟨u,H3,I3,pu,q3⟩=>thn (hs pins s3 Y H3 _ I3 q3) λ vk s4 hz=>?_)
 obtain ⟨k,H4,I4,pk,q4⟩:=hz
 obtain ⟨a,xs,rfl,hx,h0,q⟩:=q4
 cases r1
 have I5:Inv X pins Y H4 { s4 with heap:=s4.heap.push { cls:=.type "slice",data:=.fields #[vl,vu,vk] } }:=I4.kept (t':=s4.toks) λ b ob q=>Heap.get?_push_of_some _ q
 obtain ⟨its,r,ht,hz⟩:=I5.list hx
 have hlen:=r.length
 refine tail_any (T := "list") (ops:=[.ref a,.ref s4.heap.objs.size]) ht.isList.typeIs slot_list_getitem.lookup (wpAny_getItem_list_slice ht.isList (Heap.IsSliceOf.new ..) pl pu pk h0 ?_ (by rw [List.size_toArray] <;> lia)) (by with_unfolding_all rfl)
 have rv:=zir r l u k
 refine ⟨.ref _,_,I5.laid (t':=s4.toks) (o:=.lst (zjl xs l u k)) (λ b ob q=>Heap.get?_push_of_some _ q) (Nat.le_refl _) ?_,rfl,q _ (I5.hok.fresh (Nat.le_refl _))⟩
 refine ⟨?_,_,0,rv,?_⟩
 ·have:=slicePick_size_le its.toArray l u k
  have e:=rv.length
  simp only [Array.length_toList,List.size_toArray] at this e
  lia
 ·rw [Array.toArray_toList]
  exact Heap.get?_push_size _ rfl
section
variable {K:Fg} {H:Hp} {Q:VK} {a:Addr} {xs:List V} {i j:Int} {Y:St}
end
theorem zej:bootBuiltins "sorted"=some (.builtin "sorted"):=by decide +kernel
section
variable {K:Fg} {H H':Hp} {D a:Addr} {xs:List V}
theorem SameX.trans {H1 H2 H3:Hp} (s:SameX D H1 H2) (s':SameX D H2 H3):SameX D H1 H3:=λ b o hb e=>s' b o hb (s b o hb e)
theorem IsAll.length:∀ {xs:List V} {ds:List PyData},IsAll K H xs ds->xs.length=ds.length
|_,_,.nil=>rfl
|_,_,.cons _ r=>by simp [IsAll.length r]
theorem IsAll.get:∀ {xs:List V} {ds:List PyData},IsAll K H xs ds->∀ {i:Nat} {x:V},xs[i]?=some x->∃ d,ds[i]?=some d/\Is K H x d
|_,_,.nil,i,x,e=>by simp at e
|_,_,.cons h r,0,x,e=>by simp at e;subst e;exact ⟨_,rfl,h⟩
|_,_,.cons h r,i+1,x,e=>by
  obtain ⟨d,e2,q⟩:=IsAll.get r (i:=i) (by simpa using e)
  exact ⟨d,by simpa using e2,q⟩
end
def Fit (n:Nat) (d:PyData):Prop:=d.canLay0=true/\d.depth<=n
theorem zm6:∀ {ds:List PyData},(∀ d∈ds,d.canLay0=true)->PyData.canLayAll0 ds=true
|[],_=>rfl
|d :: ds,h=>by
  show (d.canLay0 && PyData.canLayAll0 ds)=true
  rw [h d (by simp),zm6 λ e he=>h e (List.mem_cons_of_mem _ he)];rfl
theorem zn7 {n:Nat}:∀ {ds:List PyData},(∀ d∈ds,d.depth<=n)->PyData.depthAll ds<=n
|[],_=>Nat.zero_le _
|d :: ds,h=>by
  show max d.depth (PyData.depthAll ds)<=n
  have:=h d (by simp)
  have:=zn7 λ e he=>h e (List.mem_cons_of_mem d he)
  lia
theorem Fit.tup {n:Nat} {ds:List PyData} (h:∀ d∈ds,Fit n d):Fit (n+1) (.tuple ds):=⟨by show PyData.canLayAll0 ds=true;exact zm6 λ d hd=>(h d hd).1,by show PyData.depthAll ds+1<=n+1;have:=zn7 λ d hd=>(h d hd).2;lia⟩
theorem Fit.lst {n:Nat} {ds:List PyData} (h:∀ d∈ds,Fit n d):Fit (n+1) (.list ds):=⟨by show PyData.canLayAll0 ds=true;exact zm6 λ d hd=>(h d hd).1,by show PyData.depthAll ds+1<=n+1;have:=zn7 λ d hd=>(h d hd).2;lia⟩
theorem Fit.int {n:Nat} (i:Int):Fit n (.int i):=⟨rfl,Nat.zero_le _⟩
theorem Fit.str {n:Nat} {x:Str} (h:x.cps.all (· < 0x110000)=true):Fit n (.str x):=⟨h,Nat.zero_le _⟩
theorem Fit.shaped {n:Nat} {d:PyData} (h:Fit n d) (hn:n<=64):SeqAt.shaped d=true:=by
 unfold SeqAt.shaped
 rw [h.1,decide_eq_true (Nat.le_trans h.2 hn)];rfl
theorem Fit.eqv {n:Nat} {d:PyData} (h:Fit n d):PyData.eqv d d=true:=SeqAt.eqv_refl d h.1
def zh41 (K:Fg):Sp:=λ vs H Q _=>∃ (a:Addr) (ns:List Int),vs=[.ref a]/\SqL K H a (ns.map V.int)/\ns.length<=63/\∀ H',Q (.bl true) H'
theorem law_walk {k:Nat} {l:PySem.W.OpenLaw} {q:Program} {loose:List Str} {XP:(Str->Option Value)->Heap->Prop} {YP:World->Heap->Prop} {d:DefRec} {K:Params->Fg} (hk:Room k callerA) (hn:l.most=some 63) (hdf:d.params.defaults=[])
  (hY:∀ (w:World) (h:Heap),YP w h->(K w.params).In h)
  (F:∀ (w:World) (mg:Str->Option Value) (fa:Addr) (h:Heap),(K w.params).In h->h.Ns mainGlobals mg->mg d.name=some (.ref fa) ->
   ∃ fd:FuncData,(∀ (s:Shared) (u:Value),BindsTo s fd ⟨[u],[]⟩ [("script",u)])/\∀ base:Heap,(K w.params).In base->base.Ns mainGlobals mg->FnOk l.prog w (K w.params) mg base CX0 k fa fd ["script"] (zh41 (K w.params))) :
  PySem.W.WalkO q loose XP YP l.row.toRowW d [] (λ f vs=>PySem.call f vs) :=
 L2.walk_of (n:=63) (k:=k) (x := "script") (CX:=λ _=>CX0) (sp:=λ w=>zh41 (K w.params)) hn (by decide) hdf hk hY F (λ _ _ a ns hl _ hS=>⟨a,ns,rfl,hS,hl,λ _=>rfl⟩) λ _ _ _ _ _ z=>z
section
variable {K:Fg} {H:Hp} {Q:VK} {Y:St} {i j:Int}
end
end L3
namespace L2
open PySem PySem.Spec PyProof.Rows
section
variable {κ:Type} [DecidableEq κ]
def valV (kvs:List (κ×V)) (k:κ):Option V:=(kvs.find? λ kv=>decide (kv.1=k)).map (·.2)
def putK (kvs:List (κ×V)) (k:κ) (v:V):List (κ×V) :=
 if (kvs.any λ kv=>decide (kv.1=k))=true then kvs.map (λ kv=>if kv.1=k then (kv.1,v) else kv) else kvs++[(k,v)]
def zch (kvs:List (κ×V)) (k:κ):List (κ×V):=kvs.filter λ kv=>decide (kv.1≠k)
theorem zhh {p:κ×V} {r:List (κ×V)} {k:κ} (e:p.1=k):valV (p :: r) k=some p.2:=by simp [valV,List.find?_cons,e]
theorem zri {p:κ×V} {r:List (κ×V)} {k:κ} (e:¬ p.1=k):valV (p :: r) k=valV r k:=by simp [valV,List.find?_cons,e]
theorem zqm (k:κ):∀ kvs:List (κ×V),(kvs.any λ kv=>decide (kv.1=k))=(valV kvs k).isSome
|[]=>rfl
|p :: r=>by
  rw [List.any_cons]
  by_cases e:p.1=k
  ·simp only [zhh e,decide_eq_true e,Bool.true_or,Option.isSome_some]
  ·rw [zri e,decide_eq_false e,Bool.false_or];exact zqm k r
theorem zad (kvs:List (κ×V)) (k:κ) (v:V):(putK kvs k v).length<=kvs.length+1:=by
 unfold putK
 split
 ·rw [List.length_map];lia
 ·rw [List.length_append,List.length_cons,List.length_nil];lia
theorem RelO.isSome_eq {o:Option V} {u:Option Value} (r:RelO o u):o.isSome=u.isSome:=by
 cases o with
|none=>cases u with
 |none=>rfl
 |some _=>exact (show False from r).elim
|some _=>cases u with
 |none=>exact (show False from r).elim
 |some _=>rfl
theorem RelO.getD {o:Option V} {u:Option Value} {d:V} {d':Value} (r:RelO o u) (rd:RelV d d'):RelV (o.getD d) (u.getD d'):=by
 cases o with
|none=>cases u with
 |none=>exact rd
 |some _=>exact (show False from r).elim
|some _=>cases u with
 |none=>exact (show False from r).elim
 |some _=>exact r
theorem KV.val {kvs:List (κ×V)} {vs:List (κ×Value)} (r:KV kvs vs) (k:κ):RelO (valV kvs k) (valueAt vs k):=by
 unfold KV at r
 induction r with
|nil=>exact True.intro
|@cons p q ps qs h t ih =>
  obtain ⟨h1,h2⟩:=h
  by_cases e:p.1=k
  ·have e':q.1=k:=h1.symm.trans e
   have b:valueAt (q :: qs) k=some q.2:=by simp [valueAt,List.find?_cons,e']
   rw [zhh e,b];exact h2
  ·have e':¬ q.1=k:=λ z=>e (h1.trans z)
   have b:valueAt (q :: qs) k=valueAt qs k:=by simp [valueAt,List.find?_cons,e']
   rw [zri e,b];exact ih
theorem KV.any {kvs:List (κ×V)} {vs:List (κ×Value)} (r:KV kvs vs) (k:κ):(kvs.any λ kv=>decide (kv.1=k))=vs.any λ kv=>decide (kv.1=k):=by
 unfold KV at r
 induction r with
|nil=>rfl
|cons h t ih=>rw [List.any_cons,List.any_cons,ih,h.1]
theorem KV.repl {kvs:List (κ×V)} {vs:List (κ×Value)} (r:KV kvs vs) (k:κ) {y:V} {u:Value} (ry:RelV y u) :
  KV (kvs.map λ kv=>if kv.1=k then (kv.1,y) else kv) (vs.map λ kv=>if kv.1=k then (kv.1,u) else kv):=by
 unfold KV at r ⊢
 induction r with
|nil=>exact .nil
|@cons p q ps qs h t ih =>
  rw [List.map_cons,List.map_cons]
  refine .cons ?_ ih
  obtain ⟨h1,h2⟩:=h
  by_cases e:p.1=k
  ·rw [if_pos e,if_pos (h1.symm.trans e)];exact ⟨h1,ry⟩
  ·rw [if_neg e,if_neg (λ z=>e (h1.trans z))];exact ⟨h1,h2⟩
theorem KV.put {kvs:List (κ×V)} {vs:List (κ×Value)} (r:KV kvs vs) (k:κ) {y:V} {u:Value} (ry:RelV y u):KV (putK kvs k y) (stored vs k u):=by
 unfold putK stored
 rw [r.any k]
 by_cases e:(vs.any λ kv=>decide (kv.1=k))=true
 ·rw [if_pos e,if_pos e];exact r.repl k ry
 ·rw [if_neg e,if_neg e];exact Paired.snoc r ⟨rfl,ry⟩
theorem KV.drop {kvs:List (κ×V)} {vs:List (κ×Value)} (r:KV kvs vs) (k:κ):KV (zch kvs k) (without vs k):=by
 unfold KV at r ⊢
 unfold zch without
 induction r with
|nil=>exact .nil
|@cons p q ps qs h t ih =>
  obtain ⟨h1,h2⟩:=h
  rw [List.filter_cons,List.filter_cons]
  by_cases e:p.1=k
  ·have a:¬ decide (p.1≠k)=true:=by simp [e]
   have b:¬ decide (q.1≠k)=true:=by simp [h1.symm.trans e]
   rw [if_neg a,if_neg b];exact ih
  ·have e':¬ q.1=k:=λ z=>e (h1.trans z)
   have a:decide (p.1≠k)=true:=by simp [e]
   have b:decide (q.1≠k)=true:=by simp [e']
   rw [if_pos a,if_pos b];exact .cons ⟨h1,h2⟩ ih
theorem KV.length {kvs:List (κ×V)} {vs:List (κ×Value)} (r:KV kvs vs):kvs.length=vs.length:=Paired.length r
theorem zju (kvs:List (κ×V)) (k:κ):(zch kvs k).length<=kvs.length:=List.length_filter_le _ _
end
theorem zuz {P:Program} {w:World} {k:Key} {u:Value} (r:RelV (kV k) u):(zw1 P w).is k u=true:=by
 cases k with
|inl i=>obtain ⟨t,e⟩:=(show ∃ t,u=Value.int i t from r);subst e;exact zzk P w i t
|inr x=>obtain ⟨t,e⟩:=(show ∃ t,u=Value.str x t from r);subst e;exact zel P w x t
theorem zij {P:Program} {w:World}:∀ {ks:List Key} {us:List Value},Vals (ks.map kV) us->ItemsAre (zw1 P w) ks us
|[],_,r=>by rw [List.map_nil] at r;cases r;exact .nil
|k :: ks,_,r=>by
  rw [List.map_cons] at r
  cases r with
 |cons h t=>exact .cons (zuz h) (zij t)
abbrev KT (H:Hp):List (List Key×V)->List (List Key×Addr×Value)->Prop:=Paired λ p q=>p.1=q.1/\H q.2.1=some (.tup (p.1.map kV))/\RelV p.2 q.2.2
theorem KT.val {H:Hp} {kvs:List (List Key×V)} {xs:List (List Key×Addr×Value)} (r:KT H kvs xs) (k:List Key):RelO (valV kvs k) ((atKey xs k).map (·.2)):=by
 induction r with
|nil=>exact True.intro
|@cons p q ps qs h t ih =>
  obtain ⟨h1,_,h2⟩:=h
  by_cases e:p.1=k
  ·have e':q.1=k:=h1.symm.trans e
   have b:atKey (q :: qs) k=some q.2:=by simp [atKey,List.find?_cons,e']
   rw [zhh e,b];exact h2
  ·have e':¬ q.1=k:=λ z=>e (h1.trans z)
   have b:atKey (q :: qs) k=atKey qs k:=by simp [atKey,List.find?_cons,e']
   rw [zri e,b];exact ih
theorem KT.repl {H:Hp} {kvs:List (List Key×V)} {xs:List (List Key×Addr×Value)} (r:KT H kvs xs) (k:List Key) {y:V} {u:Value} (ry:RelV y u) :
  KT H (kvs.map λ kv=>if kv.1=k then (kv.1,y) else kv) (xs.map (putAt k u)):=by
 induction r with
|nil=>exact .nil
|@cons p q ps qs h t ih =>
  rw [List.map_cons,List.map_cons]
  refine .cons ?_ ih
  obtain ⟨h1,h2,h3⟩:=h
  unfold putAt
  by_cases e:p.1=k
  ·rw [if_pos e,if_pos (h1.symm.trans e)];exact ⟨h1,h2,ry⟩
  ·rw [if_neg e,if_neg (λ z=>e (h1.trans z))];exact ⟨h1,h2,h3⟩
theorem KT.put {H:Hp} {kvs:List (List Key×V)} {xs:List (List Key×Addr×Value)} (r:KT H kvs xs) (k:List Key) {b:Addr} {y:V} {u:Value} (hb:H b=some (.tup (k.map kV))) (ry:RelV y u) :
  KT H (putK kvs k y) (storedH xs k b u):=by
 have e:(kvs.any λ kv=>decide (kv.1=k))=(atKey xs k).isSome:=by
  rw [zqm,(r.val k).isSome_eq,Option.isSome_map]
 unfold putK storedH
 rw [e]
 by_cases q:(atKey xs k).isSome=true
 ·rw [if_pos q,if_pos q];exact r.repl k ry
 ·rw [if_neg q,if_neg q];exact Paired.snoc r ⟨rfl,hb,ry⟩
theorem KT.keeps {H H':Hp} {kvs:List (List Key×V)} {xs:List (List Key×Addr×Value)} (r:KT H kvs xs) (ht:∀ b ys,H b=some (.tup ys)->H' b=some (.tup ys)):KT H' kvs xs :=
 Paired.mapP r λ _ _ z=>⟨z.1,ht _ _ z.2.1,z.2.2⟩
section
variable {P:Program} {w:World} {H:Hp} {h:Heap} {a:Addr}
theorem zy81 {u:HO} (ok:HOk P w H h) (e:Rd H a u):ObjOk P w H h a u:=e.ok ok
theorem zkx {kvs:List (Key×V)} (ok:HOk P w H h) (e:Rd H a (.dK kvs)):kvs.length<=sizeLine/\(a == sysModules)=false/\∃ vs,KV kvs vs/\h.DictOf (zw1 P w) a vs :=
 show ObjOk P w H h a (.dK kvs) from zy81 ok e
theorem znb1 {kvs:List (Key×V)} (ok:HOk P w H h) (e:H a=some (.dK kvs)):kvs.length<=sizeLine/\(a == sysModules)=false/\∃ vs,KV kvs vs/\h.DictOf (zw1 P w) a vs:=zkx ok (.inl e)
theorem zxk {ks:List Key} (ok:HOk P w H h) (e:H a=some (.tup (ks.map kV))):(tupleKind (zw1 P w)).is h ks a:=by
 obtain ⟨_,its,r,o,h1,h2,n,h3⟩:=(show ObjOk P w H h a (.tup (ks.map kV)) from ok a _ e)
 exact ⟨o,its.toArray,n,h1,h2,h3,by simpa using zij r⟩
theorem zgx {kvs:List (List Key×V)} (ok:HOk P w H h) (e:Rd H a (.dT kvs)):kvs.length<=sizeLine/\(a == sysModules)=false /\
  ∃ xs,KT H kvs xs/\h.DictOfH (tupleKind (zw1 P w)) a xs:=by
 obtain ⟨z,y,xs,r,o,es,ep,h1,h2,h3,h4,h5⟩:=(show ObjOk P w H h a (.dT kvs) from zy81 ok e)
 refine ⟨z,y,xs,r,o,es,ep,h1,h2,h3,h4,λ x hx=>?_,h5⟩
 have all:∀ {l:List (List Key×V)} {m:List (List Key×Addr×Value)},KT H l m->∀ x∈m,(tupleKind (zw1 P w)).is h x.1 x.2.1:=by
  intro l m q
  induction q with
 |nil=>intro x hx;exact nomatch hx
 |@cons p q ps qs hq t ih =>
   intro x hx
   rcases List.mem_cons.mp hx with e|hx
   ·subst e
    exact zxk ok (by rw [<- hq.1];exact hq.2.1)
   ·exact ih x hx
 exact all r x hx
theorem zi91 {kvs:List (List Key×V)} (ok:HOk P w H h) (e:H a=some (.dT kvs)):kvs.length<=sizeLine/\(a == sysModules)=false /\
  ∃ xs,KT H kvs xs/\h.DictOfH (tupleKind (zw1 P w)) a xs:=zgx ok (.inl e)
end
def DGet (H:Hp) (a:Addr) (y:V) (r:Option V):Prop :=
 (∃ kvs k,Rd H a (.dK kvs)/\y=kV k/\r=valV kvs k) \/ ∃ kvs k b,Rd H a (.dT kvs)/\y=.ref b/\H b=some (.tup (k.map kV))/\r=valV kvs k
def DPut (H:Hp) (a:Addr) (y v:V) (H':Hp):Prop :=
 (∃ kvs k,H a=some (.dK kvs)/\y=kV k/\kvs.length < sizeLine/\H'=upd H a (.dK (putK kvs k v))) \/
 ∃ kvs k b,H a=some (.dT kvs)/\y=.ref b/\H b=some (.tup (k.map kV))/\kvs.length < sizeLine/\H'=upd H a (.dT (putK kvs k v))
theorem DGet.k {H:Hp} {a:Addr} {kvs:List (Key×V)} {k:Key} (e:H a=some (.dK kvs)):DGet H a (kV k) (valV kvs k):=.inl ⟨kvs,k,.inl e,rfl,rfl⟩
theorem DGet.t {H:Hp} {a b:Addr} {kvs:List (List Key×V)} {k:List Key} (e:H a=some (.dT kvs)) (eb:H b=some (.tup (k.map kV))):DGet H a (.ref b) (valV kvs k):=.inr ⟨kvs,k,b,.inl e,rfl,eb,rfl⟩
theorem DPut.k {H:Hp} {a:Addr} {kvs:List (Key×V)} {k:Key} {v:V} (e:H a=some (.dK kvs)) (hl:kvs.length < sizeLine):DPut H a (kV k) v (upd H a (.dK (putK kvs k v))):=.inl ⟨kvs,k,e,rfl,hl,rfl⟩
theorem DPut.t {H:Hp} {a b:Addr} {kvs:List (List Key×V)} {k:List Key} {v:V} (e:H a=some (.dT kvs)) (eb:H b=some (.tup (k.map kV))) (hl:kvs.length < sizeLine) :
  DPut H a (.ref b) v (upd H a (.dT (putK kvs k v))):=.inr ⟨kvs,k,b,e,rfl,eb,hl,rfl⟩
section
variable {X:Cx} {pins:List (Addr×Obj)} {Y:St} {H:Hp} {s:Shared} {a:Addr} {y v:V} {u r:Value} {o:Option V} {A:Around} {E:Value->Shared->Prop}
theorem Inv.big (I:Inv X pins Y H s):sysModules < s.heap.objs.size:=by
 have h:mainGlobals < s.heap.objs.size:=(I.mod.glob.keeps I.bk).lt
 exact Nat.lt_trans (by decide) h
theorem zpk {Q:Value->Shared->Prop} (hu:A.units+1 < cLine) (I:Inv X pins Y H s) (g:DGet H a y (some v)) (ry:RelV y u) (h:∀ w' s',Inv X pins Y H s'->RelV v w'->Q w' s') :
  wpAny (model X.prog X.w) A (getItem (.ref a) u) Q E s:=by
 rcases g with ⟨kvs,k,e,ey,l⟩|⟨kvs,k,b,e,ey,eb,l⟩
 ·subst ey
  obtain ⟨z,hd,vs,rel,dd⟩:=zkx I.hok e
  obtain ⟨w',hw,rw'⟩:=RelO.some_of (v:=v) (o:=valueAt vs k) (by rw [l];exact rel.val k)
  exact wpAny_getItem_of (zuz ry) dd.mapOf hw (h w' _ (I.tok _) rw')
 ·subst ey
  cases (show u=Value.ref b from ry)
  obtain ⟨z,hd,xs,rel,dd⟩:=zgx I.hok e
  obtain ⟨w',hw,rw'⟩:=RelO.some_of (v:=v) (o:=(atKey xs k).map (·.2)) (by rw [l];exact rel.val k)
  obtain ⟨p,hp,hp2⟩:=Option.map_eq_some_iff.mp hw
  refine wpAny_getItem_heap (tupleKind_room_in1 hu) (zxk I.hok eb) dd hp ?_
  rw [hp2]
  exact h w' _ (I.tok _) rw'
theorem d_in {Q:Value->Shared->Prop} (hu:A.units+1 < cLine) (I:Inv X pins Y H s) (g:DGet H a y o) (ry:RelV y u) (h:∀ s',Inv X pins Y H s'->Q (.bool o.isSome) s') :
  wpAny (model X.prog X.w) A (compareOp .In u (.ref a)) Q E s:=by
 rcases g with ⟨kvs,k,e,ey,l⟩|⟨kvs,k,b,e,ey,eb,l⟩
 ·subst ey
  obtain ⟨z,hd,vs,rel,dd⟩:=zkx I.hok e
  refine wpAny_in_of (zuz ry) hd dd.mapOf ?_
  rw [<- (rel.val k).isSome_eq,<- l]
  exact h _ (I.tok _)
 ·subst ey
  cases (show u=Value.ref b from ry)
  obtain ⟨z,hd,xs,rel,dd⟩:=zgx I.hok e
  refine wpAny_in_heap (tupleKind_room_in1 hu) (zxk I.hok eb) hd dd ?_
  have q:=(rel.val k).isSome_eq
  rw [Option.isSome_map] at q
  rw [<- q,<- l]
  exact h _ (I.tok _)
theorem zvn {h':Heap} {t':Nat} {ob:HO} (I:Inv X pins Y H s) (mu:Mut (H a)) (hs:Heap.SameBut a s.heap h') (he:∃ q,h'.get? a=some q) (new:ObjOk X.prog X.w (upd H a ob) h' a ob) :
  Inv X pins Y (upd H a ob) { s with heap:=h',toks:=t' } :=
 I.write (x:=a) (e:=a) mu (.inl rfl) (λ b q hb z=>(hs.2 b hb).trans z) he new
theorem zg81 {P:Program} {w:World} {H':Hp} {h':Heap} {kvs:List (Key×V)} {vs:List (Key×Value)} (z:kvs.length<=sizeLine) (hd:(a == sysModules)=false) (rel:KV kvs vs) (dd:h'.DictOf (zw1 P w) a vs) :
  ObjOk P w H' h' a (.dK kvs):=⟨z,hd,vs,rel,dd⟩
theorem zkr {H':Hp} {Q:Unit->Shared->Prop} (hu:A.units+1 < cLine) (I:Inv X pins Y H s) (g:DPut H a y v H') (ry:RelV y u) (rv:RelV v r) (h:∀ s',Inv X pins Y H' s'->Q () s') :
  wpAny (model X.prog X.w) A (setItem (.ref a) u r) Q E s:=by
 rcases g with ⟨kvs,k,e,ey,l,eH⟩|⟨kvs,k,b,e,ey,eb,l,eH⟩
 ·subst ey eH
  obtain ⟨z,hd,vs,rel,dd⟩:=znb1 I.hok e
  have hz:vs.length<=sizeLine:=by rw [<- rel.length];exact z
  have hl:(putK kvs k v).length<=sizeLine:=by have:=zad kvs k v;lia
  refine wpAny_setItem_pairs (hsz:=hz) (zuz ry) dd λ h' dd' hs=>h _ ?_
  have he:∃ q,h'.get? a=some q:=let ⟨q,_,_,hq,_⟩:=dd';⟨q,hq⟩
  exact zvn I (by rw [e];exact True.intro) hs he (zg81 hl hd (rel.put k rv) dd')
 ·subst ey eH
  cases (show u=Value.ref b from ry)
  obtain ⟨z,hd,xs,rel,dd⟩:=zi91 I.hok e
  have hz:xs.length<=sizeLine:=by rw [<- Paired.length rel];exact z
  have hl:(putK kvs k v).length<=sizeLine:=by have:=zad kvs k v;lia
  refine wpAny_setItem_heap (hsz:=hz) (tupleKind_room_in1 hu) (zxk I.hok eb) dd λ h' dd' hs=>h _ ?_
  obtain ⟨q,es,ep,hq,h2,h3,h4,_,h5⟩:=dd'
  refine zvn I (by rw [e];exact True.intro) hs ⟨q,hq⟩ ⟨hl,hd,_,(rel.put k eb rv).keeps λ c ys ec=>?_,q,es,ep,hq,h2,h3,h4,h5⟩
  rw [zj0 (zi51 ec e (λ z=>nomatch z))]
  exact ec
end
section
variable {X:Cx} {pins:List (Addr×Obj)} {Y:St} {H:Hp} {s:Shared} {a:Addr} {kvs:List (Key×V)} {k:Key} {u:Value} {A:Around} {E:Value->Shared->Prop}
end
theorem ztk {X:Cx} {pins:List (Addr×Obj)} {Y:St} {H:Hp} {s:Shared} {a:Addr} {y:V} {o:Option V} (I:Inv X pins Y H s) (g:DGet H a y o):s.TypeIs (.ref a) "dict":=by
 rcases g with ⟨kvs,k,e,_,_⟩|⟨kvs,k,b,e,_,_,_⟩
 ·obtain ⟨_,_,vs,_,dd⟩:=zkx I.hok e
  exact dd.typeIs
 ·obtain ⟨_,_,xs,_,dd⟩:=zgx I.hok e
  exact dd.typeIs
section
variable {X:Cx} {o i e value:Expr} {pos pos' tpos:Pos} {td ty tv:TE}
end
theorem zpt {P:Program} {w:World} {H:Hp} (h:Heap) (hb:sysModules < h.objs.size):ObjOk P w H (h.push { cls:=.type "dict",data:=.dict #[] }) h.objs.size (.dT []) :=
 ⟨Nat.zero_le _,beq_eq_false_iff_ne.mpr (Ne.symm (Nat.ne_of_lt hb)),[],.nil,_,#[],0,Heap.get?_push_size _ rfl,⟨rfl,rfl,rfl⟩,rfl,rfl,List.nodup_nil⟩
def zo01:TE:=λ _ H Q=>∀ p,H p=none->Q (.ref p) (upd H p (.dT []))
section
variable {X:Cx} {pos:Pos}
theorem ziv:PE X (.Dict [] [] pos) zo01:=λ pins s Y H Q I h =>
 wpAny_Dict_empty ⟨.ref s.heap.objs.size,_,I.laid (a:=s.heap.objs.size) (o:=.dT []) (t':=s.toks) (λ _ _ q=>Heap.get?_push_of_some _ q) (Nat.le_refl _) (zpt s.heap I.big),rfl,h _ (I.hok.fresh (Nat.le_refl _))⟩
end
def IsD (H:Hp) (a:Addr):Prop:=(∃ kvs,Rd H a (.dK kvs)) \/ ∃ kvs,Rd H a (.dT kvs)
theorem zc71 {X:Cx} {pins:List (Addr×Obj)} {Y:St} {H:Hp} {s:Shared} {a:Addr} (I:Inv X pins Y H s) (d:IsD H a) :
  s.TypeIs (.ref a) "dict"/\(∀ b,Value.ref a=.ref b->∃ ob,s.heap.get? b=some ob/\ob.dict=none)/\(a == sysModules)=false:=by
 rcases d with ⟨kvs,e⟩|⟨kvs,e⟩
 ·obtain ⟨_,hd,vs,_,dd⟩:=zkx I.hok e
  refine ⟨dd.typeIs,λ b q=>?_,hd⟩
  cases q
  obtain ⟨ob,_,_,h1,h2,_⟩:=dd
  exact ⟨ob,h1,h2.2.1⟩
 ·obtain ⟨_,hd,xs,_,dd⟩:=zgx I.hok e
  refine ⟨dd.typeIs,λ b q=>?_,hd⟩
  cases q
  obtain ⟨ob,_,_,h1,h2,_⟩:=dd
  exact ⟨ob,h1,h2.2.1⟩
section
variable {X:Cx} {pins:List (Addr×Obj)} {Y:St} {H:Hp} {s:Shared} {a:Addr} {y d:V} {u r:Value} {o:Option V} {A:Around} {E:Value->Shared->Prop}
theorem zp71 {Q:Value->Shared->Prop} (hu:A.units+1 < cLine) (I:Inv X pins Y H s) (g:DGet H a y o) (ry:RelV y u) (rd:RelV d r) (h:∀ w' s',Inv X pins Y H s'->RelV (o.getD d) w'->Q w' s') :
  wpAny (model X.prog X.w) A (call (.builtin "dict.get") [.ref a,u,r]) Q E s:=by
 rcases g with ⟨kvs,k,e,ey,l⟩|⟨kvs,k,b,e,ey,eb,l⟩
 ·subst ey
  obtain ⟨z,hd,vs,rel,dd⟩:=zkx I.hok e
  refine call_meetsIn PySem.F.slot_dict_get dd.typeIs PySem.F.entry_dict_get (PySem.F.args_dict_get_3 _ _ _) (meets_dict_get_default (zw1 X.prog X.w) a (zuz ry) hd r) ⟨_,dd.mapOf,h _ _ (I.tok _) ?_⟩
  rw [l]
  exact (rel.val k).getD rd
 ·subst ey
  cases (show u=Value.ref b from ry)
  obtain ⟨z,hd,xs,rel,dd⟩:=zgx I.hok e
  refine call_meetsIn PySem.F.slot_dict_get dd.typeIs PySem.F.entry_dict_get (PySem.F.args_dict_get_3 _ _ _) (meetsH_dict_get_default (tupleKind (zw1 X.prog X.w)) a b hd r) ⟨tupleKind_room_in1 hu,k,xs,zxk I.hok eb,dd,h _ _ (I.tok _) ?_⟩
  rw [l]
  exact (rel.val k).getD rd
end
section
variable {X:Cx} {o e f:Expr} {apos cpos:Pos} {td ty tx:TE}
end
section
variable {X:Cx} {pins:List (Addr×Obj)} {Y:St} {H:Hp} {s:Shared} {a:Addr} {kvs:List (Key×V)} {A:Around} {E:Value->Shared->Prop}
end
section
variable {X:Cx} {pins:List (Addr×Obj)} {Y:St} {H:Hp} {s:Shared} {a:Addr} {y:V} {u:Value} {A:Around} {E:Value->Shared->Prop}
end
end L2
namespace L3
open PySem PySem.Spec PyProof.Rows L2
def rInD:R2:=λ x y H Q=>∃ a o,y=.ref a/\DGet H a x o/\Q (.bl o.isSome) H
def rIxD:R2:=λ x y H Q=>∃ a v,x=.ref a/\DGet H a y (some v)/\Q v H
def zz91:V->V->V->Hp->(Hp->Prop)->Prop:=λ o i v H Q=>∃ a H',o=.ref a/\DPut H a i v H'/\Q H'
section
variable {X:Cx}
theorem zyb1 (hu:X.A.units+64 < cLine):OpR X (compareOp .In) rInD:=by
 intro pins s Y H x y v u Q I rx ry h
 obtain ⟨a,o,rfl,g,q⟩:=h
 obtain rfl:u=Value.ref a:=ry
 exact d_in (by lia) I g rx λ s3 I3=>⟨.bl o.isSome,H,I3,rfl,q⟩
theorem ix_D (hu:X.A.units+64 < cLine):IxR X rIxD:=by
 intro value slice pins s Y H x y v u Q I rx ry h hs
 obtain ⟨a,v',rfl,g,q⟩:=h
 obtain rfl:v=Value.ref a:=rx
 exact tail_any (ztk I g) PySem.F.slot_dict_getitem.lookup (zpk (by lia) I g ry λ w' s3 I3 rw'=>⟨v',H,I3,rw',q⟩) hs
theorem zec1 (hu:X.A.units+64 < cLine):PSet X zz91:=by
 intro pins s Y H o i v ov iv u Q I ro ri rv h
 obtain ⟨a,H',rfl,g,q⟩:=h
 obtain rfl:ov=Value.ref a:=ro
 exact zkr (by lia) I g ri rv λ s4 I4=>⟨H',I4,q⟩
theorem zhb1 (hu:X.A.units+64 < cLine):PGet X rIxD:=by
 intro pins s Y H o i ov iv Q I ro ri h
 obtain ⟨a,v',rfl,g,q⟩:=h
 obtain rfl:ov=Value.ref a:=ro
 exact zpk (by lia) I g ri λ w' s3 I3 rw'=>⟨v',H,I3,rw',q⟩
def zr91 (K:Fg):R2:=λ x y H Q=>∃ a xs j v,x=.ref a/\y=.int j/\0<=j/\SqL K H a xs/\xs[j.toNat]?=some v/\Q v H
theorem zcb1 {K:Fg} (hK:X.K=K):PGet X (zr91 K):=by
 subst hK
 intro pins s Y H o i ov iv Q I ro ri h
 obtain ⟨a,xs,j,v,rfl,rfl,h0,hq,he,q⟩:=h
 obtain rfl:ov=Value.ref a:=ro
 obtain ⟨t,rfl⟩:=ri
 obtain ⟨its,r,pl,hz⟩:=I.list hq
 obtain ⟨u,eu,ru⟩:=r.get he
 have hl:=r.length
 have hn:=zqi
 have hj:=(List.getElem?_eq_some_iff.mp he).1
 refine wpAny_getItem_list pl.isList h0 (by lia) (by simpa using eu) ⟨v,H,I,ru,q⟩
theorem PGet.or {r r':R2} (h:PGet X r) (h':PGet X r'):PGet X (λ x y H Q=>r x y H Q \/ r' x y H Q):=by
 intro pins s Y H o i ov iv Q I ro ri q
 rcases q with q|q
 ·exact h pins s Y H o i ov iv Q I ro ri q
 ·exact h' pins s Y H o i ov iv Q I ro ri q
theorem PSet.or {r r':TSet} (h:PSet X r) (h':PSet X r'):PSet X (λ o i v H Q=>r o i v H Q \/ r' o i v H Q):=by
 intro pins s Y H o i v ov iv u Q I ro ri rv q
 rcases q with q|q
 ·exact h pins s Y H o i v ov iv u Q I ro ri rv q
 ·exact h' pins s Y H o i v ov iv u Q I ro ri rv q
end
def rIxV (w:World) (K:Fg):R2:=λ x y H Q=>rIxW w K x y H Q \/ rIxD x y H Q
def zj41 (K:Fg):R2:=λ x y H Q=>zr91 K x y H Q \/ rIxD x y H Q
def znr:V->V->V->Hp->(Hp->Prop)->Prop:=λ o i v H Q=>zta1 o i v H Q \/ zz91 o i v H Q
section
variable {X:Cx} {w:World} {K:Fg}
theorem ix_V (hu:X.A.units+64 < cLine) (hw:X.w=w) (hK:X.K=K):IxR X (rIxV w K):=(ix_W hw hK).or (ix_D hu)
theorem zg41 (hu:X.A.units+64 < cLine) (hK:X.K=K):PGet X (zj41 K):=PGet.or (zcb1 hK) (zhb1 hu)
theorem zfi (hu:X.A.units+64 < cLine):PSet X znr:=PSet.or zrv (zec1 hu)
end
section
variable {w:World} {K:Fg} {H:Hp} {Q:VK} {a b:Addr} {x y v:V} {o:Option V} {xs:List V} {i:Int} {Y:St} {D:Ends}
end
section
variable {K:Fg} {H:Hp} {Q:VK} {Y caps:St} {n:Nat} {ix:List Nat} {g:TG} {tt:TT} {te:TE} {m:Nat} {J:It} {Yv:Nat->V->Hp->Prop}
end
section
variable {K:Fg} {T:String} {r:V->List V->Hp->VK->Prop} {to:TE} {Y:L2.St} {H:Hp} {Q:VK} {a:Addr} {xs:List V} {w:World} {x y v:V}
end
theorem zbt {X:Cx} {pins:List (Addr×Obj)} {Y:L2.St} {H:Hp} {s:Shared} {h':Heap} {t':Nat} {a c:Addr} (I:L2.Inv X pins Y H s) (k:∀ b o,b≠a->b≠c->s.heap.get? b=some o->h'.get? b=some o)
  (fa:FpOk X pins H a) (fc:FpOk X pins H c):L2.Inv X pins Y H { s with heap:=h',toks:=t' }:=by
 obtain ⟨a0,a1,_,a3,a4,a5⟩:=fa
 obtain ⟨c0,c1,_,c3,c4,c5⟩:=fc
 have na:∀ b u,H b=some u->b≠a:=λ b u e z=>by rw [z,a0] at e;cases e
 have nc:∀ b u,H b=some u->b≠c:=λ b u e z=>by rw [z,c0] at e;cases e
 refine I.step (g':=s.gens) (d':=s.drawn) (ch:=[a,c]) (λ b hb=>?_) (λ b o _ _ hc e _=>k b o (λ z=>hc (by simp [z])) (λ z=>hc (by simp [z])) e) (λ b o _ _ hc e _=>⟨o.slots,k b o (λ z=>hc (by simp [z])) (λ z=>hc (by simp [z])) e⟩) (λ _ _ _ _ n=>n)
  (λ b o hc e=>⟨o,k b o (λ z=>hc (by simp [z])) (λ z=>hc (by simp [z])) e⟩) (λ _ _ e=>e) (λ _ _ _ e=>e) (λ b ps e=>⟨#[],by rw [e];simp⟩) (λ m hm=>?_) (λ b u e=>?_) I.bare
 ·simp at hb
  rcases hb with e|e
  ·subst e;exact ⟨a3,a1,a4,a5⟩
  ·subst e;exact ⟨c3,c1,c4,c5⟩
 ·obtain ⟨o,es,ep,ho,r⟩:=hm
  exact ⟨o,es,ep,k _ o (Ne.symm a1) (Ne.symm c1) ho,r⟩
 ·refine (I.hok b u e).stay (λ d v hc q=>k d v ?_ ?_ q) (λ _ q=>q) λ _ _ q=>q
  ·rcases hc with z|z
   ·rw [z];exact na b u e
   ·exact na d _ z
  ·rcases hc with z|z
   ·rw [z];exact nc b u e
   ·exact nc d _ z
theorem zgt {h:Heap} {ob o:Obj} {b:Addr} (e:(h.push ob).get? b=some o) (n:b≠h.objs.size):h.get? b=some o:=by
 obtain ⟨e1,e2⟩:=Heap.get?_some_iff.mp e
 refine Heap.get?_some_iff.mpr ⟨?_,e2⟩
 cases h
 simpa [Heap.push,Array.getElem?_push,n] using e1
def Ite (K:Fg) (a:Addr):It:=⟨λ i H=>∃ xs x,SqL K H a xs/\xs[i]?=some x,λ i H x H'=>∃ y p,(∀ ys,SqL K H a ys->ys[i]?=some y)/\H p=none/\x=.ref p/\H'=upd H p (.tup [.int (i:Int),y]),λ i H=>∃ xs,SqL K H a xs/\xs.length<=i⟩
theorem zep {P:Program} {w:World} {K:Fg} {elts:List Expr} {c:_} {pos:Pos} {a e it:Addr} (hne:e≠it) :
  Turn P w K (.Tuple elts c pos) (Ite K a) [e,it] e (λ i h=>(∃ old,IsEnum h e it (i:Int) old)/\h.IsListIter it a i) where
 mem:=by simp
 obj:=λ i h S b hb=>by
  obtain ⟨⟨old,he⟩,hi⟩:=S
  simp at hb
  rcases hb with rfl|rfl
  ·exact ⟨_,he,λ v q=>by cases q⟩
  ·obtain ⟨o,e1,c1,d1⟩:=hi
   exact ⟨o,e1,λ v z=>by rw [d1] at z;cases z⟩
 keep:=λ i h h' S k=>by
  obtain ⟨⟨old,he⟩,hi⟩:=S
  exact ⟨⟨old,k _ (by simp) _ he⟩,hi.at λ o e1=>k it (by simp) o e1⟩
 item:=by
  intro X hP hw hK hc i pins s Y H E I hf S hg
  subst hP hw hK
  obtain ⟨⟨old,he⟩,hi⟩:=S
  obtain ⟨xs,x,hq,hx⟩:=hg
  obtain ⟨its,rv,p,hz⟩:=I.list hq
  obtain ⟨u,hu,ru⟩:=rv.get hx
  refine wpAny_pyNext_enum_item he hi p.isList (x:=u) (by simpa using hu) hne λ h' ho hi' ht hsz hk=>?_
  have eL:e < s.heap.objs.size:=Heap.lt_size he
  have iL:it < s.heap.objs.size:=by obtain ⟨o,e1,_⟩:=hi;exact Heap.lt_size e1
  have hfr:=I.hok.fresh (Nat.le_refl s.heap.objs.size)
  have I1:L2.Inv X pins Y (upd H s.heap.objs.size (.tup [.int (i:Int),x])) { s with heap:=s.heap.push { cls:=.type "tuple",data:=.seq #[.int i s.toks,u] },toks:=s.toks+1 } :=
   I.laid (t':=s.toks+1) (o:=.tup [.int (i:Int),x]) (λ b ob q=>Heap.get?_push_of_some _ q) (Nat.le_refl _) ⟨by show 2<=sizeLine;rw [sizeLine_eq];decide,[.int i s.toks,u],.cons ⟨_,rfl⟩ (.cons ru .nil),IsTup.new _ _⟩
  have fe:=hf e (by simp)
  have fi:=hf it (by simp)
  have fe1:FpOk X pins (upd H s.heap.objs.size (.tup [.int (i:Int),x])) e:=⟨by rw [zj0 (Nat.ne_of_lt eL)];exact fe.1,fe.2⟩
  have fi1:FpOk X pins (upd H s.heap.objs.size (.tup [.int (i:Int),x])) it:=⟨by rw [zj0 (Nat.ne_of_lt iL)];exact fi.1,fi.2⟩
  have I2:L2.Inv X pins Y (upd H s.heap.objs.size (.tup [.int (i:Int),x])) { s with heap:=h',toks:=s.toks+1 } :=
   zbt (s:={ s with heap:=s.heap.push { cls:=.type "tuple",data:=.seq #[.int i s.toks,u] },toks:=s.toks+1 }) I1 (λ b o nb1 nb2 q=>by
    by_cases z:b=s.heap.objs.size
    ·subst z
     have q':(s.heap.push { cls:=.type "tuple",data:=.seq #[.int i s.toks,u] }).get? s.heap.objs.size=some o:=q
     rw [Heap.get?_push_size _ rfl] at q'
     cases q'
     exact ht
    ·exact hk b o nb1 nb2 (zgt q z)) fe1 fi1
  refine ⟨.ref s.heap.objs.size,rfl,wpAny_letOwnedTupleGo_enum ho λ h2 he2 hs2=>?_⟩
  refine ⟨.ref s.heap.objs.size,_,zqr (tk:=s.toks+1) I2 fe1 hs2,rfl,⟨x,s.heap.objs.size,λ ys hy=>by rw [I.list_inj hy hq];exact hx,hfr,rfl,rfl⟩,⟨⟨u,by simpa using he2⟩,hi'.at λ o e1=>hs2.extBut _ _ (Ne.symm hne) e1⟩,λ b hb=>?_⟩
  simp at hb
  rcases hb with rfl|rfl
  ·exact fe1.1
  ·exact fi1.1
 done:=by
  intro X hP hw hK hc i pins s Y H E I hf S hg
  subst hP hw hK
  obtain ⟨⟨old,he⟩,hi⟩:=S
  obtain ⟨xs,hq,hx⟩:=hg
  obtain ⟨its,rv,p,hz⟩:=I.list hq
  have hl:=rv.length
  exact wpAny_pyNext_enum_end (I.ok.hd hc) he hi p.isList (by simp;lia) λ h' eb=>⟨rfl,zyx (tk:=s.toks) I (hf it (by simp)) eb⟩
 self:=λ _ _ _ _ _ S h=>wpAny_pyIter_enum S.1.choose_spec h
theorem zki:bootBuiltins "enumerate"=some (.type "enumerate"):=by decide +kernel
section
variable {X:Cx} {elts:List Expr}
def zgb1 (K:Fg) (vs:List V) (H:Hp) (R:It->Hp->Prop):Prop:=∃ a xs,vs=[.ref a]/\SqL K H a xs/\R (Ite K a) H
def zq51 (K:Fg) (ta:TA):TI:=λ Y H R=>ta Y H λ vs H1=>zgb1 K vs H1 R
theorem zqo {K:Fg} (hK:X.K=K) {c:_} {tpos:Pos} {a:Expr} {ta:TA} {p pos:Pos} (hg:Gl X "enumerate") (hm:X.mg "enumerate"=none) (ha:PA X [a] ta) (hs:starEach [a] X.env=[(false,eval a X.env)]:=by rfl) :
  PI X (.Tuple elts c tpos) (.Call (.Name "enumerate" p) [a] [] pos) (zq51 K ta):=by
 subst hK
 intro pins s Y H R I h
 refine Call_ (zji I hg hm zki (PyProof.Rows.callWith_type1 (thn (ha pos pins s Y H _ I h) λ us s1 hz=>?_) (by rw [hs];rfl) (by rfl)))
 obtain ⟨vs,H1,I1,r1,q1⟩:=hz
 obtain ⟨l,xs,e,hq,q⟩:=q1
 subst e
 obtain ⟨u1,rfl,ru⟩:=zfx r1
 obtain rfl:u1=Value.ref l:=ru
 obtain ⟨its,rv,pl,hz⟩:=I1.list hq
 refine call_enumerate_list pl.isList ?_
 intro h' he hi hsz kk
 refine wpAny_pyIter_enum he ?_
 have I2:L2.Inv X pins Y H1 { s1 with heap:=h' }:=I1.kept (t':=s1.toks) kk
 refine ⟨s1.heap.objs.size+1,[s1.heap.objs.size+1,s1.heap.objs.size],_,_,H1,rfl,I2,zep (Nat.succ_ne_self _),⟨⟨.none,he⟩,hi⟩,λ b hb=>?_,q⟩
 have hb':s1.heap.objs.size<=b:=by
  simp at hb
  rcases hb with z|z
  ·exact z ▸ Nat.le_succ _
  ·exact z ▸ Nat.le_refl _
 exact I1.fpOk hb' (I1.hok.fresh hb')
end
section
variable {K:Fg} {H:Hp} {a:Addr} {xs:List V} {Y:L2.St} {ta:TA}
end
def zv71:R2:=λ x y H Q=>zj91 x y H Q \/ rRep x y H Q
theorem zj3 {X:Cx}:OpR X (binaryOp .Mult) zv71:=zxy.or zv21
def zdv:V->List V->Hp->VK->Prop:=λ x vs H Q=>∃ a k d o,x=.ref a/\vs=[k,d]/\DGet H a k o/\Q (o.getD d) H
theorem zxx {X:Cx} (hu:X.A.units+64 < cLine):MtR X "dict.get" zdv:=by
 intro pins s Y H x xs v us Q I rx rv h
 obtain ⟨a,k,d,o,rfl,rfl,g,q⟩:=h
 obtain ⟨u,r,rfl,ru,rr⟩:=zy71 rv
 obtain rfl:v=Value.ref a:=rx
 exact zp71 (by lia) I g ru rr λ w' s3 I3 rw'=>⟨o.getD d,H,I3,rw',q⟩
section
variable {K:Fg} {r:V->List V->Hp->VK->Prop} {t:TA} {Y:L2.St} {H:Hp} {Q:VK} {a:Addr} {d k:V} {o:Option V}
end
section
variable {X:Cx}
def zwa1 (K:Fg):R2:=λ x y H Q=>∃ l b xs zs,x=.ref l/\y=.ref b/\SqL K H l xs/\SqL K H b zs/\xs.length+zs.length<=sizeLine/\∀ p,H p=none->Q (.ref p) (upd H p (.lst (xs++zs)))
theorem zq01 {K:Fg} (hK:X.K=K):OpR X (binaryOp .Add) (zwa1 K):=by
 subst hK
 intro pins s Y H x y v u Q I rx ry h
 obtain ⟨l,b,xs,zs,rfl,rfl,hH,hB,hz,q⟩:=h
 cases rx
 cases ry
 obtain ⟨its,r,⟨⟨cls,dd,data,sl⟩,n,ho,hc,_,hd⟩,z1⟩:=I.list hH
 obtain ⟨its2,r2,⟨⟨cls2,dd2,data2,sl2⟩,n2,ho2,hc2,_,hd2⟩,z2⟩:=I.list hB
 simp only at hc hd hc2 hd2
 subst hc hd hc2 hd2
 have e1:=r.length
 have e2:=r2.length
 refine concat_meets ⟨_,ho,rfl⟩ ⟨_,ho2,rfl⟩ noFill_list_add seq_list_add PySem.F.slot_list_add PySem.F.entry_list_add (PySem.F.args_list_add_2 _ _) (list_addW l b its.toArray its2.toArray n n2 dd dd2 sl sl2 (by simp;lia)) ⟨ho,ho2,?_⟩
 have ea:its.toArray++its2.toArray=(its++its2).toArray:=by simp
 rw [ea]
 exact ⟨.ref _,_,I.lnew (t':=s.toks) (r.append r2) (by rw [List.length_append];lia),rfl,q _ I.fresh⟩
def zhl (K:Fg):R2:=λ x y H Q=>zf91 K x y H Q \/ zwa1 K x y H Q
theorem zs0 {K:Fg} (hK:X.K=K):OpR X (binaryOp .Add) (zhl K):=(zh31 hK).or (zq01 hK)
def rIsS (K:Fg):List V->Hp->VK->Prop:=λ vs H Q=>∃ a cV c b,vs=[.ref a,cV]/\clsV cV=some c/\(((∃ xs,SqL K H a xs)/\PySem.W.kitOne K (.type "list") c=some b) \/ ((∃ xs,SqT K H a xs)/\PySem.W.kitOne K (.type "tuple") c=some b))/\Q (.bl b) H
theorem zgw {K:Fg} (h:X.K=K):CallR X (.builtin "isinstance") (rIsS K):=by
 subst h
 intro pins s Y H xs us Q I r h
 obtain ⟨a,cV,c,b,rfl,rc,hh,q⟩:=h
 obtain ⟨u,v,rfl,ru,rv⟩:=r.two
 obtain rfl:=zsi rc rv
 cases (show u=Value.ref a from ru)
 rcases hh with ⟨⟨xs,hx⟩,e⟩|⟨⟨xs,hx⟩,e⟩
 ·obtain ⟨its,_,⟨o,n,ho,hc,_,hd⟩,_⟩:=I.list hx
  exact PySem.W.kia_one PySem.W.kitx_list I.kIn ⟨o,ho,hc⟩ e (λ z=>nomatch z) λ tk=>⟨.bl b,H,I.tok tk,rfl,q⟩
 ·obtain ⟨its,_,⟨o,h1,h2,_⟩,_⟩:=I.tuple hx
  exact PySem.W.kia_one PySem.W.kitx_tuple I.kIn ⟨o,h1,h2⟩ e (λ z=>nomatch z) λ tk=>⟨.bl b,H,I.tok tk,rfl,q⟩
def rIsW (K:Fg):List V->Hp->VK->Prop:=λ vs H Q=>rIsI K vs H Q \/ rIsS K vs H Q
theorem zlh {K:Fg} (h:X.K=K):CallR X (.builtin "isinstance") (rIsW K):=(zbl h).or (zgw h)
end
theorem IsAll.dlen {K:Fg} {F:Hp}:∀ {xs:List V} {ds:List PyData},IsAll K F xs ds->xs.length=ds.length
|_,_,.nil=>rfl
|_,_,.cons _ r=>congrArg (·+1) (IsAll.dlen r)
theorem IsAll.dget {K:Fg} {F:Hp}:∀ {xs:List V} {ds:List PyData} {i:Nat} {d:PyData},IsAll K F xs ds->ds[i]?=some d->∃ x,xs[i]?=some x/\Is K F x d
|_,_,_,_,.nil,e=>by simp at e
|_,_,0,_,.cons h _,e=>by simp at e;subst e;exact ⟨_,rfl,h⟩
|_,_,i+1,d,.cons _ r,e=>by
  obtain ⟨x,h1,h2⟩:=IsAll.dget (i:=i) (d:=d) r (by simpa using e)
  exact ⟨x,by simpa using h1,h2⟩
theorem IsAll.dapp {K:Fg} {F:Hp}:∀ {xs ys:List V} {ds es:List PyData},IsAll K F xs ds->IsAll K F ys es->IsAll K F (xs++ys) (ds++es)
|_,_,_,_,.nil,s=>s
|_,_,_,_,.cons h r,s=>.cons h (IsAll.dapp r s)
theorem IsAll.dtake {K:Fg} {F:Hp}:∀ (n:Nat) {xs:List V} {ds:List PyData},IsAll K F xs ds->IsAll K F (xs.take n) (ds.take n)
|0,_,_,_=>.nil
|_+1,_,_,.nil=>.nil
|n+1,_,_,.cons h r=>.cons h (IsAll.dtake n r)
theorem IsAll.ddrop {K:Fg} {F:Hp}:∀ (n:Nat) {xs:List V} {ds:List PyData},IsAll K F xs ds->IsAll K F (xs.drop n) (ds.drop n)
|0,_,_,h=>h
|_+1,_,_,.nil=>.nil
|n+1,_,_,.cons _ r=>IsAll.ddrop n r
theorem IsAll.dset {K:Fg} {F:Hp} {x:V} {d:PyData} (hx:Is K F x d):∀ (n:Nat) {xs:List V} {ds:List PyData},IsAll K F xs ds->IsAll K F (xs.set n x) (ds.set n d)
|_,_,_,.nil=>.nil
|0,_,_,.cons _ r=>.cons hx r
|n+1,_,_,.cons h r=>.cons h (IsAll.dset hx n r)
theorem Is.list_inv {K:Fg} {F:Hp} {v:V} {ds:List PyData} (h:Is K F v (.list ds)):∃ a xs,v=.ref a/\SqL K F a xs/\IsAll K F xs ds:=by
 cases h with
|lst h1 h2=>exact ⟨_,_,rfl,h1,h2⟩
theorem Is.tuple_inv {K:Fg} {F:Hp} {v:V} {ds:List PyData} (h:Is K F v (.tuple ds)):∃ a xs,v=.ref a/\SqT K F a xs/\IsAll K F xs ds:=by
 cases h with
|tup h1 h2=>exact ⟨_,_,rfl,SqT.of h1,h2⟩
|tuc h1 h2 _=>exact ⟨_,_,rfl,h1,h2⟩
theorem Is.int_inv {K:Fg} {F:Hp} {v:V} {i:Int} (h:Is K F v (.int i)):v=.int i:=by cases h;rfl
theorem Is.bl_inv {K:Fg} {F:Hp} {v:V} {b:Bool} (h:Is K F v (.bool b)):v=.bl b:=by cases h;rfl
theorem Is.str_inv {K:Fg} {F:Hp} {v:V} {b:Str} (h:Is K F v (.str b)):v=.str b:=by cases h;rfl
theorem Is.non_inv {K:Fg} {F:Hp} {v:V} (h:Is K F v .none):v=.non:=by cases h;rfl
end L3
namespace L4
open PySem PySem.Spec PyProof.Rows L2 L3
abbrev D:=PyData
structure Ext (F H F' H':Hp):Prop where
 h:Same H H'
 f:Same F F'
 fh:Same F' H'
 nw:∀ a,H a≠none->F a=none->F' a=none
theorem Ext.refl {F H:Hp} (s:Same F H):Ext F H F H:=⟨λ _ _ z=>z,λ _ _ z=>z,s,λ _ _ z=>z⟩
theorem Ext.trans {F H F1 H1 F2 H2:Hp} (a:Ext F H F1 H1) (b:Ext F1 H1 F2 H2):Ext F H F2 H2 :=
 ⟨a.h.trans b.h,a.f.trans b.f,b.fh,λ c hc fc=>b.nw c (λ z=>by
  cases e:H c with
 |none=>exact hc e
 |some o=>rw [a.h c o e] at z;cases z) (a.nw c hc fc)⟩
inductive T where
|fz (d:D)|li (ds:List D)|ls (ts:List T)|ob (C:Addr) (fs:List (Str×T))|dk (kvs:List (Key×D))|dt (kvs:List (List Key×D))|tp (ts:List T)
inductive KvIs (K:Fg) (F:Hp) {κ:Type}:List (κ×V)->List (κ×D)->Prop
|nil:KvIs K F [] []
|cons {k:κ} {v:V} {d:D} {r:List (κ×V)} {s:List (κ×D)}:Is K F v d->KvIs K F r s->KvIs K F ((k,v) :: r) ((k,d) :: s)
theorem KvIs.mono {K:Fg} {F F':Hp} {κ:Type} (s:Same F F'):∀ {r:List (κ×V)} {t:List (κ×D)},KvIs K F r t->KvIs K F' r t
|_,_,.nil=>.nil
|_,_,.cons h r=>.cons (h.mono s) (r.mono s)
mutual
inductive Rt (K:Fg) (F H:Hp):V->T->List Addr->Prop
|fz {v:V} {d:D}:Is K F v d->Rt K F H v (.fz d) []
|li {a:Addr} {xs:List V} {ds:List D}:H a=some (.lst xs)->F a=none->IsAll K F xs ds->Rt K F H (.ref a) (.li ds) [a]
|ls {a:Addr} {xs:List V} {ts:List T} {fp:List Addr}:H a=some (.lst xs)->F a=none->RtAll K F H xs ts fp->Rt K F H (.ref a) (.ls ts) (a :: fp)
|ob {a C dx:Addr} {fs:List (Str×V)} {ts:List (Str×T)} {fp:List Addr}:H a=some (.ins C dx fs)->H dx=some (.own a)->F a=none->F dx=none->RtFs K F H fs ts fp->Rt K F H (.ref a) (.ob C ts) (a :: dx :: fp)
|dk {a:Addr} {kvs:List (Key×V)} {ds:List (Key×D)}:H a=some (.dK kvs)->F a=none->KvIs K F kvs ds->Rt K F H (.ref a) (.dk ds) [a]
|dt {a:Addr} {kvs:List (List Key×V)} {ds:List (List Key×D)}:H a=some (.dT kvs)->F a=none->KvIs K F kvs ds->Rt K F H (.ref a) (.dt ds) [a]
|tp {a:Addr} {xs:List V} {ts:List T} {fp:List Addr}:H a=some (.tup xs)->F a=none->RtAll K F H xs ts fp->Rt K F H (.ref a) (.tp ts) (a :: fp)
inductive RtAll (K:Fg) (F H:Hp):List V->List T->List Addr->Prop
|nil:RtAll K F H [] [] []
|cons {x:V} {t:T} {xs:List V} {ts:List T} {fp fq:List Addr}:Rt K F H x t fp->RtAll K F H xs ts fq->RtAll K F H (x :: xs) (t :: ts) (fp++fq)
inductive RtFs (K:Fg) (F H:Hp):List (Str×V)->List (Str×T)->List Addr->Prop
|nil:RtFs K F H [] [] []
|cons {f:Str} {x:V} {t:T} {xs:List (Str×V)} {ts:List (Str×T)} {fp fq:List Addr}:Rt K F H x t fp->RtFs K F H xs ts fq->RtFs K F H ((f,x) :: xs) ((f,t) :: ts) (fp++fq)
end
section
variable {K:Fg} {F H F' H':Hp}
theorem Rt.ind {P : V → T → List Addr → Prop} {Q : List V → List T → List Addr → Prop} {R : List (Str × V) → List (Str × T) → List Addr → Prop}
    (c1 : ∀ {v : V} {d : D}, Is K F v d → P v (.fz d) [])
    (c2 : ∀ {a : Addr} {xs : List V} {ds : List D}, H a = some (.lst xs) → F a = none → IsAll K F xs ds → P (.ref a) (.li ds) [a])
    (c3 : ∀ {a : Addr} {xs : List V} {ts : List T} {fp : List Addr}, H a = some (.lst xs) → F a = none → Q xs ts fp → P (.ref a) (.ls ts) (a :: fp))
    (c4 : ∀ {a C dx : Addr} {fs : List (Str × V)} {ts : List (Str × T)} {fp : List Addr}, H a = some (.ins C dx fs) → H dx = some (.own a) → F a = none → F dx = none → R fs ts fp → P (.ref a) (.ob C ts) (a :: dx :: fp))
    (c5 : ∀ {a : Addr} {kvs : List (Key × V)} {ds : List (Key × D)}, H a = some (.dK kvs) → F a = none → KvIs K F kvs ds → P (.ref a) (.dk ds) [a])
    (c6 : ∀ {a : Addr} {kvs : List (List Key × V)} {ds : List (List Key × D)}, H a = some (.dT kvs) → F a = none → KvIs K F kvs ds → P (.ref a) (.dt ds) [a])
    (ct : ∀ {a : Addr} {xs : List V} {ts : List T} {fp : List Addr}, H a = some (.tup xs) → F a = none → Q xs ts fp → P (.ref a) (.tp ts) (a :: fp))
    (c7 : Q [] [] []) (c8 : ∀ {x : V} {t : T} {xs : List V} {ts : List T} {fp fq : List Addr}, P x t fp → Q xs ts fq → Q (x :: xs) (t :: ts) (fp ++ fq))
    (c9 : R [] [] []) (c0 : ∀ {f : Str} {x : V} {t : T} {xs : List (Str × V)} {ts : List (Str × T)} {fp fq : List Addr}, P x t fp → R xs ts fq → R ((f, x) :: xs) ((f, t) :: ts) (fp ++ fq)) :
    (∀ {v : V} {t : T} {fp : List Addr}, Rt K F H v t fp → P v t fp) ∧ (∀ {v : List V} {t : List T} {fp : List Addr}, RtAll K F H v t fp → Q v t fp) ∧ (∀ {v : List (Str × V)} {t : List (Str × T)} {fp : List Addr}, RtFs K F H v t fp → R v t fp) :=
  ⟨fun h => Rt.rec (motive_1 := fun v t fp _ => P v t fp) (motive_2 := fun v t fp _ => Q v t fp) (motive_3 := fun v t fp _ => R v t fp) c1 c2 (fun a b _ => c3 a b) (fun a b c d _ => c4 a b c d) c5 c6 (fun a b _ => ct a b) c7 (fun _ _ => c8) c9 (fun _ _ => c0) h,
   fun h => RtAll.rec (motive_1 := fun v t fp _ => P v t fp) (motive_2 := fun v t fp _ => Q v t fp) (motive_3 := fun v t fp _ => R v t fp) c1 c2 (fun a b _ => c3 a b) (fun a b c d _ => c4 a b c d) c5 c6 (fun a b _ => ct a b) c7 (fun _ _ => c8) c9 (fun _ _ => c0) h,
   fun h => RtFs.rec (motive_1 := fun v t fp _ => P v t fp) (motive_2 := fun v t fp _ => Q v t fp) (motive_3 := fun v t fp _ => R v t fp) c1 c2 (fun a b _ => c3 a b) (fun a b c d _ => c4 a b c d) c5 c6 (fun a b _ => ct a b) c7 (fun _ _ => c8) c9 (fun _ _ => c0) h⟩
def Keep (F' H H':Hp) (fp:List Addr):Prop:=∀ a∈fp,H' a=H a/\F' a=none
theorem Keep.hd {a:Addr} {fp:List Addr} {o:HO} (k:Keep F' H H' (a :: fp)) (h:H a=some o):H' a=some o:=(k a List.mem_cons_self).1.trans h
theorem Keep.no {a:Addr} {fp:List Addr} (k:Keep F' H H' (a :: fp)):F' a=none:=(k a List.mem_cons_self).2
theorem Keep.tl {a:Addr} {fp:List Addr} (k:Keep F' H H' (a :: fp)):Keep F' H H' fp:=λ b hb=>k b (List.mem_cons_of_mem _ hb)
theorem Keep.l {fp fq:List Addr} (k:Keep F' H H' (fp++fq)):Keep F' H H' fp:=λ b hb=>k b (List.mem_append_left _ hb)
theorem Keep.r {fp fq:List Addr} (k:Keep F' H H' (fp++fq)):Keep F' H H' fq:=λ b hb=>k b (List.mem_append_right _ hb)
theorem zzh (s:Same F F'):(∀ {v:V} {t:T} {fp:List Addr},Rt K F H v t fp->Keep F' H H' fp->Rt K F' H' v t fp)/\(∀ {v:List V} {t:List T} {fp:List Addr},RtAll K F H v t fp->Keep F' H H' fp->RtAll K F' H' v t fp)/\(∀ {v:List (Str×V)} {t:List (Str×T)} {fp:List Addr},RtFs K F H v t fp->Keep F' H H' fp->RtFs K F' H' v t fp) :=
 Rt.ind (P:=λ v t fp=>Keep F' H H' fp->Rt K F' H' v t fp) (Q:=λ v t fp=>Keep F' H H' fp->RtAll K F' H' v t fp) (R:=λ v t fp=>Keep F' H H' fp->RtFs K F' H' v t fp)
  (λ h _=>.fz (h.mono s)) (λ h _ i k=>.li (k.hd h) k.no (i.mono s)) (λ h _ i k=>.ls (k.hd h) k.no (i k.tl)) (λ h h2 _ _ i k=>.ob (k.hd h) (k.tl.hd h2) k.no k.tl.no (i k.tl.tl))
  (λ h _ i k=>.dk (k.hd h) k.no (i.mono s)) (λ h _ i k=>.dt (k.hd h) k.no (i.mono s)) (λ h _ i k=>.tp (k.hd h) k.no (i k.tl)) (λ _=>.nil) (λ a b k=>.cons (a k.l) (b k.r)) (λ _=>.nil) (λ a b k=>.cons (a k.l) (b k.r))
theorem Rt.frame (s:Same F F') {v:V} {t:T} {fp:List Addr} (h:Rt K F H v t fp) (k:∀ a∈fp,H' a=H a/\F' a=none):Rt K F' H' v t fp:=(zzh s).1 h k
theorem RtAll.frame (s:Same F F') {v:List V} {t:List T} {fp:List Addr} (h:RtAll K F H v t fp) (k:∀ a∈fp,H' a=H a/\F' a=none):RtAll K F' H' v t fp:=(zzh s).2.1 h k
theorem RtFs.frame (s:Same F F') {v:List (Str×V)} {t:List (Str×T)} {fp:List Addr} (h:RtFs K F H v t fp) (k:∀ a∈fp,H' a=H a/\F' a=none):RtFs K F' H' v t fp:=(zzh s).2.2 h k
def Dom (F H:Hp) (fp:List Addr):Prop:=∀ a∈fp,H a≠none/\F a=none
theorem Dom.nil:Dom F H []:=λ _ h=>nomatch h
theorem Dom.cons {a:Addr} {o:HO} {fp:List Addr} (h:H a=some o) (f:F a=none) (r:Dom F H fp):Dom F H (a :: fp):=λ b hb=>by
 rcases List.mem_cons.mp hb with e|e
 ·rw [e];exact ⟨λ z=>(by rw [h] at z;cases z),f⟩
 ·exact r b e
theorem Dom.app {fp fq:List Addr} (a:Dom F H fp) (b:Dom F H fq):Dom F H (fp++fq):=λ c hc=>(List.mem_append.mp hc).elim (a c) (b c)
theorem zkw:(∀ {v:V} {t:T} {fp:List Addr},Rt K F H v t fp->Dom F H fp)/\(∀ {v:List V} {t:List T} {fp:List Addr},RtAll K F H v t fp->Dom F H fp)/\(∀ {v:List (Str×V)} {t:List (Str×T)} {fp:List Addr},RtFs K F H v t fp->Dom F H fp) :=
 Rt.ind (P:=λ _ _ fp=>Dom F H fp) (Q:=λ _ _ fp=>Dom F H fp) (R:=λ _ _ fp=>Dom F H fp) (λ _=>.nil) (λ h f _=>.cons h f .nil) (λ h f r=>.cons h f r) (λ h h2 f f2 r=>.cons h f (.cons h2 f2 r))
  (λ h f _=>.cons h f .nil) (λ h f _=>.cons h f .nil) (λ h f r=>.cons h f r) .nil .app .nil .app
theorem Rt.dom {v:V} {t:T} {fp:List Addr} (h:Rt K F H v t fp):∀ a∈fp,H a≠none/\F a=none:=zkw.1 h
theorem RtAll.dom {v:List V} {t:List T} {fp:List Addr} (h:RtAll K F H v t fp):∀ a∈fp,H a≠none/\F a=none:=zkw.2.1 h
theorem RtFs.dom {v:List (Str×V)} {t:List (Str×T)} {fp:List Addr} (h:RtFs K F H v t fp):∀ a∈fp,H a≠none/\F a=none:=zkw.2.2 h
end
theorem Rt.ext {K:Fg} {F H F' H':Hp} {v:V} {t:T} {fp:List Addr} (e:Ext F H F' H') (h:Rt K F H v t fp):Rt K F' H' v t fp :=
 h.frame e.f λ a ha=>by
  obtain ⟨h1,h2⟩:=h.dom a ha
  cases q:H a with
 |none=>exact absurd q h1
 |some o=>exact ⟨e.h a o q,e.nw a h1 h2⟩
inductive Sl where
|un|sh (d:D)|ow (t:T)|bo (t:T)|io (a:Addr) (t:T)
abbrev DSt:=List Sl
abbrev DE:=DSt->(D->Prop)->Prop
abbrev DF:=DSt->(List D->Prop)->Prop
abbrev DT:=DSt->(Bool->Prop)->Prop
def RSl (K:Fg) (F H:Hp) (v:Option V):Sl->Prop
|.un=>True
|.sh d=>∃ x,v=some x/\Is K F x d
|.ow t=>∃ x fp,v=some x/\Rt K F H x t fp/\fp.Nodup
|.bo t=>∃ x fp,v=some x/\Rt K F H x t fp/\fp.Nodup
|.io a t=>∃ fp,v=some (.ref a)/\Rt K F H (.ref a) t fp/\fp.Nodup
theorem RSl.ext {K:Fg} {F H F' H':Hp} {v:Option V} (e:Ext F H F' H'):∀ {s:Sl},RSl K F H v s->RSl K F' H' v s
|.un,_=>trivial
|.sh _,⟨x,a,b⟩=>⟨x,a,b.mono e.f⟩
|.ow _,⟨a,xs,h1,h2,h3⟩=>⟨a,xs,h1,h2.ext e,h3⟩
|.bo _,⟨a,xs,h1,h2,h3⟩=>⟨a,xs,h1,h2.ext e,h3⟩
|.io _ _,⟨xs,h1,h2,h3⟩=>⟨xs,h1,h2.ext e,h3⟩
structure RV (K:Fg) (F H:Hp) (Y:L2.St) (U:DSt):Prop where
 len:Y.length=U.length
 sl:∀ i s,U[i]?=some s->RSl K F H (Y.getD i none) s
theorem RV.ext {K:Fg} {F H F' H':Hp} {Y:L2.St} {U:DSt} (e:Ext F H F' H') (r:RV K F H Y U):RV K F' H' Y U:=⟨r.len,λ i s h=>(r.sl i s h).ext e⟩
def Vw (K:Fg) (F H:Hp) (v:V) (d:D):Prop:=Is K F v d \/ ∃ a xs ds,v=.ref a/\d=.list ds/\H a=some (.lst xs)/\IsAll K F xs ds
theorem Vw.ext {K:Fg} {F H F' H':Hp} {v:V} {d:D} (e:Ext F H F' H') (h:Vw K F H v d):Vw K F' H' v d:=by
 rcases h with h|⟨a,xs,ds,h1,h2,h3,h4⟩
 ·exact .inl (h.mono e.f)
 ·exact .inr ⟨a,xs,ds,h1,h2,e.h _ _ h3,h4.mono e.f⟩
theorem Vw.is {K:Fg} {F H:Hp} {v:V} {d:D} (s:Same F H) (h:Vw K F H v d):Is K H v d:=by
 rcases h with h|⟨a,xs,ds,rfl,rfl,h3,h4⟩
 ·exact h.mono s
 ·exact .lst (SqL.of h3) (h4.mono s)
theorem Vw.list {K:Fg} {F H:Hp} {v:V} {ds:List D} (s:Same F H) (h:Vw K F H v (.list ds)):∃ a xs,v=.ref a/\SqL K H a xs/\IsAll K F xs ds:=by
 rcases h with h|⟨a,xs,ds',rfl,e,h3,h4⟩
 ·cases h with
 |lst h1 h2=>exact ⟨_,_,rfl,s.seq h1,h2⟩
 ·cases e;exact ⟨a,xs,rfl,SqL.of h3,h4⟩
theorem Vw.tuple {K:Fg} {F H:Hp} {v:V} {ds:List D} (s:Same F H) (h:Vw K F H v (.tuple ds)):∃ a xs,v=.ref a/\SqT K H a xs/\SqT K F a xs/\IsAll K F xs ds:=by
 rcases h with h|⟨a,xs,ds',rfl,e,h3,h4⟩
 ·cases h with
 |tup h1 h2=>exact ⟨_,_,rfl,zwp s (SqT.of h1),SqT.of h1,h2⟩
 |tuc h1 h2 _=>exact ⟨_,_,rfl,zwp s h1,h1,h2⟩
 ·cases e
theorem Vw.int {K:Fg} {F H:Hp} {v:V} {i:Int} (h:Vw K F H v (.int i)):v=.int i:=by
 rcases h with h|⟨a,xs,ds',rfl,e,h3,h4⟩
 ·exact h.int_inv
 ·cases e
theorem Vw.str {K:Fg} {F H:Hp} {v:V} {i:Str} (h:Vw K F H v (.str i)):v=.str i:=by
 rcases h with h|⟨a,xs,ds',rfl,e,h3,h4⟩
 ·exact h.str_inv
 ·cases e
theorem Vw.bl {K:Fg} {F H:Hp} {v:V} {i:Bool} (h:Vw K F H v (.bool i)):v=.bl i:=by
 rcases h with h|⟨a,xs,ds',rfl,e,h3,h4⟩
 ·exact h.bl_inv
 ·cases e
section
variable (K:Fg)
def RfE (te:TE) (de:DE):Prop:=∀ {F H:Hp} {Y:L2.St} {U:DSt} {Qd:D->Prop} {Q:VK},Same F H->RV K F H Y U->de U Qd->(∀ d,Qd d->∀ v F' H',Ext F H F' H'->Is K F' v d->Q v H')->te Y H Q
def RfV (te:TE) (de:DE):Prop:=∀ {F H:Hp} {Y:L2.St} {U:DSt} {Qd:D->Prop} {Q:VK},Same F H->RV K F H Y U->de U Qd->(∀ d,Qd d->∀ v F' H',Ext F H F' H'->Vw K F' H' v d->Q v H')->te Y H Q
def RfF (te:TE) (df:DF):Prop:=∀ {F H:Hp} {Y:L2.St} {U:DSt} {Qd:List D->Prop} {Q:VK},Same F H->RV K F H Y U->df U Qd->(∀ ds,Qd ds->∀ a xs F' H',Ext F H F' H'->H a=none->H' a=some (.lst xs)->F' a=none->IsAll K F' xs ds->Q (.ref a) H')->te Y H Q
def RfT (tt:TT) (dt:DT):Prop:=∀ {F H:Hp} {Y:L2.St} {U:DSt} {Qd:Bool->Prop} {Q:Bool->Hp->Prop},Same F H->RV K F H Y U->dt U Qd->(∀ b,Qd b->∀ F' H',Ext F H F' H'->Q b H')->tt Y H Q
def RfA (ta:TA) (da:DF):Prop:=∀ {F H:Hp} {Y:L2.St} {U:DSt} {Qd:List D->Prop} {Q:List V->Hp->Prop},Same F H->RV K F H Y U->da U Qd->(∀ ds,Qd ds->∀ vs F' H',Ext F H F' H'->IsAll K F' vs ds->Q vs H')->ta Y H Q
inductive VwAll (F H:Hp):List V->List D->Prop
|nil:VwAll F H [] []
|cons {v:V} {d:D} {vs:List V} {ds:List D}:Vw K F H v d->VwAll F H vs ds->VwAll F H (v :: vs) (d :: ds)
def RfAV (ta:TA) (da:DF):Prop:=∀ {F H:Hp} {Y:L2.St} {U:DSt} {Qd:List D->Prop} {Q:List V->Hp->Prop},Same F H->RV K F H Y U->da U Qd->(∀ ds,Qd ds->∀ vs F' H',Ext F H F' H'->VwAll K F' H' vs ds->Q vs H')->ta Y H Q
def RfO (to:TO) (dO:DSt->(Option Int->Prop)->Prop):Prop:=∀ {F H:Hp} {Y:L2.St} {U:DSt} {Qd:Option Int->Prop} {Q:Option Int->Hp->Prop},Same F H->RV K F H Y U->dO U Qd->(∀ o,Qd o->∀ F' H',Ext F H F' H'->Q o H')->to Y H Q
end
section
variable {K:Fg} {te ta tb tc:TE} {de da db dc:DE} {tt tu:TT} {dt du:DT} {tA:TA} {dA:DF}
theorem zwn {F H F' H':Hp} {a:Addr} {xs:List V} {ds:List D} (e:Ext F H F' H') (hn:H a=none) (h1:H' a=some (.lst xs)) (h2:F' a=none) (h3:IsAll K F' xs ds) :
  Ext F H (upd F' a (.lst xs)) H'/\Is K (upd F' a (.lst xs)) (.ref a) (.list ds):=by
 have s:Same F' (upd F' a (.lst xs)):=λ b o z=>by
  by_cases hb:b=a
  ·subst hb;rw [h2] at z;cases z
  ·rw [zj0 hb];exact z
 refine ⟨⟨e.h,e.f.trans s,λ b o z=>?_,λ b hb fb=>?_⟩,.lst (SqL.of zi0) (h3.mono s)⟩
 ·by_cases hb:b=a
  ·subst hb;rw [zi0] at z;cases z;exact h1
  ·rw [zj0 hb] at z;exact e.fh b o z
 ·have:b≠a:=λ z=>hb (by rw [z];exact hn)
  rw [zj0 this];exact e.nw b hb fb
theorem zbg {F H:Hp} {p:Addr} {xs:List V} {ds:List D} (s:Same F H) (hn:H p=none) (h3:IsAll K F xs ds) :
  Ext F H (upd F p (.tup xs)) (upd H p (.tup xs))/\Is K (upd F p (.tup xs)) (.ref p) (.tuple ds):=by
 have fn:F p=none:=by
  cases e:F p with
 |none=>rfl
 |some o=>rw [s p o e] at hn;cases hn
 have sF:Same F (upd F p (.tup xs)):=ze2 fn _
 refine ⟨⟨ze2 hn _,sF,λ b o z=>?_,λ b hb fb=>?_⟩,.tup zi0 (h3.mono sF)⟩
 ·by_cases hb:b=p
  ·subst hb;rw [zi0] at z ⊢;exact z
  ·rw [zj0 hb] at z ⊢;exact s b o z
 ·have:b≠p:=λ z=>hb (by rw [z];exact hn)
  rw [zj0 this];exact fb
theorem zz5 {F H:Hp} {p:Addr} {xs:List V} (s:Same F H) (hn:H p=none):Ext F H F (upd H p (.lst xs))/\F p=none:=by
 have fn:F p=none:=by
  cases e:F p with
 |none=>rfl
 |some o=>rw [s p o e] at hn;cases hn
 refine ⟨⟨ze2 hn _,λ _ _ z=>z,λ b o z=>?_,λ _ _ z=>z⟩,fn⟩
 exact ze2 hn _ b o (s b o z)
theorem RfE.v (h:RfE K te de):RfV K te de:=λ s r d k=>h s r d λ x q v F' H' e i=>k x q v F' H' e (.inl i)
def dF (df:DF):DE:=λ U Q=>df U λ ds=>Q (.list ds)
theorem RfF.e {df:DF} (h:RfF K te df):RfE K te (dF df):=λ s r d k=>h s r d λ ds q a xs F' H' e hn h1 h2 h3=>by
 obtain ⟨e2,i2⟩:=zwn e hn h1 h2 h3
 exact k _ q _ _ _ e2 i2
theorem RfF.v {df:DF} (h:RfF K te df):RfV K te (dF df):=RfE.v (RfF.e h)
def Sl.tree:Sl->Option T
|.ow t=>some t
|.bo t=>some t
|.io _ t=>some t
|.sh d=>some (.fz d)
|.un=>none
def fzT:T->(D->Prop)->Prop
|.fz d,Q=>Q d
|_,_=>False
def vwT:T->(D->Prop)->Prop
|.fz d,Q=>Q d
|.li ds,Q=>Q (.list ds)
|_,_=>False
def dVar (i:Nat):DE:=λ U Q=>∃ s t,U[i]?=some s/\s.tree=some t/\fzT t Q
def zdo (i:Nat):DE:=λ U Q=>∃ s t,U[i]?=some s/\s.tree=some t/\vwT t Q
theorem zgg {F H:Hp} {Y:L2.St} {U:DSt} {i:Nat} {x:V} (e:Y.getD i none=some x):Y[i]?=some (some x):=by
 rw [List.getD_eq_getElem?_getD] at e
 cases q:Y[i]? with
|none=>rw [q] at e;cases e
|some v=>rw [q] at e;exact congrArg some e
theorem RSl.rt {F H:Hp} {v:Option V}:∀ {s:Sl} {t:T},RSl K F H v s->s.tree=some t->∃ x fp,v=some x/\Rt K F H x t fp/\fp.Nodup
|.un,_,_,e=>by cases e
|.sh d,_,⟨x,h1,h2⟩,e=>by cases e;exact ⟨x,[],h1,.fz h2,.nil⟩
|.ow _,_,⟨x,fp,h1,h2⟩,e=>by cases e;exact ⟨x,fp,h1,h2⟩
|.bo _,_,⟨x,fp,h1,h2⟩,e=>by cases e;exact ⟨x,fp,h1,h2⟩
|.io a _,_,⟨fp,h1,h2⟩,e=>by cases e;exact ⟨_,fp,h1,h2⟩
theorem zla1 {F H:Hp} {x:V} {t:T} {fp:List Addr} {Q:D->Prop} (h:Rt K F H x t fp) (q:vwT t Q):∃ d,Q d/\Vw K F H x d:=by
 cases h with
|fz i=>exact ⟨_,q,.inl i⟩
|li h1 h2 h3=>exact ⟨_,q,.inr ⟨_,_,_,rfl,rfl,h1,h3⟩⟩
|ls _ _ _=>exact q.elim
|ob _ _ _ _ _=>exact q.elim
|dk _ _ _=>exact q.elim
|dt _ _ _=>exact q.elim
|tp _ _ _=>exact q.elim
theorem zv31 {F H:Hp} {x:V} {t:T} {fp:List Addr} {Q:D->Prop} (h:Rt K F H x t fp) (q:fzT t Q):∃ d,Q d/\Is K F x d:=by
 cases h with
|fz i=>exact ⟨_,q,i⟩
|li _ _ _=>exact q.elim
|ls _ _ _=>exact q.elim
|ob _ _ _ _ _=>exact q.elim
|dk _ _ _=>exact q.elim
|dt _ _ _=>exact q.elim
|tp _ _ _=>exact q.elim
theorem zm0 (i:Nat):RfE K (tVar i) (dVar i):=by
 intro F H Y U Qd Q s r h k
 obtain ⟨sl,t,q,et,f⟩:=h
 obtain ⟨x,fp,e,hr,_⟩:=(r.sl i _ q).rt et
 obtain ⟨d,qd,hi⟩:=zv31 hr f
 exact ⟨x,zgg (F:=F) (H:=H) (U:=U) e,k d qd x F H (Ext.refl s) hi⟩
theorem zb0 (i:Nat):RfV K (tVar i) (zdo i):=by
 intro F H Y U Qd Q s r h k
 obtain ⟨sl,t,q,et,f⟩:=h
 obtain ⟨x,fp,e,hr,_⟩:=(r.sl i _ q).rt et
 obtain ⟨d,qd,hi⟩:=zla1 hr f
 exact ⟨x,zgg (F:=F) (H:=H) (U:=U) e,k d qd x F H (Ext.refl s) hi⟩
def dC (d:D):DE:=λ _ Q=>Q d
theorem zi1 {i:Int}:RfE K (tC (.int i)) (dC (.int i)):=λ s r h k=>k _ h _ _ _ (Ext.refl s) (.int i)
theorem zz8 {b:Bool}:RfE K (tC (.bl b)) (dC (.bool b)):=λ s r h k=>k _ h _ _ _ (Ext.refl s) (.bl b)
theorem zvp {x:Str}:RfE K (tC (.str x)) (dC (.str x)):=λ s r h k=>k _ h _ _ _ (Ext.refl s) (.str x)
def dOp (f:D->D->(D->Prop)->Prop) (da db:DE):DE:=λ U Q=>da U λ x=>db U λ y=>f x y Q
def R2E (K:Fg) (r:R2) (f:D->D->(D->Prop)->Prop):Prop:=∀ {F H:Hp} {x y:V} {d e:D} {Qd:D->Prop} {Q:VK},Same F H->Vw K F H x d->Vw K F H y e->f d e Qd->(∀ z,Qd z->∀ v F' H',Ext F H F' H'->Is K F' v z->Q v H')->r x y H Q
def R2F (K:Fg) (r:R2) (f:D->D->(List D->Prop)->Prop):Prop:=∀ {F H:Hp} {x y:V} {d e:D} {Qd:List D->Prop} {Q:VK},Same F H->Vw K F H x d->Vw K F H y e->f d e Qd->(∀ ds,Qd ds->∀ a xs F' H',Ext F H F' H'->H a=none->H' a=some (.lst xs)->F' a=none->IsAll K F' xs ds->Q (.ref a) H')->r x y H Q
theorem zo0 {r:R2} {f:D->D->(D->Prop)->Prop} (hr:R2E K r f) (ha:RfV K ta da) (hb:RfV K tb db):RfE K (tOp r ta tb) (dOp f da db):=by
 intro F H Y U Qd Q s rv h k
 refine ha s rv h λ x hx v F1 H1 e1 i1=>hb e1.fh (rv.ext e1) hx λ y hy u F2 H2 e2 i2=>?_
 exact hr e2.fh (i1.ext e2) i2 hy λ z hz w F3 H3 e3 i3=>k z hz w F3 H3 ((e1.trans e2).trans e3) i3
def dOpF (f:D->D->(List D->Prop)->Prop) (da db:DE):DF:=λ U Q=>da U λ x=>db U λ y=>f x y Q
theorem zk51 {r:R2} {f:D->D->(List D->Prop)->Prop} (hr:R2F K r f) (ha:RfV K ta da) (hb:RfV K tb db):RfF K (tOp r ta tb) (dOpF f da db):=by
 intro F H Y U Qd Q s rv h k
 refine ha s rv h λ x hx v F1 H1 e1 i1=>hb e1.fh (rv.ext e1) hx λ y hy u F2 H2 e2 i2=>?_
 refine hr e2.fh (i1.ext e2) i2 hy λ ds hz a xs F3 H3 e3 hn h1 h2 h3=>k ds hz a xs F3 H3 ((e1.trans e2).trans e3) ?_ h1 h2 h3
 cases q:H a with
|none=>rfl
|some o=>rw [(e1.trans e2).h a o q] at hn;cases hn
end
end L4
namespace L4
open PySem PySem.Spec PyProof.Rows L2 L3
section
variable {K:Fg} {te ta tb tc:TE} {de da db dc:DE} {tt tu:TT} {dt du:DT} {tA:TA} {dA:DF} {w:World}
def fAdd:D->D->(D->Prop)->Prop
|.int i,.int j,Q=>Q (.int (i+j))
|.str a,.str b,Q=>a.length+b.length<=sizeLine/\Q (.str (a++b))
|.list a,.list b,Q=>a.length+b.length<=sizeLine/\Q (.list (a++b))
|.tuple a,.tuple b,Q=>a≠[]/\b≠[]/\a.length+b.length<=sizeLine/\Q (.tuple (a++b))
|_,_,_=>False
def fCat:D->D->(List D->Prop)->Prop
|.list a,.list b,Q=>a.length+b.length<=sizeLine/\Q (a++b)
|_,_,_=>False
theorem zba1:R2F K (zhl K) fCat:=by
 intro F H x y d e Qd Q s hx hy h k
 unfold fCat at h
 split at h
 ·rename_i a b
  obtain ⟨p,xs,rfl,h1,i1⟩:=hx.list s
  obtain ⟨q,ys,rfl,h2,i2⟩:=hy.list s
  have e1:=i1.dlen
  have e2:=i2.dlen
  refine .inr ⟨p,q,xs,ys,rfl,rfl,h1,h2,by lia,λ l hl=>?_⟩
  obtain ⟨ex,fn⟩:=zz5 (xs:=xs++ys) s hl
  exact k _ h.2 l _ F _ ex hl zi0 fn (i1.dapp i2)
 ·exact h.elim
theorem za4:R2E K (zhl K) fAdd:=by
 intro F H x y d e Qd Q s hx hy h k
 unfold fAdd at h
 split at h
 ·cases hx.int;cases hy.int
  exact .inl (.inl ⟨_,_,rfl,rfl,k _ h _ F H (Ext.refl s) (.int _)⟩)
 ·cases hx.str;cases hy.str
  exact .inl (.inr (.inl ⟨_,_,rfl,rfl,h.1,k _ h.2 _ F H (Ext.refl s) (.str _)⟩))
 ·rename_i a b
  refine zba1 (Qd:=λ ds=>Qd (.list ds)) s hx hy h λ ds q l xs F' H' ex hn h1 h2 h3=>?_
  obtain ⟨e2,i2⟩:=zwn ex hn h1 h2 h3
  exact k _ q _ _ _ e2 i2
 ·rename_i a b
  obtain ⟨p,xs,rfl,h1,_,i1⟩:=hx.tuple s
  obtain ⟨q,ys,rfl,h2,_,i2⟩:=hy.tuple s
  have e1:=i1.dlen
  have e2:=i2.dlen
  have n1:xs≠[]:=λ z=>h.1 (List.length_eq_zero_iff.mp (by rw [<- e1,z];rfl))
  have n2:ys≠[]:=λ z=>h.2.1 (List.length_eq_zero_iff.mp (by rw [<- e2,z];rfl))
  refine .inl (.inr (.inr (.inr ⟨p,q,xs,ys,rfl,rfl,h1,h2,n1,by lia,λ z=>absurd z n2,λ _ l hl=>?_⟩)))
  obtain ⟨ex,ii⟩:=zbg (K:=K) (ds:=a++b) s hl (i1.dapp i2)
  exact k _ h.2.2.2 _ _ _ ex ii
 ·exact h.elim
def fI (C:Int->Int->Prop) (g:Int->Int->D):D->D->(D->Prop)->Prop
|.int i,.int j,Q=>C i j/\Q (g i j)
|_,_,_=>False
def fI0 (g:Int->Int->D):D->D->(D->Prop)->Prop
|.int i,.int j,Q=>Q (g i j)
|_,_,_=>False
theorem r_I {C:Int->Int->Prop} {g:Int->Int->V} {g':Int->Int->D} (hg:∀ i j (F:Hp),Is K F (g i j) (g' i j)):R2E K (rI C g) (fI C g'):=by
 intro F H x y d e Qd Q s hx hy h k
 unfold fI at h
 split at h
 ·cases hx.int;cases hy.int
  exact ⟨_,_,rfl,rfl,h.1,k _ h.2 _ F H (Ext.refl s) (hg _ _ _)⟩
 ·exact h.elim
theorem r_I0 {g:Int->Int->V} {g':Int->Int->D} (hg:∀ i j (F:Hp),Is K F (g i j) (g' i j)):R2E K (rI0 g) (fI0 g'):=by
 intro F H x y d e Qd Q s hx hy h k
 unfold fI0 at h
 split at h
 ·cases hx.int;cases hy.int
  exact ⟨_,_,rfl,rfl,k _ h _ F H (Ext.refl s) (hg _ _ _)⟩
 ·exact h.elim
abbrev fSub:=fI0 λ i j=>.int (i - j)
abbrev fDiv:=fI za41 λ i j=>.int (i / j)
abbrev fMod:=fI (λ _ j=>0 < j) λ i j=>.int (i % j)
abbrev fPow:=fI CPow λ i j=>.int (i ^ j.toNat)
abbrev fLt:=fI0 λ i j=>.bool (decide (i < j))
abbrev fLe:=fI0 λ i j=>.bool (decide (i<=j))
abbrev fGt:=fI0 λ i j=>.bool (decide (j < i))
abbrev fGe:=fI0 λ i j=>.bool (decide (j<=i))
theorem zt21:R2E K (rI0 λ i j=>V.int (i - j)) fSub:=r_I0 λ _ _ _=>.int _
theorem zl11:R2E K (rI za41 λ i j=>V.int (i / j)) fDiv:=r_I λ _ _ _=>.int _
theorem zcf:R2E K (rI (λ _ j=>0 < j) λ i j=>V.int (i % j)) fMod:=r_I λ _ _ _=>.int _
theorem zex:R2E K (rI CPow λ i j=>V.int (i ^ j.toNat)) fPow:=r_I λ _ _ _=>.int _
theorem r_lt:R2E K (rI0 λ i j=>V.bl (decide (i < j))) fLt:=r_I0 λ _ _ _=>.bl _
theorem r_le:R2E K (rI0 λ i j=>V.bl (decide (i<=j))) fLe:=r_I0 λ _ _ _=>.bl _
theorem r_gt:R2E K (rI0 λ i j=>V.bl (decide (j < i))) fGt:=r_I0 λ _ _ _=>.bl _
theorem r_ge:R2E K (rI0 λ i j=>V.bl (decide (j<=i))) fGe:=r_I0 λ _ _ _=>.bl _
def fMul:D->D->(D->Prop)->Prop
|.int i,.int j,Q=>CMul i j/\Q (.int (i * j))
|.str z,.int n,Q=>0<=n/\z.length * n.toNat<=sizeLine/\n<=sizeLine/\Q (.str (repS z n.toNat))
|_,_,_=>False
theorem zuq:R2E K zv71 fMul:=by
 intro F H x y d e Qd Q s hx hy h k
 unfold fMul at h
 split at h
 ·cases hx.int;cases hy.int
  exact .inl (.inl (.inl ⟨_,_,rfl,rfl,h.1,k _ h.2 _ F H (Ext.refl s) (.int _)⟩))
 ·cases hx.str;cases hy.int
  exact .inl (.inr ⟨_,_,rfl,rfl,h.1,h.2.1,h.2.2.1,k _ h.2.2.2 _ F H (Ext.refl s) (.str _)⟩)
 ·exact h.elim
def fRep:List D->D->(List D->Prop)->Prop
|ds,.int n,Q=>n < 2 ^ 62/\-(2 ^ 62)<=n/\ds.length * n.toNat<=sizeLine/\Q (List.replicate n.toNat ds).flatten
|_,_,_=>False
def dRep (df:DF) (db:DE):DF:=λ U Q=>df U λ ds=>db U λ y=>fRep ds y Q
theorem zus {F:Hp} {xs:List V} {ds:List D} (h:IsAll K F xs ds):∀ n:Nat,IsAll K F (List.replicate n xs).flatten (List.replicate n ds).flatten
|0=>.nil
|n+1=>by rw [List.replicate_succ,List.replicate_succ,List.flatten_cons,List.flatten_cons];exact h.dapp (zus h n)
theorem zrq {df:DF} (ha:RfF K ta df) (hb:RfE K tb db):RfF K (tOp zv71 ta tb) (dRep df db):=by
 intro F H Y U Qd Q s rv h k
 refine ha s rv h λ ds hx a xs F1 H1 e1 hn h1 h2 h3=>hb e1.fh (rv.ext e1) hx λ y hy u F2 H2 e2 i2=>?_
 unfold fRep at hy
 split at hy
 ·rename_i n
  cases i2.int_inv
  have el:=h3.dlen
  refine .inr ⟨a,n,xs,rfl,rfl,e2.h _ _ h1,by lia,by lia,by rw [el];exact hy.2.2.1,λ p hp=>?_⟩
  obtain ⟨ex,fn⟩:=zz5 (xs:=(List.replicate n.toNat xs).flatten) e2.fh hp
  refine k _ hy.2.2.2 p _ F2 _ ((e1.trans e2).trans ex) ?_ zi0 fn (zus (h3.mono e2.f) _)
  cases q:H p with
 |none=>rfl
 |some o=>rw [(e1.trans e2).h p o q] at hp;cases hp
 ·exact hy.elim
def fEq:D->D->(D->Prop)->Prop
|.int i,.int j,Q=>Q (.bool (decide (i=j)))
|.str i,.str j,Q=>Q (.bool (decide (i=j)))
|.bool i,.bool j,Q=>Q (.bool (decide (i=j)))
|d,e,Q=>SeqAt.shaped d=true/\SeqAt.shaped e=true/\Q (.bool (PyData.eqv d e))
def fNe:D->D->(D->Prop)->Prop
|.int i,.int j,Q=>Q (.bool (!decide (i=j)))
|.str i,.str j,Q=>Q (.bool (!decide (i=j)))
|.bool i,.bool j,Q=>Q (.bool (!decide (i=j)))
|d,e,Q=>SeqAt.shaped d=true/\SeqAt.shaped e=true/\Q (.bool (!PyData.eqv d e))
theorem zrg (i j:Int):decide (V.int i=V.int j)=decide (i=j):=by simp
theorem zsf (i j:Str):decide (V.str i=V.str j)=decide (i=j):=by simp
theorem zzm (i j:Bool):decide (V.bl i=V.bl j)=decide (i=j):=by simp
def fIx:D->D->(D->Prop)->Prop
|.list ds,.int i,Q=>∃ d,atI ds i=some d/\Q d
|.tuple ds,.int i,Q=>∃ d,atI ds i=some d/\Q d
|.str z,.int i,Q=>z.length<=sizeLine/\∃ c,atI z.cps.toList i=some c/\Q (.str ⟨#[c]⟩)
|_,_,_=>False
theorem zrx {F:Hp} {xs:List V} {ds:List D} {i:Int} {d:D} (h:IsAll K F xs ds) (e:atI ds i=some d):∃ x,atI xs i=some x/\Is K F x d:=by
 unfold atI at e ⊢
 rw [h.dlen]
 cases q:ixN ds.length i with
|none=>rw [q] at e;cases e
|some j =>
  rw [q] at e
  obtain ⟨x,h1,h2⟩:=h.dget (show ds[j]?=some d from e)
  exact ⟨x,h1,h2⟩
theorem r_ix:R2E K (rIxV w K) fIx:=by
 intro F H x y d e Qd Q s hx hy h k
 unfold fIx at h
 split at h
 ·obtain ⟨z,ez,q⟩:=h
  obtain ⟨p,xs,rfl,h1,i1⟩:=hx.list s
  cases hy.int
  obtain ⟨v,ev,iv⟩:=zrx i1 ez
  exact .inl (.inl (.inl ⟨p,xs,_,v,rfl,rfl,h1,ev,k _ q _ F H (Ext.refl s) iv⟩))
 ·obtain ⟨z,ez,q⟩:=h
  obtain ⟨p,xs,rfl,h1,_,i1⟩:=hx.tuple s
  cases hy.int
  obtain ⟨v,ev,iv⟩:=zrx i1 ez
  exact .inl (.inl (.inr (.inl ⟨p,xs,_,v,rfl,rfl,h1,ev,k _ q _ F H (Ext.refl s) iv⟩)))
 ·obtain ⟨hz,c,ec,q⟩:=h
  cases hx.str;cases hy.int
  exact .inl (.inl (.inr (.inr ⟨_,_,c,rfl,rfl,hz,ec,k _ q _ F H (Ext.refl s) (.str _)⟩)))
 ·exact h.elim
def zeu:D->Bool
|.none=>true
|.bool _=>true
|.int _=>true
|.str _=>true
|_=>false
def fB (d:D) (Q:Bool->Prop):Prop:=match d with
|.bool b=>Q b
|_=>False
theorem zn41 {F:Hp} {v:V} {d:D} {Q:Bool->Prop} (i:Is K F v d) (h:fB d Q):∃ b,v=.bl b/\Q b:=by
 unfold fB at h
 split at h
 ·exact ⟨_,i.bl_inv,h⟩
 ·exact h.elim
def zm41 (da:DE):DE:=λ U Q=>da U λ x=>fB x λ b=>Q (.bool (!b))
theorem zsl (ha:RfE K ta da):RfE K (zdx ta) (zm41 da):=by
 intro F H Y U Qd Q s rv h k
 refine ha s rv h λ x hx v F1 H1 e1 i1=>?_
 obtain ⟨b,rfl,q⟩:=zn41 i1 hx
 exact ⟨b,rfl,k _ q _ F1 H1 e1 (.bl _)⟩
def zb41 (da db:DE):DE:=λ U Q=>da U λ x=>fB x λ b=>if b=true then db U Q else Q (.bool false)
theorem zqc (ha:RfE K ta da) (hb:RfE K tb db):RfE K (zka1 ta tb) (zb41 da db):=by
 intro F H Y U Qd Q s rv h k
 refine ha s rv h λ x hx v F1 H1 e1 i1=>?_
 obtain ⟨b,rfl,q⟩:=zn41 i1 hx
 refine ⟨b,rfl,?_⟩
 cases b with
|true =>
  rw [if_pos rfl] at q ⊢
  exact hb e1.fh (rv.ext e1) q λ y hy u F2 H2 e2 i2=>k y hy u F2 H2 (e1.trans e2) i2
|false =>
  rw [if_neg Bool.false_ne_true] at q ⊢
  exact k _ q _ F1 H1 e1 (.bl _)
def zpa1 (de:DE):DT:=λ U Q=>de U λ d=>fB d Q
theorem zv1 (h:RfE K te de):RfT K (ztt te) (zpa1 de):=by
 intro F H Y U Qd Q s rv hd k
 refine h s rv hd λ x hx v F1 H1 e1 i1=>?_
 obtain ⟨b,rfl,q⟩:=zn41 i1 hx
 exact ⟨b,rfl,k b q F1 H1 e1⟩
def fTru:D->(Bool->Prop)->Prop
|.none,Q=>Q false
|.bool b,Q=>Q b
|.int i,Q=>Q (i != 0)
|.str z,Q=>z.length<=sizeLine/\Q ((z.length:Int) != 0)
|.list ds,Q=>Q (!ds.isEmpty)
|.tuple ds,Q=>Q (!ds.isEmpty)
|.dict _,_=>False
def dTru (de:DE):DT:=λ U Q=>de U λ d=>fTru d Q
theorem zfj {F:Hp} {xs:List V} {ds:List D} (h:IsAll K F xs ds):xs.isEmpty=ds.isEmpty:=by cases h <;> rfl
theorem zam (h:RfV K te de):RfT K (zz51 K te) (dTru de):=by
 intro F H Y U Qd Q s rv hd k
 refine h s rv hd λ x hx v F1 H1 e1 i1=>?_
 unfold fTru at hx
 split at hx
 ·cases i1.is e1.fh;exact ⟨false,rfl,k _ hx F1 H1 e1⟩
 ·cases i1.bl;exact ⟨_,rfl,k _ hx F1 H1 e1⟩
 ·cases i1.int;exact ⟨_,rfl,k _ hx F1 H1 e1⟩
 ·cases i1.str;exact ⟨_,⟨hx.1,rfl⟩,k _ hx.2 F1 H1 e1⟩
 ·obtain ⟨p,xs,rfl,h1,i2⟩:=i1.list e1.fh
  refine ⟨_,.inl ⟨xs,h1,rfl⟩,?_⟩
  rw [zfj i2];exact k _ hx F1 H1 e1
 ·obtain ⟨p,xs,rfl,h1,_,i2⟩:=i1.tuple e1.fh
  refine ⟨_,.inr (.inl ⟨xs,h1,rfl⟩),?_⟩
  rw [zfj i2];exact k _ hx F1 H1 e1
 ·exact hx.elim
def dOr (dt du:DT):DT:=λ U Q=>dt U λ b=>if b=true then Q true else du U Q
def dNot (dt:DT):DT:=λ U Q=>dt U λ b=>Q (!b)
theorem zzc1 (ht:RfT K tt dt) (hu:RfT K tu du):RfT K (tOr tt tu) (dOr dt du):=by
 intro F H Y U Qd Q s rv h k
 refine ht s rv h λ b hb F1 H1 e1=>?_
 cases b with
|false =>
  rw [if_neg Bool.false_ne_true] at hb ⊢
  exact hu e1.fh (rv.ext e1) hb λ c hc F2 H2 e2=>k c hc F2 H2 (e1.trans e2)
|true =>
  rw [if_pos rfl] at hb ⊢
  exact k _ hb F1 H1 e1
theorem zqu (ht:RfT K tt dt):RfT K (tNot tt) (dNot dt):=λ s rv h k=>ht s rv h λ b hb F1 H1 e1=>k _ hb F1 H1 e1
def dIfE (dt:DT) (da db:DE):DE:=λ U Q=>dt U λ b=>if b=true then da U Q else db U Q
theorem zny (ht:RfT K tt dt) (ha:RfE K ta da) (hb:RfE K tb db):RfE K (tIf tt ta tb) (dIfE dt da db):=by
 intro F H Y U Qd Q s rv h k
 refine ht s rv h λ b hb' F1 H1 e1=>?_
 cases b with
|true =>
  rw [if_pos rfl] at hb' ⊢
  exact ha e1.fh (rv.ext e1) hb' λ y hy u F2 H2 e2 i2=>k y hy u F2 H2 (e1.trans e2) i2
|false =>
  rw [if_neg Bool.false_ne_true] at hb' ⊢
  exact hb e1.fh (rv.ext e1) hb' λ y hy u F2 H2 e2 i2=>k y hy u F2 H2 (e1.trans e2) i2
def zq31 (f g:D->D->(D->Prop)->Prop) (da db dc:DE):DE:=λ U Q=>da U λ x=>db U λ y=>f x y λ u=>fB u λ b=>if b=true then dc U λ z=>g y z Q else Q (.bool false)
theorem zyw {r r':R2} {f g:D->D->(D->Prop)->Prop} (hr:R2E K r f) (hr':R2E K r' g) (ha:RfE K ta da) (hb:RfE K tb db) (hc:RfE K tc dc):RfE K (znt r r' ta tb tc) (zq31 f g da db dc):=by
 intro F H Y U Qd Q s rv h k
 refine ha s rv h λ x hx v F1 H1 e1 i1=>hb e1.fh (rv.ext e1) hx λ y hy u F2 H2 e2 i2=>?_
 refine hr e2.fh (.inl (i1.mono e2.f)) (.inl i2) hy λ z hz v3 F3 H3 e3 i3=>?_
 obtain ⟨b,rfl,q⟩:=zn41 i3 hz
 refine ⟨b,rfl,?_⟩
 cases b with
|true =>
  rw [if_pos rfl] at q ⊢
  refine hc e3.fh (rv.ext ((e1.trans e2).trans e3)) q λ z' hz' v4 F4 H4 e4 i4=>?_
  exact hr' e4.fh (.inl (i2.mono (e3.f.trans e4.f))) (.inl i4) hz' λ o ho v5 F5 H5 e5 i5=>k o ho v5 F5 H5 ((((e1.trans e2).trans e3).trans e4).trans e5) i5
|false =>
  rw [if_neg Bool.false_ne_true] at q ⊢
  exact k _ q _ F3 H3 ((e1.trans e2).trans e3) (.bl _)
def dNil:DF:=λ _ Q=>Q []
def zk7 (da:DE) (dr:DF):DF:=λ U Q=>da U λ x=>dr U λ xs=>Q (x :: xs)
theorem zq0:RfA K tNil dNil:=λ s rv h k=>k _ h _ _ _ (Ext.refl s) .nil
theorem zc0 (ha:RfE K ta da) (hr:RfA K tA dA):RfA K (zk2 ta tA) (zk7 da dA):=by
 intro F H Y U Qd Q s rv h k
 refine ha s rv h λ x hx v F1 H1 e1 i1=>hr e1.fh (rv.ext e1) hx λ xs hxs vs F2 H2 e2 i2=>?_
 exact k _ hxs _ F2 H2 (e1.trans e2) (.cons (i1.mono e2.f) i2)
theorem zn2:RfAV K tNil dNil:=λ s rv h k=>k _ h _ _ _ (Ext.refl s) .nil
theorem zy0 (ha:RfV K ta da) (hr:RfAV K tA dA):RfAV K (zk2 ta tA) (zk7 da dA):=by
 intro F H Y U Qd Q s rv h k
 refine ha s rv h λ x hx v F1 H1 e1 i1=>hr e1.fh (rv.ext e1) hx λ xs hxs vs F2 H2 e2 i2=>?_
 exact k _ hxs _ F2 H2 (e1.trans e2) (.cons (i1.ext e2) i2)
def dTup (dA:DF):DE:=λ U Q=>dA U λ xs=>xs.length<=sizeLine/\Q (.tuple xs)
theorem zf6 (h:RfA K tA dA):RfE K (zm81 tA) (dTup dA):=by
 intro F H Y U Qd Q s rv hd k
 refine h s rv hd λ xs hx vs F1 H1 e1 i1=>⟨by rw [i1.dlen];exact hx.1,λ p hp=>?_⟩
 obtain ⟨ex,ii⟩:=zbg (K:=K) e1.fh hp i1
 exact k _ hx.2 _ _ _ (e1.trans ex) ii
def dLst (dA:DF):DF:=λ U Q=>dA U λ xs=>xs.length<=sizeLine/\Q xs
theorem zg5 (h:RfA K tA dA):RfF K (zqq tA) (dLst dA):=by
 intro F H Y U Qd Q s rv hd k
 refine h s rv hd λ xs hx vs F1 H1 e1 i1=>⟨by rw [i1.dlen];exact hx.1,λ p hp=>?_⟩
 obtain ⟨ex,fn⟩:=zz5 (xs:=vs) e1.fh hp
 refine k _ hx.2 p vs F1 _ (e1.trans ex) ?_ zi0 fn i1
 cases q:H p with
|none=>rfl
|some o=>rw [e1.h p o q] at hp;cases hp
abbrev DSp:=List D->(D->Prop)->Prop
def spD (K:Fg) (p:DSp):Sp:=λ vs H Q _=>∃ F ds Qd,Same F H/\IsAll K F vs ds/\p ds Qd/\∀ d,Qd d->∀ v F' H',Ext F H F' H'->Is K F' v d->Q v H'
def zr41 (p:DSp) (dA:DF):DE:=λ U Q=>dA U λ ds=>p ds Q
theorem zk1 {p:DSp} {E:XK} (h:RfA K tA dA):RfE K (zcs (spD K p) [] E tA) (zr41 p dA):=by
 intro F H Y U Qd Q s rv hd k
 refine h s rv hd λ ds hp vs F1 H1 e1 i1=>?_
 rw [List.append_nil]
 exact ⟨F1,ds,Qd,e1.fh,i1,hp,λ d q v F' H' e2 i2=>k d q v F' H' (e1.trans e2) i2⟩
def zi11 (p:DSp) (dA:DF):DE:=λ U Q=>dA U λ ds=>p ds λ d=>zeu d=true/\Q d
theorem zjw {F F':Hp} {v:V} {d:D} (f:zeu d=true) (h:Is K F v d):Is K F' v d:=by
 cases h with
|non=>exact .non
|bl b=>exact .bl b
|int i=>exact .int i
|str x=>exact .str x
|lst _ _=>exact absurd f (by simp [zeu])
|tup _ _=>exact absurd f (by simp [zeu])
|tuc _ _ _=>exact absurd f (by simp [zeu])
theorem lend {F H:Hp} (s:Same F H):∀ {vs:List V} {ds:List D},VwAll K F H vs ds->∃ F',Same F F'/\Same F' H/\IsAll K F' vs ds
|_,_,.nil=>⟨F,λ _ _ z=>z,s,.nil⟩
|_,_,.cons h r=>by
  obtain ⟨F1,a1,b1,c1⟩:=lend s r
  rcases h with h|⟨a,xs,ds,rfl,rfl,h3,h4⟩
  ·exact ⟨F1,a1,b1,.cons (h.mono a1) c1⟩
  ·have s2:Same F1 (upd F1 a (.lst xs)):=λ b o z=>by
    by_cases hb:b=a
    ·subst hb;have:=b1 _ _ z;rw [h3] at this;rw [zi0,this]
    ·rw [zj0 hb];exact z
   refine ⟨upd F1 a (.lst xs),a1.trans s2,λ b o z=>?_,.cons (.lst (SqL.of zi0) (h4.mono (a1.trans s2))) (c1.mono s2)⟩
   by_cases hb:b=a
   ·subst hb;rw [zi0] at z;cases z;exact h3
   ·rw [zj0 hb] at z;exact b1 b o z
theorem zrn {p:DSp} {E:XK} (h:RfAV K tA dA):RfE K (zcs (spD K p) [] E tA) (zi11 p dA):=by
 intro F H Y U Qd Q s rv hd k
 refine h s rv hd λ ds hp vs F1 H1 e1 i1=>?_
 rw [List.append_nil]
 obtain ⟨F2,a2,b2,c2⟩:=lend e1.fh i1
 refine ⟨F2,ds,_,b2,c2,hp,λ d q v F' H' e2 i2=>k d q.2 v F1 H' (e1.trans ⟨e2.h,λ _ _ z=>z,e1.fh.trans e2.h,λ _ _ z=>z⟩) (zjw q.1 i2)⟩
def CB (K:Fg) (r:List V->Hp->VK->Prop) (f:List D->(D->Prop)->Prop):Prop:=∀ {F H:Hp} {vs:List V} {ds:List D} {Qd:D->Prop} {Q:VK},Same F H->VwAll K F H vs ds->f ds Qd->(∀ z,Qd z->∀ v F' H',Ext F H F' H'->Is K F' v z->Q v H')->r vs H Q
def CF (K:Fg) (r:List V->Hp->VK->Prop) (f:List D->(List D->Prop)->Prop):Prop:=∀ {F H:Hp} {vs:List V} {ds:List D} {Qd:List D->Prop} {Q:VK},Same F H->VwAll K F H vs ds->f ds Qd->(∀ z,Qd z->∀ a xs F' H',Ext F H F' H'->H a=none->H' a=some (.lst xs)->F' a=none->IsAll K F' xs z->Q (.ref a) H')->r vs H Q
def dCB (f:List D->(D->Prop)->Prop) (dA:DF):DE:=λ U Q=>dA U λ ds=>f ds Q
def dCF (f:List D->(List D->Prop)->Prop) (dA:DF):DF:=λ U Q=>dA U λ ds=>f ds Q
theorem zkl {r:List V->Hp->VK->Prop} {f:List D->(D->Prop)->Prop} (hr:CB K r f) (h:RfAV K tA dA):RfE K (tCB r tA) (dCB f dA):=by
 intro F H Y U Qd Q s rv hd k
 refine h s rv hd λ ds hp vs F1 H1 e1 i1=>hr e1.fh i1 hp λ z q v F' H' e2 i2=>k z q v F' H' (e1.trans e2) i2
theorem zyr {r:List V->Hp->VK->Prop} {f:List D->(List D->Prop)->Prop} (hr:CF K r f) (h:RfAV K tA dA):RfF K (tCB r tA) (dCF f dA):=by
 intro F H Y U Qd Q s rv hd k
 refine h s rv hd λ ds hp vs F1 H1 e1 i1=>hr e1.fh i1 hp λ z q a xs F' H' e2 hn h1 h2 h3=>k z q a xs F' H' (e1.trans e2) ?_ h1 h2 h3
 cases z:H a with
|none=>rfl
|some o=>rw [e1.h a o z] at hn;cases hn
theorem vw1 {F H:Hp} {vs:List V} {d:D} (h:VwAll K F H vs [d]):∃ v,vs=[v]/\Vw K F H v d:=by
 cases h with
|cons h r=>cases r;exact ⟨_,rfl,h⟩
theorem vw2 {F H:Hp} {vs:List V} {d e:D} (h:VwAll K F H vs [d,e]):∃ v u,vs=[v,u]/\Vw K F H v d/\Vw K F H u e:=by
 cases h with
|cons h r=>obtain ⟨u,rfl,r2⟩:=vw1 r;exact ⟨_,u,rfl,h,r2⟩
def fLen:List D->(D->Prop)->Prop
|[.list ds],Q=>Q (.int (ds.length:Nat))
|[.tuple ds],Q=>Q (.int (ds.length:Nat))
|[.str z],Q=>z.length<=sizeLine/\Q (.int (z.length:Nat))
|_,_=>False
theorem zap:CB K (rLen K) fLen:=by
 intro F H vs ds Qd Q s hv h k
 unfold fLen at h
 split at h
 ·obtain ⟨v,rfl,hw⟩:=vw1 hv
  obtain ⟨p,xs,rfl,h1,i1⟩:=hw.list s
  refine ⟨_,_,rfl,.inl ⟨xs,h1,rfl⟩,?_⟩
  rw [i1.dlen];exact k _ h _ F H (Ext.refl s) (.int _)
 ·obtain ⟨v,rfl,hw⟩:=vw1 hv
  obtain ⟨p,xs,rfl,h1,_,i1⟩:=hw.tuple s
  refine ⟨_,_,rfl,.inr ⟨xs,h1,rfl⟩,?_⟩
  rw [i1.dlen];exact k _ h _ F H (Ext.refl s) (.int _)
 ·obtain ⟨v,rfl,hw⟩:=vw1 hv
  cases hw.str
  exact ⟨_,_,rfl,⟨h.1,rfl⟩,k _ h.2 _ F H (Ext.refl s) (.int _)⟩
 ·exact h.elim
def zz21:List D->Option (List Int)
|[]=>some []
|.int i :: r=>(zz21 r).map (i :: ·)
|_ :: _=>none
theorem zsh {F:Hp}:∀ {xs:List V} {ds:List D} {ns:List Int},IsAll K F xs ds->zz21 ds=some ns->xs=ns.map V.int
|_,_,_,.nil,e=>by cases e;rfl
|_,_,_,.cons h r,e=>by
  cases h with
 |int i =>
   unfold zz21 at e
   obtain ⟨ms,e1,rfl⟩:=Option.map_eq_some_iff.mp e
   rw [zsh r e1];rfl
 |_=>cases e
theorem zxn (ns:List Int):zz21 (ns.map PyData.int)=some ns:=by
 induction ns with
|nil=>rfl
|cons n r ih=>simp [zz21,ih]
def zl71:List D->(List D->Prop)->Prop
|[.list ds],Q=>Q ds
|[.tuple ds],Q=>Q ds
|_,_=>False
theorem zcl:CF K (zm91 K) zl71:=by
 intro F H vs ds Qd Q s hv h k
 unfold zl71 at h
 split at h
 ·obtain ⟨v,rfl,hw⟩:=vw1 hv
  obtain ⟨p,xs,rfl,h1,i1⟩:=hw.list s
  refine ⟨p,xs,rfl,.inl h1,λ l hl=>?_⟩
  obtain ⟨ex,fn⟩:=zz5 (xs:=xs) s hl
  exact k _ h l xs F _ ex hl zi0 fn i1
 ·obtain ⟨v,rfl,hw⟩:=vw1 hv
  obtain ⟨p,xs,rfl,h1,_,i1⟩:=hw.tuple s
  refine ⟨p,xs,rfl,.inr h1,λ l hl=>?_⟩
  obtain ⟨ex,fn⟩:=zz5 (xs:=xs) s hl
  exact k _ h l xs F _ ex hl zi0 fn i1
 ·exact h.elim
def fInt:List D->(D->Prop)->Prop
|[.int i],Q=>Q (.int i)
|[.bool b],Q=>Q (.int (if b then 1 else 0))
|[.str z],Q=>∃ n,PySem.intText? z=some n/\z.length<=640/\Q (.int n)
|_,_=>False
theorem zeb1:CB K rInt fInt:=by
 intro F H vs ds Qd Q s hv h k
 unfold fInt at h
 split at h
 ·obtain ⟨v,rfl,hw⟩:=vw1 hv
  cases hw.int;exact .inl (.inl ⟨_,rfl,k _ h _ F H (Ext.refl s) (.int _)⟩)
 ·obtain ⟨v,rfl,hw⟩:=vw1 hv
  cases hw.bl;exact .inl (.inr ⟨_,rfl,k _ h _ F H (Ext.refl s) (.int _)⟩)
 ·obtain ⟨v,rfl,hw⟩:=vw1 hv
  obtain ⟨n,e,hz,q⟩:=h
  cases hw.str;exact .inr ⟨_,n,rfl,e,hz,k _ q _ F H (Ext.refl s) (.int _)⟩
 ·exact h.elim
def tyD:D->String
|.none => "NoneType"|.bool _ => "bool"|.int _ => "int"|.str _ => "str"|.list _ => "list"|.tuple _ => "tuple"|.dict _ => "dict"
def isT (T:String) (d:D):Bool:=tyD d == T || (T == "int" && tyD d == "bool")
structure Kit (K:Fg):Prop where
 ok:∀ t∈["NoneType", "bool", "int", "str", "list", "tuple"],∀ T∈["int", "bool", "list", "tuple", "str"],PySem.W.kitOne K (.type t) (.type T)=some (t == T || (T == "int" && t == "bool"))
def dIs (T:String) (da:DE):DE:=λ U Q=>da U λ d=>(∀ kvs,d≠.dict kvs)/\Q (.bool (isT T d))
theorem zx51 {T:String} (kt:Kit K) (hT:T∈["int", "bool", "list", "tuple", "str"]) (ha:RfV K ta da):RfE K (tCB (rIsW K) (zk2 ta (zk2 (tC (.ty T)) tNil))) (dIs T da):=by
 intro F H Y U Qd Q s rv hd k
 refine ha s rv hd λ d hd v F1 H1 e1 i1=>?_
 have q:=k _ hd.2 (.bl (isT T d)) F1 H1 e1 (.bl _)
 have i2:=i1.is e1.fh
 show rIsW K [v,.ty T] H1 Q
 cases i2 with
|non=>exact .inl ⟨_,_,_,_,_,rfl,rfl,.non,kt.ok _ (by simp) T hT,q⟩
|bl b=>exact .inl ⟨_,_,_,_,_,rfl,rfl,.bl b,kt.ok _ (by simp) T hT,q⟩
|int b=>exact .inl ⟨_,_,_,_,_,rfl,rfl,.int b,kt.ok _ (by simp) T hT,q⟩
|str b=>exact .inl ⟨_,_,_,_,_,rfl,rfl,.str b,kt.ok _ (by simp) T hT,q⟩
|lst h1 h2=>exact .inr ⟨_,_,_,_,rfl,rfl,.inl ⟨⟨_,h1⟩,kt.ok _ (by simp) T hT⟩,q⟩
|tup h1 h2=>exact .inr ⟨_,_,_,_,rfl,rfl,.inr ⟨⟨_,SqT.of h1⟩,kt.ok _ (by simp) T hT⟩,q⟩
|tuc h1 h2 _=>exact .inr ⟨_,_,_,_,rfl,rfl,.inr ⟨⟨_,h1⟩,kt.ok _ (by simp) T hT⟩,q⟩
end
section
variable {K:Fg} {te ta tb tc:TE} {de da db dc:DE} {tt tu:TT} {dt du:DT} {tA:TA} {dA:DF} {w:World}
abbrev DO:=DSt->(Option Int->Prop)->Prop
def zrr:DO:=λ _ Q=>Q none
def zt91 (de:DE):DO:=λ U Q=>de U λ d=>match d with
|.int i=>Q (some i)
|_=>False
theorem zvl:RfO K zzr zrr:=λ s rv h k=>k _ h _ _ (Ext.refl s)
theorem zrj (h:RfE K te de):RfO K (ze21 te) (zt91 de):=by
 intro F H Y U Qd Q s rv hd k
 refine h s rv hd λ d hx v F1 H1 e1 i1=>?_
 split at hx
 ·cases i1.int_inv;exact ⟨_,rfl,k _ hx F1 H1 e1⟩
 ·exact hx.elim
def cutD (xs:List D) (lo hi:Option Int):List D:=(xs.drop (HT.sIx xs.length 0 lo)).take (HT.sIx xs.length xs.length hi - HT.sIx xs.length 0 lo)
theorem zur {F:Hp} {xs:List V} {ds:List D} (h:IsAll K F xs ds) (lo hi:Option Int):IsAll K F (cutV xs lo hi) (cutD ds lo hi):=by
 unfold cutV cutD
 rw [h.dlen]
 exact (h.ddrop _).dtake _
def fSl (d:D) (lo hi:Option Int) (Q:D->Prop):Prop:=match d with
|.list ds=>Q (.list (cutD ds lo hi))
|.str z=>z.length<=sizeLine/\Q (.str (Txt.slice z lo hi))
|.tuple ds=>¬(HT.sIx ds.length 0 lo=0/\HT.sIx ds.length ds.length hi=ds.length)/\Q (.tuple (cutD ds lo hi))
|_=>False
def fSlF (d:D) (lo hi:Option Int) (Q:List D->Prop):Prop:=match d with
|.list ds=>Q (cutD ds lo hi)
|_=>False
variable {tl th tk:TO} {dl dh dk:DO}
def dSl (de:DE) (dl dh:DO):DE:=λ U Q=>de U λ d=>dl U λ lo=>dh U λ hi=>fSl d lo hi Q
theorem zn1 {F H F' H':Hp} {p:Addr} (e:Ext F H F' H') (h:H' p=none):H p=none:=by
 cases q:H p with
|none=>rfl
|some o=>rw [e.h p o q] at h;cases h
theorem zu91 (he:RfV K te de) (hl:RfO K tl dl) (hh:RfO K th dh):RfE K (tSl (rSlW K) te tl th) (dSl de dl dh):=by
 intro F H Y U Qd Q s rv h k
 refine he s rv h λ d hd v F1 H1 e1 i1=>hl e1.fh (rv.ext e1) hd λ lo hlo F2 H2 e2=>hh e2.fh (rv.ext (e1.trans e2)) hlo λ hi hhi F3 H3 e3=>?_
 have e13:=(e1.trans e2).trans e3
 have i3:=i1.ext (e2.trans e3)
 unfold fSl at hhi
 split at hhi
 ·obtain ⟨p,xs,rfl,h1,i2⟩:=i3.list e3.fh
  refine .inl (.inl ⟨p,xs,rfl,h1,λ l hl=>?_⟩)
  obtain ⟨ex,fn⟩:=zz5 (xs:=cutV xs lo hi) e3.fh hl
  obtain ⟨ex2,ii⟩:=zwn (K:=K) ex hl zi0 fn (zur i2 lo hi)
  exact k _ hhi _ _ _ (e13.trans ex2) ii
 ·cases i3.str
  exact .inr ⟨_,rfl,hhi.1,k _ hhi.2 _ F3 H3 e13 (.str _)⟩
 ·obtain ⟨p,xs,rfl,h1,_,i2⟩:=i3.tuple e3.fh
  refine .inl (.inr ⟨p,xs,rfl,h1,by rw [i2.dlen];exact hhi.1,λ l hl=>?_⟩)
  obtain ⟨ex,ii⟩:=zbg (K:=K) e3.fh hl (zur i2 lo hi)
  exact k _ hhi.2 _ _ _ (e13.trans ex) ii
 ·exact hhi.elim
theorem zxg {F:Hp} {xs:List V} {ds:List D} (h:IsAll K F xs ds):∀ js:List Nat,IsAll K F (js.filterMap (xs[·]?)) (js.filterMap (ds[·]?))
|[]=>.nil
|j :: js=>by
  have ih:=zxg h js
  cases hn:ds[j]? with
 |some n =>
   obtain ⟨u,hu,r⟩:=h.dget hn
   simp only [List.filterMap_cons,hn,hu]
   exact .cons r ih
 |none =>
   have hv:xs[j]?=none:=by
    rw [List.getElem?_eq_none_iff] at hn ⊢
    rw [h.dlen];exact hn
   simp only [List.filterMap_cons,hn,hv]
   exact ih
theorem zmw {F:Hp} {xs:List V} {ds:List D} (h:IsAll K F xs ds) (lo hi st:Option Int):IsAll K F (zjl xs lo hi st) (zjl ds lo hi st):=by
 unfold zjl
 rw [h.dlen]
 exact zxg h _
def dSl3 (de:DE) (dl dh dk:DO):DF:=λ U Q=>de U λ d=>dl U λ lo=>dh U λ hi=>dk U λ st=>match d with
|.list ds=>st≠some 0/\Q (zjl ds lo hi st)
|_=>False
theorem zl51 (he:RfV K te de) (hl:RfO K tl dl) (hh:RfO K th dh) (hk:RfO K tk dk):RfF K (tSl3 K te tl th tk) (dSl3 de dl dh dk):=by
 intro F H Y U Qd Q s rv h k
 refine he s rv h λ d hd v F1 H1 e1 i1=>hl e1.fh (rv.ext e1) hd λ lo hlo F2 H2 e2=>hh e2.fh (rv.ext (e1.trans e2)) hlo λ hi hhi F3 H3 e3=>hk e3.fh (rv.ext ((e1.trans e2).trans e3)) hhi λ st hst F4 H4 e4=>?_
 split at hst
 ·have e14:=((e1.trans e2).trans e3).trans e4
  obtain ⟨p,xs,rfl,h1,i2⟩:=(i1.ext ((e2.trans e3).trans e4)).list e4.fh
  refine ⟨p,xs,rfl,h1,hst.1,λ l hl=>?_⟩
  obtain ⟨ex,fn⟩:=zz5 (xs:=zjl xs lo hi st) e4.fh hl
  exact k _ hst.2 l _ F4 _ (e14.trans ex) (zn1 e14 hl) zi0 fn (zmw i2 lo hi st)
 ·exact hst.elim
def W0 (K:Fg) (J:It) (F H:Hp) (items:List D):Prop:=(∀ i,i < items.length->J.go i H)/\J.stop items.length H/\∀ i x H3 d,items[i]?=some d->J.yld i H x H3->H3=H/\Is K F x d
def W1 (K:Fg) (J:It) (F H:Hp) (items:List D):Prop:=(∀ i,i < items.length->J.go i H)/\J.stop items.length H/\∀ i x H3 d,items[i]?=some d->J.yld i H x H3->∃ F3,Ext F H F3 H3/\Is K F3 x d
def WD (K:Fg) (J:It) (F:Hp) (items:List D):Prop:=∀ F2 H2,Same F F2->Same F2 H2->W1 K J F2 H2 items
def WV (K:Fg) (J:It) (F H:Hp) (items:List D):Prop:=∀ F2 H2,Ext F H F2 H2->W1 K J F2 H2 items
theorem W0.w1 {J:It} {F H:Hp} {items:List D} (s:Same F H) (h:W0 K J F H items):W1 K J F H items:=⟨h.1,h.2.1,λ i x H3 d e y=>by
 obtain ⟨rfl,r⟩:=h.2.2 i x H3 d e y
 exact ⟨F,Ext.refl s,r⟩⟩
def RfI (K:Fg) (ti:TI) (di:DF):Prop:=∀ {F H:Hp} {Y:L2.St} {U:DSt} {Qd:List D->Prop} {R:It->Hp->Prop},Same F H->RV K F H Y U->di U Qd->(∀ ds,Qd ds->∀ J F' H',Ext F H F' H'->WD K J F' ds->R J H')->ti Y H R
def RfJ (K:Fg) (ti:TI) (di:DF):Prop:=∀ {F H:Hp} {Y:L2.St} {U:DSt} {Qd:List D->Prop} {R:It->Hp->Prop},Same F H->RV K F H Y U->di U Qd->(∀ ds,Qd ds->∀ J F' H',Ext F H F' H'->WV K J F' H' ds->R J H')->ti Y H R
theorem zft {F H:Hp} {a:Addr} {xs:List V} {ds:List D} (h:SqL K H a xs) (i:IsAll K F xs ds):W0 K (Itl K a) F H ds:=by
 have el:=i.dlen
 refine ⟨λ j hj=>⟨xs,xs[j]'(by lia),h,List.getElem?_eq_getElem _⟩,⟨xs,h,by lia⟩,λ j x H3 d e y=>?_⟩
 obtain ⟨e3,y⟩:=y
 obtain ⟨x',h1,h2⟩:=i.dget e
 have:=y xs h
 rw [h1] at this;cases this
 exact ⟨e3,h2⟩
theorem zsx {F H:Hp} {a:Addr} {xs:List V} {ds:List D} (h:SqT K H a xs) (i:IsAll K F xs ds):W0 K (Itt K a) F H ds:=by
 have el:=i.dlen
 refine ⟨λ j hj=>⟨xs,xs[j]'(by lia),h,List.getElem?_eq_getElem _⟩,⟨xs,h,by lia⟩,λ j x H3 d e y=>?_⟩
 obtain ⟨e3,y⟩:=y
 obtain ⟨x',h1,h2⟩:=i.dget e
 have:=y xs h
 rw [h1] at this;cases this
 exact ⟨e3,h2⟩
def zqy:D->(List D->Prop)->Prop
|.list ds,Q=>Q ds
|.tuple ds,Q=>Q ds
|.str z,Q=>z.cps.all (· < 128)=true/\Q (z.cps.toList.map λ c=>.str ⟨#[c]⟩)
|_,_=>False
def dIt (de:DE):DF:=λ U Q=>de U λ d=>zqy d Q
theorem ze31 {F H:Hp} (z:Str) (s:Same F H):W1 K (Its z) F H (z.cps.toList.map λ c=>.str ⟨#[c]⟩):=by
 have el:(z.cps.toList.map λ c=>(PyData.str ⟨#[c]⟩)).length=z.cps.size:=by simp
 refine ⟨λ j hj=>by rw [el] at hj;exact hj,by rw [el];exact Nat.le_refl _,λ j x H3 d e y=>?_⟩
 obtain ⟨e3,c,e1,e2⟩:=y
 subst e3
 rw [List.getElem?_map,Array.getElem?_toList,e1] at e
 simp at e
 subst e
 exact ⟨F,Ext.refl s,by rw [e2];exact .str _⟩
theorem zmx (h:RfV K te de):RfJ K (iW K te) (dIt de):=by
 intro F H Y U Qd R s rv hd k
 refine h s rv hd λ d hx v F1 H1 e1 i1=>?_
 unfold zqy at hx
 split at hx
 ·obtain ⟨p,xs,rfl,h1,i2⟩:=i1.list e1.fh
  exact .inl (.inl ⟨p,rfl,⟨xs,h1⟩,k _ hx _ F1 H1 e1 λ F2 H2 e2=>(zft (e2.h.seq h1) (i2.mono e2.f)).w1 e2.fh⟩)
 ·obtain ⟨p,xs,rfl,h1,_,i2⟩:=i1.tuple e1.fh
  exact .inl (.inr ⟨p,rfl,⟨xs,h1⟩,k _ hx _ F1 H1 e1 λ F2 H2 e2=>(zsx (zwp e2.h h1) (i2.mono e2.f)).w1 e2.fh⟩)
 ·cases i1.str
  exact .inr ⟨_,rfl,hx.1,k _ hx.2 _ F1 H1 e1 λ F2 H2 e2=>ze31 _ e2.fh⟩
 ·exact hx.elim
theorem zl91 (h:RfE K te de):RfI K (iW K te) (dIt de):=by
 intro F H Y U Qd R s rv hd k
 refine h s rv hd λ d hx v F1 H1 e1 i1=>?_
 unfold zqy at hx
 split at hx
 ·obtain ⟨p,xs,rfl,h1,i2⟩:=i1.list_inv
  exact .inl (.inl ⟨p,rfl,⟨xs,e1.fh.seq h1⟩,k _ hx _ F1 H1 e1 λ F2 H2 s2 t2=>(zft (t2.seq (s2.seq h1)) (i2.mono s2)).w1 t2⟩)
 ·obtain ⟨p,xs,rfl,h1,i2⟩:=i1.tuple_inv
  exact .inl (.inr ⟨p,rfl,⟨xs,zwp e1.fh h1⟩,k _ hx _ F1 H1 e1 λ F2 H2 s2 t2=>(zsx (zwp t2 (zwp s2 h1)) (i2.mono s2)).w1 t2⟩)
 ·cases i1.str_inv
  exact .inr ⟨_,rfl,hx.1,k _ hx.2 _ F1 H1 e1 λ F2 H2 s2 t2=>ze31 _ t2⟩
 ·exact hx.elim
theorem RfI.j {ti:TI} {di:DF} (h:RfI K ti di):RfJ K ti di:=λ s rv hd k=>h s rv hd λ ds q J F' H' e w=>k ds q J F' H' e λ F2 H2 e2=>w F2 H2 e2.f e2.fh
def rngD (lo:Int) (n:Nat):List D:=(List.range n).map λ i=>.int (lo+(i:Nat))
theorem zom (lo:Int) (n:Nat):(rngD lo n).length=n:=by simp [rngD]
theorem zru {lo:Int} {n i:Nat} {d:D} (e:(rngD lo n)[i]?=some d):i < n/\d=.int (lo+(i:Nat)):=by
 unfold rngD at e
 rw [List.getElem?_map] at e
 obtain ⟨j,hj,rfl⟩:=Option.map_eq_some_iff.mp e
 obtain ⟨h1,h2⟩:=List.getElem?_eq_some_iff.mp hj
 simp at h1 h2
 subst h2
 exact ⟨h1,rfl⟩
theorem zf01 {F H:Hp} (lo:Int) (n:Nat) (s:Same F H):W1 K (Itr lo n) F H (rngD lo n):=by
 refine ⟨λ j hj=>by rw [zom] at hj;exact hj,by rw [zom];exact Nat.le_refl _,λ j x H3 d e y=>?_⟩
 obtain ⟨e3,y⟩:=y
 subst e3
 obtain ⟨_,rfl⟩:=zru e
 exact ⟨F,Ext.refl s,by rw [y];exact .int _⟩
def zm61 (dA:DF):DF:=λ U Q=>dA U λ ds=>match ds with
|[.int j]=>-(2 ^ 62)<=j/\j < 2 ^ 62/\Q (rngD 0 j.toNat)
|_=>False
theorem zi5 (h:RfA K tA dA):RfI K (zua1 tA) (zm61 dA):=by
 intro F H Y U Qd R s rv hd k
 refine h s rv hd λ ds hx vs F1 H1 e1 i1=>?_
 split at hx
 ·cases i1 with
 |cons h1 r1 =>
   cases r1
   cases h1.int_inv
   exact ⟨_,rfl,hx.1,hx.2.1,k _ hx.2.2 _ F1 H1 e1 λ F2 H2 s2 t2=>zf01 _ _ t2⟩
 ·exact hx.elim
def zk91 (dA:DF):DF:=λ U Q=>dA U λ ds=>match ds with
|[.int i,.int j]=>(-(2 ^ 62)<=i/\i < 2 ^ 62/\-(2 ^ 62)<=j/\j < 2 ^ 62)/\Q (rngD i (j - i).toNat)
|_=>False
theorem zh01 (h:RfA K tA dA):RfI K (zfa1 tA) (zk91 dA):=by
 intro F H Y U Qd R s rv hd k
 refine h s rv hd λ ds hx vs F1 H1 e1 i1=>?_
 split at hx
 ·cases i1 with
 |cons h1 r1 =>
   cases r1 with
  |cons h2 r2 =>
    cases r2
    cases h1.int_inv
    cases h2.int_inv
    exact ⟨_,_,rfl,hx.1,k _ hx.2 _ F1 H1 e1 λ F2 H2 s2 t2=>zf01 _ _ t2⟩
 ·exact hx.elim
theorem all1 {F:Hp} {vs:List V} {d:D} (h:IsAll K F vs [d]):∃ v,vs=[v]/\Is K F v d:=by
 cases h with
|cons h r=>cases r;exact ⟨_,rfl,h⟩
def zpq (ds:List D):List D:=ds.mapIdx λ i d=>.tuple [.int (i:Nat),d]
theorem zgr (ds:List D):(zpq ds).length=ds.length:=by simp [zpq]
theorem zkp {ds:List D} {i:Nat} {d:D} (e:(zpq ds)[i]?=some d):∃ x,ds[i]?=some x/\d=.tuple [.int (i:Nat),x]:=by
 unfold zpq at e
 rw [List.getElem?_mapIdx] at e
 obtain ⟨x,h1,h2⟩:=Option.map_eq_some_iff.mp e
 exact ⟨x,h1,h2.symm⟩
theorem zes {F H:Hp} {a:Addr} {xs:List V} {ds:List D} (s:Same F H) (h:SqL K H a xs) (i:IsAll K F xs ds):W1 K (Ite K a) F H (zpq ds):=by
 have el:=i.dlen
 have el2:=zgr ds
 refine ⟨λ j hj=>⟨xs,xs[j]'(by lia),h,List.getElem?_eq_getElem _⟩,⟨xs,h,by lia⟩,λ j x H3 d e y=>?_⟩
 obtain ⟨v,p,y1,hp,e1,e2⟩:=y
 subst e2
 obtain ⟨x',hx',rfl⟩:=zkp e
 obtain ⟨u,hu,iu⟩:=i.dget hx'
 have:=y1 xs h
 rw [hu] at this;cases this
 obtain ⟨ex,ii⟩:=zbg (K:=K) (ds:=[.int (j:Nat),x']) s hp (.cons (.int _) (.cons iu .nil))
 exact ⟨_,ex,by rw [e1];exact ii⟩
def zey (dA:DF):DF:=λ U Q=>dA U λ ds=>match ds with
|[.list a]=>Q (zpq a)
|_=>False
theorem za11 (h:RfAV K tA dA):RfJ K (zq51 K tA) (zey dA):=by
 intro F H Y U Qd R s rv hd k
 refine h s rv hd λ ds hx vs F1 H1 e1 i1=>?_
 split at hx
 ·obtain ⟨v,rfl,w1⟩:=vw1 i1
  obtain ⟨p,xs,rfl,h1,j1⟩:=w1.list e1.fh
  exact ⟨p,xs,rfl,h1,k _ hx _ F1 H1 e1 λ F2 H2 e2=>zes e2.fh (e2.h.seq h1) (j1.mono e2.f)⟩
 ·exact hx.elim
theorem zis (h:RfA K tA dA):RfI K (zq51 K tA) (zey dA):=by
 intro F H Y U Qd R s rv hd k
 refine h s rv hd λ ds hx vs F1 H1 e1 i1=>?_
 split at hx
 ·obtain ⟨v,rfl,w1⟩:=all1 i1
  obtain ⟨p,xs,rfl,h1,j1⟩:=w1.list_inv
  exact ⟨p,xs,rfl,e1.fh.seq h1,k _ hx _ F1 H1 e1 λ F2 H2 s2 t2=>zes t2 (t2.seq (s2.seq h1)) (j1.mono s2)⟩
 ·exact hx.elim
end
inductive Upd (K:Fg) (F:Hp) (n:Nat):L2.St->DSt->L2.St->DSt->Prop
|refl {Y:L2.St} {U:DSt}:Upd K F n Y U Y U
|set {Y Y':L2.St} {U U':DSt} {i:Nat} {v:V} {d:D}:i < n->Is K F v d->Upd K F n (Y.set i (some v)) (U.set i (.sh d)) Y' U'->Upd K F n Y U Y' U'
theorem zp1 {Y:L2.St} {i j:Nat} {v:Option V}:(Y.set i v).getD j none=if i=j/\j < Y.length then v else Y.getD j none:=by
 rw [List.getD_eq_getElem?_getD,List.getD_eq_getElem?_getD,List.getElem?_set]
 by_cases h:i=j
 ·subst h
  by_cases h2:i < Y.length
  ·simp [h2]
  ·simp [h2]
 ·simp [h]
theorem RV.set {K:Fg} {F H:Hp} {Y:L2.St} {U:DSt} {i:Nat} {v:V} {sl:Sl} (r:RV K F H Y U) (h:RSl K F H (some v) sl):RV K F H (Y.set i (some v)) (U.set i sl):=by
 refine ⟨by rw [List.length_set,List.length_set];exact r.len,λ j s e=>?_⟩
 rw [List.getElem?_set] at e
 rw [zp1,r.len]
 by_cases hij:i=j
 ·subst hij
  by_cases hl:i < U.length
  ·simp [hl] at e ⊢;subst e;exact h
  ·simp [hl] at e
 ·simp [hij] at e ⊢;exact r.sl j s e
theorem Upd.rv {K:Fg} {F H:Hp} {n:Nat} {Y Y':L2.St} {U U':DSt} (u:Upd K F n Y U Y' U') (r:RV K F H Y U):RV K F H Y' U':=by
 induction u with
|refl=>exact r
|set hi hv _ ih=>exact ih (r.set ⟨_,rfl,hv⟩)
theorem Upd.keep {K:Fg} {F:Hp} {n:Nat} {Y Y':L2.St} {U U':DSt} (u:Upd K F n Y U Y' U'):Y'.length=Y.length/\∀ i,n<=i->Y'.getD i none=Y.getD i none:=by
 induction u with
|refl=>exact ⟨rfl,λ _ _=>rfl⟩
|set hi hv _ ih =>
  refine ⟨by rw [ih.1,List.length_set],λ j hj=>?_⟩
  rw [ih.2 j hj,zp1,if_neg (by lia)]
abbrev DG:=D->DSt->(DSt->Prop)->Prop
abbrev DGs:=List D->DSt->(DSt->Prop)->Prop
def RfG (K:Fg) (n:Nat) (g:TG) (dg:DG):Prop:=∀ {F H:Hp} {Y:L2.St} {U:DSt} {v:V} {d:D} {Gd:DSt->Prop} {G:L2.St->Hp->Prop},Same F H->Is K F v d->dg d U Gd->(∀ Y' U',Gd U'->Upd K F n Y U Y' U'->G Y' H)->g v Y H G
def RfGs (K:Fg) (n:Nat) (g:TGs) (dg:DGs):Prop:=∀ {F H:Hp} {Y:L2.St} {U:DSt} {vs:List V} {ds:List D} {Gd:DSt->Prop} {G:L2.St->Hp->Prop},Same F H->IsAll K F vs ds->dg ds U Gd->(∀ Y' U',Gd U'->Upd K F n Y U Y' U'->G Y' H)->g vs Y H G
def gN (i:Nat):DG:=λ d U G=>G (U.set i (.sh d))
def zk21:DGs:=λ ds U G=>match ds with
|[]=>G U
|_=>False
def zyh (g:DG) (gs:DGs):DGs:=λ ds U G=>match ds with
|d :: r=>g d U λ U'=>gs r U' G
|[]=>False
def gT (n:Nat) (gs:DGs):DG:=λ d U G=>match d with
|.tuple ds=>ds.length=n/\gs ds U G
|_=>False
section
variable {K:Fg} {n m:Nat}
theorem zv2 {i:Nat} (hi:i < n):RfG K n (zhe i) (gN i):=λ s h hd k=>k _ _ hd (.set hi h .refl)
theorem zan:RfGs K n gNil zk21:=by
 intro F H Y U vs ds Gd G s h hd k
 unfold zk21 at hd
 split at hd
 ·cases h;exact ⟨rfl,k _ _ hd .refl⟩
 ·exact hd.elim
theorem Upd.trans {F:Hp} {Y Y1 Y2:L2.St} {U U1 U2:DSt} (a:Upd K F n Y U Y1 U1) (b:Upd K F n Y1 U1 Y2 U2):Upd K F n Y U Y2 U2:=by
 induction a with
|refl=>exact b
|set hi hv _ ih=>exact .set hi hv (ih b)
theorem zu7 {g:TG} {dg:DG} {gs:TGs} {dgs:DGs} (h1:RfG K n g dg) (h2:RfGs K n gs dgs):RfGs K n (zs31 g gs) (zyh dg dgs):=by
 intro F H Y U vs ds Gd G s h hd k
 unfold zyh at hd
 split at hd
 ·cases h with
 |cons hx hr =>
   refine ⟨_,_,rfl,h1 s hx hd λ Y1 U1 hd1 u1=>h2 s hr hd1 λ Y2 U2 hd2 u2=>k _ _ hd2 (u1.trans u2)⟩
 ·exact hd.elim
theorem zqv {gs:TGs} {dgs:DGs} (h:RfGs K n gs dgs):RfG K n (gTup K m gs) (gT m dgs):=by
 intro F H Y U v d Gd G s hv hd k
 unfold gT at hd
 split at hd
 ·obtain ⟨a,xs,rfl,h1,h2⟩:=hv.tuple_inv
  exact ⟨a,xs,rfl,zwp s h1,by rw [h2.dlen];exact hd.1,h s h2 hd.2 k⟩
 ·exact hd.elim
end
def cST (n:Nat) (ix:List Nat) (U:DSt):DSt:=List.replicate n .un++ix.map λ i=>U.getD i .un
theorem zm31 {K:Fg} {F H:Hp} {Y:L2.St} {U:DSt} (n:Nat) (ix:List Nat) (r:RV K F H Y U):RV K F H (compY n ix Y) (cST n ix U):=by
 refine ⟨by simp [compY,cST],λ i s e=>?_⟩
 unfold cST at e
 unfold compY
 by_cases h:i < n
 ·rw [List.getElem?_append_left (by simpa using h)] at e
  simp [List.getElem?_replicate,h] at e
  subst e;trivial
 ·rw [List.getElem?_append_right (by simpa using h)] at e
  rw [List.getD_eq_getElem?_getD,List.getElem?_append_right (by simpa using h)]
  simp only [List.length_replicate,List.getElem?_map] at e ⊢
  obtain ⟨j,hj,rfl⟩:=Option.map_eq_some_iff.mp e
  rw [hj]
  show RSl K F H (Y.getD j none) _
  cases q:U[j]? with
 |none=>rw [show U.getD j .un=.un by rw [List.getD_eq_getElem?_getD,q];rfl];trivial
 |some t=>rw [show U.getD j .un=t by rw [List.getD_eq_getElem?_getD,q];rfl];exact r.sl j t q
theorem RV.caps {K:Fg} {F H:Hp} {Y Y':L2.St} {n:Nat} {ix:List Nat} {U:DSt} (r:RV K F H Y (cST n ix U)) (hl:Y'.length=Y.length) (hk:∀ i,n<=i->Y'.getD i none=Y.getD i none):RV K F H Y' (cST n ix U):=by
 refine ⟨by rw [hl];exact r.len,λ i s e=>?_⟩
 by_cases h:i < n
 ·unfold cST at e
  rw [List.getElem?_append_left (by simpa using h)] at e
  simp [List.getElem?_replicate,h] at e
  subst e;trivial
 ·rw [hk i (by lia)];exact r.sl i s e
def zp91 (di:DF) (n:Nat) (ix:List Nat) (dg:DG) (dt:DT) (de:DE):DF:=λ U Q=>di U λ items=>items.length<=sizeLine/\∃ R:Nat->Option D->Prop,
 (∀ i d,items[i]?=some d->dg d (cST n ix U) λ U'=>dt U' λ b=>if b=true then de U' λ r=>R i (some r) else R i none) /\
 ∀ os:List (Option D),os.length=items.length->(∀ (j:Nat) o,os[j]?=some o->R j o)->Q (os.filterMap id)
def zc41:DT:=λ _ Q=>Q true
section
variable {K:Fg} {wi:TI} {di:DF} {n:Nat} {ix:List Nat} {g:TG} {dg:DG} {tt:TT} {dt:DT} {te:TE} {de:DE}
theorem zg8:RfT K zb21 zc41:=λ s rv h k=>k _ h _ _ (Ext.refl s)
theorem zy4 (hi:RfJ K wi di) (hg:RfG K n g dg) (ht:RfT K tt dt) (he:RfE K te de):RfF K (zi21 wi n ix g tt te) (zp91 di n ix dg dt de):=by
 intro F H Y U Qd Q s rv hd k
 refine hi s rv hd λ items hx J F1 H1 e1 wj D hD=>?_
 obtain ⟨hz,R,hR,hQ⟩:=hx
 have rv1:=zm31 n ix (rv.ext e1)
 have F1D:F1 D=none:=by
  cases q:F1 D with
 |none=>rfl
 |some o=>rw [e1.fh D o q] at hD;cases hD
 refine ⟨λ i m acc Y' H'=>m=items.length - i/\i<=items.length/\Y'.length=(compY n ix Y).length/\(∀ j,n<=j->Y'.getD j none=(compY n ix Y).getD j none)/\∃ (F':Hp) (os:List (Option PyData)),Ext F1 H1 F' H'/\F' D=none/\H' D=some (.lst acc)/\os.length=i/\(∀ (j:Nat) o,os[j]?=some o->R j o)/\IsAll K F' acc (os.filterMap id),⟨items.length,rfl,Nat.zero_le _,rfl,λ _ _=>rfl,F1,[],?_,F1D,zi0,rfl,λ j o e=>by simp at e,.nil⟩,?_⟩
 ·exact (zz5 (xs:=[]) e1.fh hD).1
 rintro i m acc Y' H' ⟨rfl,hi',hl,hk,F',os,ex,fD,hDD,hos,hRs,hall⟩
 obtain ⟨go,stop,yld⟩:=wj F' H' ex
 by_cases hlt:i < items.length
 ·refine .inr ⟨go i hlt,λ acc' Y2 H2=>i+1<=items.length/\Y2.length=(compY n ix Y).length/\(∀ j,n<=j->Y2.getD j none=(compY n ix Y).getD j none)/\∃ (F':Hp) (os:List (Option PyData)),Ext F1 H1 F' H2/\F' D=none/\H2 D=some (.lst acc')/\os.length=i+1/\(∀ (j:Nat) o,os[j]?=some o->R j o)/\IsAll K F' acc' (os.filterMap id),λ acc' Y2 H2 p=>⟨items.length - (i+1),by lia,rfl,p⟩,λ x H2 y=>?_⟩
  have hit:items[i]?=some items[i]:=List.getElem?_eq_getElem hlt
  obtain ⟨F2,ex2,ix2⟩:=yld i x H2 _ hit y
  have rv2:RV K F2 H2 Y' (cST n ix U):=RV.caps (rv1.ext (ex.trans ex2)) hl hk
  have hRn:∀ o,R i o->∀ (j:Nat) o',(os++[o])[j]?=some o'->R j o':=λ o ho j o' e=>by
   rcases Nat.lt_trichotomy j os.length with h|h|h
   ·rw [List.getElem?_append_left h] at e;exact hRs j o' e
   ·subst h;rw [List.getElem?_append_right (Nat.le_refl _)] at e;simp at e;subst e;rw [hos];exact ho
   ·rw [List.getElem?_append_right (Nat.le_of_lt h)] at e
    cases q:j - os.length with
   |zero=>lia
   |succ z=>rw [q] at e;simp at e
  refine hg ex2.fh ix2 (hR i _ hit) λ Y2 U2 hd2 u2=>?_
  have rv3:=u2.rv rv2
  have kp:=u2.keep
  have hl2:Y2.length=(compY n ix Y).length:=by rw [kp.1,hl]
  have hk2:∀ j,n<=j->Y2.getD j none=(compY n ix Y).getD j none:=λ j hj=>by rw [kp.2 j hj,hk j hj]
  refine ht ex2.fh rv3 hd2 λ b hb F4 H4 e4=>?_
  have e24:=ex2.trans e4
  have hD4:H4 D=some (.lst acc):=e24.h _ _ hDD
  have fD4:F4 D=none:=e24.nw D (by rw [hDD];simp) fD
  cases b with
 |true =>
   rw [if_pos rfl] at hb ⊢
   refine he e4.fh (rv3.ext e4) hb λ r hr v F5 H5 e5 i5=>?_
   have e25:=e24.trans e5
   have hD5:H5 D=some (.lst acc):=e25.h _ _ hDD
   have fD5:F5 D=none:=e25.nw D (by rw [hDD];simp) fD
   have hlen:acc.length<=i:=by
    rw [hall.dlen,<- hos];exact List.length_filterMap_le _ _
   have e15:=ex.trans e25
   refine ⟨hD5,by lia,hlt,hl2,hk2,F5,os++[some r],⟨λ b o hb=>?_,e15.f,λ b o hb=>?_,e15.nw⟩,fD5,zi0,by simp [hos],hRn _ hr,?_⟩
   ·have:b≠D:=λ z=>by subst z;rw [hD] at hb;cases hb
    rw [zj0 this];exact e15.h b o hb
   ·have:b≠D:=λ z=>by subst z;rw [fD5] at hb;cases hb
    rw [zj0 this];exact e15.fh b o hb
   ·rw [List.filterMap_append]
    exact (hall.mono e25.f).dapp (.cons i5 .nil)
 |false =>
   rw [if_neg Bool.false_ne_true] at hb ⊢
   refine ⟨hlt,hl2,hk2,F4,os++[none],ex.trans e24,fD4,hD4,by simp [hos],hRn _ hb,?_⟩
   rw [List.filterMap_append]
   have:List.filterMap id [(none:Option PyData)]=[]:=rfl
   rw [this,List.append_nil]
   exact hall.mono e24.f
 ·have e:i=items.length:=by lia
  refine .inl ⟨by rw [e];exact stop,k _ (hQ os (by lia) hRs) D acc F' H' (e1.trans ex) ?_ hDD fD hall⟩
  exact zn1 e1 hD
end
inductive Stp where
|ix (j:Nat)|fl (f:Str)
abbrev Pth:=List Stp
def putA (f:Str) (t:T):List (Str×T)->List (Str×T)
|[]=>[(f,t)]
|(g,x) :: r=>if g=f then (g,t) :: r else (g,x) :: putA f t r
def setP:T->Pth->T->T
|_,[],u=>u
|.ls ts,.ix j :: p,u=>match ts[j]? with
 |some t=>.ls (ts.set j (setP t p u))
 |none=>.ls ts
|.tp ts,.ix j :: p,u=>match ts[j]? with
 |some t=>.tp (ts.set j (setP t p u))
 |none=>.tp ts
|.ob C fs,.fl f :: p,u=>match fs.lookup f with
 |some t=>.ob C (putA f (setP t p u) fs)
 |none=>.ob C fs
|t,_,_=>t
inductive At (H:Hp):V->T->Pth->V->T->Prop
|nil {v:V} {t:T}:At H v t [] v t
|ix {a:Addr} {xs:List V} {ts:List T} {j:Nat} {x v:V} {t u:T} {p:Pth}:H a=some (.lst xs)->xs[j]?=some x->ts[j]?=some t->At H x t p v u->At H (.ref a) (.ls ts) (.ix j :: p) v u
|tx {a:Addr} {xs:List V} {ts:List T} {j:Nat} {x v:V} {t u:T} {p:Pth}:H a=some (.tup xs)->xs[j]?=some x->ts[j]?=some t->At H x t p v u->At H (.ref a) (.tp ts) (.ix j :: p) v u
|fl {a C dx:Addr} {fs:List (Str×V)} {ts:List (Str×T)} {f:Str} {x v:V} {t u:T} {p:Pth}:H a=some (.ins C dx fs)->fs.lookup f=some x->ts.lookup f=some t->At H x t p v u->At H (.ref a) (.ob C ts) (.fl f :: p) v u
theorem At.mono {H H':Hp} (s:Same H H') {v v':V} {t t':T} {p:Pth} (h:At H v t p v' t'):At H' v t p v' t':=by
 induction h with
|nil=>exact .nil
|ix h1 h2 h3 _ ih=>exact .ix (s _ _ h1) h2 h3 ih
|tx h1 h2 h3 _ ih=>exact .tx (s _ _ h1) h2 h3 ih
|fl h1 h2 h3 _ ih=>exact .fl (s _ _ h1) h2 h3 ih
theorem At.snoc_ix {H:Hp} {v x y:V} {t u:T} {ts:List T} {a:Addr} {xs:List V} {j:Nat} {p:Pth} (h:At H v t p (.ref a) (.ls ts)) (h1:H a=some (.lst xs)) (h2:xs[j]?=some x) (h3:ts[j]?=some u):At H v t (p++[.ix j]) x u:=by
 generalize e:V.ref a=w at h
 generalize e2:T.ls ts=z at h
 induction h with
|nil=>subst e e2;exact .ix h1 h2 h3 .nil
|ix g1 g2 g3 _ ih=>exact .ix g1 g2 g3 (ih e e2)
|tx g1 g2 g3 _ ih=>exact .tx g1 g2 g3 (ih e e2)
|fl g1 g2 g3 _ ih=>exact .fl g1 g2 g3 (ih e e2)
theorem At.snoc_tx {H:Hp} {v x y:V} {t u:T} {ts:List T} {a:Addr} {xs:List V} {j:Nat} {p:Pth} (h:At H v t p (.ref a) (.tp ts)) (h1:H a=some (.tup xs)) (h2:xs[j]?=some x) (h3:ts[j]?=some u):At H v t (p++[.ix j]) x u:=by
 generalize e:V.ref a=w at h
 generalize e2:T.tp ts=z at h
 induction h with
|nil=>subst e e2;exact .tx h1 h2 h3 .nil
|ix g1 g2 g3 _ ih=>exact .ix g1 g2 g3 (ih e e2)
|tx g1 g2 g3 _ ih=>exact .tx g1 g2 g3 (ih e e2)
|fl g1 g2 g3 _ ih=>exact .fl g1 g2 g3 (ih e e2)
theorem At.snoc_fl {H:Hp} {v x:V} {t u:T} {ts:List (Str×T)} {a C dx:Addr} {fs:List (Str×V)} {f:Str} {p:Pth} (h:At H v t p (.ref a) (.ob C ts)) (h1:H a=some (.ins C dx fs)) (h2:fs.lookup f=some x) (h3:ts.lookup f=some u):At H v t (p++[.fl f]) x u:=by
 generalize e:V.ref a=w at h
 generalize e2:T.ob C ts=z at h
 induction h with
|nil=>subst e e2;exact .fl h1 h2 h3 .nil
|ix g1 g2 g3 _ ih=>exact .ix g1 g2 g3 (ih e e2)
|tx g1 g2 g3 _ ih=>exact .tx g1 g2 g3 (ih e e2)
|fl g1 g2 g3 _ ih=>exact .fl g1 g2 g3 (ih e e2)
section
variable {K:Fg}
theorem RtAll.len {F H:Hp}:∀ {xs:List V} {ts:List T} {fp:List Addr},RtAll K F H xs ts fp->xs.length=ts.length
|_,_,_,.nil=>rfl
|_,_,_,.cons _ r=>congrArg (·+1) (RtAll.len r)
theorem RtAll.split {F H:Hp}:∀ {xs:List V} {ts:List T} {fp:List Addr} {j:Nat} {x:V} {t:T},RtAll K F H xs ts fp->xs[j]?=some x->ts[j]?=some t ->
  ∃ fA fj fB,fp=fA++(fj++fB)/\Rt K F H x t fj/\∀ {F2 H2:Hp} {u:T} {fq:List Addr},Same F F2->(∀ b∈fA++fB,H2 b=H b/\F2 b=none)->Rt K F2 H2 x u fq->RtAll K F2 H2 xs (ts.set j u) (fA++(fq++fB))
|_,_,_,_,_,_,.nil,e,_=>by simp at e
|_,_,_,0,x,t,.cons (fp:=fp) (fq:=fq) h r,e1,e2=>by
  simp at e1 e2;subst e1 e2
  exact ⟨[],fp,fq,rfl,h,λ s k g=>(by have z:=RtAll.cons g (r.frame s λ b hb=>k b (by simp [hb]));exact z)⟩
|_,_,_,j+1,x,t,.cons (fp:=fp) (fq:=fq) h r,e1,e2=>by
  obtain ⟨fA,fj,fB,e,hr,g⟩:=RtAll.split (j:=j) r (by simpa using e1) (by simpa using e2)
  refine ⟨fp++fA,fj,fB,by rw [e,List.append_assoc],hr,λ s k hu=>?_⟩
  rw [List.append_assoc]
  exact .cons (h.frame s λ b hb=>k b (by simp [hb])) (g s (λ b hb=>k b (by rcases List.mem_append.mp hb with z|z <;> simp [z])) hu)
theorem RtFs.split {F H:Hp}:∀ {xs:List (Str×V)} {ts:List (Str×T)} {fp:List Addr} {f:Str} {x:V} {t:T},RtFs K F H xs ts fp->xs.lookup f=some x->ts.lookup f=some t ->
  ∃ fA fj fB,fp=fA++(fj++fB)/\Rt K F H x t fj/\(∀ {F2 H2:Hp} {u:T} {fq:List Addr},Same F F2->(∀ b∈fA++fB,H2 b=H b/\F2 b=none)->Rt K F2 H2 x u fq->RtFs K F2 H2 xs (putA f u ts) (fA++(fq++fB))) /\
   (∀ {F2 H2:Hp} {y:V} {u:T} {fq:List Addr},Same F F2->(∀ b∈fA++fB,H2 b=H b/\F2 b=none)->Rt K F2 H2 y u fq->RtFs K F2 H2 (putF f y xs) (putA f u ts) (fA++(fq++fB)))
|_,_,_,_,_,_,.nil,e,_=>by cases e
|_,_,_,f,x,t,.cons (f:=g) (x:=x') (t:=t') (fp:=fp) (fq:=fq) h r,e1,e2=>by
  by_cases hg:f=g
  ·subst hg
   simp [List.lookup] at e1 e2
   subst e1 e2
   refine ⟨[],fp,fq,rfl,h,λ s k u=>?_,λ s k u=>?_⟩
   ·show RtFs K _ _ _ (putA f _ ((f,_) :: _)) _
    rw [show putA f _ ((f,t') :: _)=(f,_) :: _ from if_pos rfl]
    have z:=RtFs.cons (f:=f) u (r.frame s λ b hb=>k b (by simp [hb]));exact z
   ·rw [show putA f _ ((f,t') :: _)=(f,_) :: _ from if_pos rfl,show putF f _ ((f,x') :: _)=(f,_) :: _ from if_pos rfl]
    have z:=RtFs.cons (f:=f) u (r.frame s λ b hb=>k b (by simp [hb]));exact z
  ·have hb:(f == g)=false:=beq_eq_false_iff_ne.mpr hg
   simp only [List.lookup,hb] at e1 e2
   obtain ⟨fA,fj,fB,e,hr,q1,q2⟩:=RtFs.split r e1 e2
   have hgf:¬g=f:=λ z=>hg z.symm
   refine ⟨fp++fA,fj,fB,by rw [e,List.append_assoc],hr,λ s k u=>?_,λ s k u=>?_⟩
   ·rw [show putA f _ ((g,t') :: _)=(g,t') :: putA f _ _ from if_neg hgf,List.append_assoc]
    exact .cons (h.frame s λ b hb=>k b (by simp [hb])) (q1 s (λ b hb=>k b (by rcases List.mem_append.mp hb with z|z <;> simp [z])) u)
   ·rw [show putA f _ ((g,t') :: _)=(g,t') :: putA f _ _ from if_neg hgf,show putF f _ ((g,x') :: _)=(g,x') :: putF f _ _ from if_neg hgf,List.append_assoc]
    exact .cons (h.frame s λ b hb=>k b (by simp [hb])) (q2 s (λ b hb=>k b (by rcases List.mem_append.mp hb with z|z <;> simp [z])) u)
theorem RtFs.add {F H F2 H2:Hp} {y:V} {u:T} {fq:List Addr} (s:Same F F2) (hu:Rt K F2 H2 y u fq):∀ {xs:List (Str×V)} {ts:List (Str×T)} {fp:List Addr} {f:Str},RtFs K F H xs ts fp->ts.lookup f=none->(∀ b∈fp,H2 b=H b/\F2 b=none)->RtFs K F2 H2 (putF f y xs) (putA f u ts) (fp++fq)
|_,_,_,f,.nil,_,_=>by
  show RtFs K F2 H2 [(f,y)] [(f,u)] fq
  have:=RtFs.cons (f:=f) hu (.nil (K:=K) (F:=F2) (H:=H2))
  rwa [List.append_nil] at this
|_,_,_,f,.cons (f:=g) (x:=x') (t:=t') (fp:=fp) (fq:=fq') h r,e,k=>by
  have hg:¬f=g:=λ z=>by subst z;simp [List.lookup] at e
  have hb:(f == g)=false:=beq_eq_false_iff_ne.mpr hg
  simp only [List.lookup,hb] at e
  have hgf:¬g=f:=λ z=>hg z.symm
  rw [show putA f u ((g,t') :: _)=(g,t') :: putA f u _ from if_neg hgf,show putF f y ((g,x') :: _)=(g,x') :: putF f y _ from if_neg hgf,List.append_assoc]
  exact .cons (h.frame s λ b hb=>k b (by simp [hb])) (RtFs.add s hu r e λ b hb=>k b (by simp [hb]))
theorem RtFs.keys {F H:Hp} {xs:List (Str×V)} {ts:List (Str×T)} {fp:List Addr} (f:Str) (h:RtFs K F H xs ts fp):(ts.lookup f=none->xs.lookup f=none)/\(∀ t,ts.lookup f=some t->∃ x,xs.lookup f=some x)/\xs.length=ts.length :=
 (Rt.ind (P:=λ _ _ _=>True) (Q:=λ _ _ _=>True) (R:=λ xs ts _=>(ts.lookup f=none->xs.lookup f=none)/\(∀ t,ts.lookup f=some t->∃ x,xs.lookup f=some x)/\xs.length=ts.length)
  (λ _=>trivial) (λ _ _ _=>trivial) (λ _ _ _=>trivial) (λ _ _ _ _ _=>trivial) (λ _ _ _=>trivial) (λ _ _ _=>trivial) (λ _ _ _=>trivial) trivial (λ _ _=>trivial) ⟨λ _=>rfl,(λ t e=>by cases e),rfl⟩
  λ {g x _ _ _ _ _} _ ⟨k1,k2,k3⟩=>by
   rw [List.length_cons,List.length_cons,k3,List.lookup_cons,List.lookup_cons]
   cases f == g with
  |true=>exact ⟨(λ e=>by cases e),λ _ _=>⟨x,rfl⟩,rfl⟩
  |false=>exact ⟨k1,k2,rfl⟩).2.2 h
theorem zu31 {F H:Hp} {x v:V} {t u:T} {p:Pth} (h:At H x t p v u):∀ {fp:List Addr},Rt K F H x t fp->fp.Nodup->∃ fn,Rt K F H v u fn/\(∀ a∈fn,a∈fp)/\fn.Nodup /\
  ∀ {F2 H2:Hp} {u2:T} {fq:List Addr},Same F F2->(∀ b∈fp,b ∉ fn->H2 b=H b/\F2 b=none)->Rt K F2 H2 v u2 fq->fq.Nodup->(∀ b∈fq,b∈fn \/ b ∉ fp)->∃ fp2,Rt K F2 H2 x (setP t p u2) fp2/\fp2.Nodup/\∀ b∈fp2,(b∈fp/\b ∉ fn) \/ b∈fq:=by
 induction h with
|nil =>
  intro fp hr nd
  refine ⟨fp,hr,λ a z=>z,nd,λ {F2 H2 u2 fq} _ _ h2 n2 _=>⟨fq,?_,n2,λ b hb=>.inr hb⟩⟩
  cases u2 <;> exact h2
|@ix a0 xs0 ts0 j0 x0 v0 t0 u0 p0 h1 h2 h3 _ ih =>
  intro fp hr nd
  cases hr with
 |ls g1 g2 g3 =>
   rw [h1] at g1;cases g1
   obtain ⟨fA,fj,fB,e,hj,rep⟩:=g3.split h2 h3
   subst e
   have ndR:=(List.nodup_cons.mp nd).2
   have nA:=(List.nodup_cons.mp nd).1
   obtain ⟨ndA,ndJB,djA⟩:=List.nodup_append.mp ndR
   obtain ⟨ndj,ndB,djB⟩:=List.nodup_append.mp ndJB
   obtain ⟨fn,hn,sub,ndn,back⟩:=ih hj ndj
   refine ⟨fn,hn,λ a ha=>by simp [sub a ha],ndn,λ {F2 H2 u2 fq} s k hu nq hq=>?_⟩
   obtain ⟨f2,r2,n2,m2⟩:=back s (λ b hb hnb=>k b (by simp [hb]) hnb) hu nq λ b hb=>by
    rcases hq b hb with z|z
    ·exact .inl z
    ·exact .inr λ y=>z (by simp [y])
   have notin:∀ b,b∈fA \/ b∈fB->b ∉ fn:=λ b hb hn'=>by
    have:=sub b hn'
    rcases hb with z|z
    ·exact djA b z b (by simp [this]) rfl
    ·exact djB b this b z rfl
   have rA:=rep s (λ b hb=>by
    have hb':=List.mem_append.mp hb
    refine k b (by rcases hb' with z|z <;> simp [z]) (notin b hb')) r2
   have hnotq:∀ b,(b∈fA \/ b∈fB \/ b=a0)->b ∉ fq:=λ b hb hbq=>by
    rcases hq b hbq with z|z
    ·rcases hb with y|y|y
     ·exact notin b (.inl y) z
     ·exact notin b (.inr y) z
     ·subst y;exact nA (by simp [sub _ z])
    ·apply z
     rcases hb with y|y|y
     ·simp [y]
     ·simp [y]
     ·simp [y]
   have ha2:=k _ (List.mem_cons_self) (λ z=>nA (by simp [sub _ z]))
   refine ⟨a0 :: (fA++(f2++fB)),?_,?_,?_⟩
   ·unfold setP
    rw [h3]
    exact .ls (by rw [ha2.1];exact h1) ha2.2 rA
   ·refine List.nodup_cons.mpr ⟨λ z=>?_,?_⟩
    ·rcases List.mem_append.mp z with y|y
     ·exact nA (by simp [y])
     ·rcases List.mem_append.mp y with y|y
      ·rcases m2 _ y with ⟨y1,_⟩|y1
       ·exact nA (by simp [y1])
       ·exact hnotq _ (.inr (.inr rfl)) y1
      ·exact nA (by simp [y])
    ·refine List.nodup_append.mpr ⟨ndA,List.nodup_append.mpr ⟨n2,ndB,λ a ha b hb=>?_⟩,λ a ha b hb=>?_⟩
     ·rcases m2 a ha with ⟨y,_⟩|y
      ·exact djB a y b hb
      ·intro z;subst z;exact hnotq a (.inr (.inl hb)) y
     ·rcases List.mem_append.mp hb with y|y
      ·rcases m2 b y with ⟨y,_⟩|y
       ·exact djA a ha b (by simp [y])
       ·intro z;subst z;exact hnotq a (.inl ha) y
      ·exact djA a ha b (by simp [y])
   ·intro b hb
    rcases List.mem_cons.mp hb with y|y
    ·subst y;exact .inl ⟨by simp,λ z=>nA (by simp [sub _ z])⟩
    ·rcases List.mem_append.mp y with y|y
     ·exact .inl ⟨by simp [y],notin b (.inl y)⟩
     ·rcases List.mem_append.mp y with y|y
      ·rcases m2 b y with ⟨y1,y2⟩|y1
       ·exact .inl ⟨by simp [y1],y2⟩
       ·exact .inr y1
      ·exact .inl ⟨by simp [y],notin b (.inr y)⟩
|@tx a0 xs0 ts0 j0 x0 v0 t0 u0 p0 h1 h2 h3 _ ih =>
  intro fp hr nd
  cases hr with
 |tp g1 g2 g3 =>
   rw [h1] at g1;cases g1
   obtain ⟨fA,fj,fB,e,hj,rep⟩:=g3.split h2 h3
   subst e
   have ndR:=(List.nodup_cons.mp nd).2
   have nA:=(List.nodup_cons.mp nd).1
   obtain ⟨ndA,ndJB,djA⟩:=List.nodup_append.mp ndR
   obtain ⟨ndj,ndB,djB⟩:=List.nodup_append.mp ndJB
   obtain ⟨fn,hn,sub,ndn,back⟩:=ih hj ndj
   refine ⟨fn,hn,λ a ha=>by simp [sub a ha],ndn,λ {F2 H2 u2 fq} s k hu nq hq=>?_⟩
   obtain ⟨f2,r2,n2,m2⟩:=back s (λ b hb hnb=>k b (by simp [hb]) hnb) hu nq λ b hb=>by
    rcases hq b hb with z|z
    ·exact .inl z
    ·exact .inr λ y=>z (by simp [y])
   have notin:∀ b,b∈fA \/ b∈fB->b ∉ fn:=λ b hb hn'=>by
    have:=sub b hn'
    rcases hb with z|z
    ·exact djA b z b (by simp [this]) rfl
    ·exact djB b this b z rfl
   have rA:=rep s (λ b hb=>by
    have hb':=List.mem_append.mp hb
    refine k b (by rcases hb' with z|z <;> simp [z]) (notin b hb')) r2
   have hnotq:∀ b,(b∈fA \/ b∈fB \/ b=a0)->b ∉ fq:=λ b hb hbq=>by
    rcases hq b hbq with z|z
    ·rcases hb with y|y|y
     ·exact notin b (.inl y) z
     ·exact notin b (.inr y) z
     ·subst y;exact nA (by simp [sub _ z])
    ·apply z
     rcases hb with y|y|y
     ·simp [y]
     ·simp [y]
     ·simp [y]
   have ha2:=k _ (List.mem_cons_self) (λ z=>nA (by simp [sub _ z]))
   refine ⟨a0 :: (fA++(f2++fB)),?_,?_,?_⟩
   ·unfold setP
    rw [h3]
    exact .tp (by rw [ha2.1];exact h1) ha2.2 rA
   ·refine List.nodup_cons.mpr ⟨λ z=>?_,?_⟩
    ·rcases List.mem_append.mp z with y|y
     ·exact nA (by simp [y])
     ·rcases List.mem_append.mp y with y|y
      ·rcases m2 _ y with ⟨y1,_⟩|y1
       ·exact nA (by simp [y1])
       ·exact hnotq _ (.inr (.inr rfl)) y1
      ·exact nA (by simp [y])
    ·refine List.nodup_append.mpr ⟨ndA,List.nodup_append.mpr ⟨n2,ndB,λ a ha b hb=>?_⟩,λ a ha b hb=>?_⟩
     ·rcases m2 a ha with ⟨y,_⟩|y
      ·exact djB a y b hb
      ·intro z;subst z;exact hnotq a (.inr (.inl hb)) y
     ·rcases List.mem_append.mp hb with y|y
      ·rcases m2 b y with ⟨y,_⟩|y
       ·exact djA a ha b (by simp [y])
       ·intro z;subst z;exact hnotq a (.inl ha) y
      ·exact djA a ha b (by simp [y])
   ·intro b hb
    rcases List.mem_cons.mp hb with y|y
    ·subst y;exact .inl ⟨by simp,λ z=>nA (by simp [sub _ z])⟩
    ·rcases List.mem_append.mp y with y|y
     ·exact .inl ⟨by simp [y],notin b (.inl y)⟩
     ·rcases List.mem_append.mp y with y|y
      ·rcases m2 b y with ⟨y1,y2⟩|y1
       ·exact .inl ⟨by simp [y1],y2⟩
       ·exact .inr y1
      ·exact .inl ⟨by simp [y],notin b (.inr y)⟩
|@fl a0 C0 dx0 fs0 ts0 f0 x0 v0 t0 u0 p0 h1 h2 h3 _ ih =>
  intro fp hr nd
  cases hr with
 |ob g1 g2 g3 g4 g5 =>
   rw [h1] at g1;cases g1
   obtain ⟨fA,fj,fB,e,hj,rep,_⟩:=g5.split h2 h3
   subst e
   have nd1:=List.nodup_cons.mp nd
   have nd2:=List.nodup_cons.mp nd1.2
   have ndR:=nd2.2
   have nA:_ ∉ fA++(fj++fB):=λ z=>nd1.1 (List.mem_cons_of_mem _ z)
   have nX:=nd2.1
   obtain ⟨ndA,ndJB,djA⟩:=List.nodup_append.mp ndR
   obtain ⟨ndj,ndB,djB⟩:=List.nodup_append.mp ndJB
   obtain ⟨fn,hn,sub,ndn,back⟩:=ih hj ndj
   refine ⟨fn,hn,λ a ha=>by simp [sub a ha],ndn,λ {F2 H2 u2 fq} s k hu nq hq=>?_⟩
   obtain ⟨f2,r2,n2,m2⟩:=back s (λ b hb hnb=>k b (by simp [hb]) hnb) hu nq λ b hb=>by
    rcases hq b hb with z|z
    ·exact .inl z
    ·exact .inr λ y=>z (by simp [y])
   have notin:∀ b,b∈fA \/ b∈fB->b ∉ fn:=λ b hb hn'=>by
    have:=sub b hn'
    rcases hb with z|z
    ·exact djA b z b (by simp [this]) rfl
    ·exact djB b this b z rfl
   have rA:=rep s (λ b hb=>by
    have hb':=List.mem_append.mp hb
    refine k b (by rcases hb' with z|z <;> simp [z]) (notin b hb')) r2
   have hnotq:∀ b,(b∈fA \/ b∈fB)->b ∉ fq:=λ b hb hbq=>by
    rcases hq b hbq with z|z
    ·exact notin b hb z
    ·apply z
     rcases hb with y|y <;> simp [y]
   have hnq2:∀ b,b∈fn->b∈fA++(fj++fB):=λ b hb=>by simp [sub _ hb]
   have ha2:=k _ (List.mem_cons_self) (λ z=>nA (hnq2 _ z))
   have hx2:=k _ (List.mem_cons_of_mem _ List.mem_cons_self) (λ z=>nX (hnq2 _ z))
   have hf2:∀ b∈f2,b∈fj \/ b∈fq:=λ b hb=>by
    rcases m2 b hb with ⟨y,_⟩|y
    ·exact .inl y
    ·exact .inr y
   refine ⟨a0 :: dx0 :: (fA++(f2++fB)),?_,?_,?_⟩
   ·unfold setP
    rw [h3]
    exact .ob (by rw [ha2.1];exact h1) (by rw [hx2.1];exact g2) ha2.2 hx2.2 rA
   ·have inR:∀ b,b∈fA++(f2++fB)->b∈fA++(fj++fB) \/ b∈fq:=λ b hb=>by
     rcases List.mem_append.mp hb with y|y
     ·exact .inl (by simp [y])
     ·rcases List.mem_append.mp y with y|y
      ·rcases hf2 b y with y|y
       ·exact .inl (by simp [y])
       ·exact .inr y
      ·exact .inl (by simp [y])
    refine List.nodup_cons.mpr ⟨λ z=>?_,List.nodup_cons.mpr ⟨λ z=>?_,?_⟩⟩
    ·rcases List.mem_cons.mp z with y|y
     ·exact nd1.1 (by rw [y];simp)
     ·rcases inR _ y with y|y
      ·exact nA y
      ·rcases hq _ y with w|w
       ·exact nA (hnq2 _ w)
       ·exact w (by simp)
    ·rcases inR _ z with y|y
     ·exact nX y
     ·rcases hq _ y with w|w
      ·exact nX (hnq2 _ w)
      ·exact w (by simp)
    ·refine List.nodup_append.mpr ⟨ndA,List.nodup_append.mpr ⟨n2,ndB,λ a ha b hb=>?_⟩,λ a ha b hb=>?_⟩
     ·rcases m2 a ha with ⟨y,_⟩|y
      ·exact djB a y b hb
      ·intro z;subst z;exact hnotq a (.inr hb) y
     ·rcases List.mem_append.mp hb with y|y
      ·rcases m2 b y with ⟨y,_⟩|y
       ·exact djA a ha b (by simp [y])
       ·intro z;subst z;exact hnotq a (.inl ha) y
      ·exact djA a ha b (by simp [y])
   ·intro b hb
    rcases List.mem_cons.mp hb with y|y
    ·subst y;exact .inl ⟨by simp,λ z=>nA (hnq2 _ z)⟩
    ·rcases List.mem_cons.mp y with y|y
     ·subst y;exact .inl ⟨by simp,λ z=>nX (hnq2 _ z)⟩
     ·rcases List.mem_append.mp y with y|y
      ·exact .inl ⟨by simp [y],notin b (.inl y)⟩
      ·rcases List.mem_append.mp y with y|y
       ·rcases m2 b y with ⟨y1,y2⟩|y1
        ·exact .inl ⟨by simp [y1],y2⟩
        ·exact .inr y1
       ·exact .inl ⟨by simp [y],notin b (.inr y)⟩
end
def AtS (H:Hp) (Y:L2.St) (U:DSt) (i:Nat) (p:Pth) (v:V) (u:T):Prop:=∃ s t x,U[i]?=some s/\s.tree=some t/\Y.getD i none=some x/\At H x t p v u
abbrev DP:=DSt->(Nat->Pth->T->Prop)->Prop
def RfP (K:Fg) (te:TE) (dp:DP):Prop:=∀ {F H:Hp} {Y:L2.St} {U:DSt} {Qd:Nat->Pth->T->Prop} {Q:VK},Same F H->RV K F H Y U->dp U Qd->(∀ i p u,Qd i p u->∀ v F' H',Ext F H F' H'->AtS H' Y U i p v u->Q v H')->te Y H Q
section
variable {K:Fg} {te ti:TE} {dp:DP} {di:DE}
theorem zjb1 {F H:Hp} {x v:V} {t u:T} {p:Pth} (h:At H x t p v u):∀ {fp:List Addr},Rt K F H x t fp->∃ fn,Rt K F H v u fn:=by
 induction h with
|nil=>intro fp hr;exact ⟨fp,hr⟩
|ix h1 h2 h3 _ ih =>
  intro fp hr
  cases hr with
 |ls g1 g2 g3 =>
   rw [h1] at g1;cases g1
   obtain ⟨fA,fj,fB,e,hj,_⟩:=g3.split h2 h3
   exact ih hj
|tx h1 h2 h3 _ ih =>
  intro fp hr
  cases hr with
 |tp g1 g2 g3 =>
   rw [h1] at g1;cases g1
   obtain ⟨fA,fj,fB,e,hj,_⟩:=g3.split h2 h3
   exact ih hj
|fl h1 h2 h3 _ ih =>
  intro fp hr
  cases hr with
 |ob g1 g2 g3 g4 g5 =>
   rw [h1] at g1;cases g1
   obtain ⟨fA,fj,fB,e,hj,_⟩:=g5.split h2 h3
   exact ih hj
theorem AtS.rt {F H:Hp} {Y:L2.St} {U:DSt} {i:Nat} {p:Pth} {v:V} {u:T} (h:AtS H Y U i p v u) (r:RV K F H Y U):∃ fn,Rt K F H v u fn:=by
 obtain ⟨s,t,x,h1,h2,h3,h4⟩:=h
 obtain ⟨y,fp,e,hr,_⟩:=(r.sl i s h1).rt h2
 rw [h3] at e;cases e
 exact zjb1 h4 hr
theorem AtS.mono {H H':Hp} {Y:L2.St} {U:DSt} {i:Nat} {p:Pth} {v:V} {u:T} (s:Same H H') (h:AtS H Y U i p v u):AtS H' Y U i p v u:=by
 obtain ⟨s',t,x,h1,h2,h3,h4⟩:=h
 exact ⟨s',t,x,h1,h2,h3,h4.mono s⟩
def pVar (i:Nat):DP:=λ U Q=>∃ s t,U[i]?=some s/\s.tree=some t/\Q i [] t
theorem zl0 (i:Nat):RfP K (tVar i) (pVar i):=by
 intro F H Y U Qd Q s r h k
 obtain ⟨sl,t,q,et,f⟩:=h
 obtain ⟨x,fp,e,hr,_⟩:=(r.sl i _ q).rt et
 exact ⟨x,zgg (F:=F) (H:=H) (U:=U) e,k i [] t f x F H (Ext.refl s) ⟨sl,t,x,q,et,e,.nil⟩⟩
def nFld (f:Str) (u:T) (Q:T->Prop):Prop:=match u with
|.ob _ fs=>∃ t,fs.lookup f=some t/\Q t
|_=>False
def nCls (C:Addr) (u:T):Prop:=match u with
|.ob C' _=>C'=C
|_=>False
def pFld (C:Addr) (f:Str) (dp:DP):DP:=λ U Q=>dp U λ i p u=>nCls C u/\nFld f u λ t=>Q i (p++[.fl f]) t
theorem zb1 {C:Addr} {f:Str} (c:Cls K C) (na:NoAttr K C f) (h:RfP K te dp):RfP K (zia1 K te f) (pFld C f dp):=by
 intro F H Y U Qd Q s r hd k
 refine h s r hd λ i p u hu v F1 H1 e1 at1=>?_
 obtain ⟨hc,hf⟩:=hu
 obtain ⟨fn,hr⟩:=at1.rt (r.ext e1)
 cases hr with
|ob g1 g2 g3 g4 g5 =>
  cases (show _=C from hc)
  obtain ⟨t,et,q⟩:=hf
  obtain ⟨y,ey⟩:=(g5.keys f).2.1 t et
  refine ⟨_,_,_,_,y,rfl,g1,c,na,ey,k i _ t q y F1 H1 e1 ?_⟩
  obtain ⟨sl,t0,x,a1,a2,a3,a4⟩:=at1
  exact ⟨sl,t0,x,a1,a2,a3,a4.snoc_fl g1 ey et⟩
|fz _=>exact hc.elim
|li _ _ _=>exact hc.elim
|ls _ _ _=>exact hc.elim
|dk _ _ _=>exact hc.elim
|dt _ _ _=>exact hc.elim
|tp _ _ _=>exact hc.elim
def nIx (u:T) (k:D) (Q:Nat->T->Prop):Prop:=match u,k with
|.ls ts,.int z=>∃ j t,ixN ts.length z=some j/\ts[j]?=some t/\Q j t
|.tp ts,.int z=>∃ j t,ixN ts.length z=some j/\ts[j]?=some t/\Q j t
|_,_=>False
def pIx (dp:DP) (di:DE):DP:=λ U Q=>dp U λ i p u=>di U λ k=>nIx u k λ j t=>Q i (p++[.ix j]) t
theorem zmc1 {w:World} (h:RfP K te dp) (hi:RfE K ti di):RfP K (tOp (rIxV w K) te ti) (pIx dp di):=by
 intro F H Y U Qd Q s r hd k
 refine h s r hd λ i p u hu v F1 H1 e1 at1=>hi e1.fh (r.ext e1) hu λ kd hk kv F2 H2 e2 i2=>?_
 have e12:=e1.trans e2
 have at2:=at1.mono e2.h
 obtain ⟨fn,hr⟩:=at2.rt (r.ext e12)
 unfold nIx at hk
 split at hk
 ·rename_i ts z
  obtain ⟨j,t,ej,et,q⟩:=hk
  cases i2.int_inv
  cases hr with
 |ls g1 g2 g3 =>
   have el:=g3.len
   have hj:j < ts.length:=by
    rcases Nat.lt_or_ge j ts.length with y|y
    ·exact y
    ·rw [List.getElem?_eq_none y] at et;cases et
   rename_i a xs fp
   obtain ⟨y,hx⟩:∃ y,xs[j]?=some y:=⟨xs[j]'(by lia),List.getElem?_eq_getElem _⟩
   refine .inl (.inl (.inl ⟨a,xs,z,y,rfl,rfl,SqL.of g1,?_,k i _ t q _ F2 H2 e12 ?_⟩))
   ·unfold atI
    rw [el,ej]
    exact hx
   ·obtain ⟨sl,t0,x,a1,a2,a3,a4⟩:=at2
    exact ⟨sl,t0,x,a1,a2,a3,a4.snoc_ix (y:=x) g1 hx et⟩
 ·rename_i ts z
  obtain ⟨j,t,ej,et,q⟩:=hk
  cases i2.int_inv
  cases hr with
 |tp g1 g2 g3 =>
   have el:=g3.len
   have hj:j < ts.length:=by
    rcases Nat.lt_or_ge j ts.length with y|y
    ·exact y
    ·rw [List.getElem?_eq_none y] at et;cases et
   rename_i a xs fp
   obtain ⟨y,hx⟩:∃ y,xs[j]?=some y:=⟨xs[j]'(by lia),List.getElem?_eq_getElem _⟩
   refine .inl (zqb1 (SqT.of g1) (v:=y) ?_ (k i _ t q _ F2 H2 e12 ?_))
   ·unfold atI
    rw [el,ej]
    exact hx
   ·obtain ⟨sl,t0,x,a1,a2,a3,a4⟩:=at2
    exact ⟨sl,t0,x,a1,a2,a3,a4.snoc_tx (y:=x) g1 hx et⟩
 ·exact hk.elim
def dPV (dp:DP):DE:=λ U Q=>dp U λ _ _ u=>vwT u Q
def dPE (dp:DP):DE:=λ U Q=>dp U λ _ _ u=>fzT u Q
theorem RfP.v (h:RfP K te dp):RfV K te (dPV dp):=λ s r d k=>h s r d λ i p u hu v F1 H1 e1 at1=>by
 obtain ⟨fn,hr⟩:=at1.rt (r.ext e1)
 obtain ⟨d,qd,vw⟩:=zla1 hr hu
 exact k d qd v F1 H1 e1 vw
theorem RfP.e (h:RfP K te dp):RfE K te (dPE dp):=λ s r d k=>h s r d λ i p u hu v F1 H1 e1 at1=>by
 obtain ⟨fn,hr⟩:=at1.rt (r.ext e1)
 obtain ⟨d,qd,vw⟩:=zv31 hr hu
 exact k d qd v F1 H1 e1 vw
end
structure Bs where
 F0:Hp
 H0:Hp
 G:List Addr
def Sl.own:Sl->Bool
|.ow _=>true
|.io _ _=>true
|_=>false
def Sl.has:Sl->Bool
|.ow _=>true
|.io _ _=>true
|.bo _=>true
|_=>false
def Sl.wth:Sl->T->Sl
|.ow _,u=>.ow u
|.io a _,u=>.io a u
|s,_=>s
structure RS (K:Fg) (B:Bs) (F H:Hp) (Y:L2.St) (U:DSt) (fps:Nat->List Addr):Prop where
 hh:∀ b o,b ∉ B.G->B.H0 b=some o->H b=some o
 ff:Same B.F0 F
 fh:Same F H
 nw:∀ b,B.H0 b≠none->B.F0 b=none->F b=none
 al:∀ b,B.H0 b≠none->H b≠none
 len:Y.length=U.length
 sh:∀ (i:Nat) d,U[i]?=some (.sh d)->∃ x,Y.getD i none=some x/\Is K F x d
 rt:∀ (i:Nat) s,U[i]?=some s->s.has=true->∃ x t,Y.getD i none=some x/\s.tree=some t/\Rt K F H x t (fps i)/\(∀ a u,s=.io a u->x=.ref a)/\(fps i).Nodup
 fr:∀ (i:Nat) s,U[i]?=some s->s.own=true->∀ a∈fps i,B.H0 a=none \/ (a∈B.G/\∀ t,s≠.ow t)
 dj:∀ (i j:Nat) s s',i≠j->U[i]?=some s->U[j]?=some s'->s.own=true->s'.has=true->∀ a∈fps i,a ∉ fps j
section
variable {K:Fg} {B:Bs} {F H F' H':Hp} {Y:L2.St} {U:DSt} {fps:Nat->List Addr}
theorem zi2:∀ {s:Sl},s.own=true->s.has=true
|.ow _,_=>rfl
|.io _ _,_=>rfl
|.un,e=>by cases e
|.sh _,e=>by cases e
|.bo _,e=>by cases e
theorem RS.rv (r:RS K B F H Y U fps):RV K F H Y U:=⟨r.len,λ i s e=>by
 cases s with
|un=>trivial
|sh d=>exact r.sh i d e
|ow t =>
  obtain ⟨x,t',h1,h2,h3,h4,h5⟩:=r.rt i _ e rfl
  cases h2;exact ⟨x,_,h1,h3,h5⟩
|bo t =>
  obtain ⟨x,t',h1,h2,h3,h4,h5⟩:=r.rt i _ e rfl
  cases h2;exact ⟨x,_,h1,h3,h5⟩
|io a t =>
  obtain ⟨x,t',h1,h2,h3,h4,h5⟩:=r.rt i _ e rfl
  cases h2
  cases h4 a t rfl
  exact ⟨_,h1,h3,h5⟩⟩
theorem RS.grow (r:RS K B F H Y U fps) (e:Ext F H F' H'):RS K B F' H' Y U fps where
 hh:=λ b o hb ho=>e.h b o (r.hh b o hb ho)
 ff:=r.ff.trans e.f
 fh:=e.fh
 nw:=λ b hb fb=>e.nw b (r.al b hb) (r.nw b hb fb)
 al:=λ b hb z=>by
  cases q:H b with
 |none=>exact r.al b hb q
 |some o=>rw [e.h b o q] at z;cases z
 len:=r.len
 sh:=λ i d h=>by obtain ⟨x,h1,h2⟩:=r.sh i d h;exact ⟨x,h1,h2.mono e.f⟩
 rt:=λ i s h1 h2=>by obtain ⟨x,t,a1,a2,a3,a4,a5⟩:=r.rt i s h1 h2;exact ⟨x,t,a1,a2,a3.ext e,a4,a5⟩
 fr:=r.fr
 dj:=r.dj
theorem RS.setS (r:RS K B F H Y U fps) {i:Nat} {v:V} {d:D} (h:Is K F v d):RS K B F H (Y.set i (some v)) (U.set i (.sh d)) fps:=by
 have key:∀ (j:Nat) s,(U.set i (.sh d))[j]?=some s->(j=i/\s=.sh d/\(Y.set i (some v)).getD j none=some v) \/ (j≠i/\U[j]?=some s/\(Y.set i (some v)).getD j none=Y.getD j none):=λ j s e=>by
  rw [List.getElem?_set] at e
  by_cases hij:i=j
  ·subst hij
   by_cases hl:i < U.length
   ·simp [hl] at e;exact .inl ⟨rfl,e.symm,by rw [zp1,r.len,if_pos ⟨rfl,hl⟩]⟩
   ·simp [hl] at e
  ·simp [hij] at e
   exact .inr ⟨λ z=>hij z.symm,e,by rw [zp1,if_neg (by lia)]⟩
 refine ⟨r.hh,r.ff,r.fh,r.nw,r.al,by rw [List.length_set,List.length_set];exact r.len,λ j d' e=>?_,λ j s e hs=>?_,λ j s e hs=>?_,λ j k s s' hjk e1 e2 o1 o2=>?_⟩
 ·rcases key j _ e with ⟨_,e2,e3⟩|⟨_,e2,e3⟩
  ·cases e2;exact ⟨v,e3,h⟩
  ·obtain ⟨x,h1,h2⟩:=r.sh j d' e2;exact ⟨x,by rw [e3];exact h1,h2⟩
 ·rcases key j _ e with ⟨_,e2,e3⟩|⟨_,e2,e3⟩
  ·rw [e2] at hs;cases hs
  ·rw [e3];exact r.rt j s e2 hs
 ·rcases key j _ e with ⟨_,e2,e3⟩|⟨_,e2,e3⟩
  ·rw [e2] at hs;cases hs
  ·exact r.fr j s e2 hs
 ·rcases key j _ e1 with ⟨_,z,_⟩|⟨_,z1,_⟩
  ·rw [z] at o1;cases o1
  ·rcases key k _ e2 with ⟨_,z,_⟩|⟨_,z2,_⟩
   ·rw [z] at o2;cases o2
   ·exact r.dj j k s s' hjk z1 z2 o1 o2
theorem RS.byUpd {n:Nat} {Y':L2.St} {U':DSt} (u:Upd K F n Y U Y' U') (r:RS K B F H Y U fps):RS K B F H Y' U' fps:=by
 induction u with
|refl=>exact r
|set hi hv _ ih=>exact ih (r.setS hv)
theorem RS.forget (r:RS K B F H Y U fps) (i:Nat):RS K B F H Y (U.set i .un) fps:=by
 have key:∀ (j:Nat) s,(U.set i .un)[j]?=some s->s=.un \/ (j≠i/\U[j]?=some s):=λ j s e=>by
  rw [List.getElem?_set] at e
  by_cases hij:i=j
  ·subst hij
   by_cases hl:i < U.length
   ·simp [hl] at e;exact .inl e.symm
   ·simp [hl] at e
  ·simp [hij] at e;exact .inr ⟨λ z=>hij z.symm,e⟩
 refine ⟨r.hh,r.ff,r.fh,r.nw,r.al,by rw [List.length_set];exact r.len,λ j d' e=>?_,λ j s e hs=>?_,λ j s e hs=>?_,λ j k s s' hjk e1 e2 o1 o2=>?_⟩
 ·rcases key j _ e with z|⟨_,z⟩
  ·cases z
  ·exact r.sh j d' z
 ·rcases key j _ e with z|⟨_,z⟩
  ·rw [z] at hs;cases hs
  ·exact r.rt j s z hs
 ·rcases key j _ e with z|⟨_,z⟩
  ·rw [z] at hs;cases hs
  ·exact r.fr j s z hs
 ·rcases key j _ e1 with z|⟨_,z1⟩
  ·rw [z] at o1;cases o1
  ·rcases key k _ e2 with z|⟨_,z2⟩
   ·rw [z] at o2;cases o2
   ·exact r.dj j k s s' hjk z1 z2 o1 o2
def zo21 (B:Bs) (U:DSt) (fps:Nat->List Addr) (b:Addr):Prop:=B.H0 b=none/\∀ (j:Nat) s,U[j]?=some s->s.has=true->b ∉ fps j
theorem RS.newOk (r:RS K B F H Y U fps) {b:Addr} (h:H b=none):zo21 B U fps b:=by
 refine ⟨?_,λ j s ej hs hb=>?_⟩
 ·by_cases z:B.H0 b=none
  ·exact z
  ·exact absurd h (r.al b z)
 ·obtain ⟨x,t,a1,a2,a3,a4,a5⟩:=r.rt j s ej hs
  exact (a3.dom b hb).1 h
theorem RS.upd2 (r:RS K B F H Y U fps) {i:Nat} {s:Sl} {x:V} {t2:T} {fp2:List Addr} {F2 H2:Hp} (hi:U[i]?=some s) (ho:s.own=true) (hx:Y.getD i none=some x)
  (c1:∀ b o,b ∉ fps i->H b=some o->H2 b=some o) (c2:Same F F2) (c3:Same F2 H2) (c4:∀ b,H b≠none->F b=none->b ∉ fps i->F2 b=none) (c5:∀ b,H b≠none->H2 b≠none)
  (h2:Rt K F2 H2 x t2 fp2) (n2:fp2.Nodup) (m2:∀ b∈fp2,b∈fps i \/ zo21 B U fps b) (c6:∀ b∈fps i,F2 b≠none->B.H0 b=none) :
  RS K B F2 H2 Y (U.set i (s.wth t2)) (λ j=>if j=i then fp2 else fps j):=by
 have hlt:i < U.length:=by
  rcases Nat.lt_or_ge i U.length with z|z
  ·exact z
  ·rw [List.getElem?_eq_none z] at hi;cases hi
 have hs:=zi2 ho
 have wo:(s.wth t2).own=true/\(s.wth t2).has=true/\(s.wth t2).tree=some t2:=by
  cases s with
 |ow _=>exact ⟨rfl,rfl,rfl⟩
 |io _ _=>exact ⟨rfl,rfl,rfl⟩
 |un=>cases ho
 |sh _=>cases ho
 |bo _=>cases ho
 have key:∀ (j:Nat) s',(U.set i (s.wth t2))[j]?=some s'->(j=i/\s'=s.wth t2) \/ (j≠i/\U[j]?=some s'):=λ j s' e=>by
  rw [List.getElem?_set] at e
  by_cases hij:i=j
  ·subst hij;simp [hlt] at e;exact .inl ⟨rfl,e.symm⟩
  ·simp [hij] at e;exact .inr ⟨λ z=>hij z.symm,e⟩
 have old:∀ b∈fps i,H b≠none/\F b=none:=by
  obtain ⟨x',t',a1,a2,a3,a4,a5⟩:=r.rt i s hi hs
  exact a3.dom
 have own0:=r.fr i s hi ho
 refine ⟨λ b o hb h0=>?_,r.ff.trans c2,c3,λ b hb fb=>?_,λ b hb=>c5 b (r.al b hb),by rw [List.length_set];exact r.len,λ j d e=>?_,λ j s' e hs'=>?_,λ j s' e ho' a ha=>?_,λ j k s1 s2 hjk e1 e2 o1 o2 a ha=>?_⟩
 ·refine c1 b o (λ z=>?_) (r.hh b o hb h0)
  rcases own0 b z with y|y
  ·rw [y] at h0;cases h0
  ·exact hb y.1
 ·by_cases hbi:b∈fps i
  ·cases z:F2 b with
  |none=>rfl
  |some o=>exact absurd (c6 b hbi (by rw [z];simp)) hb
  ·exact c4 b (r.al b hb) (r.nw b hb fb) hbi
 ·rcases key j _ e with ⟨_,z⟩|⟨_,z⟩
  ·rw [<- z] at wo;cases wo.1
  ·obtain ⟨y,h1,h2⟩:=r.sh j d z;exact ⟨y,h1,h2.mono c2⟩
 ·rcases key j _ e with ⟨zj,z⟩|⟨zj,z⟩
  ·subst zj
   rw [if_pos rfl]
   refine ⟨x,t2,hx,by rw [z];exact wo.2.2,h2,λ a u e'=>?_,n2⟩
   obtain ⟨x',t',a1,a2,a3,a4,a5⟩:=r.rt j s hi hs
   rw [hx] at a1;cases a1
   cases s with
  |ow _=>rw [z] at e';cases e'
  |io a' u'=>rw [z] at e';cases e';exact a4 _ _ rfl
  |un=>cases ho
  |sh _=>cases ho
  |bo _=>cases ho
  ·rw [if_neg zj]
   obtain ⟨y,t',a1,a2,a3,a4,a5⟩:=r.rt j s' z hs'
   refine ⟨y,t',a1,a2,a3.frame c2 λ a ha=>?_,a4,a5⟩
   obtain ⟨d1,d2⟩:=a3.dom a ha
   have na:a ∉ fps i:=λ w=>r.dj i j s s' (λ q=>zj q.symm) hi z ho hs' a w ha
   cases q:H a with
  |none=>exact absurd q d1
  |some o=>exact ⟨c1 a o na q,c4 a d1 d2 na⟩
 ·rcases key j _ e with ⟨zj,z⟩|⟨zj,z⟩
  ·rw [if_pos zj] at ha
   rcases m2 a ha with y|y
   ·rcases own0 a y with w|⟨w1,w2⟩
    ·exact .inl w
    ·refine .inr ⟨w1,λ t et=>?_⟩
     rw [z] at et
     cases s with
    |ow t'=>exact w2 t' rfl
    |io _ _=>cases et
    |un=>cases ho
    |sh _=>cases ho
    |bo _=>cases ho
   ·exact .inl y.1
  ·rw [if_neg zj] at ha;exact r.fr j s' z ho' a ha
 ·rcases key j _ e1 with ⟨zj,z1⟩|⟨zj,z1⟩ <;> rcases key k _ e2 with ⟨zk,z2⟩|⟨zk,z2⟩
  ·exact absurd (zj.trans zk.symm) hjk
  ·rw [if_pos zj] at ha;rw [if_neg zk]
   subst zj
   rcases m2 a ha with y|y
   ·exact r.dj j k s s2 hjk hi z2 ho o2 a y
   ·exact y.2 k s2 z2 o2
  ·rw [if_neg zj] at ha;rw [if_pos zk]
   subst zk
   intro w
   rcases m2 a w with y|y
   ·exact r.dj j k s1 s hjk z1 hi o1 hs a ha y
   ·exact y.2 j s1 z1 (zi2 o1) ha
  ·rw [if_neg zj] at ha;rw [if_neg zk]
   exact r.dj j k s1 s2 hjk z1 z2 o1 o2 a ha
theorem RS.setT (r:RS K B F H Y U fps) {i:Nat} {v:V} {t:T} {fp:List Addr} (h:Rt K F H v t fp) (nd:fp.Nodup) (hf:∀ a∈fp,B.H0 a=none) (hd:∀ (j:Nat) s,U[j]?=some s->s.has=true->∀ a∈fps j,a ∉ fp) :
  RS K B F H (Y.set i (some v)) (U.set i (.ow t)) (λ j=>if j=i then fp else fps j):=by
 have key:∀ (j:Nat) s,(U.set i (.ow t))[j]?=some s->(j=i/\s=.ow t/\(Y.set i (some v)).getD j none=some v) \/ (j≠i/\U[j]?=some s/\(Y.set i (some v)).getD j none=Y.getD j none):=λ j s e=>by
  rw [List.getElem?_set] at e
  by_cases hij:i=j
  ·subst hij
   by_cases hl:i < U.length
   ·simp [hl] at e;exact .inl ⟨rfl,e.symm,by rw [zp1,r.len,if_pos ⟨rfl,hl⟩]⟩
   ·simp [hl] at e
  ·simp [hij] at e
   exact .inr ⟨λ z=>hij z.symm,e,by rw [zp1,if_neg (by lia)]⟩
 refine ⟨r.hh,r.ff,r.fh,r.nw,r.al,by rw [List.length_set,List.length_set];exact r.len,λ j d' e=>?_,λ j s e hs=>?_,λ j s e hs a ha=>?_,λ j k s s' hjk e1 e2 o1 o2 a ha=>?_⟩
 ·rcases key j _ e with ⟨_,e2,e3⟩|⟨_,e2,e3⟩
  ·cases e2
  ·obtain ⟨x,h1,h2⟩:=r.sh j d' e2;exact ⟨x,by rw [e3];exact h1,h2⟩
 ·rcases key j _ e with ⟨zj,e2,e3⟩|⟨zj,e2,e3⟩
  ·rw [if_pos zj,e3,e2];exact ⟨v,t,rfl,rfl,h,λ a u z=>(by cases z),nd⟩
  ·rw [if_neg zj,e3];exact r.rt j s e2 hs
 ·rcases key j _ e with ⟨zj,e2,e3⟩|⟨zj,e2,e3⟩
  ·rw [if_pos zj] at ha;exact .inl (hf a ha)
  ·rw [if_neg zj] at ha;exact r.fr j s e2 hs a ha
 ·rcases key j _ e1 with ⟨zj,z1,_⟩|⟨zj,z1,_⟩ <;> rcases key k _ e2 with ⟨zk,z2,_⟩|⟨zk,z2,_⟩
  ·exact absurd (zj.trans zk.symm) hjk
  ·rw [if_pos zj] at ha;rw [if_neg zk]
   exact λ w=>hd k s' z2 o2 a w ha
  ·rw [if_neg zj] at ha;rw [if_pos zk]
   exact hd j s z1 (zi2 o1) a ha
  ·rw [if_neg zj] at ha;rw [if_neg zk]
   exact r.dj j k s s' hjk z1 z2 o1 o2 a ha
theorem RS.put (r:RS K B F H Y U fps) {i:Nat} {s:Sl} {p:Pth} {v:V} {u:T} (hi:U[i]?=some s) (ho:s.own=true) (ha:AtS H Y U i p v u) :
  ∃ fn t,s.tree=some t/\Rt K F H v u fn/\fn.Nodup/\(∀ a∈fn,a∈fps i)/\∀ {F2 H2:Hp} {u2:T} {fq:List Addr},
   (∀ b o,b ∉ fn->H b=some o->H2 b=some o)->Same F F2->Same F2 H2->(∀ b,H b≠none->F b=none->b ∉ fn->F2 b=none)->(∀ b,H b≠none->H2 b≠none)->(∀ b∈fn,F2 b≠none->B.H0 b=none) ->
   Rt K F2 H2 v u2 fq->fq.Nodup->(∀ b∈fq,b∈fn \/ zo21 B U fps b)->∃ fps2,RS K B F2 H2 Y (U.set i (s.wth (setP t p u2))) fps2/\(∀ j,j≠i->fps2 j=fps j)/\∀ b∈fps2 i,b∈fps i \/ b∈fq:=by
 obtain ⟨s',t,x,h1,h2,h3,h4⟩:=ha
 rw [hi] at h1;cases h1
 obtain ⟨x',t',a1,a2,a3,a4,a5⟩:=r.rt i s hi (zi2 ho)
 rw [h3] at a1;cases a1
 rw [h2] at a2;cases a2
 obtain ⟨fn,hn,sub,ndn,back⟩:=zu31 h4 a3 a5
 refine ⟨fn,t,h2,hn,ndn,sub,λ {F2 H2 u2 fq} c1 c2 c3 c4 c5 c6 hu nq mq=>?_⟩
 obtain ⟨fp2,r2,n2,m2⟩:=back c2 (λ b hb hnb=>by
  obtain ⟨d1,d2⟩:=a3.dom b hb
  cases q:H b with
 |none=>exact absurd q d1
 |some o=>exact ⟨c1 b o hnb q,c4 b d1 d2 hnb⟩) hu nq λ b hb=>by
   rcases mq b hb with z|z
   ·exact .inl z
   ·exact .inr (z.2 i s hi (zi2 ho))
 refine ⟨_,r.upd2 hi ho h3 (λ b o hb=>c1 b o λ z=>hb (sub b z)) c2 c3 (λ b hb fb hbi=>c4 b hb fb λ z=>hbi (sub b z)) c5 r2 n2 (λ b hb=>?_) (λ b hb f2=>?_),λ j hj=>if_neg hj,λ b hb=>?_⟩
 ·rcases m2 b hb with ⟨y,_⟩|y
  ·exact .inl y
  ·rcases mq b y with z|z
   ·exact .inl (sub b z)
   ·exact .inr z
 ·by_cases z:b∈fn
  ·exact c6 b z f2
  ·obtain ⟨d1,d2⟩:=a3.dom b hb
   exact absurd (c4 b d1 d2 z) f2
 ·rw [if_pos rfl] at hb
  rcases m2 b hb with ⟨y,_⟩|y
  ·exact .inl y
  ·exact .inr y
end
structure Res (K:Fg) (B:Bs) (F H:Hp) (Y:L2.St) (U:DSt) (fps:Nat->List Addr) (v:V) (r:T) (fpr:List Addr):Prop where
 rs:RS K B F H Y U fps
 rt:Rt K F H v r fpr
 nd:fpr.Nodup
 fr:∀ a∈fpr,B.H0 a=none
 dj:∀ (j:Nat) s,U[j]?=some s->s.has=true->∀ a∈fps j,a ∉ fpr
abbrev DC:=DSt->(T->DSt->Prop)->Prop
def RfC (K:Fg) (te:TE) (dc:DC):Prop:=∀ {B:Bs} {F H:Hp} {Y:L2.St} {U:DSt} {fps:Nat->List Addr} {Qd:T->DSt->Prop} {Q:VK},RS K B F H Y U fps->dc U Qd->(∀ r U',Qd r U'->∀ v F' H' fps' fpr,Res K B F' H' Y U' fps' v r fpr->Q v H')->te Y H Q
structure DEnds where
 nx:DSt->Prop
 rt:T->DSt->Prop
 bk:DSt->Prop:=λ _=>False
 ct:DSt->Prop:=λ _=>False
abbrev DS:=DEnds->DSt->Prop
structure En (K:Fg) (B:Bs) (E:DEnds) (Z:Ends):Prop where
 nx:∀ {F H:Hp} {Y:L2.St} {U:DSt} {fps:Nat->List Addr},RS K B F H Y U fps->E.nx U->Z.nx Y H
 bk:∀ {F H:Hp} {Y:L2.St} {U:DSt} {fps:Nat->List Addr},RS K B F H Y U fps->E.bk U->Z.bk Y H
 ct:∀ {F H:Hp} {Y:L2.St} {U:DSt} {fps:Nat->List Addr},RS K B F H Y U fps->E.ct U->Z.ct Y H
 rt:∀ {F H:Hp} {Y:L2.St} {U:DSt} {fps:Nat->List Addr} {v:V} {r:T} {fpr:List Addr},Res K B F H Y U fps v r fpr->E.rt r U->Z.rt v H
def RfS (K:Fg) (ts:TS) (ds:DS):Prop:=∀ {B:Bs} {F H:Hp} {Y:L2.St} {U:DSt} {fps:Nat->List Addr} {E:DEnds} {Z:Ends},RS K B F H Y U fps->ds E U->En K B E Z->ts Z Y H
section
variable {K:Fg} {te ta ti:TE} {de da di:DE} {dc:DC} {tt:TT} {dt:DT} {t u tb:TS} {d e db:DS} {tA:TA} {dA:DF} {g:TG} {dg:DG} {n:Nat} {dp:DP}
def cE (de:DE):DC:=λ U Q=>de U λ d=>Q (.fz d) U
theorem RfE.c (h:RfE K te de):RfC K te (cE de):=by
 intro B F H Y U fps Qd Q r hd k
 exact h r.fh r.rv hd λ d q v F1 H1 e1 i1=>k _ _ q v F1 H1 fps [] ⟨r.grow e1,.fz i1,.nil,λ a ha=>by simp at ha,λ _ _ _ _ a _ ha=>by simp at ha⟩
def cF (df:DF):DC:=λ U Q=>df U λ ds=>Q (.li ds) U
theorem RfF.c {df:DF} (h:RfF K te df):RfC K te (cF df):=by
 intro B F H Y U fps Qd Q r hd k
 refine h r.fh r.rv hd λ ds q a xs F1 H1 e1 hn h1 h2 h3=>k _ _ q (.ref a) F1 H1 fps [a] ⟨r.grow e1,.li h1 h2 h3,by simp,λ b hb=>?_,λ j s ej hs b hb hb2=>?_⟩
 ·simp at hb;subst hb
  by_cases z:B.H0 b=none
  ·exact z
  ·exact absurd hn (r.al b z)
 ·simp at hb2;subst hb2
  obtain ⟨x,t,a1,a2,a3,a4,a5⟩:=r.rt j s ej hs
  exact (a3.dom b hb).1 hn
def slot:T->Sl
|.fz d=>.sh d
|t=>.ow t
theorem Res.set {B:Bs} {F H:Hp} {Y:L2.St} {U:DSt} {fps:Nat->List Addr} {v:V} {r:T} {fpr:List Addr} (h:Res K B F H Y U fps v r fpr) (i:Nat):∃ fps',RS K B F H (Y.set i (some v)) (U.set i (slot r)) fps':=by
 cases r with
|fz d=>cases h.rt with
 |fz hi=>exact ⟨_,h.rs.setS hi⟩
|li ds=>exact ⟨_,h.rs.setT h.rt h.nd h.fr h.dj⟩
|ls ds=>exact ⟨_,h.rs.setT h.rt h.nd h.fr h.dj⟩
|ob C ds=>exact ⟨_,h.rs.setT h.rt h.nd h.fr h.dj⟩
|dk ds=>exact ⟨_,h.rs.setT h.rt h.nd h.fr h.dj⟩
|dt ds=>exact ⟨_,h.rs.setT h.rt h.nd h.fr h.dj⟩
|tp ds=>exact ⟨_,h.rs.setT h.rt h.nd h.fr h.dj⟩
def zo61:DS:=λ E U=>E.nx U
theorem zh1:RfS K zva1 zo61:=λ r h k=>k.nx r h
def dSeq (a b:DS):DS:=λ E U=>∃ J:DSt->Prop,a { E with nx:=J } U/\∀ U',J U'->b E U'
theorem zn0 (h1:RfS K t d) (h2:RfS K u e):RfS K (tSeq t u) (dSeq d e):=by
 intro B F H Y U fps E Z r h k
 obtain ⟨J,ha,hb⟩:=h
 exact h1 r ha ⟨λ r' q=>h2 r' (hb _ q) k,k.bk,k.ct,k.rt⟩
def dAsg (de:DE) (dg:DG):DS:=λ E U=>de U λ d=>dg d U E.nx
theorem ze1 (he:RfE K te de) (hg:RfG K n g dg):RfS K (tAsg te g) (dAsg de dg):=by
 intro B F H Y U fps E Z r h k
 exact he r.fh r.rv h λ d hd v F1 H1 e1 i1=>hg e1.fh i1 hd λ Y' U' q u=>k.nx ((r.grow e1).byUpd u) q
def dSet (i:Nat) (dc:DC):DS:=λ E U=>dc U λ r U'=>E.nx (U'.set i (slot r))
theorem zma {i:Nat} (hc:RfC K te dc):RfS K (tAsg te (zhe i)) (dSet i dc):=by
 intro B F H Y U fps E Z r h k
 refine hc r h λ r2 U' q v F1 H1 fps1 fpr res=>?_
 obtain ⟨fps2,r3⟩:=res.set i
 exact k.nx r3 q
def zp61 (dc:DC):DS:=λ E U=>dc U λ _ U'=>E.nx U'
theorem zyn (hc:RfC K te dc):RfS K (zi61 te) (zp61 dc):=by
 intro B F H Y U fps E Z r h k
 exact hc r h λ r2 U' q v F1 H1 fps1 fpr res=>k.nx res.rs q
def dRet (dc:DC):DS:=λ E U=>dc U E.rt
theorem zc1 (hc:RfC K te dc):RfS K (tRet te) (dRet dc):=by
 intro B F H Y U fps E Z r h k
 exact hc r h λ r2 U' q v F1 H1 fps1 fpr res=>k.rt res q
def zf51 (i:Nat):DS:=λ E U=>match U[i]? with
|some (.ow t)=>E.rt t (U.set i .un)
|some (.sh d)=>E.rt (.fz d) U
|_=>False
theorem zat {i:Nat}:RfS K (tRet (tVar i)) (zf51 i):=by
 intro B F H Y U fps E Z r h k
 unfold zf51 at h
 split at h
 ·rename_i t q
  obtain ⟨x,t',a1,a2,a3,a4,a5⟩:=r.rt i _ q rfl
  cases a2
  refine ⟨x,zgg (F:=F) (H:=H) (U:=U) a1,k.rt ⟨r.forget i,a3,a5,λ a ha=>(r.fr i _ q rfl a ha).elim id λ z=>absurd rfl (z.2 t),λ j s ej hs a ha hb=>?_⟩ h⟩
  rw [List.getElem?_set] at ej
  by_cases hij:i=j
  ·subst hij
   split at ej
   ·split at ej
    ·cases ej;cases hs
    ·cases ej
   ·rename_i z;exact absurd rfl z
  ·simp [hij] at ej
   exact r.dj i j _ s hij q ej rfl hs a hb ha
 ·rename_i d q
  obtain ⟨x,h1,h2⟩:=r.sh i d q
  exact ⟨x,zgg (F:=F) (H:=H) (U:=U) h1,k.rt ⟨r,.fz h2,.nil,λ a ha=>by simp at ha,λ _ _ _ _ a _ ha=>by simp at ha⟩ h⟩
 ·exact h.elim
def zoa1:DS:=λ _ _=>False
theorem zah:RfS K t zoa1:=λ _ h _=>h.elim
def dIf (dt:DT) (d e:DS):DS:=λ E U=>dt U λ b=>if b=true then d E U else e E U
theorem zfl (ht:RfT K tt dt) (h1:RfS K t d) (h2:RfS K u e):RfS K (tIfS tt t u) (dIf dt d e):=by
 intro B F H Y U fps E Z r h k
 refine ht r.fh r.rv h λ b hb F1 H1 e1=>?_
 cases b with
|true=>rw [if_pos rfl] at hb ⊢;exact h1 (r.grow e1) hb k
|false=>rw [if_neg Bool.false_ne_true] at hb ⊢;exact h2 (r.grow e1) hb k
def dFor (di:DF) (dg:DG) (db:DS):DS:=λ E U=>di U λ items=>∃ W:Nat->DSt->Prop,W 0 U /\
 (∀ i d U',items[i]?=some d->W i U'->dg d U' λ U2=>db { E with nx:=W (i+1),ct:=W (i+1),bk:=E.nx } U2)/\∀ U',W items.length U'->E.nx U'
def Bs.rem (B:Bs) (F1:Hp):Bs:=⟨F1,B.H0,B.G⟩
theorem RS.rem {B:Bs} {F H F1:Hp} {Y:L2.St} {U:DSt} {fps:Nat->List Addr} (r:RS K B F H Y U fps) (s0:Same B.F0 F1) (s:Same F1 F):RS K (B.rem F1) F H Y U fps :=
 ⟨r.hh,s,r.fh,λ b hb fb=>r.nw b hb (by
  cases q:B.F0 b with
 |none=>rfl
 |some o=>rw [show (B.rem F1).F0 b=F1 b from rfl,s0 b o q] at fb;cases fb),r.al,r.len,r.sh,r.rt,r.fr,r.dj⟩
theorem RS.unrem {B:Bs} {F H F1:Hp} {Y:L2.St} {U:DSt} {fps:Nat->List Addr} (r:RS K (B.rem F1) F H Y U fps) (s0:Same B.F0 F1) (n0:∀ b,B.H0 b≠none->B.F0 b=none->F1 b=none):RS K B F H Y U fps :=
 ⟨r.hh,s0.trans r.ff,r.fh,λ b hb fb=>r.nw b hb (n0 b hb fb),r.al,r.len,r.sh,r.rt,r.fr,r.dj⟩
theorem zec {wi:TI} {di:DF} (hi:RfI K wi di) (hg:RfG K n g dg) (hb:RfS K tb db):RfS K (tFor wi g tb) (dFor di dg db):=by
 intro B F H Y U fps E Z r h k
 refine hi r.fh r.rv h λ items hx J F1 H1 e1 wj=>?_
 obtain ⟨W,w0,ws,we⟩:=hx
 have r1:=r.grow e1
 have s0:=r1.ff
 have n0:=r1.nw
 refine ⟨λ i m Y' H'=>m=items.length - i/\i<=items.length/\∃ F' U' fps',RS K (B.rem F1) F' H' Y' U' fps'/\W i U',⟨items.length,rfl,Nat.zero_le _,F1,U,fps,r1.rem s0 (λ _ _ z=>z),w0⟩,?_⟩
 rintro i m Y' H' ⟨rfl,hi',F',U',fps',r',w'⟩
 obtain ⟨go,stop,yld⟩:=wj F' H' r'.ff r'.fh
 by_cases hlt:i < items.length
 ·refine .inr ⟨go i hlt,λ Y2 H2=>i+1<=items.length/\∃ F2 U2 fps2,RS K (B.rem F1) F2 H2 Y2 U2 fps2/\W (i+1) U2,λ Y2 H2 p=>⟨_,by lia,rfl,p⟩,λ x H2 y=>?_⟩
  have hit:items[i]?=some items[i]:=List.getElem?_eq_getElem hlt
  obtain ⟨F2,ex2,ix2⟩:=yld i x H2 _ hit y
  refine hg ex2.fh ix2 (ws i _ U' hit w') λ Y2 U2 hd2 u2=>?_
  refine hb ((r'.grow ex2).byUpd u2) hd2 ⟨λ r3 q=>⟨hlt,_,_,_,r3,q⟩,λ r3 q=>k.nx (r3.unrem s0 n0) q,λ r3 q=>⟨hlt,_,_,_,r3,q⟩,λ res q=>k.rt ⟨res.rs.unrem s0 n0,res.rt,res.nd,res.fr,res.dj⟩ q⟩
 ·have e:i=items.length:=by lia
  subst e
  exact .inl ⟨stop,k.nx (r'.unrem s0 n0) (we _ w')⟩
def zf81 (dt:DT) (db:DS):DS:=λ E U=>∃ W:Nat->DSt->Prop,(∃ m,W m U)/\∀ m U',W m U'->dt U' λ b=>if b=true then db { E with nx:=λ U2=>∃ m',m' < m/\W m' U2,ct:=λ U2=>∃ m',m' < m/\W m' U2,bk:=E.nx } U' else E.nx U'
theorem zvv (ht:RfT K tt dt) (hb:RfS K tb db):RfS K (zv01 tt tb) (zf81 dt db):=by
 intro B F H Y U fps E Z r h k
 obtain ⟨W,⟨m0,w0⟩,ws⟩:=h
 refine ⟨λ m Y' H'=>∃ F' U' fps',RS K B F' H' Y' U' fps'/\W m U',⟨m0,F,U,fps,r,w0⟩,?_⟩
 rintro m Y' H' ⟨F',U',fps',r',w'⟩
 refine ht r'.fh r'.rv (ws m U' w') λ b hb' F1 H1 e1=>?_
 cases b with
|true =>
  rw [if_pos rfl] at hb' ⊢
  refine ⟨λ Y2 H2=>∃ m',m' < m/\∃ F2 U2 fps2,RS K B F2 H2 Y2 U2 fps2/\W m' U2,λ Y2 H2 p=>p,hb (r'.grow e1) hb' ⟨λ r3 q=>?_,λ r3 q=>k.nx r3 q,λ r3 q=>?_,k.rt⟩⟩
  ·obtain ⟨m',h1,h2⟩:=q;exact ⟨m',h1,_,_,_,r3,h2⟩
  ·obtain ⟨m',h1,h2⟩:=q;exact ⟨m',h1,_,_,_,r3,h2⟩
|false =>
  rw [if_neg Bool.false_ne_true] at hb' ⊢
  exact k.nx (r'.grow e1) hb'
def mutS (U:DSt) (i:Nat) (p:Pth) (u:T) (N:DSt->Prop):Prop:=match U[i]? with
|some (.ow t)=>N (U.set i (.ow (setP t p u)))
|some (.io a t)=>N (U.set i (.io a (setP t p u)))
|_=>False
theorem RS.mut {B:Bs} {F H:Hp} {Y:L2.St} {U:DSt} {fps:Nat->List Addr} {i:Nat} {p:Pth} {v:V} {u u2:T} {N:DSt->Prop} (r:RS K B F H Y U fps) (ha:AtS H Y U i p v u) (hm:mutS U i p u2 N) :
  ∃ fn,Rt K F H v u fn/\fn.Nodup/\(∀ a∈fn,a∈fps i)/\∀ {F2 H2:Hp} {fq:List Addr},
   (∀ b o,b ∉ fn->H b=some o->H2 b=some o)->Same F F2->Same F2 H2->(∀ b,H b≠none->F b=none->b ∉ fn->F2 b=none)->(∀ b,H b≠none->H2 b≠none)->(∀ b∈fn,F2 b≠none->B.H0 b=none) ->
   Rt K F2 H2 v u2 fq->fq.Nodup->(∀ b∈fq,b∈fn \/ zo21 B U fps b)->∃ U2 fps2,RS K B F2 H2 Y U2 fps2/\N U2/\(∀ j,j≠i->fps2 j=fps j/\U2[j]?=U[j]?)/\(∀ b∈fps2 i,b∈fps i \/ b∈fq)/\(∃ s,U[i]?=some s/\s.own=true):=by
 obtain ⟨s,hi,ho,hN⟩:∃ s,U[i]?=some s/\s.own=true/\∀ t,s.tree=some t->N (U.set i (s.wth (setP t p u2))):=by
  unfold mutS at hm
  split at hm
  ·rename_i t q
   exact ⟨_,q,rfl,λ t' e=>by cases e;exact hm⟩
  ·rename_i a t q
   exact ⟨_,q,rfl,λ t' e=>by cases e;exact hm⟩
  ·exact hm.elim
 obtain ⟨fn,t,h1,h2,h3,h4,h5⟩:=r.put hi ho ha
 refine ⟨fn,h2,h3,h4,λ {F2 H2 fq} c1 c2 c3 c4 c5 c6 hu nq mq=>?_⟩
 obtain ⟨fps2,r2,e2⟩:=h5 c1 c2 c3 c4 c5 c6 hu nq mq
 refine ⟨_,fps2,r2,hN t h1,λ j hj=>⟨e2.1 j hj,?_⟩,e2.2,s,hi,ho⟩
 rw [List.getElem?_set_ne (λ z=>hj z.symm)]
theorem RS.one {B:Bs} {F H:Hp} {Y:L2.St} {U:DSt} {fps:Nat->List Addr} {i:Nat} {p:Pth} {a:Addr} {u u2:T} {o o2:HO} {N:DSt->Prop} (r:RS K B F H Y U fps) (ha:AtS H Y U i p (.ref a) u) (hm:mutS U i p u2 N) (ho:H a=some o)
  (hu:∀ fn,Rt K F H (.ref a) u fn->fn=[a]) (h2:F a=none->Rt K F (upd H a o2) (.ref a) u2 [a]):∃ U2 fps2,RS K B F (upd H a o2) Y U2 fps2/\N U2/\(∀ j,j≠i->fps2 j=fps j/\U2[j]?=U[j]?):=by
 obtain ⟨fn,hr,nd,sub,back⟩:=r.mut ha hm
 have e:=hu fn hr
 subst e
 have fa:F a=none:=(hr.dom a (by simp)).2
 obtain ⟨U2,fps2,g1,g2,g3,_⟩:=back (F2:=F) (H2:=upd H a o2) (fq:=[a]) (λ b o' hb ho'=>by rw [zj0 (λ z=>hb (by simp [z]))];exact ho') (λ _ _ z=>z) (λ b o' z=>by
   have:b≠a:=λ w=>by subst w;rw [fa] at z;cases z
   rw [zj0 this];exact r.fh b o' z) (λ b _ fb _=>fb) (λ b hb=>by
   by_cases z:b=a
   ·rw [z,zi0];simp
   ·rw [zj0 z];exact hb) (λ b hb f=>by simp at hb;subst hb;exact absurd fa f) (h2 fa) (by simp) (λ b hb=>.inl hb)
 exact ⟨U2,fps2,g1,g2,g3⟩
abbrev FM:=T->List D->(T->D->Prop)->Prop
def MO (K:Fg) (r:V->List V->Hp->VK->Prop) (f:FM):Prop:=∀ {F H:Hp} {v:V} {u:T} {fn:List Addr} {vs:List V} {ds:List D} {Kd:T->D->Prop} {Q:VK},Same F H->Rt K F H v u fn->IsAll K F vs ds->f u ds Kd ->
 ∃ u2 d y o o2 a,Kd u2 d/\v=.ref a/\fn=[a]/\H a=some o/\Is K F y d/\Rt K F (upd H a o2) (.ref a) u2 [a]/\(Q y (upd H a o2)->r v vs H Q)
def tyN (T:String):L4.T->Prop
|.li _=>T = "list"
|.ls _=>T = "list"
|.dk _=>T = "dict"
|.dt _=>T = "dict"
|_=>False
theorem zy61 {F H:Hp} {T:String} {v:V} {u:L4.T} {fn:List Addr} (h:Rt K F H v u fn) (k:tyN T u):tyV K T v H:=by
 cases h with
|fz _=>exact k.elim
|li h1 _ _=>exact .inl ⟨k,_,SqL.of h1⟩
|ls h1 _ _=>exact .inl ⟨k,_,SqL.of h1⟩
|ob _ _ _ _ _=>exact k.elim
|tp _ _ _=>exact k.elim
|dk h1 _ _=>exact .inr (.inr (.inl ⟨k,.inl ⟨_,h1⟩⟩))
|dt h1 _ _=>exact .inr (.inr (.inl ⟨k,.inr ⟨_,h1⟩⟩))
theorem zsc1 {F H:Hp} {v:V} {u:T} {fn:List Addr} {r:V->List V->Hp->VK->Prop} {f:FM} (hm:MO K r f) {vs:List V} {ds:List D} {Kd:T->D->Prop} {B:Bs} {Y:L2.St} {U:DSt} {fps:Nat->List Addr} {i:Nat} {p:Pth} {Qd:T->DSt->Prop} {Q:VK}
  (rs:RS K B F H Y U fps) (ha:AtS H Y U i p v u) (hv:IsAll K F vs ds) (hf:f u ds λ u2 d=>mutS U i p u2 λ U'=>Qd (.fz d) U')
  (k:∀ r U',Qd r U'->∀ v F' H' fps' fpr,Res K B F' H' Y U' fps' v r fpr->Q v H'):r v vs H Q:=by
 obtain ⟨fn,hr⟩:=ha.rt rs.rv
 obtain ⟨u2,d,y,o,o2,a,kd,rfl,e2,h3,h4,h5,h6⟩:=hm (Q:=Q) rs.fh hr hv hf
 refine h6 ?_
 obtain ⟨U2,fps2,r2,q2,_⟩:=rs.one ha kd h3 (λ fn' hr'=>by
  obtain ⟨_,_,_,_,_,a',_,e1,e2',_⟩:=hm (Q:=Q) rs.fh hr' hv hf
  cases e1;exact e2') (λ _=>h5)
 exact k _ _ q2 _ _ _ fps2 [] ⟨r2,.fz h4,.nil,λ a ha=>by simp at ha,λ _ _ _ _ a _ ha=>by simp at ha⟩
def cBM (ty:String) (f:FM) (dp:DP) (dA:DF):DC:=λ U Q=>dp U λ i p u=>tyN ty u/\dA U λ ds=>f u ds λ u2 d=>mutS U i p u2 λ U'=>Q (.fz d) U'
theorem za91 {T:String} {r:V->List V->Hp->VK->Prop} {f:FM} (hm:MO K r f) (hp:RfP K te dp) (hA:RfA K tA dA):RfC K (tBMU K T r te tA) (cBM T f dp dA):=by
 intro B F H Y U fps Qd Q rs hd k
 refine hp rs.fh rs.rv hd λ i p u hu v F1 H1 e1 at1=>?_
 have r1:=rs.grow e1
 obtain ⟨fn,hr⟩:=at1.rt r1.rv
 refine ⟨zy61 hr hu.1,hA e1.fh r1.rv hu.2 λ ds hds vs F2 H2 e2 i2=>?_⟩
 exact zsc1 hm (fn:=fn) (Kd:=λ _ _=>True) (r1.grow e2) (at1.mono e2.h) i2 hds k
def mApp:FM:=λ u ds N=>match u,ds with
|.li xs,[d]=>xs.length < sizeLine/\N (.li (xs++[d])) .none
|_,_=>False
theorem zk31:MO K zkt mApp:=by
 intro F H v u fn vs ds Kd Q s hr hv hf
 unfold mApp at hf
 split at hf
 ·obtain ⟨y,rfl,iy⟩:=all1 hv
  cases hr with
 |li h1 h2 h3 =>
   have el:=h3.dlen
   exact ⟨_,_,.non,_,.lst (_++[y]),_,hf.2,rfl,rfl,h1,.non,.li zi0 h2 (h3.dapp (.cons iy .nil)),λ q=>⟨_,_,y,rfl,rfl,h1,by lia,q⟩⟩
 ·exact hf.elim
end
section
variable {K:Fg} {te ta ti tv:TE} {de da di dk:DE} {dc:DC} {tt:TT} {dt:DT} {t u tb:TS} {d e db:DS} {tA:TA} {dA:DF} {g:TG} {dg:DG} {n:Nat} {dp:DP} {w:World}
def keyD:D->Option Key
|.int i=>some (.inl i)
|.str x=>some (.inr x)
|_=>none
theorem zwq {F:Hp} {v:V} {d:D} {k:Key} (h:Is K F v d) (e:keyD d=some k):v=kV k:=by
 cases h <;> simp [keyD] at e <;> subst e <;> rfl
def zco:List D->Option (List Key)
|[]=>some []
|d :: ds=>match keyD d,zco ds with
 |some k,some ks=>some (k :: ks)
 |_,_=>none
def keyT:D->Option (List Key)
|.tuple ds=>zco ds
|_=>none
theorem zf9 {F:Hp}:∀ {xs:List V} {ds:List D} {k:List Key},IsAll K F xs ds->zco ds=some k->xs=k.map kV/\ds.all zvz=true
|_,_,_,.nil,e=>by simp [zco] at e;subst e;exact ⟨rfl,rfl⟩
|_,_,_,.cons (d:=d) h r,e=>by
  unfold zco at e
  split at e
  ·rename_i k ks h1 h2
   cases e
   obtain ⟨e1,e2⟩:=zf9 r h2
   have:=zwq h h1
   rw [List.map_cons,this,e1,List.all_cons,e2]
   refine ⟨rfl,?_⟩
   cases d <;> simp [keyD] at h1 <;> rfl
  ·cases e
theorem zek {F:Hp} {v:V} {d:D} {k:List Key} (h:Is K F v d) (e:keyT d=some k):∃ b,v=.ref b/\F b=some (.tup (k.map kV)):=by
 cases h with
|tup h1 h2 =>
  obtain ⟨e1,_⟩:=zf9 h2 e
  subst e1
  exact ⟨_,rfl,h1⟩
|tuc h1 h2 h3 =>
  obtain ⟨_,e2⟩:=zf9 h2 e
  rw [e2] at h3;cases h3
|_=>simp [keyT] at e
def getA {κ:Type} [DecidableEq κ] (kvs:List (κ×D)) (k:κ):Option D:=(kvs.find? λ kv=>decide (kv.1=k)).map (·.2)
def putD {κ:Type} [DecidableEq κ] (kvs:List (κ×D)) (k:κ) (d:D):List (κ×D) :=
 if (kvs.any λ kv=>decide (kv.1=k))=true then kvs.map (λ kv=>if kv.1=k then (kv.1,d) else kv) else kvs++[(k,d)]
theorem KvIs.len {F:Hp} {κ:Type}:∀ {r:List (κ×V)} {s:List (κ×D)},KvIs K F r s->r.length=s.length
|_,_,.nil=>rfl
|_,_,.cons _ r=>congrArg (·+1) (KvIs.len r)
theorem KvIs.get {F:Hp} {κ:Type} [DecidableEq κ] {k:κ}:∀ {r:List (κ×V)} {s:List (κ×D)},KvIs K F r s->(getA s k=none/\valV r k=none) \/ ∃ d v,getA s k=some d/\valV r k=some v/\Is K F v d
|_,_,.nil=>.inl ⟨rfl,rfl⟩
|_,_,.cons (k:=k') (v:=v) (d:=d) h r=>by
  by_cases e:k'=k
  ·exact .inr ⟨d,v,by simp [getA,e],by simp [valV,e],h⟩
  ·rcases KvIs.get (k:=k) r with ⟨h1,h2⟩|⟨d',v',h1,h2,h3⟩
   ·exact .inl ⟨by simp [getA,e];simpa [getA] using h1,by simp [valV,e];simpa [valV] using h2⟩
   ·refine .inr ⟨d',v',?_,?_,h3⟩
    ·simp [getA,e];simpa [getA] using h1
    ·simp [valV,e];simpa [valV] using h2
theorem KvIs.any {F:Hp} {κ:Type} [DecidableEq κ] {k:κ}:∀ {r:List (κ×V)} {s:List (κ×D)},KvIs K F r s->(r.any λ kv=>decide (kv.1=k))=(s.any λ kv=>decide (kv.1=k))
|_,_,.nil=>rfl
|_,_,.cons _ r=>by rw [List.any_cons,List.any_cons,KvIs.any r]
theorem KvIs.app {F:Hp} {κ:Type}:∀ {r r':List (κ×V)} {s s':List (κ×D)},KvIs K F r s->KvIs K F r' s'->KvIs K F (r++r') (s++s')
|_,_,_,_,.nil,h=>h
|_,_,_,_,.cons h r,h'=>.cons h (r.app h')
theorem KvIs.map {F:Hp} {κ:Type} [DecidableEq κ] {k:κ} {v:V} {d:D} (hv:Is K F v d):∀ {r:List (κ×V)} {s:List (κ×D)},KvIs K F r s->KvIs K F (r.map λ kv=>if kv.1=k then (kv.1,v) else kv) (s.map λ kv=>if kv.1=k then (kv.1,d) else kv)
|_,_,.nil=>.nil
|_,_,.cons (k:=k') h r=>by
  by_cases e:k'=k
  ·simp only [List.map_cons,e,if_true];exact .cons hv (r.map hv)
  ·simp only [List.map_cons,e,if_false];exact .cons h (r.map hv)
theorem KvIs.put {F:Hp} {κ:Type} [DecidableEq κ] {k:κ} {v:V} {d:D} (hv:Is K F v d) {r:List (κ×V)} {s:List (κ×D)} (h:KvIs K F r s):KvIs K F (putK r k v) (putD s k d):=by
 unfold putK putD
 rw [h.any]
 split
 ·exact h.map hv
 ·exact h.app (.cons hv .nil)
def fPut (u:T) (k d:D) (N:T->Prop):Prop:=match u with
|.li ds=>match k with
 |.int z=>∃ j,ixN ds.length z=some j/\N (.li (ds.set j d))
 |_=>False
|.dk kvs=>∃ key,keyD k=some key/\kvs.length < sizeLine/\N (.dk (putD kvs key d))
|.dt kvs=>∃ key,keyT k=some key/\kvs.length < sizeLine/\N (.dt (putD kvs key d))
|_=>False
theorem zzt {B:Bs} {F H:Hp} {Y:L2.St} {U:DSt} {fps:Nat->List Addr} {i:Nat} {p:Pth} {v kv y:V} {u:T} {k d:D} {N:DSt->Prop} {Q:Hp->Prop} (rs:RS K B F H Y U fps) (ha:AtS H Y U i p v u) (hk:Is K F kv k) (hy:Is K F y d)
  (hf:fPut u k d λ u2=>mutS U i p u2 N) (q:∀ U2 fps2 H2,RS K B F H2 Y U2 fps2->N U2->Q H2):znr v kv y H Q:=by
 obtain ⟨fn,hr⟩:=ha.rt rs.rv
 cases hr with
|li h1 h2 h3 =>
  simp only [fPut] at hf
  split at hf
  ·rename_i z
   obtain ⟨j,ej,hm⟩:=hf
   cases hk.int_inv
   have el:=h3.dlen
   obtain ⟨U2,fps2,r2,n2,_⟩:=rs.one (o2:=.lst (_)) ha hm h1 (λ fn' hr'=>by cases hr';rfl) (λ fa=>.li zi0 fa (h3.dset hy j))
   exact .inl ⟨_,_,z,j,rfl,rfl,h1,by rw [el];exact ej,q _ _ _ r2 n2⟩
  ·exact hf.elim
|dk h1 h2 h3 =>
  simp only [fPut] at hf
  obtain ⟨key,ek,hl,hm⟩:=hf
  have:=zwq hk ek
  subst this
  have el:=h3.len
  obtain ⟨U2,fps2,r2,n2,_⟩:=rs.one (o2:=.dK _) ha hm h1 (λ fn' hr'=>by cases hr';rfl) (λ fa=>.dk zi0 fa (h3.put (k:=key) hy))
  exact .inr ⟨_,_,rfl,DPut.k h1 (by lia),q _ _ _ r2 n2⟩
|fz _=>exact hf.elim
|ls _ _ _=>exact hf.elim
|ob _ _ _ _ _=>exact hf.elim
|tp _ _ _=>exact hf.elim
|dt h1 h2 h3 =>
  simp only [fPut] at hf
  obtain ⟨key,ek,hl,hm⟩:=hf
  obtain ⟨kb,rfl,hb⟩:=zek hk ek
  have el:=h3.len
  obtain ⟨U2,fps2,r2,n2,_⟩:=rs.one (o2:=.dT _) ha hm h1 (λ fn' hr'=>by cases hr';rfl) (λ fa=>.dt zi0 fa (h3.put (k:=key) hy))
  exact .inr ⟨_,_,rfl,DPut.t h1 (rs.fh _ _ hb) (by lia),q _ _ _ r2 n2⟩
def dPut (dp:DP) (dk de:DE):DS:=λ E U=>de U λ d=>dp U λ i p u=>dk U λ k=>fPut u k d λ u2=>mutS U i p u2 E.nx
theorem zw9 (he:RfE K te de) (hp:RfP K ta dp) (hk:RfE K ti dk):RfS K (tAsg te (gSub ta ti znr)) (dPut dp dk de):=by
 intro B F H Y U fps E Z r h k
 refine he r.fh r.rv h λ d hd y F1 H1 e1 i1=>?_
 have r1:=r.grow e1
 refine hp r1.fh r1.rv hd λ i p u hu v F2 H2 e2 at2=>?_
 have r2:=r1.grow e2
 refine hk r2.fh r2.rv hu λ kd hkd kv F3 H3 e3 i3=>?_
 exact zzt (r2.grow e3) (at2.mono e3.h) i3 (i1.mono (e2.f.trans e3.f)) hkd λ U2 fps2 H4 r4 n4=>k.nx r4 n4
def fGet (u:T) (k:D) (Q:D->Prop):Prop:=match u with
|.li ds=>match k with
 |.int z=>0<=z/\∃ d,ds[z.toNat]?=some d/\Q d
 |_=>False
|.dk kvs=>∃ key d,keyD k=some key/\getA kvs key=some d/\Q d
|.dt kvs=>∃ key d,keyT k=some key/\getA kvs key=some d/\Q d
|_=>False
theorem zs11 {F H:Hp} {v kv:V} {u:T} {fn:List Addr} {k:D} {Qd:D->Prop} {Q:VK} (s:Same F H) (hr:Rt K F H v u fn) (hk:Is K F kv k) (hf:fGet u k Qd) (q:∀ d y,Qd d->Is K F y d->Q y H):zj41 K v kv H Q:=by
 cases hr with
|li h1 h2 h3 =>
  simp only [fGet] at hf
  split at hf
  ·rename_i z
   obtain ⟨z0,d,ed,qd⟩:=hf
   cases hk.int_inv
   obtain ⟨y,hy,iy⟩:=h3.dget ed
   exact .inl ⟨_,_,z,y,rfl,rfl,z0,SqL.of h1,hy,q d y qd iy⟩
  ·exact hf.elim
|dk h1 h2 h3 =>
  simp only [fGet] at hf
  obtain ⟨key,d,ek,ed,qd⟩:=hf
  have:=zwq hk ek
  subst this
  rcases h3.get (k:=key) with ⟨g1,_⟩|⟨d',y,g1,g2,g3⟩
  ·rw [g1] at ed;cases ed
  ·rw [g1] at ed;cases ed
   exact .inr ⟨_,y,rfl,by rw [<- g2];exact DGet.k h1,q d y qd g3⟩
|fz _=>exact hf.elim
|ls _ _ _=>exact hf.elim
|ob _ _ _ _ _=>exact hf.elim
|tp _ _ _=>exact hf.elim
|dt h1 h2 h3 =>
  simp only [fGet] at hf
  obtain ⟨key,d,ek,ed,qd⟩:=hf
  obtain ⟨kb,rfl,hb⟩:=zek hk ek
  rcases h3.get (k:=key) with ⟨g1,_⟩|⟨d',y,g1,g2,g3⟩
  ·rw [g1] at ed;cases ed
  ·rw [g1] at ed;cases ed
   exact .inr ⟨_,y,rfl,by rw [<- g2];exact DGet.t h1 (s _ _ hb),q d y qd g3⟩
def fII (f:Int->Int->Int) (x y:D) (Q:D->Prop):Prop:=match x,y with
|.int i,.int j=>Q (.int (f i j))
|_,_=>False
def zga1 (f:Int->Int->Int) (dp:DP) (dk de:DE):DS:=λ E U=>dp U λ i p u=>dk U λ k=>fGet u k λ x=>de U λ y=>fII f x y λ z=>fPut u k z λ u2=>mutS U i p u2 E.nx
theorem zzs {f:Int->Int->Int} (hp:RfP K ta dp) (hk:RfE K ti dk) (he:RfE K te de):RfS K (zq81 ta ti te (zj41 K) (ipI f) znr) (zga1 f dp dk de):=by
 intro B F H Y U fps E Z r h k
 refine hp r.fh r.rv h λ i p u hu v F1 H1 e1 at1=>?_
 have r1:=r.grow e1
 refine hk r1.fh r1.rv hu λ kd hkd kv F2 H2 e2 i2=>?_
 have r2:=r1.grow e2
 have at2:=at1.mono e2.h
 obtain ⟨fn,hr⟩:=at2.rt r2.rv
 refine zs11 r2.fh hr i2 hkd λ x xv hx ix=>he r2.fh r2.rv hx λ y hy yv F3 H3 e3 i3=>?_
 unfold fII at hy
 split at hy
 ·cases ix.int_inv
  cases i3.int_inv
  refine ⟨_,_,rfl,rfl,?_⟩
  exact zzt (r2.grow e3) (at2.mono e3.h) (i2.mono e3.f) (.int _) hy λ U2 fps2 H4 r4 n4=>k.nx r4 n4
 ·exact hy.elim
end
section
variable {K:Fg} {te ta ti tv:TE} {de da di dk:DE} {dc:DC} {tt:TT} {dt:DT} {t u tb:TS} {d e db:DS} {tA:TA} {dA:DF} {g:TG} {dg:DG} {n:Nat} {dp:DP} {w:World}
theorem zd11 {F H:Hp} {p:Addr} {o:HO} (s:Same F H) (hn:H p=none):Ext F H F (upd H p o) :=
 ⟨ze2 hn _,λ _ _ z=>z,λ b o z=>ze2 hn _ b o (s b o z),λ _ _ z=>z⟩
def cDT:DC:=λ U Q=>Q (.dt []) U
theorem zic1:RfC K zo01 cDT:=by
 intro B F H Y U fps Qd Q r hd k
 intro p hp
 have fn:F p=none:=by
  cases e:F p with
 |none=>rfl
 |some o=>rw [r.fh p o e] at hp;cases hp
 refine k _ _ hd (.ref p) F _ fps [p] ⟨r.grow (zd11 r.fh hp),.dt zi0 fn .nil,by simp,λ b hb=>?_,λ j s ej hs b hb hb2=>?_⟩
 ·simp at hb;subst hb
  by_cases z:B.H0 b=none
  ·exact z
  ·exact absurd hp (r.al b z)
 ·simp at hb2;subst hb2
  obtain ⟨x,t,a1,a2,a3,a4,a5⟩:=r.rt j s ej hs
  exact (a3.dom b hb).1 hp
abbrev DN:=DSt->(T->Prop)->Prop
def RfN (K:Fg) (te:TE) (dn:DN):Prop:=∀ {F H:Hp} {Y:L2.St} {U:DSt} {Qd:T->Prop} {Q:VK},Same F H->RV K F H Y U->dn U Qd->(∀ r,Qd r->∀ v F' H' fp,Ext F H F' H'->Rt K F' H' v r fp->fp.Nodup->(∀ a∈fp,H a=none)->Q v H')->te Y H Q
def cN (dn:DN):DC:=λ U Q=>dn U λ r=>Q r U
theorem RfN.c {dn:DN} (h:RfN K te dn):RfC K te (cN dn):=by
 intro B F H Y U fps Qd Q r hd k
 refine h r.fh r.rv hd λ r2 q v F1 H1 fp e1 hr nd fr=>k _ _ q v F1 H1 fps fp ⟨r.grow e1,hr,nd,λ a ha=>?_,λ j s ej hs b hb hb2=>?_⟩
 ·by_cases z:B.H0 a=none
  ·exact z
  ·exact absurd (fr a ha) (r.al a z)
 ·obtain ⟨x,t,a1,a2,a3,a4,a5⟩:=r.rt j s ej hs
  exact (a3.dom b hb).1 (fr b hb2)
theorem RtAll.app {F H:Hp}:∀ {xs ys:List V} {ts us:List T} {fp fq:List Addr},RtAll K F H xs ts fp->RtAll K F H ys us fq->RtAll K F H (xs++ys) (ts++us) (fp++fq)
|_,_,_,_,_,_,.nil,h=>h
|_,_,_,_,_,_,.cons h r,h'=>by rw [List.append_assoc];exact .cons h (r.app h')
def zo91 (di:DF) (n:Nat) (ix:List Nat) (dg:DG) (dn:DN):DN:=λ U Q=>di U λ items=>items.length<=sizeLine/\∃ R:Nat->T->Prop,
 (∀ i d,items[i]?=some d->dg d (cST n ix U) λ U'=>dn U' λ r=>R i r)/\∀ rs:List T,rs.length=items.length->(∀ (j:Nat) r,rs[j]?=some r->R j r)->Q (.ls rs)
theorem za31 {wi:TI} {di:DF} {ix:List Nat} {dn:DN} (hi:RfJ K wi di) (hg:RfG K n g dg) (he:RfN K te dn):RfN K (zi21 wi n ix g zb21 te) (zo91 di n ix dg dn):=by
 intro F H Y U Qd Q s rv hd k
 refine hi s rv hd λ items hx J F1 H1 e1 wj D hD=>?_
 obtain ⟨hz,R,hR,hQ⟩:=hx
 have rv1:=zm31 n ix (rv.ext e1)
 have F1D:F1 D=none:=by
  cases q:F1 D with
 |none=>rfl
 |some o=>rw [e1.fh D o q] at hD;cases hD
 refine ⟨λ i m acc Y' H'=>m=items.length - i/\i<=items.length/\Y'.length=(compY n ix Y).length/\(∀ j,n<=j->Y'.getD j none=(compY n ix Y).getD j none)/\∃ (F':Hp) (rs:List T) (fpA:List Addr),Ext F1 H1 F' H'/\F' D=none/\H' D=some (.lst acc)/\rs.length=i/\(∀ (j:Nat) r,rs[j]?=some r->R j r)/\RtAll K F' H' acc rs fpA/\fpA.Nodup/\(∀ a∈fpA,H1 a=none/\a≠D),
  ⟨items.length,rfl,Nat.zero_le _,rfl,λ _ _=>rfl,F1,[],[],?_,F1D,zi0,rfl,λ j o e=>by simp at e,.nil,.nil,λ a ha=>by simp at ha⟩,?_⟩
 ·exact (zz5 (xs:=[]) e1.fh hD).1
 rintro i m acc Y' H' ⟨rfl,hi',hl,hk,F',rs,fpA,ex,fD,hDD,hrs,hRs,hall,ndA,frA⟩
 obtain ⟨go,stop,yld⟩:=wj F' H' ex
 by_cases hlt:i < items.length
 ·refine .inr ⟨go i hlt,λ acc' Y2 H2=>i+1<=items.length/\Y2.length=(compY n ix Y).length/\(∀ j,n<=j->Y2.getD j none=(compY n ix Y).getD j none)/\∃ (F':Hp) (rs:List T) (fpA:List Addr),Ext F1 H1 F' H2/\F' D=none/\H2 D=some (.lst acc')/\rs.length=i+1/\(∀ (j:Nat) r,rs[j]?=some r->R j r)/\RtAll K F' H2 acc' rs fpA/\fpA.Nodup/\(∀ a∈fpA,H1 a=none/\a≠D),λ acc' Y2 H2 p=>⟨items.length - (i+1),by lia,rfl,p⟩,λ x H2 y=>?_⟩
  have hit:items[i]?=some items[i]:=List.getElem?_eq_getElem hlt
  obtain ⟨F2,ex2,ix2⟩:=yld i x H2 _ hit y
  have rv2:RV K F2 H2 Y' (cST n ix U):=RV.caps (rv1.ext (ex.trans ex2)) hl hk
  refine hg ex2.fh ix2 (hR i _ hit) λ Y2 U2 hd2 u2=>?_
  have rv3:=u2.rv rv2
  have kp:=u2.keep
  have hl2:Y2.length=(compY n ix Y).length:=by rw [kp.1,hl]
  have hk2:∀ j,n<=j->Y2.getD j none=(compY n ix Y).getD j none:=λ j hj=>by rw [kp.2 j hj,hk j hj]
  show te Y2 H2 _
  refine he ex2.fh rv3 hd2 λ r hr v F5 H5 fp e5 i5 nd5 fr5=>?_
  have e25:=ex2.trans e5
  have hD2:H2 D=some (.lst acc):=ex2.h _ _ hDD
  have hD5:H5 D=some (.lst acc):=e25.h _ _ hDD
  have fD5:F5 D=none:=e25.nw D (by rw [hDD];simp) fD
  have hlen:acc.length<=i:=by rw [hall.len,hrs];exact Nat.le_refl _
  have e15:=ex.trans e25
  have hall5:RtAll K F5 H5 acc rs fpA:=hall.frame e25.f λ a ha=>by
   obtain ⟨d1,d2⟩:=hall.dom a ha
   cases q:H' a with
  |none=>exact absurd q d1
  |some o=>exact ⟨e25.h a o q,e25.nw a d1 d2⟩
  have frN:∀ a∈fp,H1 a=none/\a≠D:=λ a ha=>⟨zn1 (ex.trans ex2) (fr5 a ha),λ z=>by subst z;rw [fr5 a ha] at hD2;cases hD2⟩
  refine ⟨hD5,by lia,hlt,hl2,hk2,F5,rs++[r],fpA++fp,⟨λ b o hb=>?_,e15.f,λ b o hb=>?_,e15.nw⟩,fD5,zi0,by simp [hrs],λ j r' e=>?_,?_,?_,λ a ha=>?_⟩
  ·have:b≠D:=λ z=>by subst z;rw [hD] at hb;cases hb
   rw [zj0 this];exact e15.h b o hb
  ·have:b≠D:=λ z=>by subst z;rw [fD5] at hb;cases hb
   rw [zj0 this];exact e15.fh b o hb
  ·rcases Nat.lt_trichotomy j rs.length with h|h|h
   ·rw [List.getElem?_append_left h] at e;exact hRs j r' e
   ·subst h;rw [List.getElem?_append_right (Nat.le_refl _)] at e;simp at e;subst e;rw [hrs];exact hr
   ·rw [List.getElem?_append_right (Nat.le_of_lt h)] at e
    cases q:j - rs.length with
   |zero=>lia
   |succ z=>rw [q] at e;simp at e
  ·have z1:RtAll K F5 (upd H5 D (.lst (acc++[v]))) acc rs fpA:=hall5.frame (λ _ _ z=>z) λ a ha=>⟨zj0 (frA a ha).2,(hall5.dom a ha).2⟩
   have z2:Rt K F5 (upd H5 D (.lst (acc++[v]))) v r fp:=i5.frame (λ _ _ z=>z) λ a ha=>⟨zj0 (frN a ha).2,(i5.dom a ha).2⟩
   have:=z1.app (RtAll.cons z2 .nil)
   rwa [List.append_nil] at this
  ·refine List.nodup_append.mpr ⟨ndA,nd5,λ a ha b hb z=>?_⟩
   subst z
   have:=(hall.dom a ha).1
   exact this (zn1 ex2 (fr5 a hb))
  ·rcases List.mem_append.mp ha with z|z
   ·exact frA a z
   ·exact frN a z
 ·have e:i=items.length:=by lia
  refine .inl ⟨by rw [e];exact stop,k _ (hQ rs (by lia) hRs) (.ref D) F' H' (D :: fpA) (e1.trans ex) (.ls hDD fD hall) (List.nodup_cons.mpr ⟨λ z=>(frA D z).2 rfl,ndA⟩) λ a ha=>?_⟩
  rcases List.mem_cons.mp ha with z|z
  ·rw [z];exact zn1 e1 hD
  ·exact zn1 e1 (frA a z).1
end
section
variable {K:Fg} {te ta ti tv:TE} {de da di dk:DE} {dc:DC} {tt:TT} {dt:DT} {t u tb:TS} {d e db:DS} {tA:TA} {dA:DF} {g:TG} {dg:DG} {n:Nat} {dp:DP} {w:World}
def nSet (f:Str) (u r:T) (N:T->Prop):Prop:=match u with
|.ob C fs=>fs.length < 1000/\N (.ob C (putA f r fs))
|_=>False
theorem Res.grow {B:Bs} {F H F' H':Hp} {Y:L2.St} {U:DSt} {fps:Nat->List Addr} {v:V} {r:T} {fpr:List Addr} (h:Res K B F H Y U fps v r fpr) (e:Ext F H F' H'):Res K B F' H' Y U fps v r fpr :=
 ⟨h.rs.grow e,h.rt.ext e,h.nd,h.fr,h.dj⟩
theorem zzx {B:Bs} {F H:Hp} {Y:L2.St} {U:DSt} {fps:Nat->List Addr} {y:V} {r:T} {fpr:List Addr} {i:Nat} {p:Pth} {a C dx:Addr} {fs:List (Str×V)} {ts:List (Str×T)} {f:Str} {N:DSt->Prop}
  (res:Res K B F H Y U fps y r fpr) (ha:AtS H Y U i p (.ref a) (.ob C ts)) (hH:H a=some (.ins C dx fs)) (hm:mutS U i p (.ob C (putA f r ts)) N):∃ U2 fps2,RS K B F (upd H a (.ins C dx (putF f y fs))) Y U2 fps2/\N U2:=by
 obtain ⟨fn,hr,nd,sub,back⟩:=res.rs.mut ha hm
 obtain ⟨s,hs,ho⟩:∃ s,U[i]?=some s/\s.own=true:=by
  unfold mutS at hm
  split at hm
  ·rename_i t q;exact ⟨_,q,rfl⟩
  ·rename_i a t q;exact ⟨_,q,rfl⟩
  ·exact hm.elim
 have dis:∀ b∈fn,b ∉ fpr:=λ b hb=>res.dj i s hs (zi2 ho) b (sub b hb)
 cases hr with
|ob g1 g2 g3 g4 g5 =>
  rename_i dx' fs' fp
  rw [hH] at g1;cases g1
  have nd1:=List.nodup_cons.mp nd
  have nd2:=List.nodup_cons.mp nd1.2
  have na:a ∉ fp:=λ z=>nd1.1 (List.mem_cons_of_mem _ z)
  have nx:dx≠a:=λ z=>nd1.1 (by rw [z];simp)
  have nxf:dx ∉ fp:=nd2.1
  have dp':∀ b∈fp,b ∉ fpr:=λ b hb=>dis b (by simp [hb])
  have ra:a ∉ fpr:=dis a (by simp)
  have rx:dx ∉ fpr:=dis dx (by simp)
  have hy:Rt K F (upd H a (.ins C dx (putF f y fs))) y r fpr:=res.rt.frame (λ _ _ z=>z) λ b hb=>⟨zj0 λ z=>by subst z;exact ra hb,(res.rt.dom b hb).2⟩
  have fr0:∀ b∈fp,upd H a (.ins C dx (putF f y fs)) b=H b/\F b=none:=λ b hb=>⟨zj0 λ z=>by subst z;exact na hb,(g5.dom b hb).2⟩
  obtain ⟨fq,hq,ndq,mq⟩:∃ fq,RtFs K F (upd H a (.ins C dx (putF f y fs))) (putF f y fs) (putA f r ts) fq/\fq.Nodup/\∀ b∈fq,b∈fp \/ b∈fpr:=by
   cases q:ts.lookup f with
  |none =>
    refine ⟨fp++fpr,RtFs.add (λ _ _ z=>z) hy g5 q fr0,List.nodup_append.mpr ⟨nd2.2,res.nd,λ b hb c hc z=>?_⟩,λ b hb=>List.mem_append.mp hb⟩
    subst z;exact dp' b hb hc
  |some t0 =>
    obtain ⟨x0,ex⟩:=(g5.keys f).2.1 t0 q
    obtain ⟨fA,fj,fB,e,hj,_,rep⟩:=g5.split ex q
    subst e
    obtain ⟨ndA,ndJB,djA⟩:=List.nodup_append.mp nd2.2
    obtain ⟨ndj,ndB,djB⟩:=List.nodup_append.mp ndJB
    refine ⟨fA++(fpr++fB),rep (λ _ _ z=>z) (λ b hb=>fr0 b (by rcases List.mem_append.mp hb with z|z <;> simp [z])) hy,List.nodup_append.mpr ⟨ndA,List.nodup_append.mpr ⟨res.nd,ndB,λ b hb c hc z=>?_⟩,λ b hb c hc z=>?_⟩,λ b hb=>?_⟩
    ·subst z;exact dp' b (by simp [hc]) hb
    ·subst z
     rcases List.mem_append.mp hc with z|z
     ·exact dp' b (by simp [hb]) z
     ·exact djA b hb b (by simp [z]) rfl
    ·rcases List.mem_append.mp hb with z|z
     ·exact .inl (by simp [z])
     ·rcases List.mem_append.mp z with z|z
      ·exact .inr z
      ·exact .inl (by simp [z])
  obtain ⟨U2,fps2,r2,n2,_⟩:=back (F2:=F) (H2:=upd H a (.ins C dx (putF f y fs))) (fq:=a :: dx :: fq) (λ b o hb hbo=>by rw [zj0 (λ z=>hb (by simp [z]))];exact hbo) (λ _ _ z=>z) (λ b o z=>by
    have:b≠a:=λ q=>by subst q;rw [g3] at z;cases z
    rw [zj0 this];exact res.rs.fh b o z) (λ b _ fb _=>fb) (λ b hb=>by
    by_cases z:b=a
    ·rw [z,zi0];simp
    ·rw [zj0 z];exact hb) (λ b hb hf=>by
    have:F b=none:=by
     rcases List.mem_cons.mp hb with z|z
     ·rw [z];exact g3
     ·rcases List.mem_cons.mp z with z|z
      ·rw [z];exact g4
      ·exact (g5.dom b z).2
    exact absurd this hf) (.ob zi0 (by rw [zj0 nx];exact g2) g3 g4 hq) (List.nodup_cons.mpr ⟨λ z=>by
    rcases List.mem_cons.mp z with y|y
    ·exact nx y.symm
    ·rcases mq a y with y|y
     ·exact na y
     ·exact ra y,List.nodup_cons.mpr ⟨λ z=>by
    rcases mq dx z with y|y
    ·exact nxf y
    ·exact rx y,ndq⟩⟩) (λ b hb=>by
    rcases List.mem_cons.mp hb with z|z
    ·exact .inl (by simp [z])
    ·rcases List.mem_cons.mp z with z|z
     ·exact .inl (by simp [z])
     ·rcases mq b z with z|z
      ·exact .inl (by simp [z])
      ·exact .inr ⟨res.fr b z,λ j s' ej hs' hbj=>res.dj j s' ej hs' b hbj z⟩)
  exact ⟨U2,fps2,r2,n2⟩
def dFld (C:Addr) (f:Str) (dc:DC) (dp:DP):DS:=λ E U=>dc U λ r U1=>dp U1 λ i p u=>nCls C u/\nSet f u r λ u2=>mutS U1 i p u2 E.nx
theorem zk6 {C:Addr} {f:Str} (c:Cls K C) (na:NoAttr K C f) (hc:RfC K tv dc) (hp:RfP K ta dp):RfS K (sFld K ta tv f) (dFld C f dc dp):=by
 intro B F H Y U fps E Z r h k
 refine hc r h λ r2 U1 q y F1 H1 fps1 fpr res=>hp res.rs.fh res.rs.rv q λ i p u hu v F2 H2 e2 at2=>?_
 have res2:=res.grow e2
 obtain ⟨fn,hr⟩:=at2.rt res2.rs.rv
 cases hr with
|ob g1 g2 g3 g4 g5 =>
  obtain ⟨hcl,hl,hm⟩:=hu
  cases (show _=C from hcl)
  have len:=(g5.keys f).2.2
  obtain ⟨U2,fps2,r3,n3⟩:=zzx res2 at2 g1 hm
  exact ⟨_,_,_,_,rfl,g1,c,na,by lia,k.nx r3 n3⟩
|fz _=>exact hu.1.elim
|li _ _ _=>exact hu.1.elim
|ls _ _ _=>exact hu.1.elim
|dk _ _ _=>exact hu.1.elim
|dt _ _ _=>exact hu.1.elim
|tp _ _ _=>exact hu.1.elim
def nFII (f:Str) (fn:Int->Int->Int) (x:D) (u:T) (y:D) (N:T->Prop):Prop:=match u with
|.ob C fs=>fs.length < 1000/\fII fn x y λ z=>N (.ob C (putA f (.fz z) fs))
|_=>False
def zwj (C:Addr) (f:Str) (fn:Int->Int->Int) (dp:DP) (de:DE):DS:=λ E U=>dp U λ i p u=>nCls C u/\nFld f u λ t=>fzT t λ x=>de U λ y=>nFII f fn x u y λ u2=>mutS U i p u2 E.nx
theorem zmj {C:Addr} {f:Str} {fn:Int->Int->Int} (c:Cls K C) (na:NoAttr K C f) (hp:RfP K ta dp) (he:RfE K tv de):RfS K (zor K ta tv (λ x y H Q=>∃ i j,x=.int i/\y=.int j/\Q (.int (fn i j)) H) f) (zwj C f fn dp de):=by
 intro B F H Y U fps E Z r h k
 refine hp r.fh r.rv h λ i p u hu v F1 H1 e1 at1=>?_
 have r1:=r.grow e1
 obtain ⟨fq,hr⟩:=at1.rt r1.rv
 cases hr with
|ob g1 g2 g3 g4 g5 =>
  obtain ⟨hcl,t0,et,hd⟩:=hu
  cases (show _=C from hcl)
  obtain ⟨x0,ex⟩:=(g5.keys f).2.1 t0 et
  obtain ⟨fA,fj,fB,_,hj,_⟩:=g5.split ex et
  obtain ⟨x,hx,ix⟩:=zv31 hj hd
  refine ⟨_,_,_,_,x0,rfl,g1,c,na,ex,he r1.fh r1.rv hx λ y hy yv F2 H2 e2 i2=>?_⟩
  have g1':=e2.h _ _ g1
  obtain ⟨hl,hf⟩:=hy
  unfold fII at hf
  split at hf
  ·cases ix.int_inv
   cases i2.int_inv
   have r2:=r1.grow e2
   have len:=(g5.keys f).2.2
   obtain ⟨U2,fps2,r3,n3⟩:=zzx (y:=.int _) (r:=.fz (.int _)) (fpr:=[]) ⟨r2,.fz (.int _),.nil,λ a ha=>by simp at ha,λ _ _ _ _ a _ ha=>by simp at ha⟩ (at1.mono e2.h) g1' hf
   exact ⟨_,_,rfl,rfl,_,_,g1',by lia,k.nx r3 n3⟩
  ·exact hf.elim
|fz _=>exact hu.1.elim
|li _ _ _=>exact hu.1.elim
|ls _ _ _=>exact hu.1.elim
|dk _ _ _=>exact hu.1.elim
|dt _ _ _=>exact hu.1.elim
|tp _ _ _=>exact hu.1.elim
def zd41:List T->Option (List (List D))
|[]=>some []
|.li ds :: r=>(zd41 r).map (ds :: ·)
|_ :: _=>none
def toD:T->Option D
|.fz d=>some d
|.li ds=>some (.list ds)
|.ls ts=>(zd41 ts).map λ dss=>.list (dss.map PyData.list)
|_=>none
theorem zpr {F H:Hp} (s:Same F H):∀ {xs:List V} {ts:List T} {fp:List Addr} {dss:List (List D)},RtAll K F H xs ts fp->zd41 ts=some dss->fp.Nodup->∃ F2,Same F F2/\Same F2 H/\(∀ b,b ∉ fp->F2 b=F b)/\IsAll K F2 xs (dss.map PyData.list)
|_,_,_,_,.nil,e,_=>by cases e;exact ⟨F,λ _ _ z=>z,s,λ _ _=>rfl,.nil⟩
|_,_,_,_,.cons (fp:=fp) (fq:=fq) h r,e,nd=>by
  cases h with
 |li h1 h2 h3 =>
   rename_i a xs0 ds0
   unfold zd41 at e
   obtain ⟨dss',e1,rfl⟩:=Option.map_eq_some_iff.mp e
   have nd':=List.nodup_cons.mp nd
   obtain ⟨F1,s1,s2,s3,s4⟩:=zpr s r e1 nd'.2
   have fa:F1 a=none:=by rw [s3 a nd'.1];exact h2
   have sn:Same F1 (upd F1 a (.lst xs0)):=ze2 fa _
   refine ⟨upd F1 a (.lst xs0),s1.trans sn,λ b o z=>?_,λ b hb=>?_,.cons (.lst (SqL.of zi0) (h3.mono (s1.trans sn))) (s4.mono sn)⟩
   ·by_cases q:b=a
    ·subst q;rw [zi0] at z;cases z;exact h1
    ·rw [zj0 q] at z;exact s2 b o z
   ·have hb1:b≠a:=λ z=>hb (by simp [z])
    rw [zj0 hb1];exact s3 b λ z=>hb (by simp [z])
 |_=>cases e
theorem zub1 {F H:Hp} (s:Same F H) {v:V} {t:T} {fp:List Addr} {d:D} (h:Rt K F H v t fp) (e:toD t=some d) (nd:fp.Nodup):∃ F2,Same F F2/\Same F2 H/\(∀ b,b ∉ fp->F2 b=F b)/\Is K F2 v d:=by
 cases h with
|fz i=>cases e;exact ⟨F,λ _ _ z=>z,s,λ _ _=>rfl,i⟩
|li h1 h2 h3 =>
  cases e
  rename_i a xs ds
  have sn:=ze2 (H:=F) h2 (.lst xs)
  refine ⟨_,sn,λ b o z=>?_,λ b hb=>zj0 λ q=>hb (by simp [q]),.lst (SqL.of zi0) (h3.mono sn)⟩
  by_cases q:b=a
  ·subst q;rw [zi0] at z;cases z;exact h1
  ·rw [zj0 q] at z;exact s b o z
|ls h1 h2 h3 =>
  rename_i a xs ts fp
  unfold toD at e
  obtain ⟨dss,e1,rfl⟩:=Option.map_eq_some_iff.mp e
  have nd':=List.nodup_cons.mp nd
  obtain ⟨F1,s1,s2,s3,s4⟩:=zpr s h3 e1 nd'.2
  have fa:F1 a=none:=by rw [s3 a nd'.1];exact h2
  have sn:Same F1 (upd F1 a (.lst xs)):=ze2 fa _
  refine ⟨upd F1 a (.lst xs),s1.trans sn,λ b o z=>?_,λ b hb=>?_,.lst (SqL.of zi0) (s4.mono sn)⟩
  ·by_cases q:b=a
   ·subst q;rw [zi0] at z;cases z;exact h1
   ·rw [zj0 q] at z;exact s2 b o z
  ·have hb1:b≠a:=λ z=>hb (by simp [z])
   rw [zj0 hb1];exact s3 b λ z=>hb (by simp [z])
|ob _ _ _ _ _=>cases e
|dk _ _ _=>cases e
|dt _ _ _=>cases e
|tp _ _ _=>cases e
def getP:T->Pth->Option T
|t,[]=>some t
|.ls ts,.ix j :: p=>(ts[j]?).bind λ t=>getP t p
|.tp ts,.ix j :: p=>(ts[j]?).bind λ t=>getP t p
|.ob _ fs,.fl f :: p=>(fs.lookup f).bind λ t=>getP t p
|_,_=>none
end
inductive Arg where
|d (d:D)|b (t:T)|o (t:T)
inductive ArgP where
|d (d:D)|b (i:Nat) (p:Pth) (t:T)|o (i:Nat) (p:Pth) (t:T)
def ArgP.arg:ArgP->Arg
|.d x=>.d x
|.b _ _ x=>.b x
|.o _ _ x=>.o x
inductive ArgsR (K:Fg) (F H:Hp):List V->List Arg->List Addr->Option (Addr×List Addr)->Prop
|nil:ArgsR K F H [] [] [] none
|d {v:V} {d:D} {vs:List V} {as:List Arg} {bf:List Addr} {oo:Option (Addr×List Addr)}:Is K F v d->ArgsR K F H vs as bf oo->ArgsR K F H (v :: vs) (.d d :: as) bf oo
|b {v:V} {t:T} {fp:List Addr} {vs:List V} {as:List Arg} {bf:List Addr} {oo:Option (Addr×List Addr)}:Rt K F H v t fp->fp.Nodup->ArgsR K F H vs as bf oo->ArgsR K F H (v :: vs) (.b t :: as) (fp++bf) oo
|o {a:Addr} {t:T} {fp:List Addr} {vs:List V} {as:List Arg} {bf:List Addr}:Rt K F H (.ref a) t fp->fp.Nodup->ArgsR K F H vs as bf none->ArgsR K F H (.ref a :: vs) (.o t :: as) bf (some (a,fp))
def ofp:Option (Addr×List Addr)->List Addr
|none=>[]
|some x=>x.2
structure Post (K:Fg) (F H:Hp) (oo:Option (Addr×List Addr)) (F' H':Hp) (v:V) (r:T) (fpr:List Addr) (t':T) (fpo:List Addr):Prop where
 hh:∀ b o,b ∉ ofp oo->H b=some o->H' b=some o
 ff:Same F F'
 fh:Same F' H'
 nw:∀ b,H b≠none->F b=none->F' b=none
 al:∀ b,H b≠none->H' b≠none
 rt:Rt K F' H' v r fpr
 nd:fpr.Nodup
 fr:∀ a∈fpr,H a=none
 io:∀ a fp,oo=some (a,fp)->Rt K F' H' (.ref a) t' fpo/\fpo.Nodup/\(∀ b∈fpo,b∈fp \/ H b=none)/\∀ b∈fpo,b ∉ fpr
abbrev DSpT:=List Arg->(T->T->Prop)->Prop
def spT (K:Fg) (p:DSpT):Sp:=λ vs H Q _=>∃ F as bf oo Qd,Same F H/\ArgsR K F H vs as bf oo/\(∀ b∈ofp oo,b ∉ bf)/\p as Qd/\∀ r t',Qd r t'->∀ v F' H' fpr fpo,Post K F H oo F' H' v r fpr t' fpo->Q v H'
section
variable {K:Fg} {te ta ti tv:TE} {de da di dk:DE} {dc:DC} {tt:TT} {dt:DT} {t u tb:TS} {d e db:DS} {tA:TA} {dA:DF} {g:TG} {dg:DG} {n:Nat} {dp:DP} {w:World}
inductive ArgsP (K:Fg) (F H:Hp) (Y:L2.St) (U:DSt):List V->List ArgP->Prop
|nil:ArgsP K F H Y U [] []
|d {v:V} {d:D} {vs:List V} {as:List ArgP}:Is K F v d->ArgsP K F H Y U vs as->ArgsP K F H Y U (v :: vs) (.d d :: as)
|b {v:V} {i:Nat} {p:Pth} {t:T} {vs:List V} {as:List ArgP}:AtS H Y U i p v t->ArgsP K F H Y U vs as->ArgsP K F H Y U (v :: vs) (.b i p t :: as)
|o {v:V} {i:Nat} {p:Pth} {t:T} {vs:List V} {as:List ArgP}:AtS H Y U i p v t->ArgsP K F H Y U vs as->ArgsP K F H Y U (v :: vs) (.o i p t :: as)
abbrev DAT:=DSt->(List ArgP->Prop)->Prop
def RfAT (K:Fg) (ta:TA) (da:DAT):Prop:=∀ {F H:Hp} {Y:L2.St} {U:DSt} {Qd:List ArgP->Prop} {Q:List V->Hp->Prop},Same F H->RV K F H Y U->da U Qd->(∀ as,Qd as->∀ vs F' H',Ext F H F' H'->ArgsP K F' H' Y U vs as->Q vs H')->ta Y H Q
variable {dA':DAT}
def aNil:DAT:=λ _ Q=>Q []
def aD (de:DE) (dr:DAT):DAT:=λ U Q=>de U λ x=>dr U λ as=>Q (.d x :: as)
def aB (dp:DP) (dr:DAT):DAT:=λ U Q=>dp U λ i p t=>dr U λ as=>Q (.b i p t :: as)
def aO (dp:DP) (dr:DAT):DAT:=λ U Q=>dp U λ i p t=>dr U λ as=>Q (.o i p t :: as)
theorem zx1:RfAT K tNil aNil:=λ s rv h k=>k _ h _ _ _ (Ext.refl s) .nil
theorem at_d (ha:RfE K ta da) (hr:RfAT K tA dA'):RfAT K (zk2 ta tA) (aD da dA'):=by
 intro F H Y U Qd Q s rv h k
 refine ha s rv h λ x hx v F1 H1 e1 i1=>hr e1.fh (rv.ext e1) hx λ as has vs F2 H2 e2 i2=>?_
 exact k _ has _ F2 H2 (e1.trans e2) (.d (i1.mono e2.f) i2)
theorem at_b (ha:RfP K ta dp) (hr:RfAT K tA dA'):RfAT K (zk2 ta tA) (aB dp dA'):=by
 intro F H Y U Qd Q s rv h k
 refine ha s rv h λ i p t hx v F1 H1 e1 i1=>hr e1.fh (rv.ext e1) hx λ as has vs F2 H2 e2 i2=>?_
 exact k _ has _ F2 H2 (e1.trans e2) (.b (i1.mono e2.h) i2)
theorem at_o (ha:RfP K ta dp) (hr:RfAT K tA dA'):RfAT K (zk2 ta tA) (aO dp dA'):=by
 intro F H Y U Qd Q s rv h k
 refine ha s rv h λ i p t hx v F1 H1 e1 i1=>hr e1.fh (rv.ext e1) hx λ as has vs F2 H2 e2 i2=>?_
 exact k _ has _ F2 H2 (e1.trans e2) (.o (i1.mono e2.h) i2)
def noO:List ArgP->Prop
|[]=>True
|.o _ _ _ :: _=>False
|.d _ :: r=>noO r
|.b _ _ _ :: r=>noO r
def noS (i:Nat):List ArgP->Prop
|[]=>True
|.b j _ _ :: r=>j≠i/\noS i r
|.d _ :: r=>noS i r
|.o _ _ _ :: r=>noS i r
def zds:List ArgP->Option (Nat×Pth×T)
|[]=>none
|.o i p t :: _=>some (i,p,t)
|.d _ :: r=>zds r
|.b _ _ _ :: r=>zds r
def oneO (i:Nat):List ArgP->Prop
|[]=>False
|.o _ _ _ :: r=>noO r/\noS i r
|.d _ :: r=>oneO i r
|.b j _ _ :: r=>j≠i/\oneO i r
def zzu (U:DSt) (i:Nat):Prop:=match U[i]? with
|some (.ow _)=>True
|some (.io _ _)=>True
|_=>False
def zfp:T->Prop
|.fz _=>False
|_=>True
theorem znf {F H:Hp} {Y:L2.St} {U:DSt} {fps:Nat->List Addr} (rt:∀ {i:Nat} {p:Pth} {v:V} {u:T},AtS H Y U i p v u->∃ fn,Rt K F H v u fn/\fn.Nodup/\∀ a∈fn,a∈fps i/\∃ s,U[i]?=some s/\s.has=true):∀ {vs:List V} {as:List ArgP},ArgsP K F H Y U vs as->noO as->∃ bf,ArgsR K F H vs (as.map ArgP.arg) bf none/\∀ i,noS i as->∀ b∈bf,∃ j,j≠i/\b∈fps j/\∃ s,U[j]?=some s/\s.has=true
|_,_,.nil,_=>⟨[],.nil,λ i _ b hb=>by simp at hb⟩
|_,_,.d h r,hn=>by
  obtain ⟨bf,h1,h2⟩:=znf rt r hn
  exact ⟨bf,.d h h1,h2⟩
|_,_,.b (i:=i') h r,hn=>by
  obtain ⟨bf,h1,h2⟩:=znf rt r hn
  obtain ⟨fn,g1,g2,g3⟩:=rt h
  refine ⟨fn++bf,.b g1 g2 h1,λ i hi b hb=>?_⟩
  rcases List.mem_append.mp hb with z|z
  ·exact ⟨i',hi.1,(g3 b z).1,(g3 b z).2⟩
  ·exact h2 i hi.2 b z
|_,_,.o h r,hn=>hn.elim
theorem zld {F H:Hp} {Y:L2.St} {U:DSt} {fps:Nat->List Addr} (rt:∀ {i:Nat} {p:Pth} {v:V} {u:T},AtS H Y U i p v u->∃ fn,Rt K F H v u fn/\fn.Nodup/\∀ a∈fn,a∈fps i/\∃ s,U[i]?=some s/\s.has=true) {i:Nat} {p:Pth} {u:T}:∀ {vs:List V} {as:List ArgP},ArgsP K F H Y U vs as->zds as=some (i,p,u)->oneO i as->zfp u ->
  ∃ a,AtS H Y U i p (.ref a) u/\∀ fn,Rt K F H (.ref a) u fn->fn.Nodup->∃ bf,ArgsR K F H vs (as.map ArgP.arg) bf (some (a,fn))/\∀ b∈bf,∃ j,j≠i/\b∈fps j/\∃ s,U[j]?=some s/\s.has=true
|_,_,.nil,e,_,_=>by cases e
|_,_,.d h r,e,hn,hf=>by
  obtain ⟨a,h1,h2⟩:=zld rt r e hn hf
  refine ⟨a,h1,λ fn g1 g2=>?_⟩
  obtain ⟨bf,k1,k2⟩:=h2 fn g1 g2
  exact ⟨bf,.d h k1,k2⟩
|_,_,.b (i:=i') h r,e,hn,hf=>by
  obtain ⟨a,h1,h2⟩:=zld rt r e hn.2 hf
  obtain ⟨fb,g1,g2,g3⟩:=rt h
  refine ⟨a,h1,λ fn k1 k2=>?_⟩
  obtain ⟨bf,m1,m2⟩:=h2 fn k1 k2
  refine ⟨fb++bf,.b g1 g2 m1,λ b hb=>?_⟩
  rcases List.mem_append.mp hb with z|z
  ·exact ⟨i',hn.1,(g3 b z).1,(g3 b z).2⟩
  ·exact m2 b z
|_,_,.o h r,e,hn,hf=>by
  cases e
  obtain ⟨bf,m1,m2⟩:=znf rt r hn.1
  obtain ⟨fn0,g1,_,_⟩:=rt h
  cases g1 with
 |fz _=>exact hf.elim
 |li _ _ _=>exact ⟨_,h,λ fn k1 k2=>⟨bf,.o k1 k2 m1,m2 i hn.2⟩⟩
 |ls _ _ _=>exact ⟨_,h,λ fn k1 k2=>⟨bf,.o k1 k2 m1,m2 i hn.2⟩⟩
 |ob _ _ _ _ _=>exact ⟨_,h,λ fn k1 k2=>⟨bf,.o k1 k2 m1,m2 i hn.2⟩⟩
 |dk _ _ _=>exact ⟨_,h,λ fn k1 k2=>⟨bf,.o k1 k2 m1,m2 i hn.2⟩⟩
 |dt _ _ _=>exact ⟨_,h,λ fn k1 k2=>⟨bf,.o k1 k2 m1,m2 i hn.2⟩⟩
 |tp _ _ _=>exact ⟨_,h,λ fn k1 k2=>⟨bf,.o k1 k2 m1,m2 i hn.2⟩⟩
theorem RS.rtS {B:Bs} {F H:Hp} {Y:L2.St} {U:DSt} {fps:Nat->List Addr} (r:RS K B F H Y U fps) {i:Nat} {p:Pth} {v:V} {u:T} (h:AtS H Y U i p v u):∃ fn,Rt K F H v u fn/\fn.Nodup/\∀ a∈fn,a∈fps i/\∃ s,U[i]?=some s/\s.has=true:=by
 obtain ⟨s,t,x,h1,h2,h3,h4⟩:=h
 by_cases hs:s.has=true
 ·obtain ⟨x',t',a1,a2,a3,a4,a5⟩:=r.rt i s h1 hs
  rw [h3] at a1;cases a1
  rw [h2] at a2;cases a2
  obtain ⟨fn,g1,g2,g3,_⟩:=zu31 h4 a3 a5
  exact ⟨fn,g1,g3,λ a ha=>⟨g2 a ha,s,h1,hs⟩⟩
 ·cases s with
 |sh d =>
   cases h2
   obtain ⟨y,b1,b2⟩:=r.sh i d h1
   rw [h3] at b1;cases b1
   cases h4
   exact ⟨[],.fz b2,.nil,λ a ha=>by simp at ha⟩
 |un=>cases h2
 |ow _=>exact absurd rfl hs
 |bo _=>exact absurd rfl hs
 |io _ _=>exact absurd rfl hs
theorem zbe {U:DSt} {i:Nat} {p:Pth} {u t0:T} {s:Sl} {N:DSt->Prop} (hi:U[i]?=some s) (ho:s.own=true) (ht:s.tree=some t0) (h:mutS U i p u N):N (U.set i (s.wth (setP t0 p u))):=by
 unfold mutS at h
 rw [hi] at h
 cases s with
|ow t=>cases ht;exact h
|io a t=>cases ht;exact h
|un=>cases ho
|sh _=>cases ho
|bo _=>cases ho
def zkv (p:DSpT) (U:DSt) (as:List ArgP) (Q:T->DSt->Prop):Prop:=match zds as with
|some (i,q,t)=>zzu U i/\oneO i as/\zfp t/\p (as.map ArgP.arg) λ r t2=>mutS U i q t2 λ U'=>Q r U'
|none=>noO as/\p (as.map ArgP.arg) λ r _=>Q r U
theorem zln {B:Bs} {F H:Hp} {Y:L2.St} {U:DSt} {fps:Nat->List Addr} {p:DSpT} {vs:List V} {as:List ArgP} {Qd:T->DSt->Prop} {Q:VK} {E:XK} (r:RS K B F H Y U fps) (ha:ArgsP K F H Y U vs as) (hc:zkv p U as Qd)
  (k:∀ r U',Qd r U'->∀ v F' H' fps' fpr,Res K B F' H' Y U' fps' v r fpr->Q v H'):spT K p vs H Q E:=by
 unfold zkv at hc
 split at hc
 ·rename_i i q t0 eo
  obtain ⟨ho,h1,hf,hp⟩:=hc
  obtain ⟨s,hs,hso⟩:∃ s,U[i]?=some s/\s.own=true:=by
   unfold zzu at ho
   split at ho
   ·rename_i q;exact ⟨_,q,rfl⟩
   ·rename_i q;exact ⟨_,q,rfl⟩
   ·exact ho.elim
  obtain ⟨a,hat,hargs⟩:=zld (λ h=>r.rtS h) ha eo h1 hf
  obtain ⟨fn,t1,g1,g2,g3,g4,back⟩:=r.put hs hso hat
  obtain ⟨bf,m1,m2⟩:=hargs fn g2 g3
  refine ⟨F,_,bf,some (a,fn),_,r.fh,m1,λ b hb hbf=>?_,hp,λ r2 t2 q2 v F' H' fpr fpo post=>?_⟩
  ·obtain ⟨j,hj,hbj,sj,e1,hh⟩:=m2 b hbf
   exact r.dj i j s sj (λ z=>hj z.symm) hs e1 hso hh b (g4 b hb) hbj
  ·obtain ⟨io1,io2,io3,io4⟩:=post.io a fn rfl
   obtain ⟨fps2,r2',e2,e3⟩:=back (F2:=F') (H2:=H') (u2:=t2) (fq:=fpo) post.hh post.ff post.fh (λ b hb fb _=>post.nw b hb fb) post.al (λ b hb f=>absurd (post.nw b (g2.dom b hb).1 (g2.dom b hb).2) f) io1 io2 (λ b hb=>(io3 b hb).elim .inl λ z=>.inr (r.newOk z))
   have qd:=zbe hs hso g1 q2
   refine k _ _ qd v F' H' fps2 fpr ⟨r2',post.rt,post.nd,λ b hb=>(r.newOk (post.fr b hb)).1,λ j s' ej hs' b hb hbr=>?_⟩
   have fresh:=post.fr b hbr
   by_cases hji:j=i
   ·subst hji
    rcases e3 b hb with z|z
    ·obtain ⟨x',t',a1,a2,a3,a4,a5⟩:=r.rt j s hs (zi2 hso)
     exact (a3.dom b z).1 fresh
    ·exact io4 b z hbr
   ·rw [e2 j hji] at hb
    rw [List.getElem?_set_ne (λ z=>hji z.symm)] at ej
    exact (r.newOk fresh).2 j s' ej hs' hb
 ·rename_i eo
  obtain ⟨hn,hp⟩:=hc
  obtain ⟨bf,m1,_⟩:=znf (λ h=>r.rtS h) ha hn
  refine ⟨F,_,bf,none,_,r.fh,m1,λ b hb=>by simp [ofp] at hb,hp,λ r2 t2 q2 v F' H' fpr fpo post=>?_⟩
  have ex:Ext F H F' H':=⟨λ b o hb=>post.hh b o (by simp [ofp]) hb,post.ff,post.fh,post.nw⟩
  exact k _ _ q2 v F' H' fps fpr ⟨r.grow ex,post.rt,post.nd,λ b hb=>(r.newOk (post.fr b hb)).1,λ j s' ej hs' b hb hbr=>(r.newOk (post.fr b hbr)).2 j s' ej hs' hb⟩
def zf71 (p:DSpT) (da:DAT):DC:=λ U Q=>da U λ as=>zkv p U as Q
theorem zvg {p:DSpT} {E:XK} (h:RfAT K tA dA'):RfC K (zcs (spT K p) [] E tA) (zf71 p dA'):=by
 intro B F H Y U fps Qd Q r hd k
 refine h r.fh r.rv hd λ as has vs F1 H1 e1 i1=>?_
 rw [List.append_nil]
 exact zln (r.grow e1) i1 has k
def noM (m:Str) (u:T):Prop:=match u with
|.ob _ fs=>fs.lookup m=none
|_=>False
def zr51 (o:Bool) (C:Addr) (m:Str) (p:DSpT) (dp:DP) (da:DAT):DC:=λ U Q=>dp U λ i q u=>nCls C u/\noM m u/\da U λ as=>zkv p U ((if o then .o i q u else .b i q u) :: as) Q
theorem zed {F H:Hp} {v:V} {u:T} {fn:List Addr} {C:Addr} {m:Str} (hr:Rt K F H v u fn) (hc:nCls C u) (hm:noM m u):∃ a dx fs,v=.ref a/\H a=some (.ins C dx fs)/\fs.lookup m=none:=by
 cases hr with
|ob g1 g2 g3 g4 g5 =>
  cases (show _=C from hc)
  exact ⟨_,_,_,rfl,g1,(g5.keys m).1 hm⟩
|fz _=>exact hc.elim
|li _ _ _=>exact hc.elim
|ls _ _ _=>exact hc.elim
|dk _ _ _=>exact hc.elim
|dt _ _ _=>exact hc.elim
|tp _ _ _=>exact hc.elim
theorem zog {p:DSpT} {E:XK} {C:Addr} {m:Str} (o:Bool) (hp:RfP K ta dp) (h:RfAT K tA dA'):RfC K (zbx C m (spT K p) [] E ta tA) (zr51 o C m p dp dA'):=by
 intro B F H Y U fps Qd Q r hd k
 refine hp r.fh r.rv hd λ i q u hu v F1 H1 e1 at1=>?_
 have r1:=r.grow e1
 obtain ⟨fn,hr⟩:=at1.rt r1.rv
 obtain ⟨a,dx,fs,rfl,h1,h2⟩:=zed hr hu.1 hu.2.1
 refine ⟨a,dx,fs,rfl,h1,h2,h r1.fh r1.rv hu.2.2 λ as has vs F2 H2 e2 i2=>?_⟩
 rw [List.append_nil]
 have at2:=at1.mono e2.h
 cases o with
|true=>exact zln (r1.grow e2) (.o at2 i2) has k
|false=>exact zln (r1.grow e2) (.b at2 i2) has k
def znx (p:DSpT) (as:List ArgP) (Q:T->Prop):Prop:=noO as/\p (as.map ArgP.arg) λ r _=>Q r
theorem AtS.rtV {F H:Hp} {Y:L2.St} {U:DSt} (r:RV K F H Y U) {i:Nat} {p:Pth} {v:V} {u:T} (h:AtS H Y U i p v u):∃ fn,Rt K F H v u fn/\fn.Nodup:=by
 obtain ⟨s,t,x,h1,h2,h3,h4⟩:=h
 obtain ⟨y,fp,e,hr,nd⟩:=(r.sl i s h1).rt h2
 rw [h3] at e;cases e
 obtain ⟨fn,g1,_,g3,_⟩:=zu31 h4 hr nd
 exact ⟨fn,g1,g3⟩
theorem zjk {F H:Hp} {Y:L2.St} {U:DSt} (r:RV K F H Y U):∀ {vs:List V} {as:List ArgP},ArgsP K F H Y U vs as->noO as->∃ bf,ArgsR K F H vs (as.map ArgP.arg) bf none
|_,_,.nil,_=>⟨[],.nil⟩
|_,_,.d h q,hn=>by
  obtain ⟨bf,h1⟩:=zjk r q hn
  exact ⟨bf,.d h h1⟩
|_,_,.b h q,hn=>by
  obtain ⟨bf,h1⟩:=zjk r q hn
  obtain ⟨fn,g1,g2⟩:=h.rtV r
  exact ⟨fn++bf,.b g1 g2 h1⟩
|_,_,.o h r,hn=>hn.elim
theorem zkm {F H:Hp} {Y:L2.St} {U:DSt} {p:DSpT} {vs:List V} {as:List ArgP} {Qd:T->Prop} {Q:VK} {E:XK} (s:Same F H) (r:RV K F H Y U) (ha:ArgsP K F H Y U vs as) (hc:znx p as Qd)
  (k:∀ r,Qd r->∀ v F' H' fp,Ext F H F' H'->Rt K F' H' v r fp->fp.Nodup->(∀ a∈fp,H a=none)->Q v H'):spT K p vs H Q E:=by
 obtain ⟨bf,m1⟩:=zjk r ha hc.1
 refine ⟨F,_,bf,none,_,s,m1,λ b hb=>by simp [ofp] at hb,hc.2,λ r2 t2 q2 v F' H' fpr fpo post=>?_⟩
 exact k _ q2 v F' H' fpr ⟨λ b o hb=>post.hh b o (by simp [ofp]) hb,post.ff,post.fh,post.nw⟩ post.rt post.nd post.fr
def zca1 (p:DSpT) (da:DAT):DN:=λ U Q=>da U λ as=>znx p as Q
def ze41 (C:Addr) (m:Str) (p:DSpT) (dp:DP) (da:DAT):DN:=λ U Q=>dp U λ i q u=>nCls C u/\noM m u/\da U λ as=>znx p (.b i q u :: as) Q
theorem zll {p:DSpT} {E:XK} (h:RfAT K tA dA'):RfN K (zcs (spT K p) [] E tA) (zca1 p dA'):=by
 intro F H Y U Qd Q s rv hd k
 refine h s rv hd λ as has vs F1 H1 e1 i1=>?_
 rw [List.append_nil]
 exact zkm e1.fh (rv.ext e1) i1 has λ r q v F' H' fp e2 h1 h2 h3=>k r q v F' H' fp (e1.trans e2) h1 h2 λ a ha=>zn1 e1 (h3 a ha)
theorem zkg {p:DSpT} {E:XK} {C:Addr} {m:Str} (hp:RfP K ta dp) (h:RfAT K tA dA'):RfN K (zbx C m (spT K p) [] E ta tA) (ze41 C m p dp dA'):=by
 intro F H Y U Qd Q s rv hd k
 refine hp s rv hd λ i q u hu v F1 H1 e1 at1=>?_
 have rv1:=rv.ext e1
 obtain ⟨fn,hr⟩:=at1.rt rv1
 obtain ⟨a,dx,fs,rfl,h1,h2⟩:=zed hr hu.1 hu.2.1
 refine ⟨a,dx,fs,rfl,h1,h2,h e1.fh rv1 hu.2.2 λ as has vs F2 H2 e2 i2=>?_⟩
 rw [List.append_nil]
 have e12:=e1.trans e2
 exact zkm e2.fh (rv.ext e12) (.b (at1.mono e2.h) i2) has λ r q v F' H' fp e3 h1 h2 h3=>k r q v F' H' fp (e12.trans e3) h1 h2 λ a ha=>zn1 e12 (h3 a ha)
def eN (dn:DN):DE:=λ U Q=>dn U λ r=>fzT r Q
theorem RfN.ex {dn:DN} (h:RfN K te dn):RfE K te (eN dn):=λ s rv hd k=>h s rv hd λ r q v F' H' fp e1 h1 h2 h3=>by
 obtain ⟨d,qd,i⟩:=zv31 h1 q
 exact k d qd v F' H' e1 i
def zh91 (C:Addr) (p:DSpT) (da:DAT):DN:=λ U Q=>da U λ as=>noO as/\p (.o (.ob C []) :: as.map ArgP.arg) λ r t2=>(match r with|.fz .none=>True|_=>False)/\Q t2
theorem zyj {p:DSpT} {E:XK} {C:Addr} (h:RfAT K tA dA'):RfN K (zp81 C (spT K p) [] E tA) (zh91 C p dA'):=by
 intro F H Y U Qd Q s rv hd k
 refine h s rv hd λ as has vs F1 H1 e1 i1=>?_
 intro x dx hx hdx hne
 obtain ⟨bf,m1⟩:=zjk (rv.ext e1) i1 has.1
 have hH:∀ b,b≠x->b≠dx->upd (upd H1 dx (.own x)) x (.ins C dx []) b=H1 b:=λ b h1 h2=>by rw [zj0 h1,zj0 h2]
 have s2:Same H1 (upd (upd H1 dx (.own x)) x (.ins C dx [])):=λ b o z=>by
  rw [hH b (λ q=>by subst q;rw [hx] at z;cases z) (λ q=>by subst q;rw [hdx] at z;cases z)];exact z
 have fx:F1 x=none:=by
  cases q:F1 x with
 |none=>rfl
 |some o=>rw [e1.fh x o q] at hx;cases hx
 have fdx:F1 dx=none:=by
  cases q:F1 dx with
 |none=>rfl
 |some o=>rw [e1.fh dx o q] at hdx;cases hdx
 have m2:ArgsR K F1 (upd (upd H1 dx (.own x)) x (.ins C dx [])) vs (as.map ArgP.arg) bf none/\∀ b∈bf,H1 b≠none:=by
  have key:∀ {vs:List V} {as:List Arg} {bf:List Addr} {oo:Option (Addr×List Addr)},ArgsR K F1 H1 vs as bf oo->oo=none->ArgsR K F1 (upd (upd H1 dx (.own x)) x (.ins C dx [])) vs as bf none/\∀ b∈bf,H1 b≠none:=λ {vs as bf oo} hh=>by
   induction hh with
  |nil=>intro _;exact ⟨.nil,λ b hb=>by simp at hb⟩
  |d h1 _ ih=>intro e;exact ⟨.d h1 (ih e).1,(ih e).2⟩
  |b h1 h2 _ ih =>
    intro e
    refine ⟨.b (h1.frame (λ _ _ z=>z) λ b hb=>⟨?_,(h1.dom b hb).2⟩) h2 (ih e).1,λ b hb=>?_⟩
    ·exact hH b (λ q=>by subst q;exact (h1.dom b hb).1 hx) (λ q=>by subst q;exact (h1.dom b hb).1 hdx)
    ·rcases List.mem_append.mp hb with z|z
     ·exact (h1.dom b z).1
     ·exact (ih e).2 b z
  |o _ _ _ _=>intro e;cases e
  exact key m1 rfl
 refine ⟨F1,_,bf,some (x,[x,dx]),_,e1.fh.trans s2,.o (.ob zi0 (by rw [zj0 hne,zi0]) fx fdx .nil) (by simp [Ne.symm hne]) (by rw [List.append_nil];exact m2.1),λ b hb hbf=>?_,has.2,λ r t2 q2 v F' H' fpr fpo post=>?_⟩
 ·have:=m2.2 b hbf
  simp [ofp] at hb
  rcases hb with z|z
  ·exact this (by rw [z];exact hx)
  ·exact this (by rw [z];exact hdx)
 ·obtain ⟨q0,q1⟩:=q2
  obtain ⟨io1,io2,io3,io4⟩:=post.io x [x,dx] rfl
  refine ⟨?_,k _ q1 (.ref x) F' H' fpo (e1.trans ⟨λ b o z=>?_,post.ff,post.fh,λ b hb fb=>post.nw b (λ z=>?_) fb⟩) io1 io2 λ b hb=>zn1 e1 ?_⟩
  ·split at q0
   ·cases post.rt with
   |fz i=>exact i.non_inv
   ·exact q0.elim
  ·refine post.hh b o (λ w=>?_) (s2 b o z)
   simp [ofp] at w
   rcases w with w|w
   ·rw [w,hx] at z;cases z
   ·rw [w,hdx] at z;cases z
  ·cases q:H1 b with
  |none=>exact hb q
  |some o=>rw [s2 b o q] at z;cases z
  ·rcases io3 b hb with z|z
   ·simp at z
    rcases z with z|z
    ·rw [z];exact hx
    ·rw [z];exact hdx
   ·cases q:H1 b with
   |none=>rfl
   |some o=>rw [s2 b o q] at z;cases z
end
section
variable {P:Program} {w:World} {K:Fg} {mg:Str->Option Value} {base:Heap}
def zlx (a:Addr):Arg->Sl
|.d x=>.sh x
|.b x=>.bo x
|.o x=>.io a x
def zz9 (N:List Str) (a:Addr) (as:List Arg):DSt:=as.map (zlx a)++List.replicate (N.length - as.length) .un
def oIx:List Arg->Option Nat
|[]=>none
|.o _ :: _=>some 0
|.d _ :: r=>(oIx r).map (·+1)
|.b _ :: r=>(oIx r).map (·+1)
def exA (as:List Arg) (a:Addr) (Qd:T->T->Prop) (r:T) (U:DSt):Prop:=match oIx as with
|none=>Qd r (.fz .none)
|some k=>∃ t',U[k]?=some (.io a t')/\Qd r t'
def zs61 (as:List Arg) (a:Addr) (Qd:T->T->Prop):DEnds:={ nx:=exA as a Qd (.fz .none),rt:=exA as a Qd }
theorem zlc {F H:Hp}:∀ {vs:List V} {as:List Arg} {bf:List Addr} {oo:Option (Addr×List Addr)},ArgsR K F H vs as bf oo->vs.length=as.length/\∃ fl:Nat->List Addr,
  (∀ (k:Nat) x,as[k]?=some (.d x)->∃ v,vs[k]?=some v/\Is K F v x) /\
  (∀ (k:Nat) x,as[k]?=some (.b x)->∃ v,vs[k]?=some v/\Rt K F H v x (fl k)/\(fl k).Nodup/\∀ b∈fl k,b∈bf) /\
  (∀ (k:Nat) x,as[k]?=some (.o x)->∃ a,vs[k]?=some (.ref a)/\oo=some (a,fl k)/\Rt K F H (.ref a) x (fl k)/\(fl k).Nodup/\oIx as=some k)/\(oo=none->oIx as=none)/\(∀ a fp,oo=some (a,fp)->∃ k x,as[k]?=some (.o x)/\fl k=fp/\oIx as=some k)
|_,_,_,_,.nil=>⟨rfl,λ _=>[],λ k x e=>by simp at e,λ k x e=>by simp at e,λ k x e=>by simp at e,λ _=>rfl,λ a fp e=>by cases e⟩
|_,_,_,_,.d h r=>by
  obtain ⟨hl,fl,h1,h2,h3,h4,h5⟩:=zlc r
  refine ⟨by simp [hl],λ k=>fl (k - 1),λ k x e=>?_,λ k x e=>?_,λ k x e=>?_,λ e=>?_,λ a fp e=>?_⟩
  ·cases k with
  |zero=>simp at e;subst e;exact ⟨_,rfl,h⟩
  |succ k=>obtain ⟨v,g1,g2⟩:=h1 k x (by simpa using e);exact ⟨v,by simpa using g1,g2⟩
  ·cases k with
  |zero=>simp at e
  |succ k=>obtain ⟨v,g1,g2⟩:=h2 k x (by simpa using e);exact ⟨v,by simpa using g1,g2⟩
  ·cases k with
  |zero=>simp at e
  |succ k=>obtain ⟨v,g1,g2,g3,g4,g5⟩:=h3 k x (by simpa using e);exact ⟨v,by simpa using g1,g2,g3,g4,by simp [oIx,g5]⟩
  ·simp [oIx,h4 e]
  ·obtain ⟨k,x,g1,g2,g3⟩:=h5 a fp e
   exact ⟨k+1,x,by simpa using g1,g2,by simp [oIx,g3]⟩
|_,_,_,_,.b (fp:=fp) (bf:=bf) h nd r=>by
  obtain ⟨hl,fl,h1,h2,h3,h4,h5⟩:=zlc r
  refine ⟨by simp [hl],λ k=>if k=0 then fp else fl (k - 1),λ k x e=>?_,λ k x e=>?_,λ k x e=>?_,λ e=>?_,λ a fp' e=>?_⟩
  ·cases k with
  |zero=>simp at e
  |succ k=>obtain ⟨v,g1,g2⟩:=h1 k x (by simpa using e);exact ⟨v,by simpa using g1,g2⟩
  ·cases k with
  |zero=>simp at e;subst e;exact ⟨_,rfl,h,nd,λ b hb=>by simp at hb ⊢;exact .inl hb⟩
  |succ k=>obtain ⟨v,g1,g2,g3,g4⟩:=h2 k x (by simpa using e);exact ⟨v,by simpa using g1,g2,g3,λ b hb=>by have:=g4 b (by simpa using hb);simp [this]⟩
  ·cases k with
  |zero=>simp at e
  |succ k=>obtain ⟨v,g1,g2,g3,g4,g5⟩:=h3 k x (by simpa using e);exact ⟨v,by simpa using g1,g2,g3,g4,by simp [oIx,g5]⟩
  ·simp [oIx,h4 e]
  ·obtain ⟨k,x,g1,g2,g3⟩:=h5 a fp' e
   exact ⟨k+1,x,by simpa using g1,by simpa using g2,by simp [oIx,g3]⟩
|_,_,_,_,.o (a:=a) (fp:=fp) h nd r=>by
  obtain ⟨hl,fl,h1,h2,h3,h4,h5⟩:=zlc r
  refine ⟨by simp [hl],λ k=>if k=0 then fp else fl (k - 1),λ k x e=>?_,λ k x e=>?_,λ k x e=>?_,λ e=>(by cases e),λ a' fp' e=>?_⟩
  ·cases k with
  |zero=>simp at e
  |succ k=>obtain ⟨v,g1,g2⟩:=h1 k x (by simpa using e);exact ⟨v,by simpa using g1,g2⟩
  ·cases k with
  |zero=>simp at e
  |succ k=>obtain ⟨v,g1,g2,g3,g4⟩:=h2 k x (by simpa using e);exact ⟨v,by simpa using g1,g2,g3,λ b hb=>g4 b (by simpa using hb)⟩
  ·cases k with
  |zero=>simp at e;subst e;exact ⟨a,rfl,rfl,h,nd,rfl⟩
  |succ k =>
    obtain ⟨v,g1,g2,g3,g4,g5⟩:=h3 k x (by simpa using e)
    cases g2
  ·cases e
   exact ⟨0,_,rfl,rfl,rfl⟩
theorem zm3 {qual:Str} {st:Stmt} {N:List Str} {k:Nat} {p:DSpT}
  (body:∀ (f:Addr) (cdv:Value) (A:Around) (outer:List Env) (s:Shared) (H:Hp) (E:XK),Room k (A.deeper (envOfC qual (zf0 st) s.heap.objs.size f cdv))->∃ t d,PSs (cxOf CX0 P w K mg base N qual (zf0 st) f cdv A outer s H E).nox (zu1 st) t/\RfS K t d/\∀ as Qd a,p as Qd->d (zs61 as a Qd) (zz9 N a as)) :
  zl6 P w K mg base qual st N k (spT K p):=by
 intro f cdv A outer s H vs Q E hr h
 obtain ⟨F,as,bf,oo,Qd,sf,ha,hd,hp,hq⟩:=h
 obtain ⟨t,d,h1,h2,h3⟩:=body f cdv A outer s H E hr
 obtain ⟨hl,fl,a1,a2,a3,a4,a5⟩:=zlc ha
 obtain ⟨a,haa⟩:∃ a:Addr,∀ a' fp,oo=some (a',fp)->a'=a:=by
  cases oo with
 |none=>exact ⟨0,λ a' fp e=>by cases e⟩
 |some x=>exact ⟨x.1,λ a' fp e=>by cases e;rfl⟩
 have slot:∀ (i:Nat) sl,(zz9 N a as)[i]?=some sl->(sl=.un/\as.length<=i) \/ ∃ g,as[i]?=some g/\sl=zlx a g:=λ i sl e=>by
  unfold zz9 at e
  by_cases hi:i < as.length
  ·rw [List.getElem?_append_left (by simpa using hi),List.getElem?_map] at e
   obtain ⟨g,h1,h2⟩:=Option.map_eq_some_iff.mp e
   exact .inr ⟨g,h1,h2.symm⟩
  ·rw [List.getElem?_append_right (by simpa using hi),List.getElem?_replicate] at e
   split at e
   ·cases e;exact .inl ⟨rfl,by lia⟩
   ·cases e
 have val:∀ (i:Nat) v,vs[i]?=some v->(L2.start N vs).getD i none=some v:=λ i v e=>by
  have hi:i < vs.length:=by
   rcases Nat.lt_or_ge i vs.length with z|z
   ·exact z
   ·rw [List.getElem?_eq_none z] at e;cases e
  unfold L2.start
  rw [List.getD_eq_getElem?_getD,List.getElem?_append_left (by simpa using hi),List.getElem?_map,e]
  rfl
 have rs:RS K ⟨F,H,ofp oo⟩ F H (L2.start N vs) (zz9 N a as) fl:=by
  refine ⟨λ b o _ z=>z,λ _ _ z=>z,sf,λ b _ z=>z,λ b z=>z,by simp [L2.start,zz9,hl],λ i x e=>?_,λ i sl e hs=>?_,λ i sl e ho b hb=>?_,λ i j sl sl' hij e1 e2 o1 o2 b hb hb2=>?_⟩
  ·rcases slot i _ e with ⟨z,_⟩|⟨g,e1,e2⟩
   ·cases z
   ·cases g with
   |d x'=>cases e2;obtain ⟨v,g1,g2⟩:=a1 i x e1;exact ⟨v,val i v g1,g2⟩
   |b _=>cases e2
   |o _=>cases e2
  ·rcases slot i _ e with ⟨z,_⟩|⟨g,e1,e2⟩
   ·rw [z] at hs;cases hs
   ·cases g with
   |d x'=>rw [e2] at hs;cases hs
   |b x' =>
     obtain ⟨v,g1,g2,g3,g4⟩:=a2 i x' e1
     rw [e2]
     exact ⟨v,x',val i v g1,rfl,g2,λ a u z=>(by cases z),g3⟩
   |o x' =>
     obtain ⟨a',g1,g2,g3,g4,g5⟩:=a3 i x' e1
     have:=haa a' _ g2
     subst this
     rw [e2]
     exact ⟨_,x',val i _ g1,rfl,g3,λ a u z=>(by cases z;rfl),g4⟩
  ·rcases slot i _ e with ⟨z,_⟩|⟨g,e1,e2⟩
   ·rw [z] at ho;cases ho
   ·cases g with
   |d x'=>rw [e2] at ho;cases ho
   |b x'=>rw [e2] at ho;cases ho
   |o x' =>
     obtain ⟨a',g1,g2,g3,g4,g5⟩:=a3 i x' e1
     refine .inr ⟨?_,λ t z=>?_⟩
     ·show b∈ofp oo
      rw [g2];exact hb
     ·rw [e2] at z;cases z
  ·rcases slot i _ e1 with ⟨z,_⟩|⟨g,f1,f2⟩
   ·rw [z] at o1;cases o1
   ·cases g with
   |d x'=>rw [f2] at o1;cases o1
   |b x'=>rw [f2] at o1;cases o1
   |o x' =>
     obtain ⟨a',g1,g2,g3,g4,g5⟩:=a3 i x' f1
     rcases slot j _ e2 with ⟨z,_⟩|⟨g',f1',f2'⟩
     ·rw [z] at o2;cases o2
     ·cases g' with
     |d x''=>rw [f2'] at o2;cases o2
     |b x'' =>
       obtain ⟨v,k1,k2,k3,k4⟩:=a2 j x'' f1'
       exact hd b (by rw [g2];exact hb) (k4 b hb2)
     |o x'' =>
       obtain ⟨a'',k1,k2,k3,k4,k5⟩:=a3 j x'' f1'
       rw [g5] at k5
       exact hij (Option.some.inj k5)
 have fin:∀ {F' H':Hp} {Y':L2.St} {U':DSt} {fps':Nat->List Addr} {v:V} {r:T} {fpr:List Addr},Res K ⟨F,H,ofp oo⟩ F' H' Y' U' fps' v r fpr->exA as a Qd r U'->Q v H':=λ {F' H' Y' U' fps' v r fpr} res ex=>by
  unfold exA at ex
  split at ex
  ·rename_i eo
   refine hq r (.fz .none) ex v F' H' fpr [] ⟨res.rs.hh,res.rs.ff,res.rs.fh,res.rs.nw,res.rs.al,res.rt,res.nd,res.fr,λ a' fp e=>?_⟩
   obtain ⟨k,x,g1,g2,g3⟩:=a5 a' fp e
   rw [eo] at g3;cases g3
  ·rename_i ko eo
   obtain ⟨t',et,qd⟩:=ex
   obtain ⟨x',t'',b1,b2,b3,b4,b5⟩:=res.rs.rt ko _ et rfl
   cases b2
   have:=b4 a t' rfl
   subst this
   refine hq r t' qd v F' H' fpr (fps' ko) ⟨res.rs.hh,res.rs.ff,res.rs.fh,res.rs.nw,res.rs.al,res.rt,res.nd,res.fr,λ a' fp e=>?_⟩
   have ea:=haa a' fp e
   subst ea
   refine ⟨b3,b5,λ b hb=>?_,λ b hb=>res.dj ko _ et rfl b hb⟩
   rcases res.rs.fr ko _ et rfl b hb with z|⟨z,_⟩
   ·exact .inr z
   ·have:b∈ofp oo:=z
    rw [e] at this
    exact .inl this
 refine ⟨t,h1,h2 rs (h3 as Qd a hp) ⟨λ r q=>fin ⟨r,.fz .non,.nil,λ a ha=>by simp at ha,λ _ _ _ _ a _ ha=>by simp at ha⟩ q,λ _ z=>z.elim,λ _ z=>z.elim,λ res q=>fin res q⟩⟩
theorem zxm {F H:Hp} {vs:List V} {as:List Arg} {bf:List Addr} {oo:Option (Addr×List Addr)} (h:ArgsR K F H vs as bf oo):vs.length=as.length:=(zlc h).1
theorem zfe {p:DSpT} {ps:List Str} (h:∀ as Qd,p as Qd->as.length=ps.length):∀ vs H Q E,spT K p vs H Q E->vs.length=ps.length:=λ vs H Q E z=>by
 obtain ⟨F,as,bf,oo,Qd,_,ha,_,hp,_⟩:=z
 rw [zxm ha];exact h as Qd hp
def zhd (N:List Str) (ds:List D):DSt:=ds.map Sl.sh++List.replicate (N.length - ds.length) .un
def rD (Qd:D->Prop) (r:T) (_:DSt):Prop:=match r with
|.fz d=>Qd d
|.li ds=>Qd (.list ds)
|.ls ts=>∃ d,toD (.ls ts)=some d/\Qd d
|_=>False
theorem zrz {Qd:D->Prop} {r:T} {U:DSt} (h:rD Qd r U):∃ d,toD r=some d/\Qd d:=by
 cases r with
|fz d=>exact ⟨d,rfl,h⟩
|li ds=>exact ⟨_,rfl,h⟩
|ls ts=>exact h
|ob _ _=>exact h.elim
|dk _=>exact h.elim
|dt _=>exact h.elim
|tp _=>exact h.elim
theorem ztl {F H:Hp} {N:List Str} {vs:List V} {ds:List D} (s:Same F H) (h:IsAll K F vs ds):RS K ⟨F,H,[]⟩ F H (L2.start N vs) (zhd N ds) (λ _=>[]):=by
 have el:=h.dlen
 have no:∀ (i:Nat) sl,(zhd N ds)[i]?=some sl->sl.has=true->False:=λ i sl e hs=>by
  unfold zhd at e
  by_cases hi:i < ds.length
  ·rw [List.getElem?_append_left (by simpa using hi),List.getElem?_map] at e
   obtain ⟨x,_,z⟩:=Option.map_eq_some_iff.mp e
   subst z;cases hs
  ·rw [List.getElem?_append_right (by simpa using hi),List.getElem?_replicate] at e
   split at e
   ·cases e;cases hs
   ·cases e
 refine ⟨λ b o _ z=>z,λ _ _ z=>z,s,λ b _ z=>z,λ b z=>z,by simp [L2.start,zhd,el],λ i x e=>?_,λ i sl e hs=>(no i sl e hs).elim,λ i sl e ho=>(no i sl e (zi2 ho)).elim,λ i j sl sl' _ e _ o _=>(no i sl e (zi2 o)).elim⟩
 unfold zhd at e
 unfold L2.start
 by_cases hi:i < ds.length
 ·rw [List.getElem?_append_left (by simpa using hi),List.getElem?_map] at e
  obtain ⟨y,hx,z⟩:=Option.map_eq_some_iff.mp e
  cases z
  obtain ⟨v,hv,iv⟩:=h.dget hx
  refine ⟨v,?_,iv⟩
  rw [List.getD_eq_getElem?_getD,List.getElem?_append_left (by simp;lia),List.getElem?_map,hv]
  rfl
 ·rw [List.getElem?_append_right (by simpa using hi),List.getElem?_replicate] at e
  split at e <;> cases e
theorem zqa1 {F0 H0 F H:Hp} {Y:L2.St} {U:DSt} {fps:Nat->List Addr} {v:V} {r:T} {fpr:List Addr} {d:D} (res:Res K ⟨F0,H0,[]⟩ F H Y U fps v r fpr) (e:toD r=some d):∃ F',Ext F0 H0 F' H/\Is K F' v d:=by
 obtain ⟨F2,s1,s2,s3,s4⟩:=zub1 res.rs.fh res.rt e res.nd
 refine ⟨F2,⟨λ b o z=>res.rs.hh b o (by simp) z,res.rs.ff.trans s1,s2,λ b hb fb=>?_⟩,s4⟩
 have:b ∉ fpr:=λ z=>hb (res.fr b z)
 rw [s3 b this]
 exact res.rs.nw b hb fb
theorem zxi {qual:Str} {st:Stmt} {N:List Str} {k:Nat} {p:DSp}
  (body:∀ (f:Addr) (cdv:Value) (A:Around) (outer:List Env) (s:Shared) (H:Hp) (E:XK),Room k (A.deeper (envOfC qual (zf0 st) s.heap.objs.size f cdv))->∃ t d,PSs (cxOf CX0 P w K mg base N qual (zf0 st) f cdv A outer s H E).nox (zu1 st) t/\RfS K t d/\∀ ds Qd,p ds Qd->d { nx:=λ _=>Qd .none,rt:=rD Qd } (zhd N ds)) :
  zl6 P w K mg base qual st N k (spD K p):=by
 intro f cdv A outer s H vs Q E hr h
 obtain ⟨F,ds,Qd,sf,i,hp,hq⟩:=h
 obtain ⟨t,d,h1,h2,h3⟩:=body f cdv A outer s H E hr
 refine ⟨t,h1,h2 (ztl sf i) (h3 ds Qd hp) ⟨λ r q=>hq _ q _ _ _ ⟨λ b o z=>r.hh b o (by simp) z,r.ff,r.fh,r.nw⟩ .non,λ _ z=>z.elim,λ _ z=>z.elim,λ res q=>?_⟩⟩
 obtain ⟨d',e1,e2⟩:=zrz (U:=[]) q
 obtain ⟨F',ex,is⟩:=zqa1 res e1
 exact hq _ e2 _ _ _ ex is
theorem zez {F:Hp} {vs:List V} {ds:List D} (h:IsAll K F vs ds):vs.length=ds.length:=h.dlen
theorem zhu {p:DSp} {ps:List Str} (h:∀ ds Qd,p ds Qd->ds.length=ps.length):∀ vs H Q E,spD K p vs H Q E->vs.length=ps.length:=λ vs H Q E z=>by
 obtain ⟨F,ds,Qd,_,i,hp,_⟩:=z
 rw [zez i];exact h ds Qd hp
theorem zxr {F:Hp}:∀ ns:List Int,IsAll K F (ns.map V.int) (ns.map PyData.int)
|[]=>.nil
|n :: r=>.cons (.int n) (zxr r)
theorem zlb1 {st:Stmt} {N:List Str} {k:Nat} {fa:Addr} (M:Md K mg) (T:TopDef K "law" st) (hfa:mg "law"=some (.ref fa)) (S:FnScope N ["script"] (zf0 st)) (hb:zi6 "law" "law" st ["script"])
  (body:∀ base:Heap,K.In base->base.Ns mainGlobals mg->∀ (f:Addr) (cdv:Value) (A:Around) (outer:List Env) (s:Shared) (H:Hp) (E:XK),Room k (A.deeper (envOfC "law" (zf0 st) s.heap.objs.size f cdv)) ->
   ∃ t d,PSs (cxOf CX0 P w K mg base N "law" (zf0 st) f cdv A outer s H E).nox (zu1 st) t/\RfS K t d/\∀ (ns:List Int) (Qd:D->Prop),ns.length<=63->Qd (.bool true)->d { nx:=λ _=>Qd .none,rt:=rD Qd } (zhd N [.list (ns.map .int)])) :
  ∃ fd:FuncData,(∀ (s:Shared) (v:Value),BindsTo s fd ⟨[v],[]⟩ [("script",v)])/\∀ base:Heap,K.In base->base.Ns mainGlobals mg->FnOk P w K mg base CX0 (k+1) fa fd ["script"] (zh41 K):=by
 refine zk81 M T hfa S hb (λ vs H Q E h=>by obtain ⟨a,ns,rfl,_⟩:=h;rfl) λ base kb nb=>?_
 intro f cdv A outer s H vs Q E hr h
 obtain ⟨a,ns,rfl,hS,hl,hq⟩:=h
 obtain ⟨t,d,h1,h2,h3⟩:=body base kb nb f cdv A outer s H E hr
 refine ⟨t,h1,h2 (ztl (F:=H) (λ _ _ z=>z) (.cons (.lst hS (zxr ns)) .nil)) (h3 ns (λ d=>d=.bool true) hl rfl) ⟨λ r q=>(by cases q),λ _ z=>z.elim,λ _ z=>z.elim,λ res q=>?_⟩⟩
 obtain ⟨d',e1,e2⟩:=zrz (U:=[]) q
 obtain ⟨F',ex,is⟩:=zqa1 res e1
 subst e2
 cases is
 exact hq _
end
end L4
namespace L3
open PySem PySem.Spec PyProof.Rows L2
section
variable {X:Cx} {tg:Expr}
end
end L3
namespace L4
open PySem PySem.Spec PyProof.Rows L2 L3
section
variable {K:Fg} {tA:TA} {dA:DF}
def zd91 (lo st:Int) (n:Nat):List D:=(List.range n).map λ i=>.int (lo+(i:Nat) * st)
def zdc1 (dA:DF):DF:=λ U Q=>dA U λ ds=>match ds with
|[.int i,.int j,.int c]=>c≠0/\(-(2 ^ 40)<=i/\i < 2 ^ 40/\-(2 ^ 40)<=j/\j < 2 ^ 40/\-(2 ^ 20)<=c/\c < 2 ^ 20)/\∃ n:Nat,Builtin.Range.rangeSize i j c=(n:Int)/\n < 2 ^ 41/\Q (zd91 i c n)
|_=>False
def zw81:List D->(D->Prop)->Prop
|[.int i,.int j],Q=>Q (.int (if j < i then j else i))
|_,_=>False
theorem zw61:CB K (λ xs H Q=>∃ i j,xs=[V.int i,V.int j]/\Q (V.int (if j < i then j else i)) H) zw81:=by
 intro F H vs ds Qd Q s hv h k
 unfold zw81 at h
 split at h
 ·obtain ⟨v,u,rfl,h1,h2⟩:=vw2 hv
  cases h1.int;cases h2.int
  exact ⟨_,_,rfl,k _ h _ F H (Ext.refl s) (.int _)⟩
 ·exact h.elim
end
theorem e_dF (df:DF) (U:DSt) (Q:D->Prop):dF df U Q=( df U λ ds=>Q (.list ds)):=rfl
theorem e_dC (d:D) (x_0:DSt) (Q:D->Prop):dC d x_0 Q=( Q d):=rfl
theorem zmb1 (f:D->D->(D->Prop)->Prop) (da db:DE) (U:DSt) (Q:D->Prop):dOp f da db U Q=( da U λ x=>db U λ y=>f x y Q):=rfl
theorem ze81 (f:D->D->(List D->Prop)->Prop) (da db:DE) (U:DSt) (Q:List D->Prop):dOpF f da db U Q=( da U λ x=>db U λ y=>f x y Q):=rfl
theorem zo51 (df:DF) (db:DE) (U:DSt) (Q:List D->Prop):dRep df db U Q=( df U λ ds=>db U λ y=>fRep ds y Q):=rfl
theorem zn01 (da:DE) (U:DSt) (Q:D->Prop):zm41 da U Q=( da U λ x=>fB x λ b=>Q (.bool (!b))):=rfl
theorem zu21 (da db:DE) (U:DSt) (Q:D->Prop):zb41 da db U Q=( da U λ x=>fB x λ b=>if b=true then db U Q else Q (.bool false)):=rfl
theorem ziy (de:DE) (U:DSt) (Q:Bool->Prop):zpa1 de U Q=( de U λ d=>fB d Q):=rfl
theorem zr71 (de:DE) (U:DSt) (Q:Bool->Prop):dTru de U Q=( de U λ d=>fTru d Q):=rfl
theorem zdd1 (dt du:DT) (U:DSt) (Q:Bool->Prop):dOr dt du U Q=( dt U λ b=>if b=true then Q true else du U Q):=rfl
theorem zi81 (dt:DT) (U:DSt) (Q:Bool->Prop):dNot dt U Q=( dt U λ b=>Q (!b)):=rfl
theorem zg51 (dt:DT) (da db:DE) (U:DSt) (Q:D->Prop):dIfE dt da db U Q=( dt U λ b=>if b=true then da U Q else db U Q):=rfl
theorem zfv (f g:D->D->(D->Prop)->Prop) (da db dc:DE) (U:DSt) (Q:D->Prop):zq31 f g da db dc U Q=( da U λ x=>db U λ y=>f x y λ u=>fB u λ b=>if b=true then dc U λ z=>g y z Q else Q (.bool false)):=rfl
theorem zp41 (x_0:DSt) (Q:List D->Prop):dNil x_0 Q=( Q []):=rfl
theorem zxz (da:DE) (dr:DF) (U:DSt) (Q:List D->Prop):zk7 da dr U Q=( da U λ x=>dr U λ xs=>Q (x :: xs)):=rfl
theorem zj81 (dA:DF) (U:DSt) (Q:D->Prop):dTup dA U Q=( dA U λ xs=>xs.length<=sizeLine/\Q (.tuple xs)):=rfl
theorem zu71 (dA:DF) (U:DSt) (Q:List D->Prop):dLst dA U Q=( dA U λ xs=>xs.length<=sizeLine/\Q xs):=rfl
theorem zqx (p:DSp) (dA:DF) (U:DSt) (Q:D->Prop):zr41 p dA U Q=( dA U λ ds=>p ds Q):=rfl
theorem zev (p:DSp) (dA:DF) (U:DSt) (Q:D->Prop):zi11 p dA U Q=( dA U λ ds=>p ds λ d=>zeu d=true/\Q d):=rfl
theorem zjc1 (f:List D->(D->Prop)->Prop) (dA:DF) (U:DSt) (Q:D->Prop):dCB f dA U Q=( dA U λ ds=>f ds Q):=rfl
theorem zxa1 (f:List D->(List D->Prop)->Prop) (dA:DF) (U:DSt) (Q:List D->Prop):dCF f dA U Q=( dA U λ ds=>f ds Q):=rfl
theorem zxb1 (T:String) (da:DE) (U:DSt) (Q:D->Prop):dIs T da U Q=( da U λ d=>(∀ kvs,d≠.dict kvs)/\Q (.bool (isT T d))):=rfl
theorem zbr (x_0:DSt) (Q:Option Int->Prop):zrr x_0 Q=( Q none):=rfl
theorem zb11 (de:DE) (U:DSt) (Q:Option Int->Prop):zt91 de U Q=( de U λ d=>match d with
|.int i=>Q (some i)
|_=>False):=rfl
theorem zuc1 (de:DE) (dl dh:DO) (U:DSt) (Q:D->Prop):dSl de dl dh U Q=( de U λ d=>dl U λ lo=>dh U λ hi=>fSl d lo hi Q):=rfl
theorem zy41 (de:DE) (dl dh dk:DO) (U:DSt) (Q:List D->Prop):dSl3 de dl dh dk U Q=( de U λ d=>dl U λ lo=>dh U λ hi=>dk U λ st=>match d with
|.list ds=>st≠some 0/\Q (zjl ds lo hi st)
|_=>False):=rfl
theorem zhc1 (de:DE) (U:DSt) (Q:List D->Prop):dIt de U Q=( de U λ d=>zqy d Q):=rfl
theorem zw21 (dA:DF) (U:DSt) (Q:List D->Prop):zm61 dA U Q=( dA U λ ds=>match ds with
|[.int j]=>-(2 ^ 62)<=j/\j < 2 ^ 62/\Q (rngD 0 j.toNat)
|_=>False):=rfl
theorem zly (dA:DF) (U:DSt) (Q:List D->Prop):zk91 dA U Q=( dA U λ ds=>match ds with
|[.int i,.int j]=>(-(2 ^ 62)<=i/\i < 2 ^ 62/\-(2 ^ 62)<=j/\j < 2 ^ 62)/\Q (rngD i (j - i).toNat)
|_=>False):=rfl
theorem zgz (dA:DF) (U:DSt) (Q:List D->Prop):zey dA U Q=( dA U λ ds=>match ds with
|[.list a]=>Q (zpq a)
|_=>False):=rfl
theorem e_gN (i:Nat) (d:D) (U:DSt) (G:DSt->Prop):gN i d U G=( G (U.set i (.sh d))):=rfl
theorem zr11 (ds:List D) (U:DSt) (G:DSt->Prop):zk21 ds U G=( match ds with
|[]=>G U
|_=>False):=rfl
theorem zlu (g:DG) (gs:DGs) (ds:List D) (U:DSt) (G:DSt->Prop):zyh g gs ds U G=( match ds with
|d :: r=>g d U λ U'=>gs r U' G
|[]=>False):=rfl
theorem e_gT (n:Nat) (gs:DGs) (d:D) (U:DSt) (G:DSt->Prop):gT n gs d U G=( match d with
|.tuple ds=>ds.length=n/\gs ds U G
|_=>False):=rfl
theorem zn31 (x_0:DSt) (Q:Bool->Prop):zc41 x_0 Q=( Q true):=rfl
theorem zu51 (C:Addr) (f:Str) (dp:DP) (U:DSt) (Q:Nat->Pth->T->Prop):pFld C f dp U Q=( dp U λ i p u=>nCls C u/\nFld f u λ t=>Q i (p++[.fl f]) t):=rfl
theorem zkb1 (dp:DP) (di:DE) (U:DSt) (Q:Nat->Pth->T->Prop):pIx dp di U Q=( dp U λ i p u=>di U λ k=>nIx u k λ j t=>Q i (p++[.ix j]) t):=rfl
theorem zib1 (dp:DP) (U:DSt) (Q:D->Prop):dPV dp U Q=( dp U λ _ _ u=>vwT u Q):=rfl
theorem zbc1 (dp:DP) (U:DSt) (Q:D->Prop):dPE dp U Q=( dp U λ _ _ u=>fzT u Q):=rfl
theorem e_cE (de:DE) (U:DSt) (Q:T->DSt->Prop):cE de U Q=( de U λ d=>Q (.fz d) U):=rfl
theorem e_cF (df:DF) (U:DSt) (Q:T->DSt->Prop):cF df U Q=( df U λ ds=>Q (.li ds) U):=rfl
theorem zl31 (E:DEnds) (U:DSt):zo61 E U=( E.nx U):=rfl
theorem za61 (de:DE) (dg:DG) (E:DEnds) (U:DSt):dAsg de dg E U=( de U λ d=>dg d U E.nx):=rfl
theorem zj51 (i:Nat) (dc:DC) (E:DEnds) (U:DSt):dSet i dc E U=( dc U λ r U'=>E.nx (U'.set i (slot r))):=rfl
theorem zp31 (dc:DC) (E:DEnds) (U:DSt):zp61 dc E U=( dc U λ _ U'=>E.nx U'):=rfl
theorem zd71 (dc:DC) (E:DEnds) (U:DSt):dRet dc E U=( dc U E.rt):=rfl
theorem zc31 (i:Nat) (E:DEnds) (U:DSt):zf51 i E U=( match U[i]? with
|some (.ow t)=>E.rt t (U.set i .un)
|some (.sh d)=>E.rt (.fz d) U
|_=>False):=rfl
theorem zu11 (x_0:DEnds) (x_1:DSt):zoa1 x_0 x_1=( False):=rfl
theorem zpc1 (dt:DT) (d e:DS) (E:DEnds) (U:DSt):dIf dt d e E U=( dt U λ b=>if b=true then d E U else e E U):=rfl
theorem zzb1 (ty:String) (f:FM) (dp:DP) (dA:DF) (U:DSt) (Q:T->DSt->Prop):cBM ty f dp dA U Q=( dp U λ i p u=>tyN ty u/\dA U λ ds=>f u ds λ u2 d=>mutS U i p u2 λ U'=>Q (.fz d) U'):=rfl
theorem zq71 (dp:DP) (dk de:DE) (E:DEnds) (U:DSt):dPut dp dk de E U=( de U λ d=>dp U λ i p u=>dk U λ k=>fPut u k d λ u2=>mutS U i p u2 E.nx):=rfl
theorem zux (f:Int->Int->Int) (dp:DP) (dk de:DE) (E:DEnds) (U:DSt):zga1 f dp dk de E U=( dp U λ i p u=>dk U λ k=>fGet u k λ x=>de U λ y=>fII f x y λ z=>fPut u k z λ u2=>mutS U i p u2 E.nx):=rfl
theorem zqc1 (U:DSt) (Q:T->DSt->Prop):cDT U Q=( Q (.dt []) U):=rfl
theorem e_cN (dn:DN) (U:DSt) (Q:T->DSt->Prop):cN dn U Q=( dn U λ r=>Q r U):=rfl
theorem zj71 (C:Addr) (f:Str) (dc:DC) (dp:DP) (E:DEnds) (U:DSt):dFld C f dc dp E U=( dc U λ r U1=>dp U1 λ i p u=>nCls C u/\nSet f u r λ u2=>mutS U1 i p u2 E.nx):=rfl
theorem zfq (C:Addr) (f:Str) (fn:Int->Int->Int) (dp:DP) (de:DE) (E:DEnds) (U:DSt):zwj C f fn dp de E U=( dp U λ i p u=>nCls C u/\nFld f u λ t=>fzT t λ x=>de U λ y=>nFII f fn x u y λ u2=>mutS U i p u2 E.nx):=rfl
theorem za51 (x_0:DSt) (Q:List ArgP->Prop):aNil x_0 Q=( Q []):=rfl
theorem e_aD (de:DE) (dr:DAT) (U:DSt) (Q:List ArgP->Prop):aD de dr U Q=( de U λ x=>dr U λ as=>Q (.d x :: as)):=rfl
theorem e_aB (dp:DP) (dr:DAT) (U:DSt) (Q:List ArgP->Prop):aB dp dr U Q=( dp U λ i p t=>dr U λ as=>Q (.b i p t :: as)):=rfl
theorem e_aO (dp:DP) (dr:DAT) (U:DSt) (Q:List ArgP->Prop):aO dp dr U Q=( dp U λ i p t=>dr U λ as=>Q (.o i p t :: as)):=rfl
theorem zj01 (p:DSpT) (da:DAT) (U:DSt) (Q:T->DSt->Prop):zf71 p da U Q=( da U λ as=>zkv p U as Q):=rfl
theorem znz (o:Bool) (C:Addr) (m:Str) (p:DSpT) (dp:DP) (da:DAT) (U:DSt) (Q:T->DSt->Prop):zr51 o C m p dp da U Q=( dp U λ i q u=>nCls C u/\noM m u/\da U λ as=>zkv p U ((if o then .o i q u else .b i q u) :: as) Q):=rfl
theorem zmy (p:DSpT) (da:DAT) (U:DSt) (Q:T->Prop):zca1 p da U Q=( da U λ as=>znx p as Q):=rfl
theorem zry (C:Addr) (m:Str) (p:DSpT) (dp:DP) (da:DAT) (U:DSt) (Q:T->Prop):ze41 C m p dp da U Q=( dp U λ i q u=>nCls C u/\noM m u/\da U λ as=>znx p (.b i q u :: as) Q):=rfl
theorem e_eN (dn:DN) (U:DSt) (Q:D->Prop):eN dn U Q=( dn U λ r=>fzT r Q):=rfl
theorem zy01 (C:Addr) (p:DSpT) (da:DAT) (U:DSt) (Q:T->Prop):zh91 C p da U Q=( da U λ as=>noO as/\p (.o (.ob C []) :: as.map ArgP.arg) λ r t2=>(match r with|.fz .none=>True|_=>False)/\Q t2):=rfl
theorem zr21 (dA:DF) (U:DSt) (Q:List D->Prop):zdc1 dA U Q=(dA U λ ds=>match ds with
|[.int i,.int j,.int c]=>c≠0/\(-(2 ^ 40)<=i/\i < 2 ^ 40/\-(2 ^ 40)<=j/\j < 2 ^ 40/\-(2 ^ 20)<=c/\c < 2 ^ 20)/\∃ n:Nat,Builtin.Range.rangeSize i j c=(n:Int)/\n < 2 ^ 41/\Q (zd91 i c n)
|_=>False):=rfl
def slT:Sl->(T->Prop)->Prop
|.sh d,N=>N (.fz d)
|.ow t,N=>N t
|.bo t,N=>N t
|.io _ t,N=>N t
|.un,_=>False
def pAt (U:DSt) (i:Nat) (N:T->Prop):Prop:=∃ s t,U[i]?=some s/\s.tree=some t/\N t
theorem zo81 (i:Nat) (U:DSt) (Q:D->Prop):dVar i U Q=pAt U i λ t=>fzT t Q:=rfl
theorem zg11 (i:Nat) (U:DSt) (Q:D->Prop):zdo i U Q=pAt U i λ t=>vwT t Q:=rfl
theorem ze61 (i:Nat) (U:DSt) (Q:Nat->Pth->T->Prop):pVar i U Q=pAt U i λ t=>Q i [] t:=rfl
theorem zf61 (s:Sl) (U:DSt) (N:T->Prop):pAt (s :: U) 0 N=slT s N:=by
 apply propext
 cases s <;> simp [pAt,slT,Sl.tree]
theorem zc81 (i:Nat) (s:Sl) (U:DSt) (N:T->Prop):pAt (s :: U) (i+1) N=pAt U i N:=by simp [pAt]
theorem zv51 (U:DSt) (i:Nat) (p:Pth) (u:T) (N:DSt->Prop):mutS U i p u N=(match U[i]? with
|some (.ow t)=>N (U.set i (.ow (setP t p u)))
|some (.io a t)=>N (U.set i (.io a (setP t p u)))
|_=>False):=rfl
theorem zty (U:DSt) (i:Nat):zzu U i=(match U[i]? with
|some (.ow _)=>True
|some (.io _ _)=>True
|_=>False):=rfl
theorem zg31 (t u:T):setP t [] u=u:=by cases t <;> rfl
theorem zo71 (ds:List D):tyN "list" (.li ds)=True:=by simp [tyN]
theorem zc51 (ds:List T):tyN "list" (.ls ds)=True:=by simp [tyN]
theorem zs81 (ds:List (Key×D)):tyN "dict" (.dk ds)=True:=by simp [tyN]
theorem zb71 (ds:List (List Key×D)):tyN "dict" (.dt ds)=True:=by simp [tyN]
theorem zlc1 (Qd:D->Prop) (d:D) (U:DSt):rD Qd (.fz d) U=Qd d:=rfl
theorem zdb1 (Qd:D->Prop) (d:List D) (U:DSt):rD Qd (.li d) U=Qd (.list d):=rfl
theorem zgd1 (Qd:D->Prop) (d:List T) (U:DSt):rD Qd (.ls d) U=∃ e,toD (.ls d)=some e/\Qd e:=rfl
theorem zyy (p:DSpT) (U:DSt) (as:List ArgP) (Q:T->DSt->Prop):zkv p U as Q=(match zds as with
|some (i,q,t)=>zzu U i/\oneO i as/\zfp t/\p (as.map ArgP.arg) λ r t2=>mutS U i q t2 λ U'=>Q r U'
|none=>noO as/\p (as.map ArgP.arg) λ r _=>Q r U):=rfl
theorem zwx (p:DSpT) (as:List ArgP) (Q:T->Prop):znx p as Q=(noO as/\p (as.map ArgP.arg) λ r _=>Q r):=rfl
def zpx (items:List D) (n:Nat) (ix:List Nat) (dg:DG) (dn:DN) (U:DSt) (Q:T->Prop):Prop:=items.length<=sizeLine/\∃ R:Nat->T->Prop,
 (∀ i d,items[i]?=some d->dg d (cST n ix U) λ U'=>dn U' λ r=>R i r)/\∀ rs:List T,rs.length=items.length->(∀ (j:Nat) r,rs[j]?=some r->R j r)->Q (.ls rs)
theorem zwz (di:DF) (n:Nat) (ix:List Nat) (dg:DG) (dn:DN) (U:DSt) (Q:T->Prop):zo91 di n ix dg dn U Q=di U λ items=>zpx items n ix dg dn U Q:=rfl
theorem zg61 {α:Type} {xs:List α} {enc:α->D} (f:α->T) {n:Nat} {ix:List Nat} {dg:DG} {dn:DN} {U:DSt} {Q:T->Prop} (hz:xs.length<=sizeLine)
  (h:∀ x∈xs,dg (enc x) (cST n ix U) λ U'=>dn U' λ r=>r=f x) (q:Q (.ls (xs.map f))):zpx (xs.map enc) n ix dg dn U Q:=by
 refine ⟨by rw [List.length_map];exact hz,λ i r=>∀ x,xs[i]?=some x->r=f x,λ i d e=>?_,λ rs hl hR=>?_⟩
 ·rw [List.getElem?_map] at e
  obtain ⟨x,hx,rfl⟩:=Option.map_eq_some_iff.mp e
  have e1:(λ r=>∀ y,xs[i]?=some y->r=f y)=λ r=>r=f x:=by funext r;rw [hx];simp
  show dg (enc x) (cST n ix U) λ U'=>dn U' λ r=>∀ y,xs[i]?=some y->r=f y
  rw [e1]
  exact h x (List.mem_of_getElem? hx)
 ·rw [List.length_map] at hl
  have:rs=xs.map f:=by
   apply List.ext_getElem?
   intro i
   rw [List.getElem?_map]
   by_cases hi:i < rs.length
   ·have e1:rs[i]?=some rs[i]:=List.getElem?_eq_getElem hi
    have e2:xs[i]?=some (xs[i]'(by lia)):=List.getElem?_eq_getElem _
    rw [e1,e2,hR i _ e1 _ e2];rfl
   ·rw [List.getElem?_eq_none (by lia),List.getElem?_eq_none (by lia)];rfl
  rw [this];exact q
def zx31 (items:List D) (n:Nat) (ix:List Nat) (dg:DG) (dt:DT) (de:DE) (U:DSt) (Q:List D->Prop):Prop:=items.length<=sizeLine/\∃ R:Nat->Option D->Prop,
 (∀ i d,items[i]?=some d->dg d (cST n ix U) λ U'=>dt U' λ b=>if b=true then de U' λ r=>R i (some r) else R i none) /\
 ∀ os:List (Option D),os.length=items.length->(∀ (j:Nat) o,os[j]?=some o->R j o)->Q (os.filterMap id)
theorem zd51 (di:DF) (n:Nat) (ix:List Nat) (dg:DG) (dt:DT) (de:DE) (U:DSt) (Q:List D->Prop):zp91 di n ix dg dt de U Q=di U λ items=>zx31 items n ix dg dt de U Q:=rfl
def ForB (items:List D) (dg:DG) (db:DS) (E:DEnds) (U:DSt):Prop:=∃ W:Nat->DSt->Prop,W 0 U /\
 (∀ i d U',items[i]?=some d->W i U'->dg d U' λ U2=>db { E with nx:=W (i+1),ct:=W (i+1),bk:=E.nx } U2)/\∀ U',W items.length U'->E.nx U'
theorem zsb1 (di:DF) (dg:DG) (db:DS) (E:DEnds) (U:DSt):dFor di dg db E U=di U λ items=>ForB items dg db E U:=rfl
theorem zwe {a b:DS} {E:DEnds} {U:DSt} (J:DSt->Prop) (h:a { E with nx:=J } U) (hj:∀ U',J U'->b E U'):dSeq a b E U:=⟨J,h,hj⟩
theorem ze0 {a b:DS} {E:DEnds} {U:DSt} (h:∀ J:DSt->Prop,(∀ U',b E U'->J U')->a { E with nx:=J } U):dSeq a b E U:=⟨b E,h (b E) λ _ z=>z,λ _ z=>z⟩
theorem zaa1 {α:Type} {f:α->Option D}:∀ {xs:List α} {os:List (Option D)},os.length=xs.length->(∀ (j:Nat) o x,os[j]?=some o->xs[j]?=some x->o=f x)->os.filterMap id=xs.filterMap f
|[],[],_,_=>rfl
|x :: xs,o :: os,hl,h=>by
  have e:o=f x:=h 0 o x rfl rfl
  have ih:=zaa1 (f:=f) (xs:=xs) (os:=os) (by simpa using hl) λ j o' x' h1 h2=>h (j+1) o' x' (by simpa using h1) (by simpa using h2)
  rw [List.filterMap_cons,List.filterMap_cons,e,ih]
  rfl
theorem zf41 {α:Type} {xs:List α} {enc:α->D} (f:α->Option D) {n:Nat} {ix:List Nat} {dg:DG} {dt:DT} {de:DE} {U:DSt} {Q:List D->Prop} (hz:xs.length<=sizeLine)
  (h:∀ x∈xs,dg (enc x) (cST n ix U) λ U'=>dt U' λ b=>if b=true then de U' λ r=>some r=f x else none=f x) (q:Q (xs.filterMap f)):zx31 (xs.map enc) n ix dg dt de U Q:=by
 refine ⟨by rw [List.length_map];exact hz,λ i o=>∀ x,xs[i]?=some x->o=f x,λ i d e=>?_,λ os hl hR=>?_⟩
 ·rw [List.getElem?_map] at e
  obtain ⟨x,hx,rfl⟩:=Option.map_eq_some_iff.mp e
  have:=h x (List.mem_of_getElem? hx)
  have e1:(λ r=>∀ y,xs[i]?=some y->some r=f y)=λ r=>some r=f x:=by
   funext r;rw [hx];simp
  have e2:(∀ y,xs[i]?=some y->(none:Option D)=f y)=(none=f x):=by rw [hx];simp
  show dg (enc x) (cST n ix U) λ U'=>dt U' λ b=>if b=true then de U' λ r=>∀ y,xs[i]?=some y->some r=f y else ∀ y,xs[i]?=some y->(none:Option D)=f y
  rw [e1,e2]
  exact this
 ·rw [List.length_map] at hl
  rw [zaa1 hl λ j o x h1 h2=>hR j o h1 x h2]
  exact q
theorem zjx {α:Type} {xs:List α} {enc:α->D} (g:α->D) {n:Nat} {ix:List Nat} {dg:DG} {de:DE} {U:DSt} {Q:List D->Prop} (hz:xs.length<=sizeLine)
  (h:∀ x∈xs,dg (enc x) (cST n ix U) λ U'=>de U' λ r=>r=g x) (q:Q (xs.map g)):zx31 (xs.map enc) n ix dg zc41 de U Q:=by
 refine zf41 (λ x=>some (g x)) hz (λ x hx=>?_) ?_
 ·have:=h x hx
  have e:(λ r=>some r=some (g x))=λ r=>r=g x:=by funext r;simp
  show dg (enc x) (cST n ix U) λ U'=>if true=true then de U' λ r=>some r=some (g x) else none=some (g x)
  rw [e]
  simp only [if_true]
  exact this
 ·rw [show xs.filterMap (λ x=>some (g x))=xs.map g from congrFun List.filterMap_eq_map' xs]
  exact q
theorem zb6 {α:Type} {xs:List α} {enc:α->D} (W:Nat->DSt->Prop) {dg:DG} {db:DS} {E:DEnds} {U:DSt} (h0:W 0 U)
  (hs:∀ (i:Nat) x U',xs[i]?=some x->W i U'->dg (enc x) U' λ U2=>db { E with nx:=W (i+1),ct:=W (i+1),bk:=E.nx } U2) (he:∀ U',W xs.length U'->E.nx U'):ForB (xs.map enc) dg db E U:=by
 refine ⟨W,h0,λ i d U' e w=>?_,λ U' w=>he U' (by rw [List.length_map] at w;exact w)⟩
 rw [List.getElem?_map] at e
 obtain ⟨x,hx,rfl⟩:=Option.map_eq_some_iff.mp e
 exact hs i x U' hx w
theorem two {c:Prop} [Decidable c] {A B:Prop} (h1:c->A) (h2:¬c->B):if c then A else B:=by
 by_cases h:c
 ·rw [if_pos h];exact h1 h
 ·rw [if_neg h];exact h2 h
def cutG {α:Type} (xs:List α) (lo hi:Option Int):List α:=(xs.drop (HT.sIx xs.length 0 lo)).take (HT.sIx xs.length xs.length hi - HT.sIx xs.length 0 lo)
theorem zto {α:Type} (f:α->D) (xs:List α) (lo hi:Option Int):cutD (xs.map f) lo hi=(cutG xs lo hi).map f:=by
 unfold cutD cutG
 rw [List.length_map,List.map_take,List.map_drop]
theorem zxd {α:Type} (f:α->D) (xs:List α):zpq (xs.map f)=(xs.mapIdx λ i x=>(i,x)).map λ p=>.tuple [.int (p.1:Nat),f p.2]:=by
 unfold zpq
 apply List.ext_getElem?
 intro i
 rw [List.getElem?_mapIdx,List.getElem?_map,List.getElem?_map,List.getElem?_mapIdx]
 cases xs[i]? <;> rfl
theorem zf5 {α:Type} {xs:List α} {i:Int} {x:α} (h0:0<=i) (h:xs[i.toNat]?=some x):atI xs i=some x:=by
 have e:((i.toNat:Nat):Int)=i:=by lia
 have:=ze01 (xs:=xs) (j:=i.toNat) (v:=x) h
 rwa [e] at this
theorem zob1 {α:Type} {xs:List α} {i:Int} (h0:0<=i) (h1:i < (xs.length:Int)):∃ x,xs[i.toNat]?=some x/\atI xs i=some x:=by
 have h:i.toNat < xs.length:=by lia
 exact ⟨xs[i.toNat],List.getElem?_eq_getElem h,zf5 h0 (List.getElem?_eq_getElem h)⟩
section
variable (K:Fg)
def RfH (te:TE) (de:DE):Prop:=∀ {F H:Hp} {Y:L2.St} {U:DSt} {Qd:D->Prop} {Q:VK},Same F H->RV K F H Y U->de U Qd->(∀ d,Qd d->∀ v F' H',Ext F H F' H'->Is K H' v d->Q v H')->te Y H Q
def RfAH (ta:TA) (da:DF):Prop:=∀ {F H:Hp} {Y:L2.St} {U:DSt} {Qd:List D->Prop} {Q:List V->Hp->Prop},Same F H->RV K F H Y U->da U Qd->(∀ ds,Qd ds->∀ vs F' H',Ext F H F' H'->IsAll K H' vs ds->Q vs H')->ta Y H Q
end
section
variable {K:Fg} {te ta tb:TE} {de da db:DE} {tA:TA} {dA:DF}
theorem RfV.h (h:RfV K te de):RfH K te de:=λ s r d k=>h s r d λ x q v F' H' e i=>k x q v F' H' e (i.is e.fh)
theorem zf31:RfAH K tNil dNil:=λ s rv h k=>k _ h _ _ _ (Ext.refl s) .nil
theorem zxu {F H:Hp} {p:Addr} {o:HO} (s:Same F H) (hn:H p=none):Ext F H F (upd H p o) :=
 ⟨ze2 hn _,λ _ _ z=>z,λ b o z=>ze2 hn _ b o (s b o z),λ _ _ z=>z⟩
theorem zqz (h:RfAH K tA dA):RfH K (zqq tA) (dF (dLst dA)):=by
 intro F H Y U Qd Q s rv hd k
 refine h s rv hd λ xs hx vs F1 H1 e1 i1=>⟨by rw [i1.dlen];exact hx.1,λ p hp=>?_⟩
 exact k _ hx.2 _ _ _ (e1.trans (zxu e1.fh hp)) (.lst (SqL.of zi0) (i1.mono (ze2 hp _)))
def R2H (K:Fg) (r:R2) (f:D->D->(D->Prop)->Prop):Prop:=∀ {F H:Hp} {x y:V} {d e:D} {Qd:D->Prop} {Q:VK},Same F H->Is K H x d->Is K H y e->f d e Qd->(∀ z,Qd z->∀ v F' H',Ext F H F' H'->Is K F' v z->Q v H')->r x y H Q
theorem zlb {r:R2} {f:D->D->(D->Prop)->Prop} (hr:R2H K r f) (ha:RfH K ta da) (hb:RfH K tb db):RfE K (tOp r ta tb) (dOp f da db):=by
 intro F H Y U Qd Q s rv h k
 refine ha s rv h λ x hx v F1 H1 e1 i1=>hb e1.fh (rv.ext e1) hx λ y hy u F2 H2 e2 i2=>?_
 exact hr e2.fh (i1.mono e2.h) i2 hy λ z hz w F3 H3 e3 i3=>k z hz w F3 H3 ((e1.trans e2).trans e3) i3
theorem q_eq:R2H K (rEqU K) fEq:=by
 intro F H x y d e Qd Q s hx hy h k
 unfold fEq at h
 split at h
 ·cases hx.int_inv;cases hy.int_inv
  refine .inl ⟨rfl,k _ h _ F H (Ext.refl s) ?_⟩
  rw [zrg];exact .bl _
 ·cases hx.str_inv;cases hy.str_inv
  refine .inl ⟨rfl,k _ h _ F H (Ext.refl s) ?_⟩
  rw [zsf];exact .bl _
 ·cases hx.bl_inv;cases hy.bl_inv
  refine .inl ⟨rfl,k _ h _ F H (Ext.refl s) ?_⟩
  rw [zzm];exact .bl _
 ·exact .inr ⟨_,_,hx,hy,h.1,h.2.1,k _ h.2.2 _ F H (Ext.refl s) (.bl _)⟩
theorem q_ne:R2H K (rNeU K) fNe:=by
 intro F H x y d e Qd Q s hx hy h k
 unfold fNe at h
 split at h
 ·cases hx.int_inv;cases hy.int_inv
  refine .inl ⟨rfl,k _ h _ F H (Ext.refl s) ?_⟩
  rw [zrg];exact .bl _
 ·cases hx.str_inv;cases hy.str_inv
  refine .inl ⟨rfl,k _ h _ F H (Ext.refl s) ?_⟩
  rw [zsf];exact .bl _
 ·cases hx.bl_inv;cases hy.bl_inv
  refine .inl ⟨rfl,k _ h _ F H (Ext.refl s) ?_⟩
  rw [zzm];exact .bl _
 ·exact .inr ⟨_,_,hx,hy,h.1,h.2.1,k _ h.2.2 _ F H (Ext.refl s) (.bl _)⟩
end
theorem zn71 (i:Int):isT "int" (.int i)=true:=rfl
theorem zh61 (i:Int):isT "bool" (.int i)=false:=by simp [isT,tyD]
theorem zt81 (i:List D):isT "list" (.list i)=true:=rfl
theorem zj61 (i:List D):isT "tuple" (.tuple i)=true:=rfl
theorem zi71 (i:Str):isT "str" (.str i)=true:=rfl
theorem zv61 (i:Int):(∀ kvs,PyData.int i≠.dict kvs)=True:=by simp
theorem zvy (i:List D):(∀ kvs,PyData.list i≠.dict kvs)=True:=by simp
theorem zw51 (i:List D):(∀ kvs,PyData.tuple i≠.dict kvs)=True:=by simp
theorem zx61 (i:Str):(∀ kvs,PyData.str i≠.dict kvs)=True:=by simp
theorem zfc1 (i:Bool):(∀ kvs,PyData.bool i≠.dict kvs)=True:=by simp
theorem za71:(∀ kvs,PyData.none≠.dict kvs)=True:=by simp
theorem zet {α:Type} {xs:List α} {f:α->D} {n:Nat} (h:∀ x∈xs,Fit n (f x)):Fit (n+1) (.list (xs.map f)):=Fit.lst λ d hd=>by
 obtain ⟨x,hx,rfl⟩:=List.mem_map.mp hd
 exact h x hx
end L4
namespace L3
open PySem PySem.Spec PyProof.Rows L2
section
variable {X:Cx}
theorem zs2 {C:Addr} {m:Str} {k:Nat} {ps:List Str} {sp:Sp} {o:Expr} {ta:TE} {apos pos:Pos} {pl:Sem Bool} (d:zh5 X.prog X.w X.K X.mg X.base C m k ps sp) (hr:Room k X.A) (he:PE X o ta)
  (ht:eval (.Call (.Attribute o m apos) [] [] pos) X.env=(do
   let ov <- eval o X.env
   standAt apos.atName
   let (f,first) <- holding [ov] (getMethod ov m pl)
   callWith pos f first (backTo pos (starEach [] X.env)) (backToKw pos (keywordEach [] X.env))):=by rfl) :
  PE X (.Call (.Attribute o m apos) [] [] pos) (zbx C m sp [] E0 ta tNil):=by
 obtain ⟨f,fd,c,M,F,b⟩:=d
 exact zdu he c M F hr b .nil zpy ht
end
end L3
namespace L4
open PySem PySem.Spec PyProof.Rows L2 L3
section
variable {K:Fg} {te ta ti tv tk tb:TE} {de da di dk db:DE} {dc:DC} {tA:TA} {dA:DF}
theorem zuy (x:Int):Builtin.bitXor x 1=x+1 - 2 * (x % 2):=by
 rw [PyProof.Rows.bitXor_and,PyProof.Rows.bitAnd_m1]
end
end L4
namespace L3
open PySem PySem.Spec PyProof.Rows L2
section
variable {X:Cx}
end
end L3
namespace L4
open PySem PySem.Spec PyProof.Rows L2 L3
section
variable {K:Fg} {te ta ti tv tk tb:TE} {de da di dk db:DE} {dc:DC} {dp:DP} {tA:TA} {dA:DF}
end
end L4
namespace L3
open PySem PySem.Spec PyProof.Rows L2
structure TopDefN (K:Fg) (x:Str) (st:Stmt):Prop where
 ex:∃ (f T:Addr) (oc:Value) (od:Option Addr) (kV doc pm:Value) (an:Option Addr) (cdv ct:Value) (osl:Array (Option Value)) (o:Obj) (n:Nat),PySem.W.nsIn K mainGlobals x=some (some (.ref f)) /\
  K.lookup f=some ⟨oc,od,.func (PySem.W.fnOf x x (zi7 st) (zu1 st) (zf0 st) (.ref T) kV doc pm an cdv ct),osl⟩/\PySem.W.codeIn K cdv x=true/\PySem.W.keepIn K (.ref f)=true/\K.lookup T=some o/\o.data=.seq #[.none] n
theorem znl {K:Fg} {x:Str} {st:Stmt} {f T:Addr} {oc:Value} {od an:Option Addr} {osl:Array (Option Value)} {kV doc pm cdv ct:Value} {o:Obj} {n:Nat} (a:PySem.W.nsIn K mainGlobals x=some (some (.ref f)))
  (l:K.lookup f=some ⟨oc,od,.func (PySem.W.fnOf x x (zi7 st) (zu1 st) (zf0 st) (.ref T) kV doc pm an cdv ct),osl⟩) (c:PySem.W.codeIn K cdv x=true) (k:PySem.W.keepIn K (.ref f)=true) (lt:K.lookup T=some o) (hd:o.data=.seq #[.none] n):TopDefN K x st :=
 ⟨f,T,oc,od,kV,doc,pm,an,cdv,ct,osl,o,n,a,l,c,k,lt,hd⟩
def DefN (P:Program) (w:World) (K:Fg) (mg:Str->Option Value) (base:Heap) (x:Str) (k:Nat) (ps:List Str) (sp:Sp):Prop :=
 ∃ f fd,FnOk P w K mg base CX0 k f fd ps sp/\Binds K fd ps []/\Binds K fd ps [.none]/\PySem.W.keepIn K (.ref f)=true/\mg x=some (.ref f)
theorem DefN.d {P:Program} {w:World} {K:Fg} {mg:Str->Option Value} {base:Heap} {x:Str} {k:Nat} {ps:List Str} {sp:Sp} (h:DefN P w K mg base x k ps sp):Def P w K mg base x k ps sp:=by
 obtain ⟨f,fd,F,b,_,kp,m⟩:=h
 exact ⟨f,fd,F,b,kp,m⟩
section
variable {P:Program} {w:World} {K:Fg} {mg:Str->Option Value} {base:Heap}
end
section
variable {X:Cx} {k:Nat} {C:Addr} {ps:List Str} {sp:Sp} {x m:Str} {p pos apos:Pos} {e o:Expr} {es:List Expr} {ta:TE} {t:TA}
end
end L3
namespace L4
open PySem PySem.Spec PyProof.Rows L2 L3
section
variable {K:Fg} {te ta ti tv tk tb:TE} {de da di dk db:DE} {dc:DC} {dp:DP} {tA:TA} {dA:DF}
end
section
variable {K:Fg} {tA:TA} {dA:DF}
end
end L4
namespace L5
open PySem PySem.Spec PyProof.Rows L2 L3 L4
theorem ar1 {α:Type} {us:List α} (h:us.length=1):∃ a,us=[a]:=by
 rcases us with _|⟨a,_|⟨b,us⟩⟩
 ·cases h
 ·exact ⟨a,rfl⟩
 ·cases h
theorem ars {α:Type} {n:Nat} {us:List α} (h:us.length=n+1):∃ a r,us=a :: r/\r.length=n:=by
 rcases us with _|⟨a,us⟩
 ·cases h
 ·exact ⟨a,us,rfl,Nat.succ.inj h⟩
theorem ar2 {α:Type} {us:List α} (h:us.length=2):∃ a b,us=[a,b]:=by
 obtain ⟨a,r,rfl,k⟩:=ars h
 obtain ⟨b,rfl⟩:=ar1 k
 exact ⟨a,b,rfl⟩
theorem ar3 {α:Type} {us:List α} (h:us.length=3):∃ a b c,us=[a,b,c]:=by
 obtain ⟨a,r,rfl,k⟩:=ars h
 obtain ⟨b,c,rfl⟩:=ar2 k
 exact ⟨a,b,c,rfl⟩
theorem ar4 {α:Type} {us:List α} (h:us.length=4):∃ a b c d,us=[a,b,c,d]:=by
 obtain ⟨a,r,rfl,k⟩:=ars h
 obtain ⟨b,c,d,rfl⟩:=ar3 k
 exact ⟨a,b,c,d,rfl⟩
theorem ar5 {α:Type} {us:List α} (h:us.length=5):∃ a b c d e,us=[a,b,c,d,e]:=by
 obtain ⟨a,r,rfl,k⟩:=ars h
 obtain ⟨b,c,d,e,rfl⟩:=ar4 k
 exact ⟨a,b,c,d,e,rfl⟩
theorem ar6 {α:Type} {us:List α} (hl:us.length=6):∃ a b c d e f,us=[a,b,c,d,e,f]:=by
 obtain ⟨a,r,rfl,k⟩:=ars hl
 obtain ⟨b,c,d,e,f,rfl⟩:=ar5 k
 exact ⟨a,b,c,d,e,f,rfl⟩
theorem ar7 {α:Type} {us:List α} (hl:us.length=7):∃ a b c d e f g,us=[a,b,c,d,e,f,g]:=by
 obtain ⟨a,r,rfl,k⟩:=ars hl
 obtain ⟨b,c,d,e,f,g,rfl⟩:=ar6 k
 exact ⟨a,b,c,d,e,f,g,rfl⟩
section
variable {prog:Program} {w:World} {A:Around} {E:Value->Shared->Prop}
end
section
variable {prog:Program} {w:World} {A:Around} {R:Result->Shared->Prop} {I:Addr} {fp wr:List Addr} {n:Nat} {P:Nat->Value->Prop} {St:Nat->Heap->Prop} {d:Value}
end
section
variable {X:Cx} {x:Str} {p pos kp:Pos} {e e2:Expr} {te te2:TE}
end
section
variable {K:Fg} {te te2:TE} {df:DE} {dd:DE}
end
section
variable {P:Program} {w:World} {K:Fg} {mg:Str->Option Value} {base:Heap} {m:Str} {k:Nat} {ta:TE} {tA:TA} {dn:DN} {dA:DF}
abbrev Tab:=List (Addr×DSpT)
theorem zp11 {F H:Hp}:∀ {vs:List V} {ds:List D},IsAll K F vs ds->ArgsR K F H vs (ds.map .d) [] none
|_,_,.nil=>.nil
|_,_,.cons h r=>.d h (zp11 r)
theorem tab3 {C1 C2 C3:Addr} {p1 p2 p3:DSpT} (h1:∃ ps,zh5 P w K mg base C1 m k ps (spT K p1)) (h2:∃ ps,zh5 P w K mg base C2 m k ps (spT K p2)) (h3:∃ ps,zh5 P w K mg base C3 m k ps (spT K p3)) :
  ∀ C p,(C,p)∈[(C1,p1),(C2,p2),(C3,p3)]->∃ ps,zh5 P w K mg base C m k ps (spT K p):=λ C p h=>by
 rcases List.mem_cons.mp h with e|h
 ·cases e;exact h1
 rcases List.mem_cons.mp h with e|h
 ·cases e;exact h2
 rcases List.mem_cons.mp h with e|h
 ·cases e;exact h3
 ·simp at h
end
section
variable {P:Program} {w:World} {K:Fg} {mg:Str->Option Value} {base:Heap} {m:Str} {k:Nat} {ta tk tx:TE} {tA:TA} {dp:DP} {dk dx:DE} {dA:DF}
def zl41 (u:T) (k x:D) (Q:D->Prop):Prop:=match u with
|.dk kvs=>∃ key,keyD k=some key/\Q ((getA kvs key).getD x)
|.dt kvs=>∃ key,keyT k=some key/\Q ((getA kvs key).getD x)
|_=>False
def zs91 (dp:DP) (dk dx:DE):DE:=λ U Q=>dp U λ _ _ u=>tyN "dict" u/\dk U λ k=>dx U λ x=>zl41 u k x Q
theorem zhy (dp:DP) (dk dx:DE) (U:DSt) (Q:D->Prop):zs91 dp dk dx U Q=(dp U λ _ _ u=>tyN "dict" u/\dk U λ k=>dx U λ x=>zl41 u k x Q):=rfl
theorem zc21 {F H:Hp} {v kv xv:V} {u:T} {fn:List Addr} {k x:D} {Qd:D->Prop} {Q:VK} (s:Same F H) (hr:Rt K F H v u fn) (hk:Is K F kv k) (hx:Is K F xv x) (hf:zl41 u k x Qd) (q:∀ d y,Qd d->Is K F y d->Q y H):zdv v [kv,xv] H Q:=by
 cases hr with
|dk h1 h2 h3 =>
  obtain ⟨key,ek,qd⟩:=hf
  have:=zwq hk ek
  subst this
  rcases h3.get (k:=key) with ⟨g1,g2⟩|⟨d',y,g1,g2,g3⟩
  ·rw [g1] at qd
   exact ⟨_,_,_,none,rfl,rfl,by rw [<- g2];exact DGet.k h1,q _ _ qd hx⟩
  ·rw [g1] at qd
   exact ⟨_,_,_,some y,rfl,rfl,by rw [<- g2];exact DGet.k h1,q _ _ qd g3⟩
|dt h1 h2 h3 =>
  obtain ⟨key,ek,qd⟩:=hf
  obtain ⟨kb,rfl,hb⟩:=zek hk ek
  rcases h3.get (k:=key) with ⟨g1,g2⟩|⟨d',y,g1,g2,g3⟩
  ·rw [g1] at qd
   exact ⟨_,_,_,none,rfl,rfl,by rw [<- g2];exact DGet.t h1 (s _ _ hb),q _ _ qd hx⟩
  ·rw [g1] at qd
   exact ⟨_,_,_,some y,rfl,rfl,by rw [<- g2];exact DGet.t h1 (s _ _ hb),q _ _ qd g3⟩
|fz _=>exact hf.elim
|li _ _ _=>exact hf.elim
|ls _ _ _=>exact hf.elim
|ob _ _ _ _ _=>exact hf.elim
|tp _ _ _=>exact hf.elim
theorem zj11 (hp:RfP K ta dp) (hk:RfE K tk dk) (hx:RfE K tx dx):RfE K (tBMU K "dict" zdv ta (zk2 tk (zk2 tx tNil))) (zs91 dp dk dx):=by
 intro F H Y U Qd Q s rv hd kk
 refine hp s rv hd λ i p u hu v F1 H1 e1 at1=>?_
 have rv1:=rv.ext e1
 obtain ⟨fn,hr⟩:=at1.rt rv1
 refine ⟨zy61 hr hu.1,hk e1.fh rv1 hu.2 λ kd hkd kv F2 H2 e2 i2=>hx e2.fh (rv1.ext e2) hkd λ xd hxd xv F3 H3 e3 i3=>?_⟩
 have e13:=(e1.trans e2).trans e3
 exact zc21 e3.fh ((hr.ext e2).ext e3) (i2.mono e3.f) i3 hxd λ d y qd iy=>kk d qd y F3 H3 e13 iy
def zn21 (m:Str) (tab:Tab) (dp:DP) (dA:DF):DN:=λ U Q=>dp U λ _ _ u=>match u with
|.ob C fs=>noM m (.ob C fs)/\∃ p,(C,p)∈tab/\dA U λ ds=>p (.b (.ob C fs) :: ds.map .d) λ r _=>Q r
|_=>False
theorem zhw (m:Str) (tab:Tab) (dp:DP) (dA:DF) (U:DSt) (Q:T->Prop):zn21 m tab dp dA U Q=(dp U λ _ _ u=>match u with
|.ob C fs=>noM m (.ob C fs)/\∃ p,(C,p)∈tab/\dA U λ ds=>p (.b (.ob C fs) :: ds.map .d) λ r _=>Q r
|_=>False):=rfl
theorem ztv {tab:Tab} (ht:∀ C p,(C,p)∈tab->∃ ps,zh5 P w K mg base C m k ps (spT K p)) (h1:RfP K ta dp) (h2:RfA K tA dA):RfN K (zh11 P w K mg base m k ta tA) (zn21 m tab dp dA):=by
 intro F H Y U Qd Q s rv hd kk
 refine h1 s rv hd λ i q u hu v F1 H1 e1 at1=>?_
 have rv1:=rv.ext e1
 obtain ⟨fn,r1,nd1⟩:=at1.rtV rv1
 cases r1 with
|ob g1 g2 g3 g4 g5 =>
  rename_i a C dx' kvs fs fp'
  obtain ⟨nm,p,hp,hq⟩:=hu
  obtain ⟨ps,md⟩:=ht C p hp
  refine ⟨a,C,dx',kvs,ps,_,rfl,g1,(g5.keys m).1 nm,md,h2 e1.fh rv1 hq λ ds hds vs F2 H2 e2 i2=>?_⟩
  have r2:Rt K F2 H2 (.ref a) (.ob C fs) (a :: dx' :: fp'):=(Rt.ob g1 g2 g3 g4 g5).ext e2
  have e12:=e1.trans e2
  refine ⟨F2,_,_,none,_,e2.fh,.b r2 nd1 (zp11 i2),(λ b hb=>by simp [ofp] at hb),hds,λ r2 t2 q2 v F' H' fpr fpo post=>?_⟩
  exact kk _ q2 v F' H' fpr (e12.trans ⟨λ b o hb=>post.hh b o (by simp [ofp]) hb,post.ff,post.fh,post.nw⟩) post.rt post.nd λ b hb=>zn1 e12 (post.fr b hb)
|fz _=>exact hu.elim
|li _ _ _=>exact hu.elim
|ls _ _ _=>exact hu.elim
|dk _ _ _=>exact hu.elim
|dt _ _ _=>exact hu.elim
|tp _ _ _=>exact hu.elim
end
end L5
namespace L5
open PySem
abbrev nB (a b:String):Prop:=(Str.ofString a==Str.ofString b)=false
abbrev nE (a b:String):Prop:=(Str.ofString a=Str.ofString b)=False
theorem nN {a b:String} (h:nB a b):nE a b:=eq_false (beq_eq_false_iff_ne.mp h)
theorem zc8:nB "wide" "since":=by decide +kernel
theorem zi8:nB "wide" "other":=by decide +kernel
theorem zva:nB "wide" "turn":=by decide +kernel
theorem zxf:nB "since" "wide":=by decide +kernel
theorem zzg:nB "other" "wide":=by decide +kernel
theorem za8:nB "other" "turn":=by decide +kernel
theorem zyi:nB "turn" "wide":=by decide +kernel
theorem zsg:nB "turn" "other":=by decide +kernel
theorem zaa:nB "width_at" "wide":=by decide +kernel
theorem zm8:nB "width_at" "since":=by decide +kernel
theorem zs8:nB "width_at" "other":=by decide +kernel
theorem zv9:nB "width_at" "turn":=by decide +kernel
theorem zdf:nE "wide" "since":=nN zc8
theorem zag:nE "wide" "other":=nN zi8
theorem zwh:nE "wide" "turn":=nN zva
theorem zff:nE "other" "turn":=nN za8
theorem zv6:nB "rooms" "lying":=by decide +kernel
theorem zc7:nB "rooms" "pipes":=by decide +kernel
theorem zs6:nB "rooms" "gates":=by decide +kernel
theorem zx5:nB "rooms" "moment":=by decide +kernel
theorem zx4:nB "rooms" "entered":=by decide +kernel
theorem zo5:nB "rooms" "coming":=by decide +kernel
theorem zte:nB "lying" "rooms":=by decide +kernel
theorem zr6:nB "lying" "pipes":=by decide +kernel
theorem za7:nB "lying" "gates":=by decide +kernel
theorem zv5:nB "lying" "moment":=by decide +kernel
theorem zr4:nB "lying" "entered":=by decide +kernel
theorem zt5:nB "lying" "coming":=by decide +kernel
theorem zdd:nB "pipes" "rooms":=by decide +kernel
theorem zz6:nB "pipes" "lying":=by decide +kernel
theorem zq6:nB "pipes" "gates":=by decide +kernel
theorem zc6:nB "pipes" "moment":=by decide +kernel
theorem zn4:nB "pipes" "entered":=by decide +kernel
theorem zw5:nB "pipes" "coming":=by decide +kernel
theorem zne:nB "gates" "rooms":=by decide +kernel
theorem zh7:nB "gates" "lying":=by decide +kernel
theorem zkd:nB "gates" "pipes":=by decide +kernel
theorem zy5:nB "gates" "moment":=by decide +kernel
theorem zk4:nB "gates" "entered":=by decide +kernel
theorem zn5:nB "gates" "coming":=by decide +kernel
theorem zdc:nB "moment" "rooms":=by decide +kernel
theorem zu5:nB "moment" "lying":=by decide +kernel
theorem zob:nB "moment" "pipes":=by decide +kernel
theorem zeb:nB "moment" "gates":=by decide +kernel
theorem zb4:nB "moment" "entered":=by decide +kernel
theorem zl4:nB "moment" "coming":=by decide +kernel
theorem zpa:nB "entered" "rooms":=by decide +kernel
theorem zq4:nB "entered" "lying":=by decide +kernel
theorem zka:nB "entered" "pipes":=by decide +kernel
theorem zya:nB "entered" "gates":=by decide +kernel
theorem zy3:nB "entered" "moment":=by decide +kernel
theorem zs3:nB "entered" "coming":=by decide +kernel
theorem zib:nB "coming" "rooms":=by decide +kernel
theorem zk5:nB "coming" "lying":=by decide +kernel
theorem zqb:nB "coming" "pipes":=by decide +kernel
theorem zhc:nB "coming" "gates":=by decide +kernel
theorem zm4:nB "coming" "moment":=by decide +kernel
theorem zx3:nB "coming" "entered":=by decide +kernel
theorem zih:nB "now" "rooms":=by decide +kernel
theorem zaj:nB "now" "lying":=by decide +kernel
theorem zrh:nB "now" "pipes":=by decide +kernel
theorem zti:nB "now" "gates":=by decide +kernel
theorem zjf:nB "now" "moment":=by decide +kernel
theorem zre:nB "now" "entered":=by decide +kernel
theorem zyg:nB "now" "coming":=by decide +kernel
theorem zid:nB "holds" "rooms":=by decide +kernel
theorem zfd:nB "holds" "lying":=by decide +kernel
theorem zse:nB "holds" "pipes":=by decide +kernel
theorem zmd:nB "holds" "gates":=by decide +kernel
theorem zyb:nB "holds" "moment":=by decide +kernel
theorem zfa:nB "holds" "entered":=by decide +kernel
theorem zpb:nB "holds" "coming":=by decide +kernel
theorem zr7:nB "under_way" "rooms":=by decide +kernel
theorem zq7:nB "under_way" "lying":=by decide +kernel
theorem zl7:nB "under_way" "pipes":=by decide +kernel
theorem zp7:nB "under_way" "gates":=by decide +kernel
theorem zf7:nB "under_way" "moment":=by decide +kernel
theorem zd6:nB "under_way" "entered":=by decide +kernel
theorem zy6:nB "under_way" "coming":=by decide +kernel
theorem zp9:nB "room_in" "rooms":=by decide +kernel
theorem zl9:nB "room_in" "lying":=by decide +kernel
theorem zqa:nB "room_in" "pipes":=by decide +kernel
theorem zoa:nB "room_in" "gates":=by decide +kernel
theorem zq8:nB "room_in" "moment":=by decide +kernel
theorem zt7:nB "room_in" "entered":=by decide +kernel
theorem zn8:nB "room_in" "coming":=by decide +kernel
theorem zef:nB "full" "rooms":=by decide +kernel
theorem zeh:nB "full" "lying":=by decide +kernel
theorem zfh:nB "full" "pipes":=by decide +kernel
theorem zng:nB "full" "gates":=by decide +kernel
theorem zoe:nB "full" "moment":=by decide +kernel
theorem zcc:nB "full" "entered":=by decide +kernel
theorem zde:nB "full" "coming":=by decide +kernel
theorem zoh:nB "let" "rooms":=by decide +kernel
theorem zxh:nB "let" "lying":=by decide +kernel
theorem zbi:nB "let" "pipes":=by decide +kernel
theorem zci:nB "let" "gates":=by decide +kernel
theorem zhf:nB "let" "moment":=by decide +kernel
theorem znd:nB "let" "entered":=by decide +kernel
theorem ztf:nB "let" "coming":=by decide +kernel
theorem zce:nB "go_on" "rooms":=by decide +kernel
theorem zie:nB "go_on" "lying":=by decide +kernel
theorem zje:nB "go_on" "pipes":=by decide +kernel
theorem zqe:nB "go_on" "gates":=by decide +kernel
theorem zgb:nB "go_on" "moment":=by decide +kernel
theorem zxa:nB "go_on" "entered":=by decide +kernel
theorem zfb:nB "go_on" "coming":=by decide +kernel
theorem zaf:nE "rooms" "lying":=nN zv6
theorem zle:nE "rooms" "pipes":=nN zc7
theorem zze:nE "rooms" "gates":=nN zs6
theorem zkb:nE "rooms" "moment":=nN zx5
theorem zra:nE "rooms" "entered":=nN zx4
theorem zsb:nE "rooms" "coming":=nN zo5
theorem zpd:nE "lying" "pipes":=nN zr6
theorem zbd:nE "lying" "gates":=nN za7
theorem zzb:nE "lying" "moment":=nN zv5
theorem zua:nE "lying" "entered":=nN zr4
theorem znb:nE "lying" "coming":=nN zt5
theorem zue:nE "pipes" "lying":=nN zz6
theorem zsd:nE "pipes" "gates":=nN zq6
theorem zxb:nE "pipes" "moment":=nN zc6
theorem zq9:nE "pipes" "entered":=nN zn4
theorem zgc:nE "pipes" "coming":=nN zw5
theorem zwd:nE "gates" "lying":=nN zh7
theorem ztb:nE "gates" "moment":=nN zy5
theorem zg9:nE "gates" "entered":=nN zk4
theorem zhb:nE "gates" "coming":=nN zn5
theorem zjb:nE "moment" "lying":=nN zu5
theorem zl8:nE "moment" "entered":=nN zb4
theorem zo9:nE "moment" "coming":=nN zl4
theorem zab:nE "entered" "lying":=nN zq4
theorem zp8:nE "entered" "moment":=nN zy3
theorem zk8:nE "entered" "coming":=nN zs3
theorem zfc:nE "coming" "lying":=nN zk5
theorem zj9:nE "coming" "moment":=nN zm4
theorem zu8:nE "coming" "entered":=nN zx3
end L5
namespace L3
open PySem PySem.Spec PyProof.Rows L2
section
variable {s:Shared} {w:World} {prog:Program} {E:Value->Shared->Prop} {A:Around}
theorem zax {d:Addr} {od:Obj} {Q:Value->Shared->Prop} (go:s.heap.get? d=some od) (gc:od.cls=.type "dict") (gs:(d == sysModules)=false)
  (h:Q (.ref s.heap.objs.size) { s with heap:=s.heap.push { cls:=.type "dict_items",data:=.fields #[.ref d] } }):wpAny (model prog w) A (call (.builtin "dict.items") [.ref d]) Q E s:=by
 refine wpAny_call_entry PySem.F.slot_dict_items ⟨od,go,gc⟩ PySem.F.entry_dict_items ?_ (PySem.F.args_dict_items_1 _)
 unfold Builtin.«dict.items» Builtin.Dict.noArgs
 refine wpAny_bind (wpAny_bind (wpAny_notOrdered_dict ⟨od,go,gc⟩ (wpAny_pure ?_)))
 unfold Builtin.Dict.showsAll
 refine wpAny_bind ?_
 rw [gs,if_neg Bool.false_ne_true]
 exact wpAny_pure (wpAny_bind (wpAny_newObj_type (wpAny_pure ⟨_,rfl,h⟩)))
abbrev itF (d:Addr) (i n ep:Nat) (x k v:Value):Array Value:=#[x,.bool false,.ref d,.int i 0,.int n 0,.int ep 0,k,v]
theorem owns:Builtin.Dict_items.ownsTuple "dict_itemiterator"=true:=by decide
theorem zsu {v d:Addr} {od:Obj} {es:Array DictEntry} {ep:Nat} {Q:Value->Shared->Prop} (gv:s.heap.IsItemsView v d) (go:s.heap.get? d=some od) (gd:od.data=.dict es ep)
  (q:Q (.ref s.heap.objs.size) { s with heap:=s.heap.push { cls:=.type "dict_itemiterator",data:=.fields (itF d 0 es.size ep .none .none .none) } }):wpAny (model prog w) A (pyIter (.ref v)) Q E s:=by
 refine wpAny_pyIter_slot gv.typeIs F.slot_dict_items_iter (wpAny_call_entry F.slot_dict_items_iter gv.typeIs F.entry_dict_items_iter ?_ (F.args_dict_items_iter_1 _))
 obtain ⟨vo,v1,v2,v3⟩:=gv
 unfold Builtin.«dict_items.__iter__» Builtin.Dict_items.dictOf Builtin.Dict_items.newIterator
 refine wpAny_bind (wpAny_pure (wpAny_bind (wpAny_bind (wpAny_field v1 v3 (x:=.ref d) rfl (wpAny_pure ?_)))))
 refine wpAny_bind (wpAny_bind (wpAny_dictEntries go gd (wpAny_bind (wpAny_dictEpoch go gd ?_))))
 simp only [owns,if_true]
 refine wpAny_newObj_type (hd:=?_) (wpAny_pure ⟨_,rfl, "dict_itemiterator",_,⟨_,Heap.get?_push_size _ rfl,rfl⟩,F.slot_dict_itemiterator_next.lookup,?_⟩)
 ·simpa [rawInt,Builtin.Dict_items.ownedTupleFields,itF] using q
 ·simp [sizeOk,Builtin.Dict_items.ownedTupleFields,sizeLine_eq]
theorem zwg {it d:Addr} {od:Obj} {es:Array DictEntry} {i ep:Nat} {k0 v0:Value} {Q:Option Value->Shared->Prop} (calm:A.handled=none) (gi:IsItemIter s.heap it d i es.size ep k0 v0) (go:s.heap.get? d=some od) (gd:od.data=.dict es ep)
  (q1:∀ (lt:i < es.size) (h':Heap),IsItemIterOut h' it d (i+1) es.size ep es[i].key es[i].val s.heap.objs.size->h'.get? s.heap.objs.size=some { cls:=.type "tuple",data:=.seq #[es[i].key,es[i].val] } ->
   (∀ b o,b≠it->s.heap.get? b=some o->h'.get? b=some o)->Q (some (.ref s.heap.objs.size)) { s with heap:=h' })
  (q2:es.size<=i->∀ h':Heap,Heap.ExtBut it s.heap h'->Q none { s with heap:=h' }):wpAny (model prog w) A (pyNext (.ref it)) Q E s:=by
 have ty:s.TypeIs (.ref it) "dict_itemiterator":=⟨_,gi,rfl⟩
 unfold pyNext
 refine wpAny_bind (wpAny_attempt (wpAny_callSpecial?_slot (name:=Str.ofString "__next__") ty F.slot_dict_itemiterator_next (wpAny_call_entry F.slot_dict_itemiterator_next ty F.entry_dict_itemiterator_next ?_ (F.args_dict_itemiterator_next_1 _))))
 refine wpAny_bind (wpAny_pure (wpAny_bind (wpAny_bind (wpAny_bind (wpAny_typeNameOfWhole_itemiter ty (wpAny_pure (wpAny_bind (wpAny_fieldsOf gi rfl ?_))))))))
 simp only [owns,if_true]
 refine (show wpAny _ _ (if (Value.ref d == Value.none)=true then pure none else _) _ _ _ from ?_)
 rw [if_neg (show ¬ (Value.ref d == Value.none)=true from nofun)]
 refine wpAny_bind (wpAny_pure (wpAny_bind (wpAny_dictEntries go gd ?_)))
 rw [if_neg (by simp)]
 refine wpAny_bind (wpAny_pure (wpAny_bind (wpAny_dictEpoch go gd ?_)))
 rw [if_neg (by simp)]
 refine wpAny_pure ?_
 rcases Nat.lt_or_ge i es.size with lt|ge
 ·simp only [Array.getElem?_eq_getElem lt,Int.toNat_natCast,if_neg (Int.not_lt.mpr (Int.natCast_nonneg i))]
  refine wpAny_bind (wpAny_bind (wpAny_typeNameOfWhole_itemiter ty (wpAny_pure (wpAny_bind (wpAny_isOneOf_itemiter ty ?_)))))
  have il:it < s.heap.objs.size:=Heap.lt_size gi
  refine wpAny_bind (show wpAny _ _ (setField (.ref it) 3 (rawInt ((i:Int)+1))) _ _ _ from wpAny_setField_rec gi (by simp) λ a1 e1 c1=>?_)
  have c1:Heap.SameBut it s.heap a1:=c1
  have e1:IsItemIter a1 it d (i+1) es.size ep k0 v0:=by
   simpa [IsItemIter,rawInt] using e1
  have ty1:Shared.TypeIs { s with heap:=a1 } (.ref it) "dict_itemiterator":=⟨_,e1,rfl⟩
  refine wpAny_bind (wpAny_holding (wpAny_bind (wpAny_isOneOf_itemiter ty1 (wpAny_bind (wpAny_isOneOf_itemiter ty1 (show wpAny _ _ (Builtin.Dict_items.pairFromOwner (.ref it) 6 es[i].key es[i].val) _ _ _ from ?_))))))
  unfold Builtin.Dict_items.pairFromOwner Builtin.Dict_items.ownedTupleIsFree
  refine wpAny_bind (wpAny_newTuple ?_)
  obtain ⟨a2,za2⟩:∃ a2,a2=a1.push { cls:=.type "tuple",data:=.seq #[es[i].key,es[i].val] }:=⟨_,rfl⟩
  have e2:IsItemIter a2 it d (i+1) es.size ep k0 v0:=by rw [za2];exact Heap.get?_push_of_some _ e1
  have t2:a2.get? s.heap.objs.size=some { cls:=.type "tuple",data:=.seq #[es[i].key,es[i].val] }:=by rw [za2,<- c1.1];exact Heap.get?_push_size _ rfl
  have p2:∀ b o,b≠it->s.heap.get? b=some o->a2.get? b=some o:=λ b o n z=>by rw [za2];exact Heap.get?_push_of_some _ (c1.extBut b o n z)
  rw [show a1.objs.size=s.heap.objs.size from c1.1]
  refine wpAny_bind (show wpAny _ _ _ _ _ { s with heap:=a1.push { cls:=.type "tuple",data:=.seq #[es[i].key,es[i].val] } } from ?_)
  rw [<- za2]
  clear za2 e1 ty1 c1
  refine wpAny_bind (wpAny_field e2 rfl (x:=.none) rfl (wpAny_pure ?_))
  simp only [if_true]
  refine wpAny_bind (wpAny_field e2 rfl (x:=k0) rfl (wpAny_bind (wpAny_field e2 rfl (x:=v0) rfl (wpAny_bind (wpAny_setField_rec e2 (by simp) λ a3 e3 c3=>?_)))))
  have e3:IsItemIter a3 it d (i+1) es.size ep es[i].key v0:=e3
  refine wpAny_bind (wpAny_setField_rec e3 (by simp) λ a4 e4 c4=>?_)
  have e4:IsItemIter a4 it d (i+1) es.size ep es[i].key es[i].val:=e4
  refine wpAny_bind (wpAny_setField_rec e4 (by simp) λ a5 e5 c5=>?_)
  have e5:IsItemIterOut a5 it d (i+1) es.size ep es[i].key es[i].val s.heap.objs.size:=e5
  refine wpAny_bind (wpAny_setField_rec e5 (by simp) λ a6 e6 c6=>?_)
  have e6:IsItemIterOut a6 it d (i+1) es.size ep es[i].key es[i].val s.heap.objs.size:=e6
  have keep:∀ b o,b≠it->a2.get? b=some o->a6.get? b=some o:=λ b o n z=>c6.extBut b o n (c5.extBut b o n (c4.extBut b o n (c3.extBut b o n z)))
  exact wpAny_bind (wpAny_letGo (wpAny_pure (wpAny_pure ⟨_,rfl,wpAny_pure (q1 lt a6 e6 (keep _ _ (Nat.ne_of_gt il) t2) λ b o n z=>keep b o n (p2 b o n z))⟩)))
 ·simp only [Array.getElem?_eq_none ge,Int.toNat_natCast,if_neg (Int.not_lt.mpr (Int.natCast_nonneg i))]
  refine wpAny_bind (wpAny_bind (wpAny_typeNameOfWhole_itemiter ty (wpAny_pure (wpAny_bind (show wpAny _ _ (setField (.ref it) 2 .none) _ _ _ from wpAny_setField gi rfl (by simp) ?_)))))
  refine wpAny_bind (show wpAny _ _ (newExc (.type "StopIteration") []) _ _ _ from ?_)
  simp only [newExc,newTuple]
  refine wpAny_bind (wpAny_newObj_type (hd:=by size_fits) (wpAny_bind (m:=firstArgMember _ _) (wpAny_of_eq (a:=Value.none) (by rfl) (wpAny_newObj_type (hd:=by size_fits) ?_))))
  simp only [raiseNew]
  refine wpAny_bind (wpAny_handled ?_)
  rw [show A.in1.handled=none from calm]
  refine wpAny_bind (wpAny_pure (wpAny_throw ?_));refine wpAny_bind (wpAny_isInstance (b:=true) (T := "StopIteration") ⟨_,Heap.get?_push_size _ rfl,rfl⟩ isSubtype_stop (wpAny_pure (q2 ge _ ?_)))
  exact ((Heap.SameBut.update ..).extBut.push _).push _
end
section
variable {X:Cx} {pins:List (Addr×Obj)} {Y:L2.St} {H:Hp} {s:Shared} {a:Addr} {u:HO} {o:Obj}
theorem zt71 (I:L2.Inv X pins Y H s) (mu:Mut (H a)) (e:H a=some u) (ho:s.heap.get? a=some o):L2.Inv X pins Y (upd H a (.frz o u)) s:=by
 have nown:∀ c y,H c=some (.own y)->c≠a:=λ c y r z=>by subst z;rw [r] at mu;exact mu
 have ntup:∀ c xs,H c=some (.tup xs)->c≠a:=λ c xs r z=>by subst z;rw [r] at mu;exact mu
 refine I.write (s:=s) (t':=s.toks) (h':=s.heap) (e:=a) mu (.inl rfl) (λ _ _ _ q=>q) ⟨o,ho⟩ ⟨ho,?_⟩
 exact (I.hok a u e).stay (λ _ _ _ q=>q) (λ c r=>by rw [zj0 (nown c a r)];exact r) λ c xs r=>by rw [zj0 (ntup c xs r)];exact r
theorem thaw (I:L2.Inv X pins Y H s) (e:H a=some (.frz o u)) (h0:∀ ob v,X.H₀ a≠some (.frz ob v)):L2.Inv X pins Y (upd H a u) s:=by
 have ne:∀ b,H b=none->b≠a:=λ b n z=>by subst z;rw [e] at n;cases n
 have nt:∀ b xs,H b=some (.tup xs)->b≠a:=λ b xs n z=>by subst z;rw [e] at n;cases n
 have no:∀ b y,H b=some (.own y)->b≠a:=λ b y n z=>by subst z;rw [e] at n;cases n
 refine ⟨I.ok,I.os,I.bare,⟨I.base.keep,I.base.slot,λ b ob q n hx=>?_,I.base.there,λ b xs q=>?_,λ b ob v q=>?_,λ b ps q=>?_⟩,I.loc,I.cell,by rw [zj0 (ne _ I.free)];exact I.free,λ x c q=>by rw [zj0 (ne _ (I.freeC x c q))];exact I.freeC x c q,λ p hp=>?_,λ b v q=>?_,I.len⟩
 ·have:=I.base.free b ob q n hx
  rw [zj0 (ne b this)];exact this
 ·have:=I.base.tups b xs q
  rw [zj0 (nt b xs this)];exact this
 ·have:=I.base.frzs b ob v q
  have hb:b≠a:=λ z=>by subst z;exact h0 ob v q
  rw [zj0 hb];exact this
 ·obtain ⟨m,hm⟩:=I.base.tbls b ps q
  exact ⟨m,by rw [zj0 (λ z=>by subst z;rw [e] at hm;cases hm)];exact hm⟩
 ·obtain ⟨p1,p2,p3⟩:=I.pin p hp
  exact ⟨p1,by rw [zj0 (ne _ p2)];exact p2,p3⟩
 ·by_cases hb:b=a
  ·subst hb
   rw [zi0] at q;cases q
   exact (I.hok b _ e).2.stay (λ _ _ _ q=>q) (λ c r=>by rw [zj0 (no c b r)];exact r) λ c xs r=>by rw [zj0 (nt c xs r)];exact r
  ·rw [zj0 hb] at q
   exact (I.hok b v q).stay (λ _ _ _ q=>q) (λ c r=>by rw [zj0 (no c b r)];exact r) λ c xs r=>by rw [zj0 (nt c xs r)];exact r
end
def Itd (a:Addr) (o:Obj) (kvs:List (List Key×V)):It:=⟨λ i H=>H a=some (.frz o (.dT kvs))/\i < kvs.length,
 λ i H x H'=>∃ k v b p,kvs[i]?=some (k,v)/\H b=some (.tup (k.map kV))/\H p=none/\x=.ref p/\H'=upd H p (.tup [.ref b,v]),λ i H=>H a=some (.frz o (.dT kvs))/\kvs.length<=i⟩
theorem zy51 {H:Hp}:∀ {kvs:List (List Key×V)} {xs:List (List Key×Addr×Value)} {i:Nat} {k:List Key} {v:V},KT H kvs xs->kvs[i]?=some (k,v)->∃ b u,xs[i]?=some (k,b,u)/\H b=some (.tup (k.map kV))/\RelV v u:=by
 intro kvs xs i k v h
 induction h generalizing i with
|nil=>intro e;simp at e
|@cons p q ps qs hq t ih =>
  intro e
  cases i with
 |zero =>
   simp at e
   subst e
   obtain ⟨q1,q2,q3⟩:=q
   obtain ⟨h1,h2,h3⟩:=hq
   dsimp only at h1 h2 h3
   subst h1
   exact ⟨q2,q3,rfl,h2,h3⟩
 |succ i=>simp at e ⊢;exact ih e
theorem zjm {P:Program} {w:World} {K:Fg} {elts:List Expr} {c:_} {pos:Pos} {a it:Addr} {o:Obj} {kvs:List (List Key×V)} {es:Array DictEntry} {ep:Nat} (hd:o.data=.dict es ep) :
  Turn P w K (.Tuple elts c pos) (Itd a o kvs) [it] it (λ i h=>∃ ok ov,IsItemIter h it a i es.size ep ok ov) where
 mem:=by simp
 obj:=λ i h S b hb=>by
  obtain ⟨ok,ov,he⟩:=S
  simp at hb
  subst hb
  exact ⟨_,he,λ v q=>by cases q⟩
 keep:=λ i h h' S k=>by
  obtain ⟨ok,ov,he⟩:=S
  exact ⟨ok,ov,k _ (by simp) _ he⟩
 item:=by
  intro X hP hw hK hc i pins s Y H E I hf S hg
  subst hP hw hK
  obtain ⟨ok,ov,he⟩:=S
  obtain ⟨hq,hlt⟩:=hg
  obtain ⟨ho,hdt⟩:=(show ObjOk X.prog X.w H s.heap a (.frz o (.dT kvs)) from I.hok a _ hq)
  obtain ⟨z,_,xs,r,o',es',ep',h1,h2,h3,h4,h5⟩:=hdt
  rw [ho] at h1;cases h1
  rw [hd] at h3;cases h3
  have hx:kvs[i]?=some (kvs[i].1,kvs[i].2):=by rw [List.getElem?_eq_getElem hlt]
  obtain ⟨kb,u,g1,g2,g3⟩:=zy51 r hx
  have hes:i < es.size:=by
   rw [<- Array.length_toList,h4,List.length_map]
   exact (List.getElem?_eq_some_iff.mp g1).1
  have hent:es[i]=entryOfKey (tupleKind (zw1 X.prog X.w)) (kvs[i].1,kb,u):=by
   have e1:es.toList[i]?=some (entryOfKey (tupleKind (zw1 X.prog X.w)) (kvs[i].1,kb,u)):=by rw [h4,List.getElem?_map,g1];rfl
   rw [Array.getElem?_toList,Array.getElem?_eq_getElem hes] at e1
   exact Option.some.inj e1
  have ek:es[i].key=.ref kb:=by rw [hent];rfl
  have ev:es[i].val=u:=by rw [hent];rfl
  refine zwg (I.ok.hd hc) he ho hd (λ _ h' ho' ht hk=>?_) λ ge=>absurd hes (Nat.not_lt.mpr ge)
  rw [ek,ev] at ho' ht
  have iL:it < s.heap.objs.size:=Heap.lt_size he
  have hfr:=I.hok.fresh (Nat.le_refl s.heap.objs.size)
  have I1:L2.Inv X pins Y (upd H s.heap.objs.size (.tup [.ref kb,kvs[i].2])) { s with heap:=s.heap.push { cls:=.type "tuple",data:=.seq #[.ref kb,u] },toks:=s.toks } :=
   I.laid (t':=s.toks) (o:=.tup [.ref kb,kvs[i].2]) (λ b ob q=>Heap.get?_push_of_some _ q) (Nat.le_refl _) ⟨by show 2<=sizeLine;rw [sizeLine_eq];decide,[.ref kb,u],.cons rfl (.cons g3 .nil),IsTup.new _ _⟩
  have fi:=hf it (by simp)
  have fi1:FpOk X pins (upd H s.heap.objs.size (.tup [.ref kb,kvs[i].2])) it:=⟨by rw [zj0 (Nat.ne_of_lt iL)];exact fi.1,fi.2⟩
  have I2:L2.Inv X pins Y (upd H s.heap.objs.size (.tup [.ref kb,kvs[i].2])) { s with heap:=h',toks:=s.toks } :=
   zbt (a:=it) (c:=it) (s:={ s with heap:=s.heap.push { cls:=.type "tuple",data:=.seq #[.ref kb,u] },toks:=s.toks }) I1 (λ b o nb1 nb2 q=>by
    by_cases z:b=s.heap.objs.size
    ·subst z
     have q':(s.heap.push { cls:=.type "tuple",data:=.seq #[.ref kb,u] }).get? s.heap.objs.size=some o:=q
     rw [Heap.get?_push_size _ rfl] at q'
     cases q'
     exact ht
    ·exact hk b o nb1 (zgt q z)) fi1 fi1
  refine ⟨.ref s.heap.objs.size,rfl,wpAny_letOwnedTupleGo_items ho' λ h2' he2 hs2=>?_⟩
  exact ⟨.ref s.heap.objs.size,_,zqr (tk:=s.toks) I2 fi1 hs2,rfl,⟨_,_,kb,s.heap.objs.size,hx,g2,hfr,rfl,rfl⟩,⟨_,_,he2⟩,λ b hb=>by simp at hb;subst hb;exact fi1.1⟩
 done:=by
  intro X hP hw hK hc i pins s Y H E I hf S hg
  subst hP hw hK
  obtain ⟨ok,ov,he⟩:=S
  obtain ⟨hq,hge⟩:=hg
  obtain ⟨ho,hdt⟩:=(show ObjOk X.prog X.w H s.heap a (.frz o (.dT kvs)) from I.hok a _ hq)
  obtain ⟨z,_,xs,r,o',es',ep',h1,h2,h3,h4,h5⟩:=hdt
  rw [ho] at h1;cases h1
  rw [hd] at h3;cases h3
  have hl:kvs.length=xs.length:=r.length
  have hz:es.size=xs.length:=by rw [<- Array.length_toList,h4,List.length_map]
  exact zwg (I.ok.hd hc) he ho hd (λ lt=>absurd lt (by lia)) λ _ h' eb=>⟨rfl,zyx (tk:=s.toks) I (hf it (by simp)) eb⟩
 self:=λ _ _ _ _ _ S h=>PySem.W.kcp_self S.choose_spec.choose_spec h
section
variable {X:Cx} {elts:List Expr}
def zc61 (v:V) (H:Hp) (R:It->Hp->Prop):Prop:=∃ a kvs,v=.ref a/\H a=some (.dT kvs)/\∀ o,R (Itd a o kvs) (upd H a (.frz o (.dT kvs)))
def zs01 (te:TE):TI:=λ Y H R=>te Y H λ v H1=>zc61 v H1 R
theorem zmu {c:_} {tpos:Pos} {o:Expr} {te:TE} {apos cpos:Pos} (ho:PE X o te) (hbase:attributeBase o "items" X.env (eval o X.env)=eval o X.env:=by rfl) (hline:(apos.endLine == cpos.line)=true:=by rfl) :
  PI X (.Tuple elts c tpos) (.Call (.Attribute o "items" apos) [] [] cpos) (zs01 te):=by
 intro pins s Y H R I h
 refine wpAny_Call_method0_late hbase hline (thn (ho pins s Y H _ I h) λ v s1 hz=>?_)
 obtain ⟨x,H1,I1,r1,a,kvs,ex,e,q⟩:=hz
 subst ex
 obtain rfl:v=Value.ref a:=r1
 obtain ⟨t1,t2,hm⟩:=zc71 I1 (.inr ⟨kvs,.inl e⟩)
 obtain ⟨z,_,xs,r,od,es,ep,h1,h2,h3,h4,h5⟩:=(show ObjOk X.prog X.w H1 s1.heap a (.dT kvs) from I1.hok a _ e)
 refine ⟨"dict", "dict.items",PySem.F.plainAttrs_dict,PySem.F.slot_dict_items,PySem.F.type_dict_items,t1,t2,Calls.callWith_builtin rfl (PySem.evalArgs_none (zax h1 h2.1 hm ?_))⟩
 have aL:a < s1.heap.objs.size:=Heap.lt_size h1
 have ha2:(s1.heap.push { cls:=.type "dict_items",data:=.fields #[.ref a] }).get? a=some od:=Heap.get?_push_of_some _ h1
 refine zsu (d:=a) (es:=es) (ep:=ep) ⟨_,Heap.get?_push_size _ rfl,rfl,rfl⟩ ha2 h3 ?_
 have k2:∀ b u,s1.heap.get? b=some u->((s1.heap.push { cls:=.type "dict_items",data:=.fields #[.ref a] }).push { cls:=.type "dict_itemiterator",data:=.fields #[.none,.bool false,.ref a,.int 0 0,.int es.size 0,.int ep 0,.none,.none] }).get? b=some u:=λ b u q=>Heap.get?_push_of_some _ (Heap.get?_push_of_some _ q)
 have I2:=I1.kept (t':=s1.toks) k2
 have I3:=zt71 I2 (a:=a) (by rw [e];trivial) e (k2 _ _ h1)
 refine ⟨_,[_],_,_,_,rfl,I3,zjm (es:=es) (ep:=ep) h3,⟨.none,.none,Heap.get?_push_size _ rfl⟩,λ b hb=>?_,q od⟩
 simp only [List.mem_singleton] at hb
 have hb':s1.heap.objs.size<=b:=by rw [hb];simp [Heap.push]
 exact I1.fpOk hb' (by rw [zj0 (λ z=>by rw [z] at hb';exact absurd aL (Nat.not_lt.mpr hb'))];exact I1.hok.fresh hb')
def zea1 (te:TE):TE:=λ Y H Q=>te Y H λ v H'=>∃ a o u,(∀ ob y,H a≠some (.frz ob y))/\H' a=some (.frz o u)/\Q v (upd H' a u)
theorem zoz {e:Expr} {te:TE} (h:PE X e te):PE X e (zea1 te):=by
 intro pins s Y H Q I q
 refine thn (h pins s Y H _ I q) λ v s1 hz=>?_
 obtain ⟨x,H1,I1,r1,a,o,u,e2,e3,q1⟩:=hz
 exact ⟨x,_,thaw I1 e3 λ ob y z=>e2 ob y (I.base.frzs a ob y z),r1,q1⟩
end
end L3
namespace L4
open PySem PySem.Spec PyProof.Rows L2 L3
section
variable {K:Fg} {ta:TE} {dp:DP}
def kD:Key->D
|.inl i=>.int i
|.inr x=>.str x
theorem zym {F:Hp}:∀ (k:List Key),IsAll K F (k.map kV) (k.map kD)
|[]=>.nil
|.inl i :: r=>.cons (.int i) (zym r)
|.inr x :: r=>.cons (.str x) (zym r)
theorem KvIs.at {κ:Type} {F:Hp}:∀ {r:List (κ×V)} {t:List (κ×D)} {i:Nat} {k:κ} {v:V},KvIs K F r t->r[i]?=some (k,v)->∃ d,t[i]?=some (k,d)/\Is K F v d:=by
 intro r t i k v h
 induction h generalizing i with
|nil=>intro e;simp at e
|cons h1 h2 ih =>
  intro e
  cases i with
 |zero=>simp at e;obtain ⟨rfl,rfl⟩:=e;exact ⟨_,rfl,h1⟩
 |succ i=>simp at e ⊢;exact ih e
def plD (kvs:List (List Key×D)):List D:=kvs.map λ kv=>.tuple (kv.1.map kD++[kv.2])
def zlo (u:T) (Q:List D->Prop):Prop:=match u with
|.dt kvs=>kvs.length<=1000/\(∀ kv∈kvs,kv.1≠[]/\kv.1.length<=1000)/\Q (plD kvs)
|_=>False
def zos (dp:DP):DF:=λ U Q=>dp U λ _ _ u=>zlo u Q
theorem zup (hp:RfP K ta dp):RfF K (zea1 (zi21 (zs01 ta) 2 [] (gTup K 2 (zs31 (zhe 0) (zs31 (zhe 1) gNil))) zb21 (tOp (zhl K) (tVar 0) (zm81 (zk2 (tVar 1) tNil))))) (zos dp):=by
 intro F H Y U Qd Q s rv h k
 refine hp s rv h λ i p u hu v F1 H1 e1 at1=>?_
 obtain ⟨fn,hr⟩:=at1.rt (rv.ext e1)
 cases hr with
|fz _=>exact hu.elim
|li _ _ _=>exact hu.elim
|ls _ _ _=>exact hu.elim
|ob _ _ _ _ _=>exact hu.elim
|tp _ _ _=>exact hu.elim
|dk _ _ _=>exact hu.elim
|@dt a kvs' kvs h1 h2 h3 =>
  obtain ⟨hz,hks,hQ⟩:=hu
  have hlen:=h3.len
  refine ⟨a,kvs',rfl,h1,λ o D hD=>?_⟩
  have nDa:D≠a:=λ z=>by subst z;rw [zi0] at hD;cases hD
  have hD1:H1 D=none:=by rw [zj0 nDa] at hD;exact hD
  have F1D:F1 D=none:=by
   cases q:F1 D with
  |none=>rfl
  |some o=>rw [e1.fh D o q] at hD1;cases hD1
  refine ⟨λ i m acc Y' H'=>m=kvs.length - i/\i<=kvs.length/\Y'.length=2/\∃ F':Hp,Ext F1 H1 F' (upd H' a (.dT kvs'))/\H' a=some (.frz o (.dT kvs'))/\F' D=none/\H' D=some (.lst acc)/\acc.length=i/\IsAll K F' acc (plD (kvs.take i)),⟨kvs.length,rfl,Nat.zero_le _,by simp [compY],F1,?_,by rw [zj0 (Ne.symm nDa),zi0],F1D,zi0,rfl,.nil⟩,?_⟩
  ·refine ⟨λ b ob hb=>?_,λ _ _ z=>z,λ b ob hb=>?_,λ _ _ z=>z⟩
   ·by_cases ba:b=a
    ·subst ba;rw [zi0,<- h1];exact hb
    ·have bD:b≠D:=λ z=>by subst z;rw [hD1] at hb;cases hb
     rw [zj0 ba,zj0 bD,zj0 ba];exact hb
   ·have ba:b≠a:=λ z=>by subst z;rw [h2] at hb;cases hb
    have bD:b≠D:=λ z=>by subst z;rw [F1D] at hb;cases hb
    rw [zj0 ba,zj0 bD,zj0 ba];exact e1.fh b ob hb
  rintro i m acc Y' H' ⟨rfl,hi',hl,F',ex,ha,fD,hDD,hacc,hall⟩
  have fa:F' a=none:=ex.nw a (by rw [h1];simp) h2
  have fh':Same F' H':=λ b ob hb=>by
   have ba:b≠a:=λ z=>by subst z;rw [fa] at hb;cases hb
   have:=ex.fh b ob hb
   rw [zj0 ba] at this;exact this
  by_cases hlt:i < kvs.length
  ·refine .inr ⟨⟨ha,by lia⟩,λ acc' Y2 H2=>i+1<=kvs.length/\Y2.length=2/\∃ F':Hp,Ext F1 H1 F' (upd H2 a (.dT kvs'))/\H2 a=some (.frz o (.dT kvs'))/\F' D=none/\H2 D=some (.lst acc')/\acc'.length=i+1/\IsAll K F' acc' (plD (kvs.take (i+1))),λ acc' Y2 H2 q=>⟨kvs.length - (i+1),by lia,rfl,q⟩,λ x H2 y=>?_⟩
   obtain ⟨ky,v,b,p,g1,g2,g3,rfl,rfl⟩:=y
   obtain ⟨d,g4,g5⟩:=h3.at g1
   obtain ⟨kn,kz⟩:=hks _ (List.mem_of_getElem? g4)
   have pb:b≠p:=λ z=>by subst z;rw [g3] at g2;cases g2
   have pD:D≠p:=λ z=>by subst z;rw [g3] at hDD;cases hDD
   have pa:a≠p:=λ z=>by subst z;rw [g3] at ha;cases ha
   refine ⟨p,[.ref b,v],rfl,SqT.of (H:=upd H' p (.tup [.ref b,v])) zi0,rfl,.ref b,[v],rfl,v,[],rfl,rfl,?_⟩
   dsimp only [zb21]
   rw [if_pos rfl]
   obtain ⟨s0,s1,rfl⟩:∃ s0 s1,Y'=[s0,s1]:=by
    match Y',hl with
   |[s0,s1],_=>exact ⟨s0,s1,rfl⟩
   refine ⟨.ref b,rfl,v,rfl,by rw [sizeLine_eq];simp,λ q hq=>?_⟩
   have qp:q≠p:=λ z=>by subst z;rw [zi0] at hq;cases hq
   have hq':H' q=none:=by rw [zj0 qp] at hq;exact hq
   have qb:b≠q:=λ z=>by subst z;rw [hq'] at g2;cases g2
   refine .inl (.inr (.inr (.inr ⟨b,q,ky.map kV,[v],rfl,rfl,SqT.of (by rw [zj0 qb,zj0 pb];exact g2),SqT.of zi0,?_,?_,λ z=>(by cases z),λ _ l hl'=>?_⟩)))
   ·intro z;exact kn (List.map_eq_nil_iff.mp z)
   ·rw [List.length_map,sizeLine_eq];simp;dsimp only at kz;lia
   have lq:l≠q:=λ z=>by subst z;rw [zi0] at hl';cases hl'
   have lp:l≠p:=λ z=>by subst z;rw [zj0 lq,zi0] at hl';cases hl'
   have hl0:H' l=none:=by rw [zj0 lq,zj0 lp] at hl';exact hl'
   have old:∀ c ob,H' c=some ob->c≠p/\c≠q/\c≠l:=λ c ob hc=>⟨(λ z=>by subst z;rw [g3] at hc;cases hc),(λ z=>by subst z;rw [hq'] at hc;cases hc),(λ z=>by subst z;rw [hl0] at hc;cases hc)⟩
   have kp:∀ c ob,H' c=some ob->upd (upd (upd H' p (.tup [.ref b,v])) q (.tup [v])) l (.tup (ky.map kV++[v])) c=some ob:=λ c ob hc=>by
    obtain ⟨c1,c2,c3⟩:=old c ob hc
    rw [zj0 c3,zj0 c2,zj0 c1];exact hc
   have lD:l≠D:=Ne.symm (old D _ hDD).2.2
   have la:l≠a:=Ne.symm (old a _ ha).2.2
   have s3:Same F' (upd (upd H' p (.tup [.ref b,v])) q (.tup [v])):=λ c ob hc=>by
    obtain ⟨c1,c2,c3⟩:=old c ob (fh' c ob hc)
    rw [zj0 c2,zj0 c1];exact fh' c ob hc
   obtain ⟨ex4,is4⟩:=zbg (K:=K) (ds:=ky.map kD++[d]) s3 hl' ((zym ky).dapp (.cons (g5.mono ex.f) .nil))
   have F'l:F' l=none:=by
    cases z:F' l with
   |none=>rfl
   |some ob=>rw [fh' l ob z] at hl0;cases hl0
   refine ⟨kp D _ hDD,by rw [hacc,sizeLine_eq];lia,hlt,by simp,upd F' l (.tup (ky.map kV++[v])),⟨λ c ob hc=>?_,ex.f.trans ex4.f,λ c ob hc=>?_,λ c hc fc=>?_⟩,?_,?_,zi0,by simp [hacc],?_⟩
   ·by_cases ca:c=a
    ·subst ca;rw [zi0,<- h1];exact hc
    ·have:=ex.h c ob hc
     rw [zj0 ca] at this
     have cD:c≠D:=λ z=>by subst z;rw [hD1] at hc;cases hc
     rw [zj0 ca,zj0 cD];exact kp c ob this
   ·by_cases cl:c=l
    ·subst cl
     rw [zi0] at hc;cases hc
     rw [zj0 la,zj0 lD,zi0]
    ·rw [zj0 cl] at hc
     have ca:c≠a:=λ z=>by subst z;rw [fa] at hc;cases hc
     have cD:c≠D:=λ z=>by subst z;rw [fD] at hc;cases hc
     rw [zj0 ca,zj0 cD];exact kp c ob (fh' c ob hc)
   ·have cl:c≠l:=λ z=>by
     subst z
     cases q1:H1 c with
    |none=>exact hc q1
    |some ob =>
      have:=ex.h c ob q1
      rw [zj0 la,hl0] at this;cases this
    rw [zj0 cl];exact ex.nw c hc fc
   ·rw [zj0 (Ne.symm nDa)];exact kp a _ ha
   ·rw [zj0 (Ne.symm lD)];exact fD
   ·have et:plD (kvs.take (i+1))=plD (kvs.take i)++[.tuple (ky.map kD++[d])]:=by
     unfold plD
     rw [List.take_succ,g4,List.map_append];rfl
    rw [et]
    exact (hall.mono ex4.f).dapp (.cons is4 .nil)
  ·have ei:i=kvs.length:=by lia
   refine .inl ⟨⟨ha,by lia⟩,a,o,_,λ ob y z=>?_,ha,k _ hQ D acc F' _ (e1.trans ex) (zn1 e1 hD1) (by rw [zj0 nDa];exact hDD) fD (by rw [ei,List.take_length] at hall;exact hall)⟩
   rw [e1.h a _ z] at h1;cases h1
theorem zer (dp:DP) (U:DSt) (Q:List D->Prop):zos dp U Q=(dp U λ _ _ u=>zlo u Q):=rfl
theorem zxq (kvs:List (List Key×D)) (Q:List D->Prop):zlo (.dt kvs) Q=(kvs.length<=1000/\(∀ kv∈kvs,kv.1≠[]/\kv.1.length<=1000)/\Q (plD kvs)):=rfl
end
end L4
namespace L3
open PySem PySem.Spec PyProof.Rows L2
section
variable {s:Shared} {w:World} {prog:Program} {E:Value->Shared->Prop} {A:Around}
theorem zcv {a:Addr} {vs:List Value} {n:Nat} {P:Fin->Shared->Prop} (go:s.heap.get? a=some (seqObj "list" vs.toArray n)) (few:vs.toArray.size < 2)
  (h:P (.done (.ret .none)) { s with heap:=sortedHeap s.heap a vs ((vs.toArray.zip vs.toArray).map (·.2)) }):wpAny (model prog w) A (Builtin.«list.sort» ⟨[.ref a],[]⟩) P E s:=by
 have al:a < s.heap.objs.size:=Heap.lt_size go
 obtain ⟨e1,g1⟩:∃ e1,(s.heap.update a (Obj.mapSeq λ _=>#[])).get? a=some (seqObj "list" #[] e1):=⟨_,get?_update_seq go λ _=>#[]⟩
 rw [list_sort_plain]
 refine wpAny_bind (listItems_at go rfl (wpAny_bind (listUpdate_at go rfl (wpAny_bind (seqEpoch_at g1 rfl (wpAny_bind (wpAny_newTuple (wpAny_bind (wpAny_newList (wpAny_holding ?_))))))))))
 have g6:(((s.heap.update a (Obj.mapSeq λ _=>#[])).push (seqObj "tuple" vs.toArray 0)).push (seqObj "list" #[] 0)).get? a=some (seqObj "list" #[] e1):=Heap.get?_push_of_some _ (Heap.get?_push_of_some _ g1)
 refine (show wpAny (model prog w) A _ P E { s with heap:=((s.heap.update a (Obj.mapSeq λ _=>#[])).push (seqObj "tuple" vs.toArray 0)).push (seqObj "list" #[] 0) } from ?_)
 dsimp only
 rw [if_pos few,if_pos few]
 refine wpAny_bind (wpAny_pure ?_)
 rw [StateT.run_pure]
 refine wpAny_bind (wpAny_pure ?_);dsimp only
 refine wpAny_bind (seqEpoch_at g6 rfl (wpAny_bind (listUpdate_at (hsz2:=?_) g6 rfl ?_)))
 ·rw [if_neg (by simp)]
  exact wpAny_pure h
 ·have z2:(arrOf (SortSt.mk' general' (vs.toArray.zip vs.toArray) #[] 7 none))=vs.toArray.zip vs.toArray:=rfl
  rw [z2]
  have:((vs.toArray.zip vs.toArray).map λ x=>x.2).size<=2:=by simp;simp at few;lia
  refine Nat.le_trans this ?_
  rw [sizeLine_eq];lia
theorem zho {l:Addr} {vs:List Value} {Q:Value->Shared->Prop} (gl:s.heap.IsList l vs.toArray) (few:vs.toArray.size < 2)
  (h:Q (.ref (s.heap.objs.size+1)) { s with heap:=sortedAll s.heap vs ((vs.toArray.zip vs.toArray).map (·.2)) }):wpAny (model prog w) A (call (.builtin "sorted") [.ref l]) Q E s:=by
 refine Calls.call_function_entry kind_sorted plain_sorted entry_sorted (args_sorted1 _) ?_
 unfold Builtin.«sorted»
 have z:((s.heap.push (seqObj "list" #[] 0)).update s.heap.objs.size (Obj.mapSeq (·++vs.toArray))).objs.size=s.heap.objs.size+1:=by rw [Heap.size_update,size_push']
 have g:(((s.heap.push (seqObj "list" #[] 0)).update s.heap.objs.size (Obj.mapSeq (·++vs.toArray))).push (seqObj "list" vs.toArray 0)).get? (s.heap.objs.size+1)=some (seqObj "list" vs.toArray 0):=by
  rw [<- z];exact Heap.get?_push_size _ rfl
 refine wpAny_bind (m:=checkCount "sorted" 1 1 _) (wpAny_pure (wpAny_bind (collect_list gl ?_)))
 refine wpAny_bind (wpAny_newList (show wpAny _ _ _ _ _ { s with heap:=((s.heap.push (seqObj "list" #[] 0)).update s.heap.objs.size (Obj.mapSeq (·++vs.toArray))).push (seqObj "list" vs.toArray 0) } from ?_))
 rw [z]
 refine wpAny_bind (wpAny_holding (wpAny_call_entry slot_list_sort ⟨_,g,rfl⟩ entry_list_sort (zcv g few ⟨_,rfl,?_⟩) (args_list_sort _)))
 exact wpAny_pure ⟨_,rfl,h⟩
end
end L3
namespace L4
open PySem PySem.Spec PyProof.Rows L2 L3
section
variable {K:Fg}
end
end L4
namespace L3
open PySem PySem.Spec PyProof.Rows L2
section
variable {s:Shared} {w:World} {prog:Program} {E:Value->Shared->Prop} {A:Around} {Ky:Type} [DecidableEq Ky] {knd:HeapKind prog w Ky}
theorem zuw {d b:Addr} {od:Obj} {es:Array DictEntry} {ep:Nat} {xs:List (Ky×Addr×Value)} {k:Ky} {x:Value} {Q:Value->Shared->Prop} (ru:knd.room A.in1) (hk:knd.is s.heap k b) (gs:(d == sysModules)=false)
  (go:s.heap.get? d=some od) (gx:od.ExactDict) (gd:od.data=.dict es ep) (ge:es.toList=xs.map (entryOfKey knd)) (gi:∀ x∈xs,knd.is s.heap x.1 x.2.1) (gn:(xs.map (·.1)).Nodup) (gz:xs.length<=sizeLine)
  (q1:∀ (j:Nat) (p:Addr×Value),xs[j]?=some (k,p)->∀ t,Q p.2 { s with heap:=s.heap.update d (Obj.mapDictKeys (·.eraseIdxIfInBounds j)),toks:=t })
  (q2:(∀ (j:Nat) (p:Addr×Value),xs[j]?≠some (k,p))->∀ t,Q x { s with toks:=t }):wpAny (model prog w) A (call (.builtin "dict.pop") [.ref d,.ref b,x]) Q E s:=by
 have ty:s.TypeIs (.ref d) "dict":=⟨od,go,gx.1⟩
 have sz:es.size=xs.length:=size_of_entries ge
 refine wpAny_call_entry PySem.F.slot_dict_pop ty PySem.F.entry_dict_pop ?_ (PySem.F.args_dict_pop_3 _ _ _)
 unfold Builtin.«dict.pop» Builtin.Dict.keyAndDefault
 refine wpAny_bind (wpAny_bind (wpAny_notOrdered_dict ty (show wpAny _ _ (pure (d,Value.ref b,some x)) _ _ _ from wpAny_pure ?_)))
 have np:(keyPart (Value.ref b)).isSome=false:=rfl
 simp only [np,Bool.false_eq_true,if_false]
 refine wpAny_bind (wpAny_dictEntries go gd (wpAny_bind (wpAny_pure ?_)))
 by_cases em:es.isEmpty=true
 ·rw [if_pos em]
  have xe:xs=[]:=by
   have:es.size=0:=by simpa using em
   exact List.length_eq_zero_iff.mp (by lia)
  refine wpAny_bind (wpAny_rule (wpAny_bind (wpAny_pure ?_)))
  rw [if_pos Option.isNone_none]
  exact wpAny_bind (wpAny_missedRemoval_other gs (wpAny_bind (wpAny_rule (wpAny_pure ⟨x,rfl,q2 (by rw [xe];intro j p;simp) s.toks⟩))))
 ·rw [if_neg em]
  unfold Builtin.Dict.takeOut
  refine wpAny_bind (wpAny_holding (wpAny_bind (knd.pyHash ru hk (wpAny_bind (wpAny_dictFind_heap (s:={ s with toks:=s.toks+knd.draws k }) ru hk go gd ge gi gn (λ no=>wpAny_pure ?_) λ j p hj=>?_)))))
  ·rw [if_pos Option.isNone_none]
   exact wpAny_bind (wpAny_missedRemoval_other gs (wpAny_bind (wpAny_rule (wpAny_pure ⟨x,rfl,q2 no _⟩))))
  ·refine wpAny_bind (wpAny_dictEntries (s:={ s with toks:=s.toks+knd.draws k }) go gd ?_)
   rw [entry_at ge j,hj]
   refine wpAny_bind (wpAny_updateDictKeys (hz:=by lia) (hf:=by rw [Array.eraseIdxIfInBounds];split <;> simp <;> lia) (s:={ s with toks:=s.toks+knd.draws k }) go gd (wpAny_pure ?_))
   rw [if_neg (by simp)]
   exact wpAny_bind (wpAny_letGo (wpAny_pure ⟨p.2,rfl,q1 j p hj _⟩))
end
theorem zcd {α β:Type} (f:α->β):∀ (l:List α) (j:Nat),(l.map f).eraseIdx j=(l.eraseIdx j).map f
|[],_=>rfl
|_ :: _,0=>rfl
|x :: r,j+1=>by rw [List.map_cons,List.eraseIdx_cons_succ,List.eraseIdx_cons_succ,List.map_cons,zcd f r j]
theorem zkz {H:Hp} {kvs:List (List Key×V)} {xs:List (List Key×Addr×Value)} {k:List Key} (r:KT H kvs xs) (h:∀ (j:Nat) (p:Addr×Value),xs[j]?≠some (k,p)):valV kvs k=none:=by
 have:=r.val k
 rw [atKey_none_of_get h] at this
 cases e:valV kvs k with
|none=>rfl
|some v=>rw [e] at this;exact this.elim
theorem zhz {H:Hp} {kvs:List (List Key×V)} {xs:List (List Key×Addr×Value)} {k:List Key} {j:Nat} {p:Addr×Value} (r:KT H kvs xs) (hn:(xs.map (·.1)).Nodup) (h:xs[j]?=some (k,p)):∃ v,valV kvs k=some v/\RelV v p.2:=by
 have:=r.val k
 rw [atKey_of_get hn h] at this
 cases e:valV kvs k with
|none=>rw [e] at this;exact this.elim
|some v=>rw [e] at this;exact ⟨v,rfl,this⟩
theorem zi01 {H:Hp} {k:List Key}:∀ {kvs:List (List Key×V)} {xs:List (List Key×Addr×Value)} {j:Nat} {p:Addr×Value},KT H kvs xs->(xs.map (·.1)).Nodup->xs[j]?=some (k,p)->KT H (zch kvs k) (xs.eraseIdx j):=by
 intro kvs xs j p r
 induction r generalizing j with
|nil=>intro _ h;simp at h
|@cons a b as bs hq t ih =>
  intro hn h
  rw [List.map_cons] at hn
  have hn':=List.nodup_cons.mp hn
  unfold zch at ih ⊢
  cases j with
 |zero =>
   simp at h
   subst h
   have e1:a.1=k:=hq.1
   rw [List.filter_cons_of_neg (by simp [e1]),List.eraseIdx_zero,List.tail_cons]
   have all:∀ {l:List (List Key×V)} {m:List (List Key×Addr×Value)},KT H l m->k ∉ m.map (·.1)->l.filter (λ kv=>decide (kv.1≠k))=l:=by
    intro l m q
    induction q with
   |nil=>intro _;rfl
   |cons hq' t' ih' =>
     intro nk
     simp at nk
     rw [List.filter_cons_of_pos (by simp;rw [hq'.1];exact λ z=>nk.1 z.symm),ih' (by simpa using nk.2)]
   rw [all t hn'.1]
   exact t
 |succ j =>
   simp at h
   have ne:a.1≠k:=λ z=>by
    have:b.1∈bs.map (·.1):=by
     rw [<- hq.1,z]
     exact List.mem_map_of_mem (f:=(·.1)) (List.mem_of_getElem? h)
    exact hn'.1 this
   rw [List.filter_cons_of_pos (by simp [ne]),List.eraseIdx_cons_succ]
   exact .cons hq (ih hn'.2 h)
def zna1:V->List V->Hp->VK->Prop:=λ x vs H Q=>∃ a b kvs k z,x=.ref a/\vs=[.ref b,z]/\H a=some (.dT kvs)/\H b=some (.tup (k.map kV))/\(∀ v,valV kvs k=some v->Q v (upd H a (.dT (zch kvs k))))/\(valV kvs k=none->Q z H)
theorem zvs {X:Cx} (hu:X.A.units+64 < cLine):MtM X "dict.pop" zna1:=by
 intro pins s Y H x xs v us Q I rx rv h
 obtain ⟨a,b,kvs,k,z,rfl,rfl,e,eb,q1,q2⟩:=h
 obtain ⟨u,r,rfl,ru,rr⟩:=zy71 rv
 obtain rfl:v=Value.ref a:=rx
 cases (show u=Value.ref b from ru)
 obtain ⟨hz,hd,ys,rel,o,es,ep,h1,h2,h3,h4,h5,h6⟩:=zi91 I.hok e
 have hl:ys.length<=sizeLine:=by rw [<- Paired.length rel];exact hz
 refine zuw (tupleKind_room_in1 (by lia)) (zxk I.hok eb) hd h1 h2 h3 h4 h5 h6 hl (λ j p hj t=>?_) λ no t=>⟨z,H,I.kept (t':=t) λ _ _ q=>q,rr,q2 (zkz rel no)⟩
 obtain ⟨v,hv,rv'⟩:=zhz rel h6 hj
 have sb:Heap.SameBut a s.heap (s.heap.update a (Obj.mapDictKeys (·.eraseIdxIfInBounds j))):=Heap.SameBut.update ..
 have gq:=Heap.get?_update_self (Obj.mapDictKeys (·.eraseIdxIfInBounds j)) h1 (Obj.isFreed_of_dict (Obj.data_mapDictKeys h3 _))
 refine ⟨v,upd H a (.dT (zch kvs k)),zvn (t':=t) (ob:=.dT (zch kvs k)) I (by rw [e];exact True.intro) sb ⟨_,gq⟩ ⟨Nat.le_trans (zju kvs k) hz,hd,ys.eraseIdx j,(zi01 rel h6 hj).keeps λ c zs ec=>?_,_,_,ep+1,gq,h2.mapDictKeys _,Obj.data_mapDictKeys h3 _,?_,?_⟩,rv',q1 v hv⟩
 ·rw [zj0 (zi51 ec e (λ z=>nomatch z))];exact ec
 ·have jl:j < es.size:=by rw [size_of_entries h4];exact (List.getElem?_eq_some_iff.mp hj).1
  rw [Array.eraseIdxIfInBounds,dif_pos jl,Array.toList_eraseIdx,h4,zcd]
 ·rw [<- zcd]
  exact List.Nodup.sublist (List.eraseIdx_sublist _ _) h6
end L3
namespace L4
open PySem PySem.Spec PyProof.Rows L2 L3
section
variable {K:Fg} {ta tb ti tk tx:TE} {dp dq:DP} {dk dy dz:DE}
def zd7 {κ:Type} [DecidableEq κ] (kvs:List (κ×D)) (k:κ):List (κ×D):=kvs.filter λ kv=>decide (kv.1≠k)
theorem KvIs.drop {κ:Type} [DecidableEq κ] {F:Hp} {k:κ}:∀ {r:List (κ×V)} {s:List (κ×D)},KvIs K F r s->KvIs K F (zch r k) (zd7 s k)
|_,_,.nil=>.nil
|_,_,.cons (k:=k') (r:=r) (s:=s) h t=>by
  unfold zch zd7
  by_cases e:k'=k
  ·rw [List.filter_cons_of_neg (by simp [e]),List.filter_cons_of_neg (by simp [e])]
   exact t.drop
  ·rw [List.filter_cons_of_pos (by simp [e]),List.filter_cons_of_pos (by simp [e])]
   exact .cons h t.drop
def zn61 (u:T) (y z:D) (N:D->T->Prop):Prop:=match u with
|.dt kvs=>∃ key,keyT y=some key/\N ((getA kvs key).getD z) (.dt (zd7 kvs key))
|_=>False
def sepP (i:Nat) (p:Pth) (j:Nat) (q:Pth):Prop:=j=i/\∃ g h,p=[.fl g]/\q=[.fl h]/\g≠h
def zlg (f:Int->Int->Int) (dp:DP) (dk:DE) (dq:DP) (dy dz:DE):DS:=λ E U=>dp U λ i p u=>dk U λ k=>fGet u k λ x=>dq U λ j q t=>tyN "dict" t/\dy U λ y=>dz U λ z=>zn61 t y z λ c t2 =>
 fII f x c λ n=>fPut u k n λ u2=>sepP i p j q/\mutS U j q t2 λ U1=>mutS U1 i p u2 E.nx
theorem zx7 {f g:Str} {u:T} (n:g≠f):∀ (ts:List (Str×T)),(putA f u ts).lookup g=ts.lookup g
|[]=>by
  have hb:(g == f)=false:=beq_eq_false_iff_ne.mpr n
  show List.lookup g [(f,u)]=_
  simp [List.lookup,hb]
|(h,t) :: r=>by
  have hb:(g == f)=false:=beq_eq_false_iff_ne.mpr n
  by_cases e:h=f
  ·subst e
   rw [show putA h u ((h,t) :: r)=(h,u) :: r from if_pos rfl]
   simp [List.lookup,hb]
  ·rw [show putA f u ((h,t) :: r)=(h,t) :: putA f u r from if_neg e]
   simp only [List.lookup]
   rw [zx7 n r]
theorem zn91 {H:Hp} {x v:V} {t u:T} {g:Str} (h:At H x t [.fl g] v u):∃ a C dx fs ts,x=.ref a/\t=.ob C ts/\H a=some (.ins C dx fs)/\fs.lookup g=some v/\ts.lookup g=some u:=by
 cases h with
|fl h1 h2 h3 h4 =>
  cases h4
  exact ⟨_,_,_,_,_,rfl,rfl,h1,h2,h3⟩
theorem zjr {u:T} {k d:D} {N M:T->Prop} (h:fPut u k d N) (m:∀ u2,N u2->M u2):fPut u k d M:=by
 unfold fPut at h ⊢
 split at h
 ·split at h
  ·obtain ⟨j,e,n⟩:=h;exact ⟨j,e,m _ n⟩
  ·exact h.elim
 ·obtain ⟨key,e,l,n⟩:=h;exact ⟨key,e,l,m _ n⟩
 ·obtain ⟨key,e,l,n⟩:=h;exact ⟨key,e,l,m _ n⟩
 ·exact h.elim
theorem zys {u:T} {k d:D} {N:T->Prop} (h:fPut u k d N):∃ u2,N u2:=by
 unfold fPut at h
 split at h
 ·split at h
  ·obtain ⟨j,e,n⟩:=h;exact ⟨_,n⟩
  ·exact h.elim
 ·obtain ⟨key,e,l,n⟩:=h;exact ⟨_,n⟩
 ·obtain ⟨key,e,l,n⟩:=h;exact ⟨_,n⟩
 ·exact h.elim
theorem zml {κ:Type} [DecidableEq κ] {k:κ}:∀ {r:List (κ×V)},valV r k=none->zch r k=r:=by
 intro r h
 unfold zch
 rw [List.filter_eq_self]
 intro x hx
 unfold valV at h
 have:=List.find?_eq_none.mp (Option.map_eq_none_iff.mp h) x hx
 simpa using this
theorem zgk {f:Int->Int->Int} (hp:RfP K ta dp) (hk:RfE K ti dk) (hq:RfP K tb dq) (hy:RfE K tk dy) (hz:RfE K tx dz) :
  RfS K (zq81 ta ti (tBMU K "dict" zna1 tb (zk2 tk (zk2 tx tNil))) (zj41 K) (ipI f) znr) (zlg f dp dk dq dy dz):=by
 intro B F H Y U fps E Z r h k
 refine hp r.fh r.rv h λ i p u hu v F1 H1 e1 at1=>?_
 have r1:=r.grow e1
 refine hk r1.fh r1.rv hu λ kd hkd kv F2 H2 e2 i2=>?_
 have r2:=r1.grow e2
 have at2:=at1.mono e2.h
 obtain ⟨fn,hr⟩:=at2.rt r2.rv
 refine zs11 r2.fh hr i2 hkd λ x xv hx ix=>hq r2.fh r2.rv hx λ j q t ht w F3 H3 e3 at3=>?_
 have r3:=r2.grow e3
 obtain ⟨fn3,hr3⟩:=at3.rt r3.rv
 refine ⟨zy61 hr3 ht.1,hy r3.fh r3.rv ht.2 λ yd hyd yv F4 H4 e4 i4=>hz (r3.grow e4).fh (r3.grow e4).rv hyd λ zd hzd zv F5 H5 e5 i5=>?_⟩
 have e35:=e3.trans (e4.trans e5)
 have r5:RS K B F5 H5 Y U fps:=(r3.grow e4).grow e5
 have at5:=at3.mono (e4.h.trans e5.h)
 have at25:=at2.mono e35.h
 obtain ⟨fn5,hr5⟩:=at5.rt r5.rv
 cases hr5 with
|dt g1 g2 g3 =>
  rename_i b kvs ds
  obtain ⟨key,ek,hN⟩:=hzd
  obtain ⟨kb,rfl,hb⟩:=zek (i4.mono e5.f) ek
  have put:∀ (nv:V) (nd:D),Is K F5 nv nd->(fPut u kd nd λ u2=>sepP i p j q/\mutS U j q (.dt (zd7 ds key)) λ U1=>mutS U1 i p u2 E.nx) ->
    znr v kv nv (upd H5 b (.dT (zch kvs key))) λ H8=>Z.nx Y H8:=by
   intro nv nd inv hf
   obtain ⟨_,⟨rfl,g,h',rfl,rfl,ne⟩,_⟩:=zys hf
   have one:∀ U1,(∀ N:DSt->Prop,mutS U j [.fl h'] (.dt (zd7 ds key)) N=N U1)->(∃ s,U1[j]?=some s/\s.tree=(match U[j]? with
    |some s=>s.tree.map λ t=>setP t [.fl h'] (.dt (zd7 ds key))
    |none=>none))->znr v kv nv (upd H5 b (.dT (zch kvs key))) λ H8=>Z.nx Y H8:=by
    intro U1 em es
    obtain ⟨U2,fps2,r6,n6,_⟩:=r5.one (o2:=.dT (zch kvs key)) (N:=λ U'=>U'=U1) at5 (u2:=.dt (zd7 ds key)) (by rw [em]) g1 (λ fn' hr'=>by cases hr';rfl) (λ fa=>.dt zi0 fa g3.drop)
    subst n6
    obtain ⟨s0,t0,x0,a1,a2,a3,a4⟩:=at25
    obtain ⟨s5,t5,x5,b1,b2,b3,b4⟩:=at5
    rw [a1] at b1;cases b1
    rw [a2] at b2;cases b2
    rw [a3] at b3;cases b3
    obtain ⟨aa,C,dx,fs,ts,rfl,rfl,c1,c2,c3⟩:=zn91 a4
    obtain ⟨_,_,_,_,_,z1,z2,d1,d2,d3⟩:=zn91 b4
    cases z1
    cases z2
    rw [c1] at d1
    cases d1
    obtain ⟨s6,es1,es2⟩:=es
    rw [a1] at es2
    simp only [a2,Option.map_some] at es2
    have et:setP (.ob C ts) [.fl h'] (.dt (zd7 ds key))=.ob C (putA h' (.dt (zd7 ds key)) ts):=by
     simp only [setP,d3]
    have at6:AtS (upd H5 b (.dT (zch kvs key))) Y U2 j [.fl g] v u:=⟨s6,_,_,es1,es2,a3,by
     rw [et]
     exact .fl (by rw [zj0 (zi51 c1 g1 (λ z=>nomatch z))];exact c1) c2 (by rw [zx7 ne];exact c3) .nil⟩
    exact zzt r6 at6 (i2.mono e35.f) inv (zjr hf λ u2 hu2=>by have:=hu2.2;rw [em] at this;exact this) λ U3 fps3 H8 r8 n8=>k.nx r8 n8
   obtain ⟨s0,t0,x0,a1,a2,a3,a4⟩:=at5
   have hl:j < U.length:=(List.getElem?_eq_some_iff.mp a1).1
   obtain ⟨u2,_,hm⟩:=zys hf
   cases s0 with
  |ow t1=>exact one (U.set j (.ow (setP t1 [.fl h'] (.dt (zd7 ds key))))) (λ N=>by simp only [mutS,a1]) ⟨_,List.getElem?_set_self hl,by rw [a1];rfl⟩
  |io a' t1=>exact one (U.set j (.io a' (setP t1 [.fl h'] (.dt (zd7 ds key))))) (λ N=>by simp only [mutS,a1]) ⟨_,List.getElem?_set_self hl,by rw [a1];rfl⟩
  |un=>simp only [mutS,a1] at hm
  |sh d=>simp only [mutS,a1] at hm
  |bo t1=>simp only [mutS,a1] at hm
  have go:∀ (cv:V) (c:D),Is K F5 cv c->(fII f x c λ n=>fPut u kd n λ u2=>sepP i p j q/\mutS U j q (.dt (zd7 ds key)) λ U1=>mutS U1 i p u2 E.nx) ->
    (ipI f) xv cv (upd H5 b (.dT (zch kvs key))) λ z H7=>znr v kv z H7 λ H8=>Z.nx Y H8:=by
   intro cv c ic hf
   unfold fII at hf
   split at hf
   ·cases ix.int_inv
    cases ic.int_inv
    exact ⟨_,_,rfl,rfl,put _ _ (.int _) hf⟩
   ·exact hf.elim
  refine ⟨b,kb,kvs,key,zv,rfl,rfl,g1,r5.fh _ _ hb,λ cv hcv=>?_,λ hno=>?_⟩
  ·rcases g3.get (k:=key) with ⟨q1,q2⟩|⟨d',y',q1,q2,q3⟩
   ·rw [q2] at hcv;cases hcv
   ·rw [q2] at hcv;cases hcv
    rw [q1] at hN
    exact go _ _ q3 hN
  ·rcases g3.get (k:=key) with ⟨q1,q2⟩|⟨d',y',q1,q2,q3⟩
   ·rw [q1] at hN
    have:=go _ _ i5 hN
    rw [zml q2] at this
    have eH:upd H5 b (.dT kvs)=H5:=by
     funext c
     by_cases z:c=b
     ·subst z;rw [zi0,g1]
     ·rw [zj0 z]
    rw [eH] at this
    exact this
   ·rw [q2] at hno;cases hno
|fz _=>exact hzd.elim
|li _ _ _=>exact hzd.elim
|ls _ _ _=>exact hzd.elim
|ob _ _ _ _ _=>exact hzd.elim
|tp _ _ _=>exact hzd.elim
|dk _ _ _=>exact hzd.elim
theorem zlp (f:Int->Int->Int) (dp:DP) (dk:DE) (dq:DP) (dy dz:DE) (E:DEnds) (U:DSt):zlg f dp dk dq dy dz E U=(dp U λ i p u=>dk U λ k=>fGet u k λ x=>dq U λ j q t=>tyN "dict" t/\dy U λ y=>dz U λ z=>zn61 t y z λ c t2 =>
 fII f x c λ n=>fPut u k n λ u2=>sepP i p j q/\mutS U j q t2 λ U1=>mutS U1 i p u2 E.nx):=rfl
theorem zd01 (kvs:List (List Key×D)) (y z:D) (N:D->T->Prop):zn61 (.dt kvs) y z N=∃ key,keyT y=some key/\N ((getA kvs key).getD z) (.dt (zd7 kvs key)):=rfl
end
end L4
namespace L5
def xr (s:Nat):Nat:=if s % 2=0 then s+1 else s - 1
theorem zvb1 (s:Nat):xr (xr s)=s:=by unfold xr;split <;> split <;> lia
theorem zvc1 (s:Nat):xr s≠s:=by unfold xr;split <;> lia
def hd (E:List Nat) (s:Nat):Nat:=E.getD s 0
def tl (E:List Nat) (s:Nat):Nat:=hd E (xr s)
theorem zra1 (E:List Nat) (s:Nat):tl E (xr s)=hd E s:=by unfold tl;rw [zvb1]
theorem zy91 (E:List Nat) (s:Nat):hd E (xr s)=tl E s:=rfl
def lf (L:List Int) (s:Nat):Int:=L.getD s 0
structure Net (n m:Nat) (E:List Nat) (S:List (List Nat)):Prop where
 lE:E.length=2 * m
 bE:∀ s,s < 2 * m->hd E s < n
 lS:S.length=n
 s1:∀ (v:Nat) l,S[v]?=some l->∀ s∈l,s < 2 * m/\tl E s=v
 s2:∀ s,s < 2 * m->∃ l,S[tl E s]?=some l/\s∈l
def lkp (lv:List (Nat×Nat)) (v:Nat):Option Nat:=(lv.find? λ p=>decide (p.1=v)).map (·.2)
structure Lev (n m:Nat) (E:List Nat) (L:List Int) (src:Nat) (lv:List (Nat×Nat)):Prop where
 nd:(lv.map (·.1)).Nodup
 bd:∀ p∈lv,p.1 < n
 l0:lkp lv src=some 0
 z0:∀ v,lkp lv v=some 0->v=src
 cl:∀ s,s < 2 * m->0 < lf L s->(lkp lv (tl E s)).isSome=true->(lkp lv (hd E s)).isSome=true
 pr:∀ v a,lkp lv v=some (a+1)->∃ s,s < 2 * m/\0 < lf L s/\hd E s=v/\lkp lv (tl E s)=some a
def Adm (E:List Nat) (L:List Int) (lv:List (Nat×Nat)) (s:Nat):Prop:=0 < lf L s/\∃ a,lkp lv (tl E s)=some a/\lkp lv (hd E s)=some (a+1)
inductive Rch (m:Nat) (E:List Nat) (L:List Int) (lv:List (Nat×Nat)) (t:Nat):Nat->Prop
|here:Rch m E L lv t t
|step {s:Nat}:s < 2 * m->Adm E L lv s->Rch m E L lv t (hd E s)->Rch m E L lv t (tl E s)
structure Tri (m:Nat) (E:List Nat) (S:List (List Nat)) (L:List Int) (lv:List (Nat×Nat)) (t:Nat) (TT:List (List Nat)):Prop where
 len:TT.length=S.length
 pre:∀ (v:Nat) l,TT[v]?=some l->∃ k,S[v]?=some k/\l <+: k
 vain:∀ (v:Nat) l k,TT[v]?=some l->S[v]?=some k->∀ (j:Nat) s,l.length<=j->k[j]?=some s->¬(Adm E L lv s/\Rch m E L lv t (hd E s))
def Way (m:Nat) (E:List Nat) (L:List Int) (lv:List (Nat×Nat)):Nat->List Nat->Nat->Prop
|v,[],t=>v=t
|v,s :: p,t=>s < 2 * m/\tl E s=v/\Adm E L lv s/\Way m E L lv (hd E s) p t
theorem Way.level {m:Nat} {E:List Nat} {L:List Int} {lv:List (Nat×Nat)}:∀ {v:Nat} {p:List Nat} {u a:Nat},Way m E L lv v p u->lkp lv v=some a->lkp lv u=some (a+p.length)
|v,[],u,a,h,e=>by rw [show v=u from h] at e;exact e
|v,x :: p,u,a,h,e=>by
  obtain ⟨h1,h2,⟨_,b,h3,h4⟩,h5⟩:=h
  rw [h2,e] at h3;cases h3
  have:=Way.level h5 h4
  rw [this];congr 1;simp;lia
theorem Way.tails {m:Nat} {E:List Nat} {L:List Int} {lv:List (Nat×Nat)}:∀ {v:Nat} {p:List Nat} {u a:Nat},Way m E L lv v p u->lkp lv v=some a->∀ s∈p,∃ b,a<=b/\lkp lv (tl E s)=some b/\lkp lv (hd E s)=some (b+1)
|v,[],u,a,_,_,s,hs=>by simp at hs
|v,x :: p,u,a,h,e,s,hs=>by
  obtain ⟨h1,h2,⟨_,b,h3,h4⟩,h5⟩:=h
  rw [h2,e] at h3;cases h3
  rcases List.mem_cons.mp hs with z|z
  ·subst z;exact ⟨a,Nat.le_refl _,by rw [h2];exact e,h4⟩
  ·obtain ⟨c,k1,k2,k3⟩:=Way.tails h5 h4 s z
   exact ⟨c,by lia,k2,k3⟩
theorem Way.nodup {m:Nat} {E:List Nat} {L:List Int} {lv:List (Nat×Nat)}:∀ {v:Nat} {p:List Nat} {u a:Nat},Way m E L lv v p u->lkp lv v=some a->p.Nodup/\∀ s∈p,xr s ∉ p
|v,[],u,a,_,_=>⟨.nil,λ s hs=>by simp at hs⟩
|v,x :: p,u,a,h,e=>by
  obtain ⟨h1,h2,⟨_,b,h3,h4⟩,h5⟩:=h
  rw [h2,e] at h3;cases h3
  obtain ⟨n1,n2⟩:=Way.nodup h5 h4
  have tx:lkp lv (tl E x)=some a:=by rw [h2];exact e
  refine ⟨List.nodup_cons.mpr ⟨λ z=>?_,n1⟩,λ s hs hx=>?_⟩
  ·obtain ⟨c,k1,k2,_⟩:=Way.tails h5 h4 x z
   rw [tx] at k2;cases k2;lia
  ·rcases List.mem_cons.mp hs with z|z
   ·subst z
    rcases List.mem_cons.mp hx with y|y
    ·exact zvc1 _ y
    ·obtain ⟨c,k1,k2,k3⟩:=Way.tails h5 h4 _ y
     rw [zra1,h4] at k2;cases k2
     rw [zy91,tx] at k3;injection k3 with k3;lia
   ·rcases List.mem_cons.mp hx with y|y
    ·obtain ⟨c,k1,k2,k3⟩:=Way.tails h5 h4 s z
     have e1:x=xr s:=y.symm
     subst e1
     rw [zy91,k2] at h4;cases h4
     rw [zra1,k3] at tx;injection tx with tx;lia
    ·exact n2 s z y
end L5
namespace L5
def term (E:List Nat) (L:List Int) (v k:Nat):Int:=(if hd E (2 * k)=v then lf L (2 * k+1) else 0) - (if hd E (2 * k+1)=v then lf L (2 * k+1) else 0)
def bal (m:Nat) (E:List Nat) (L:List Int) (v:Nat):Int:=((List.range m).map (term E L v)).sum
structure Cap (m:Nat) (most:Nat->Int) (L:List Int):Prop where
 len:L.length=2 * m
 nn:∀ s,s < 2 * m->0<=lf L s
 sm:∀ k,k < m->lf L (2 * k)+lf L (2 * k+1)=most k
end L5
namespace L5
open PySem PySem.Spec PyProof.Rows L2 L3 L4
def nI (x:Nat):D:=.int (x:Int)
end L5
namespace L5
structure Bfs (n m:Nat) (E:List Nat) (L:List Int) (src:Nat) (lv:List (Nat×Nat)) (row:List Nat) (lev:Nat):Prop where
 nd:(lv.map (·.1)).Nodup
 bd:∀ p∈lv,p.1 < n
 l0:lkp lv src=some 0
 z0:∀ v,lkp lv v=some 0->v=src
 ro:∀ v∈row,lkp lv v=some lev
 le:∀ v b,lkp lv v=some b->b<=lev/\(b=lev->v∈row)
 cl:∀ v b,lkp lv v=some b->b < lev->∀ s,s < 2 * m->tl E s=v->0 < lf L s->(lkp lv (hd E s)).isSome=true
 pr:∀ v a,lkp lv v=some (a+1)->∃ s,s < 2 * m/\0 < lf L s/\hd E s=v/\lkp lv (tl E s)=some a
structure Mid (n m:Nat) (E:List Nat) (L:List Int) (lv:List (Nat×Nat)) (lev:Nat) (lv1:List (Nat×Nat)) (beh:List Nat):Prop where
 nd:(lv1.map (·.1)).Nodup
 bd:∀ p∈lv1,p.1 < n
 old:∀ v b,lkp lv v=some b->lkp lv1 v=some b
 new:∀ v b,lkp lv1 v=some b->lkp lv v=some b \/ (b=lev+1/\v∈beh)
 ro:∀ v∈beh,lkp lv1 v=some (lev+1)
 pr:∀ v a,lkp lv1 v=some (a+1)->∃ s,s < 2 * m/\0 < lf L s/\hd E s=v/\lkp lv1 (tl E s)=some a
 len:lv1.length=lv.length+beh.length
end L5
namespace L5
open PySem PySem.Spec PyProof.Rows L2 L3 L4
end L5
namespace L5
structure Up (m:Nat) (most:Nat->Int) (E:List Nat) (L L':List Int) (src snk:Nat):Prop where
 cap:Cap m most L'
 eqb:∀ v,v≠src->v≠snk->bal m E L' v=bal m E L v
 out:∀ k,k < m->hd E (2 * k+1)=src->lf L (2 * k+1)<=lf L' (2 * k+1)
 inn:∀ k,k < m->hd E (2 * k)=snk->lf L (2 * k+1)<=lf L' (2 * k+1)
 bs:bal m E L' src<=bal m E L src
 bt:bal m E L snk<=bal m E L' snk
theorem Up.refl {m:Nat} {most:Nat->Int} {E:List Nat} {L:List Int} {src snk:Nat} (c:Cap m most L):Up m most E L L src snk :=
 ⟨c,λ _ _ _=>rfl,λ _ _ _=>Int.le_refl _,λ _ _ _=>Int.le_refl _,Int.le_refl _,Int.le_refl _⟩
theorem Up.trans {m:Nat} {most:Nat->Int} {E:List Nat} {L L' L2:List Int} {src snk:Nat} (h:Up m most E L L' src snk) (k:Up m most E L' L2 src snk):Up m most E L L2 src snk :=
 ⟨k.cap,λ v a b=>(k.eqb v a b).trans (h.eqb v a b),λ i a b=>Int.le_trans (h.out i a b) (k.out i a b),λ i a b=>Int.le_trans (h.inn i a b) (k.inn i a b),Int.le_trans k.bs h.bs,Int.le_trans h.bt k.bt⟩
end L5
namespace L5
open PySem PySem.Spec PyProof.Rows L2 L3 L4
abbrev Ar:=Nat×Nat×Int
def zi41 (A:List Ar):List Nat:=A.flatMap λ a=>[a.2.1,a.1]
def zkc1 (A:List Ar) (f:List Int):List Int:=(A.zip f).flatMap λ x=>[x.1.2.2 - x.2,x.2]
theorem Net.nil (n:Nat):Net n 0 [] (List.replicate n []):=⟨rfl,λ s hs=>by lia,by simp,(λ v l h s hs=>by
 rw [List.getElem?_replicate] at h
 split at h
 ·cases h;simp at hs
 ·cases h),λ s hs=>by lia⟩
def zbb1 (A:List Ar) (k:Nat):Int:=((A[k]?).map λ a=>a.2.2).getD 0
structure Best (n:Nat) (A:List Ar) (f:List Int) (src snk:Nat) (L:List Int) (side:List Nat):Prop where
 up:Up A.length (zbb1 A) (zi41 A) (zkc1 A f) L src snk
 inn:src∈side
 out:snk ∉ side
 bd:∀ v∈side,v < n
 ris:side.Pairwise (· < ·)
 cl:∀ s,s < 2 * A.length->0 < lf L s->tl (zi41 A) s∈side->hd (zi41 A) s∈side
 rc:∃ lv,Lev n A.length (zi41 A) L src lv/\∀ v,v∈side ↔ (lkp lv v).isSome=true
def sm (m:Nat) (g:Nat->Int):Int:=((List.range m).map g).sum
theorem zoc (m:Nat) (g:Nat->Int):sm (m+1) g=sm m g+g m:=by
 unfold sm
 rw [List.range_succ,List.map_append,List.sum_append]
 simp
theorem zpe {m:Nat} {g h:Nat->Int} (e:∀ k,k < m->g k=h k):sm m g=sm m h:=by
 unfold sm
 rw [List.map_congr_left λ k hk=>e k (List.mem_range.mp hk)]
theorem zh21 (g h:Nat->Int):∀ m,sm m (λ k=>g k+h k)=sm m g+sm m h
|0=>rfl
|m+1=>by rw [zoc,zoc,zoc,zh21 g h m];lia
theorem zeo:∀ m,sm m (λ _=>0)=0
|0=>rfl
|m+1=>by rw [zoc,zeo m];rfl
theorem zg21 {j:Nat} (d:Int):∀ {m:Nat},j < m->sm m (λ k=>if k=j then d else 0)=d
|0,h=>by lia
|m+1,h=>by
  rw [zoc]
  by_cases z:m=j
  ·subst z
   rw [if_pos rfl,zpe (h:=λ _=>0) λ k hk=>if_neg (by lia),zeo];lia
  ·rw [zg21 d (m:=m) (by lia),if_neg z];lia
def trm (u v:Nat) (x:Int) (w:Nat):Int:=(if v=w then x else 0) - (if u=w then x else 0)
def bl (m:Nat) (eu ev:Nat->Nat) (x:Nat->Int) (w:Nat):Int:=sm m λ k=>trm (eu k) (ev k) (x k) w
abbrev Pr:=Nat×Nat
def pU (P:List Pr) (k:Nat):Nat:=((P[k]?).map λ a=>a.1).getD 0
def pV (P:List Pr) (k:Nat):Nat:=((P[k]?).map λ a=>a.2).getD 0
def fx (f:List Int) (k:Nat):Int:=(f[k]?).getD 0
def nb (P:List Pr) (f:List Int) (w:Nat):Int:=bl P.length (pU P) (pV P) (fx f) w
theorem zr1 {κ:Type} [DecidableEq κ] (p:κ×D) (r:List (κ×D)) (k:κ):getA (p :: r) k=if p.1=k then some p.2 else getA r k:=by
 unfold getA
 rw [List.find?_cons]
 by_cases e:p.1=k
 ·simp [e]
 ·simp [e]
theorem znh {κ:Type} [DecidableEq κ] (k k':κ) (d:D):∀ l:List (κ×D),getA (l++[(k,d)]) k'=match getA l k' with|some x=>some x|none=>if k=k' then some d else none
|[]=>by
  rw [List.nil_append,zr1]
  rfl
|p :: r=>by
  rw [List.cons_append,zr1,zr1,znh k k' d r]
  by_cases e:p.1=k'
  ·rw [if_pos e,if_pos e]
  ·rw [if_neg e,if_neg e]
theorem zoo {κ:Type} [DecidableEq κ] (k:κ):∀ l:List (κ×D),(l.any λ kv=>decide (kv.1=k))=(getA l k).isSome
|[]=>rfl
|p :: r=>by
  rw [List.any_cons,zr1,zoo k r]
  by_cases e:p.1=k
  ·simp [e]
  ·simp [e]
theorem zvi {κ:Type} [DecidableEq κ] (k k':κ) (d:D):∀ l:List (κ×D),getA (l.map λ kv=>if kv.1=k then (kv.1,d) else kv) k'=if k=k' then (getA l k').map (λ _=>d) else getA l k'
|[]=>by simp [getA]
|p :: r=>by
  rw [List.map_cons,zr1,zr1,zvi k k' d r]
  by_cases e1:p.1=k
  ·rw [if_pos e1]
   by_cases e2:k=k'
   ·rw [if_pos (e1.trans e2),if_pos e2,if_pos (e1.trans e2)];rfl
   ·have:¬ p.1=k':=λ z=>e2 (e1.symm.trans z)
    rw [if_neg this,if_neg e2,if_neg e2,if_neg this]
  ·rw [if_neg e1]
   by_cases e2:p.1=k'
   ·have:¬ k=k':=λ z=>e1 (e2.trans z.symm)
    rw [if_pos e2,if_neg this,if_pos e2]
   ·rw [if_neg e2,if_neg e2]
theorem zsn {κ:Type} [DecidableEq κ] (kvs:List (κ×D)) (k k':κ) (d:D):getA (putD kvs k d) k'=if k=k' then some d else getA kvs k':=by
 unfold putD
 rw [zoo]
 by_cases e:k=k'
 ·subst e
  rw [if_pos rfl]
  cases h:getA kvs k with
 |some x=>rw [if_pos (by simp),zvi,if_pos rfl,h];rfl
 |none=>rw [if_neg (by simp),znh,h];simp
 ·rw [if_neg e]
  split
  ·rw [zvi,if_neg e]
  ·rw [znh]
   cases getA kvs k' with
  |none=>simp [e]
  |some y=>rfl
theorem zky {κ:Type} [DecidableEq κ] (kvs:List (κ×D)) (k:κ) (d:D):(putD kvs k d).length<=kvs.length+1:=by
 unfold putD
 split
 ·rw [List.length_map];lia
 ·simp
def kP (u v:Nat):List Key:=[.inl (u:Int),.inl (v:Int)]
def Th (kvs:List (List Key×D)) (P:List Pr):Prop:=∀ (u v:Nat) d,getA kvs (kP u v)=some d->∃ j:Nat,d=nI j/\P[j]?=some (u,v)
theorem Th.nil:Th [] []:=λ u v d h=>by simp [getA] at h
structure Dr (n src snk:Nat) (P:List Pr) (f sl:List Int) (kvs:List (List Key×D)):Prop where
 lf:f.length=P.length
 ls:sl.length=P.length
 lk:kvs.length<=P.length
 bd:∀ p∈P,p.1 < n/\p.2 < n
 f0:∀ x∈f,0<=x
 s0:∀ x∈sl,0<=x
 th:Th kvs P
theorem Dr.nil (n src snk:Nat):Dr n src snk [] [] [] []:=⟨rfl,rfl,Nat.le_refl _,λ p h=>by simp at h,λ p h=>by simp at h,λ p h=>by simp at h,Th.nil⟩
theorem zmk {f:Int->Int->Int} {fl gl:Str} {C a:Addr} {ts:List (Str×T)} {di dy dz:DE} {E:DEnds} {U:DSt} {ds:List D} {kvs:List (List Key×D)} {z y c:Int} {yd zd:D} {key:List Key} {j:Nat}
  (h0:U[0]?=some (.io a (.ob C ts))) (hl:ts.lookup fl=some (.li ds)) (hg:ts.lookup gl=some (.dt kvs)) (ne:fl≠gl) (hi:∀ Q:D->Prop,Q (.int z)->di U Q) (hy:∀ Q:D->Prop,Q yd->dy U Q) (hz:∀ Q:D->Prop,Q zd->dz U Q)
  (z0:0<=z) (gy:ds[z.toNat]?=some (.int y)) (hj:ixN ds.length z=some j) (hk:keyT yd=some key) (hc:(getA kvs key).getD zd=.int c)
  (q:E.nx (U.set 0 (.io a (.ob C (putA fl (.li (ds.set j (.int (f y c)))) (putA gl (.dt (zd7 kvs key)) ts)))))) :
  zlg f (pFld C fl (pVar 0)) di (pFld C gl (pVar 0)) dy dz E U:=by
 have l0:0 < U.length:=(List.getElem?_eq_some_iff.mp h0).1
 have m1:∀ (p:Pth) (u:T) (N:DSt->Prop),mutS U 0 p u N=N (U.set 0 (.io a (setP (.ob C ts) p u))):=λ p u N=>by simp only [mutS,h0]
 have e1:setP (.ob C ts) [.fl gl] (.dt (zd7 kvs key))=.ob C (putA gl (.dt (zd7 kvs key)) ts):=by simp only [setP,hg]
 have e2:∀ u,setP (.ob C (putA gl (.dt (zd7 kvs key)) ts)) [.fl fl] u=.ob C (putA fl u (putA gl (.dt (zd7 kvs key)) ts)):=λ u=>by
  simp only [setP,zx7 ne,hl]
 have fin:mutS U 0 [.fl gl] (.dt (zd7 kvs key)) λ U1=>mutS U1 0 [.fl fl] (.li (ds.set j (.int (f y c)))) E.nx:=by
  rw [m1,e1]
  have:(U.set 0 (.io a (.ob C (putA gl (.dt (zd7 kvs key)) ts))))[0]?=some (.io a (.ob C (putA gl (.dt (zd7 kvs key)) ts))):=List.getElem?_set_self l0
  simp only [mutS,this,e2,List.set_set]
  exact q
 have pv:∀ (g:Str) (u:T) (Q:Nat->Pth->T->Prop),ts.lookup g=some u->Q 0 [.fl g] u->pFld C g (pVar 0) U Q:=λ g u Q hu hq=>⟨_,_,h0,rfl,rfl,u,hu,hq⟩
 refine pv fl _ _ hl (hi _ ⟨z0,_,gy,pv gl _ _ hg ⟨rfl,hy _ (hz _ ⟨key,hk,?_⟩)⟩⟩)
 rw [hc]
 exact ⟨j,hj,⟨rfl,fl,gl,rfl,rfl,ne⟩,fin⟩
end L5
namespace L4
open PySem PySem.Spec PyProof.Rows L2 L3
section
variable {P:Program} {w:World} {K:Fg} {mg:Str->Option Value} {base:Heap}
end
section
variable {K:Fg} {g:TG} {dg:DG} {tb:TS} {db:DS} {n:Nat}
end
section
variable {K:Fg} {t1 t2 t3 te:TE} {d1 d2 d3:DE} {dn:DN}
end
end L4
namespace L5
open PySem PySem.W PyProof.Rows
structure Lts (lt:Nat->Nat->Bool):Prop where
 asym:∀ {i j},lt i j=true->lt j i=false
 tr:∀ {i j k},lt j i=false->lt k j=false->lt k i=false
theorem Lts.irr {lt:Nat->Nat->Bool} (o:Lts lt) (i:Nat):lt i i=false:=by
 cases h:lt i i with
|false=>rfl
|true=>rw [o.asym h] at h;cases h
def Ans (n:Nat) (lt:Nat->Nat->Bool) (cmp:Nat->Nat->(Bool->Shared->Prop)->Shared->Prop) (s:Shared):Prop:=∀ i j,i < n->j < n->∀ C:Bool->Shared->Prop,C (lt i j) s->cmp i j C s
def Whole (n:Nat) (p:Array Nat):Prop:=p.toList.Perm (List.range n)
def Rise (lt:Nat->Nat->Bool) (p:Array Nat) (m:Nat):Prop:=∀ i j,i<=j->j < m->lt (p.getD j 0) (p.getD i 0)=false
def Sink (lt:Nat->Nat->Bool) (p:Array Nat) (m:Nat):Prop:=∀ i j,i<=j->j < m->lt (p.getD i 0) (p.getD j 0)=false
def zk41 (lt:Nat->Nat->Bool) (p:Array Nat) (m q:Nat):Prop:=∀ i,m<=i+q+1->i < m->lt (p.getD i 0) (p.getD (m - 1) 0)=false/\lt (p.getD (m - 1) 0) (p.getD i 0)=false
section
variable {n:Nat} {lt:Nat->Nat->Bool} {cmp:Nat->Nat->(Bool->Shared->Prop)->Shared->Prop} {s:Shared} {p:Array Nat}
theorem Whole.size (h:Whole n p):p.size=n:=by have:=h.length_eq;simpa using this
theorem Whole.bnd (h:Whole n p) (hn:0 < n) (k:Nat):p.getD k 0 < n:=by
 by_cases hk:k < p.size
 ·have:p[k]∈p.toList:=by simp
  have:=h.mem_iff.mp this
  simp only [Array.getD,hk,dite_true]
  exact List.mem_range.mp this
 ·simp only [Array.getD,hk,dite_false];exact hn
theorem Whole.rev (h:Whole n p) (i j:Nat):Whole n (kas_rev p i j):=(Array.perm_iff_toList_perm.mp (mirror_perm p i j _)).trans h
theorem Whole.bub (h:Whole n p) (i j:Nat):Whole n (bubble p i j):=(Array.perm_iff_toList_perm.mp (bubble_perm p i j)).trans h
theorem zhi (p:Array Nat) (k:Nat):p.getD k 0=(p[k]?).getD 0:=by simp
theorem zgi (hj:j<=p.size) (k:Nat):(kas_rev p i j).getD k 0=if i<=k/\k < j then p.getD (i+j - 1 - k) 0 else p.getD k 0:=by
 rw [zhi,zhi,zhi,kas_rev,getElem?_mirror_all hj]
 split <;> simp_all
theorem zx01 (hs:src < p.size) (hd:d<=src) (k:Nat):(bubble p src d).getD k 0=if k=src - d then p.getD src 0 else if src - d < k/\k<=src then p.getD (k - 1) 0 else p.getD k 0:=by
 rw [zhi,zhi,zhi,zhi,getElem?_bubble hs d hd]
 split
 ·rfl
 ·split <;> rfl
theorem Rise.more (o:Lts lt) (h:Rise lt p m) (h1:1<=m) (c:lt (p.getD m 0) (p.getD (m - 1) 0)=false):Rise lt p (m+1):=by
 intro i j hij hj
 by_cases e:j=m
 ·subst e
  by_cases e2:i=j
  ·subst e2;exact o.irr _
  ·exact o.tr (h i (j - 1) (by lia) (by lia)) c
 ·exact h i j hij (by lia)
theorem Sink.more (o:Lts lt) (h:Sink lt p m) (h1:1<=m) (c:lt (p.getD (m - 1) 0) (p.getD m 0)=false):Sink lt p (m+1):=by
 intro i j hij hj
 by_cases e:j=m
 ·subst e
  by_cases e2:i=j
  ·subst e2;exact o.irr _
  ·exact o.tr c (h i (j - 1) (by lia) (by lia))
 ·exact h i j hij (by lia)
theorem kw_t {α:Type} {T₁ T₂:KasT α} {Q:α->Shared->Prop} (h:T₁.kasWp cmp Q s):(if true=true then T₁ else T₂).kasWp cmp Q s:=by rw [if_pos rfl];exact h
theorem kw_f {α:Type} {T₁ T₂:KasT α} {Q:α->Shared->Prop} (h:T₂.kasWp cmp Q s):(if false=true then T₁ else T₂).kasWp cmp Q s:=by rw [if_neg (by simp)];exact h
theorem znu (a:Ans n lt cmp s) (o:Lts lt) (hn:0 < n) (w:Whole n p) {Q:Nat->Shared->Prop}:∀ (f m:Nat),1<=m->Rise lt p m ->
  (∀ m',m<=m'->m'<=m+f->Rise lt p m'->(m'=m+f \/ lt (p.getD m' 0) (p.getD (m' - 1) 0)=true)->Q m' s)->(kas_asc p f m).kasWp cmp Q s
|0,m,h1,r,q=>q m (Nat.le_refl _) (Nat.le_refl _) r (.inl rfl)
|f+1,m,h1,r,q=>by
  refine a _ _ (w.bnd hn _) (w.bnd hn _) _ ?_
  cases c:lt (p.getD m 0) (p.getD (m - 1) 0) with
 |true=>refine kw_t ?_;exact q m (Nat.le_refl _) (by lia) r (.inr c)
 |false =>
   refine kw_f ?_
   exact znu a o hn w f (m+1) (by lia) (r.more o h1 c) λ m' h2 h3 h4 h5=>q m' (by lia) (by lia) h4 (by rcases h5 with h5|h5;exact .inl (by lia);exact .inr h5)
theorem zqj (o:Lts lt) (w:Whole n p) (hm:m<=n) (hq:q < m) (e:zk41 lt p m q) (k:Nat):lt ((kas_rev p (m - (q+1)) m).getD k 0) (p.getD k 0)=false/\lt (p.getD k 0) ((kas_rev p (m - (q+1)) m).getD k 0)=false:=by
 rw [zgi (by rw [w.size];exact hm)]
 split
 ·rename_i hk
  have e1:=e k (by lia) hk.2
  have e2:=e (m - (q+1)+m - 1 - k) (by lia) (by lia)
  exact ⟨o.tr e1.2 e2.1,o.tr e2.2 e1.1⟩
 ·exact ⟨o.irr _,o.irr _⟩
theorem Sink.alike (o:Lts lt) {p':Array Nat} (h:Sink lt p m) (e:∀ k,lt (p'.getD k 0) (p.getD k 0)=false/\lt (p.getD k 0) (p'.getD k 0)=false):Sink lt p' m:=λ i j hij hj =>
 o.tr (o.tr (e j).2 (h i j hij hj)) (e i).1
theorem zdk (a:Ans n lt cmp s) (o:Lts lt) (hn:0 < n) {Q:Array Nat×Nat×Nat->Shared->Prop}:∀ (f:Nat) (p:Array Nat) (m q:Nat),Whole n p->1<=m->m+f<=n->q < m->Sink lt p m->zk41 lt p m q ->
  (∀ p' m' q',Whole n p'->m<=m'->m'<=m+f->q' < m'->Sink lt p' m'->zk41 lt p' m' q'->Q (p',m',q') s)->(kas_desc f p m q).kasWp cmp Q s
|0,p,m,q,w,h1,hf,hq,d,e,k=>k p m q w (Nat.le_refl _) (Nat.le_refl _) hq d e
|f+1,p,m,q,w,h1,hf,hq,d,e,k=>by
  refine a _ _ (w.bnd hn _) (w.bnd hn _) _ ?_
  cases c:lt (p.getD m 0) (p.getD (m - 1) 0) with
 |true =>
   refine kw_t ?_
   have al:∀ p',zk41 lt p' (m+1) 0:=λ p' i h2 h3=>by
    have:i=m:=by lia
    subst this
    exact ⟨o.irr _,o.irr _⟩
   by_cases hq0:q > 0
   ·rw [if_pos hq0]
    have ek:=zqj o w (by lia) hq e
    refine zdk a o hn f _ (m+1) 0 (w.rev _ _) (by lia) (by lia) (by lia) ?_ (al _) λ p' m' q' a1 a2 a3 a4 a5 a6=>k p' m' q' a1 (by lia) (by lia) a4 a5 a6
    exact (d.more o h1 (o.asym c)).alike o ek
   ·rw [if_neg hq0]
    exact zdk a o hn f _ (m+1) 0 w (by lia) (by lia) (by lia) (d.more o h1 (o.asym c)) (al _) λ p' m' q' a1 a2 a3 a4 a5 a6=>k p' m' q' a1 (by lia) (by lia) a4 a5 a6
 |false =>
   refine kw_f ?_
   refine a _ _ (w.bnd hn _) (w.bnd hn _) _ ?_
   cases c2:lt (p.getD (m - 1) 0) (p.getD m 0) with
  |true=>refine kw_t ?_;exact k p m q w (Nat.le_refl _) (by lia) hq d e
  |false =>
    refine kw_f ?_
    refine zdk a o hn f p (m+1) (q+1) w (by lia) (by lia) (by lia) (d.more o h1 c2) (λ i h2 h3=>?_) λ p' m' q' a1 a2 a3 a4 a5 a6=>k p' m' q' a1 (by lia) (by lia) a4 a5 a6
    rw [show m+1 - 1=m by lia]
    by_cases e2:i=m
    ·subst e2;exact ⟨o.irr _,o.irr _⟩
    ·have e1:=e i (by lia) (by lia)
     exact ⟨o.tr c2 e1.1,o.tr e1.2 c⟩
theorem zph (w:Whole n p) (hm:m<=n) (h:Sink lt p m):Rise lt (kas_rev p 0 m) m:=by
 intro i j hij hj
 rw [zgi (by rw [w.size];exact hm),zgi (by rw [w.size];exact hm),if_pos ⟨Nat.zero_le _,by lia⟩,if_pos ⟨Nat.zero_le _,by lia⟩]
 exact h _ _ (by lia) (by lia)
theorem zfn (a:Ans n lt cmp s) (o:Lts lt) (hn:0 < n) (w:Whole n p) (h1:1<=m) (hm:m<=n) (d:Sink lt p m) {Q:Nat×Array Nat->Shared->Prop}
  (k:∀ p' m',Whole n p'->1<=m'->m'<=n->Rise lt p' m'->Q (m',p') s):(kas_tail3 m n p).kasWp cmp Q s:=by
 unfold kas_tail3
 rw [KasT.kasWp_bind]
 exact znu a o hn (w.rev _ _) _ m h1 (zph w hm d) λ m' h2 h3 h4 _=>k _ m' (w.rev _ _) (by lia) (by lia) h4
theorem zxc (a:Ans n lt cmp s) (o:Lts lt) (hn:0 < n) (w:Whole n p) (h1:1<=m) (hm:m+1<=n) (d:Sink lt p (m+1)) {Q:Nat×Array Nat->Shared->Prop}
  (k:∀ p' m',Whole n p'->1<=m'->m'<=n->Rise lt p' m'->Q (m',p') s):(kas_descPart m n p).kasWp cmp Q s:=by
 unfold kas_descPart
 rw [KasT.kasWp_bind]
 refine zdk a o hn _ p (m+1) 0 w (by lia) (by lia) (by lia) d (λ i h2 h3=>?_) λ p' m' q' a1 a2 a3 a4 a5 a6=>?_
 ·have:i=m:=by lia
  subst this
  exact ⟨o.irr _,o.irr _⟩
 ·show (if q' > 0 then kas_tail3 m' n (kas_rev p' (m' - (q'+1)) m') else kas_tail3 m' n p').kasWp cmp Q s
  split
  ·exact zfn a o hn (a1.rev _ _) (by lia) (by lia) (a5.alike o (zqj o a1 (by lia) a4 a6)) k
  ·exact zfn a o hn a1 (by lia) (by lia) a5 k
theorem zpv (a:Ans n lt cmp s) (o:Lts lt) (hn:0 < n) (w:Whole n p) {Q:Nat×Array Nat->Shared->Prop}
  (k:∀ p' m',Whole n p'->1<=m'->m'<=n->Rise lt p' m'->Q (m',p') s):(kas_count n p).kasWp cmp Q s:=by
 unfold kas_count
 rw [KasT.kasWp_bind]
 refine znu a o hn w _ 1 (Nat.le_refl _) (λ i j h1 h2=>?_) λ m h2 h3 h4 h5=>?_
 ·have:i=j:=by lia
  subst this
  exact o.irr _
 ·by_cases e:m=n
  ·rw [if_pos (by simp [e])];exact k p m w h2 (by lia) h4
  ·rw [if_neg (by simp [e])]
   have c:lt (p.getD m 0) (p.getD (m - 1) 0)=true:=by rcases h5 with h5|h5;lia;exact h5
   by_cases e1:m > 1
   ·rw [if_pos e1]
    refine a _ _ (w.bnd hn _) (w.bnd hn _) _ ?_
    cases c2:lt (p.getD 0 0) (p.getD (m - 1) 0) with
   |true=>refine kw_t ?_;exact k p m w h2 (by lia) h4
   |false =>
     refine kw_f ?_
     have al:∀ i j,i < m->j < m->lt (p.getD i 0) (p.getD j 0)=false:=λ i j hi hj =>
      o.tr (h4 j (m - 1) (by lia) (by lia)) (o.tr c2 (h4 0 i (by lia) hi))
     have sk:Sink lt (kas_rev p 0 m) m:=λ i j hij hj=>by
      rw [zgi (by rw [w.size];lia),zgi (by rw [w.size];lia),if_pos ⟨Nat.zero_le _,by lia⟩,if_pos ⟨Nat.zero_le _,by lia⟩]
      exact al _ _ (by lia) (by lia)
     refine zxc a o hn (w.rev _ _) h2 (by lia) (sk.more o h2 ?_) k
     rw [zgi (by rw [w.size];lia),zgi (by rw [w.size];lia),if_pos ⟨Nat.zero_le _,by lia⟩,if_neg (by lia)]
     exact o.tr (o.asym c) (al _ _ (by lia) (by lia))
   ·rw [if_neg e1]
    have:m=1:=by lia
    subst this
    refine zxc a o hn w (Nat.le_refl _) (by lia) (Sink.more o (λ i j h1 h2=>?_) (Nat.le_refl _) (o.asym c)) k
    have:i=j:=by lia
    subst this
    exact o.irr _
theorem zbj (a:Ans n lt cmp s) (o:Lts lt) (hn:0 < n) (w:Whole n p) {j:Nat} (r:Rise lt p j) {Q:Nat->Shared->Prop}:∀ (f l u:Nat),l<=u->u<=j->u - l<=f ->
  (∀ i,i < l->lt (p.getD j 0) (p.getD i 0)=false)->(∀ i,u<=i->i < j->lt (p.getD j 0) (p.getD i 0)=true) ->
  (∀ l',l'<=j->(∀ i,i < l'->lt (p.getD j 0) (p.getD i 0)=false)->(∀ i,l'<=i->i < j->lt (p.getD j 0) (p.getD i 0)=true)->Q l' s)->(kas_place p j f l u).kasWp cmp Q s
|0,l,u,h1,h2,h3,a1,a2,q=>q l (by lia) a1 λ i hi=>a2 i (by lia)
|f+1,l,u,h1,h2,h3,a1,a2,q=>by
  unfold kas_place
  by_cases e:l ≥ u
  ·rw [if_pos e];exact q l (by lia) a1 λ i hi=>a2 i (by lia)
  ·rw [if_neg e]
   refine a _ _ (w.bnd hn _) (w.bnd hn _) _ ?_
   cases c:lt (p.getD j 0) (p.getD ((l+u) / 2) 0) with
  |true =>
    refine kw_t (zbj a o hn w r f l ((l+u) / 2) (by lia) (by lia) (by lia) a1 (λ i hi hj=>?_) q)
    cases c3:lt (p.getD j 0) (p.getD i 0) with
   |true=>rfl
   |false=>rw [o.tr (r ((l+u) / 2) i hi hj) c3] at c;cases c
  |false =>
    refine kw_f (zbj a o hn w r f ((l+u) / 2+1) u (by lia) h2 (by lia) (λ i hi=>?_) a2 q)
    exact o.tr (r i ((l+u) / 2) (by lia) (by lia)) c
theorem zs21 (a : Ans n lt cmp s) (o : Lts lt) (hn : 0 < n) {Q : Array Nat → Shared → Prop} : ∀ (f : Nat) (p : Array Nat) (j : Nat), Whole n p → j + f = n → Rise lt p j → (∀ p', Whole n p' → Rise lt p' n → Q p' s) → (kas_bin f p j).kasWp cmp Q s
  | 0, p, j, w, h, r, q => q p w (by have : j = n := by lia
                                     rw [← this]; exact r)
  | f + 1, p, j, w, h, r, q => by
    unfold kas_bin
    rw [KasT.kasWp_bind]
    refine zbj a o hn w r j 0 j (Nat.zero_le _) (Nat.le_refl _) (by lia) (fun i hi => absurd hi (by lia)) (fun i h1 h2 => absurd h1 (by lia)) fun l hl b1 b2 => ?_
    refine zs21 a o hn f _ (j + 1) (w.bub _ _) (by lia) (fun i k hik hk => ?_) q
    have hs : j < p.size := by rw [w.size]; lia
    rw [zx01 hs (by lia), zx01 hs (by lia)]
    have e : j - (j - l) = l := by lia
    rw [e]
    by_cases k1 : k = l
    · rw [if_pos k1]
      by_cases i1 : i = l
      · rw [if_pos i1]; exact o.irr _
      · rw [if_neg i1, if_neg (by lia)]; exact b1 i (by lia)
    · rw [if_neg k1]
      by_cases k2 : l < k ∧ k ≤ j
      · rw [if_pos k2]
        by_cases i1 : i = l
        · rw [if_pos i1]; exact o.asym (b2 (k - 1) (by lia) (by lia))
        · rw [if_neg i1]
          by_cases i2 : l < i ∧ i ≤ j
          · rw [if_pos i2]; exact r _ _ (by lia) (by lia)
          · rw [if_neg i2]; exact r _ _ (by lia) (by lia)
      · rw [if_neg k2, if_neg (by lia), if_neg (by lia)]; exact r _ _ (by lia) (by lia)
theorem zu01 (a:Ans n lt cmp s) (o:Lts lt) (hn:0 < n) {Q:Array Nat->Shared->Prop} (q:∀ p,Whole n p->Rise lt p n->Q p s):(kas_sort n).kasWp cmp Q s:=by
 unfold kas_sort
 rw [KasT.kasWp_bind]
 refine zpv a o hn (by unfold Whole;exact List.Perm.refl _) λ p m w h1 h2 r=>?_
 show (if m < n then kas_bin (n - max m 1) p (max m 1) else .ret p).kasWp cmp Q s
 split
 ·exact zs21 a o hn _ p _ w (by lia) (by rw [Nat.max_eq_left h1];exact r) q
 ·have:m=n:=by lia
  subst this
  exact q p w r
end
end L5
namespace L3
open PySem PySem.W PySem.Spec PyProof.Rows L2 L5
def lexB:List Int->List Int->Bool
|[],[]=>false
|[],_ :: _=>true
|_ :: _,[]=>false
|a :: r,b :: t=>if a=b then lexB r t else decide (a < b)
theorem zw8 (a b:Int) (r t:List Int):lexB (a :: r) (b :: t)=if a=b then lexB r t else decide (a < b):=by rw [lexB]
theorem zzj:∀ {x y:List Int},lexB x y=true->lexB y x=false
|[],[],h=>by simp [lexB] at h
|[],_ :: _,h=>by simp [lexB]
|_ :: _,[],h=>by simp [lexB] at h
|a :: r,b :: t,h=>by
  rw [zw8] at h ⊢
  by_cases e:a=b
  ·subst e;rw [if_pos rfl] at h ⊢;exact zzj h
  ·rw [if_neg e] at h;rw [if_neg (Ne.symm e)];simp at h ⊢;lia
theorem zht:∀ {x y z:List Int},lexB y x=false->lexB z y=false->lexB z x=false
|[],[],z,_,h=>h
|[],_ :: _,[],_,_=>by simp [lexB]
|[],_ :: _,_ :: _,_,_=>by simp [lexB]
|_ :: _,[],_,h,_=>by simp [lexB] at h
|_ :: _,_ :: _,[],_,h=>by simp [lexB] at h
|a :: r,b :: t,c :: u,h,k=>by
  rw [zw8] at h k ⊢
  by_cases e:b=a
  ·subst e
   rw [if_pos rfl] at h
   by_cases e2:c=b
   ·subst e2;rw [if_pos rfl] at k ⊢;exact zht h k
   ·rw [if_neg e2] at k ⊢;exact k
  ·rw [if_neg e] at h
   by_cases e2:c=b
   ·subst e2;rw [if_neg e];exact h
   ·rw [if_neg e2] at k
    simp at h k
    rw [if_neg (by lia)];simp;lia
theorem znk:∀ {x y:List Int},lexB x y=false->lexB y x=false->x=y
|[],[],_,_=>rfl
|[],_ :: _,h,_=>by simp [lexB] at h
|_ :: _,[],_,h=>by simp [lexB] at h
|a :: r,b :: t,h,k=>by
  rw [zw8] at h k
  by_cases e:a=b
  ·subst e;rw [if_pos rfl] at h k;rw [znk h k]
  ·rw [if_neg e] at h;rw [if_neg (Ne.symm e)] at k;simp at h k;lia
theorem zj31 (rows:List (List Int)):Lts λ i j=>lexB (rows.getD i []) (rows.getD j []):=⟨zzj,zht⟩
section
variable {s:Shared} {w:World} {prog:Program} {E:Value->Shared->Prop} {A:Around}
theorem zr01 {Q:Bool->Shared->Prop} {fin:Bool}:∀ (xs ys:List Int) (vs ws:List Value) (i:Nat),IntsAre vs xs->IntsAre ws ys->fin=decide (xs.length < ys.length)->Q (lexB xs ys) s->KatLex prog w A true fin Q (vs.zip ws) i s
|[],[],_,_,i,.nil,.nil,e,q=>by subst e;exact q
|[],_ :: _,_,_,i,.nil,.cons _ _ _,e,q=>by
  have:fin=true:=by rw [e];simp
  subst this
  exact kat_nil q
|_ :: _,[],_,_,i,.cons _ _ _,.nil,e,q=>by
  have:fin=false:=by rw [e];simp
  subst this
  exact kat_nil q
|a :: r,b :: t,_,_,i,.cons _ u h,.cons _ u2 k,e,q=>by
  rw [List.zip_cons_cons]
  rw [zw8] at q
  refine kat_cons (wpAny_eqBool_int (kat_go (λ e1=>kat_yes ?_) λ e1=>kat_no ?_))
  ·have:a=b:=by simpa using e1
   subst this
   rw [if_pos rfl] at q
   exact zr01 r t _ _ (i+1) h k (by rw [e];simp) q
  ·have:a≠b:=by simpa using e1
   rw [if_neg this] at q
   cases (true && i == 0) with
  |true=>exact oneLt_int q
  |false=>exact kat_one _ _ (PyProof.Rows.lt_int q)
inductive TupRows (h:Heap):List Value->List (List Int)->Prop
|nil:TupRows h [] []
|cons {v:Value} {r:List Int} {vs:List Value} {rows:List (List Int)}:(∃ b o its k,v=.ref b/\h.get? b=some o/\o.cls=.type "tuple"/\o.data=.seq its k/\IntsAre its.toList r/\r≠[])->TupRows h vs rows->TupRows h (v :: vs) (r :: rows)
theorem TupRows.mono {h h':Heap} {vs:List Value} {rows:List (List Int)} (t:TupRows h vs rows) (k:∀ b o,h.get? b=some o->o.cls=.type "tuple"->h'.get? b=some o):TupRows h' vs rows:=by
 induction t with
|nil=>exact .nil
|cons a t ih =>
  obtain ⟨b,o,its,n,e1,e2,e3,e4,e5,e6⟩:=a
  exact .cons ⟨b,o,its,n,e1,k b o e2 e3,e3,e4,e5,e6⟩ ih
theorem TupRows.at {h:Heap}:∀ {vs:List Value} {rows:List (List Int)},TupRows h vs rows->∀ {i:Nat},i < vs.length->∃ b o its k,vs.getD i .none=.ref b/\h.get? b=some o/\o.cls=.type "tuple"/\o.data=.seq its k/\IntsAre its.toList (rows.getD i [])/\rows.getD i []≠[]
|_,_,.nil,i,hi=>by simp at hi
|_,_,.cons a t,0,_=>a
|_,_,.cons a t,i+1,hi=>by simpa using TupRows.at t (i:=i) (by simpa using hi)
theorem TupRows.firsts {h:Heap}:∀ {vs:List Value} {rows:List (List Int)},TupRows h vs rows->∃ fs:List Value,KatTups h vs fs/\fs.length=vs.length/\∀ v∈fs,∃ n t,v=Value.int n t
|_,_,.nil=>⟨[],.nil,rfl,by simp⟩
|_,_,.cons ⟨b,o,its,n,e1,e2,e3,e4,e5,e6⟩ t=>by
  obtain ⟨fs,k1,k2,k3⟩:=TupRows.firsts t
  subst e1
  obtain ⟨l,hl⟩:∃ l,its.toList=l:=⟨_,rfl⟩
  rw [hl] at e5
  cases e5 with
 |nil=>exact absurd rfl e6
 |cons x u r =>
   refine ⟨.int x u :: fs,KatTups.cons e2 e3 e4 ?_ k1,by simp [k2],?_⟩
   ·rw [<- Array.getElem?_toList,hl];rfl
   ·intro v hv
    rcases List.mem_cons.mp hv with rfl|hv
    ·exact ⟨_,_,rfl⟩
    ·exact k3 v hv
theorem zmp {a:Addr} {vs:List Value} {rows:List (List Int)} {n:Nat} {P:Fin->Shared->Prop} (go:s.heap.get? a=some (seqObj "list" vs.toArray n)) (t:TupRows s.heap vs rows) (h2:2<=vs.length) (h64:vs.length < 64)
  (h:∀ p:Array Nat,Whole vs.length p->Rise (λ i j=>lexB (rows.getD i []) (rows.getD j [])) p vs.length->P (.done (.ret .none)) { s with heap:=sortedHeap s.heap a vs (List.toArray (p.toList.map λ i=>vs.getD i .none)) }) :
  wpAny (model prog w) A (Builtin.«list.sort» ⟨[.ref a],[]⟩) P E s:=by
 have al:a < s.heap.objs.size:=Heap.lt_size go
 obtain ⟨e1,g1⟩:∃ e1,(s.heap.update a (Obj.mapSeq λ _=>#[])).get? a=some (seqObj "list" #[] e1):=⟨_,get?_update_seq go λ _=>#[]⟩
 rw [list_sort_plain]
 refine wpAny_bind (listItems_at go rfl (wpAny_bind (listUpdate_at go rfl (wpAny_bind (seqEpoch_at g1 rfl (wpAny_bind (wpAny_newTuple (wpAny_bind (wpAny_newList (wpAny_holding ?_))))))))))
 have g6:(((s.heap.update a (Obj.mapSeq λ _=>#[])).push (seqObj "tuple" vs.toArray 0)).push (seqObj "list" #[] 0)).get? a=some (seqObj "list" #[] e1):=Heap.get?_push_of_some _ (Heap.get?_push_of_some _ g1)
 have t6:TupRows (((s.heap.update a (Obj.mapSeq λ _=>#[])).push (seqObj "tuple" vs.toArray 0)).push (seqObj "list" #[] 0)) vs rows:=t.mono λ b o ho hc=>by
  have hb:b≠a:=by
   rintro rfl
   rw [go] at ho
   cases ho
   simp at hc
  exact Heap.get?_push_of_some _ (Heap.get?_push_of_some _ (by rw [Heap.get?_update_ne _ _ _ _ hb];exact ho))
 refine (show wpAny (model prog w) A _ P E { s with heap:=((s.heap.update a (Obj.mapSeq λ _=>#[])).push (seqObj "tuple" vs.toArray 0)).push (seqObj "list" #[] 0) } from ?_)
 dsimp only
 have hn2:¬ vs.toArray.size < 2:=by rw [List.size_toArray];lia
 rw [if_neg hn2,if_neg hn2]
 obtain ⟨fs,k1,k2,k3⟩:=t6.firsts
 refine wpAny_bind (kat_kind (T:=.type "int") k1 (by lia) (λ v hv=>?_) rfl ?_)
 ·obtain ⟨x,u,rfl⟩:=k3 v hv
  exact .now
 have ask:Ans vs.length (λ i j=>lexB (rows.getD i []) (rows.getD j [])) (kas_ask prog w A (tuples' (Value.type "int" != Value.type "tuple")) vs) { s with heap:=((s.heap.update a (Obj.mapSeq λ _=>#[])).push (seqObj "tuple" vs.toArray 0)).push (seqObj "list" #[] 0) }:=by
  intro i j hi hj C hc
  obtain ⟨b,o,its,n,a1,a2,a3,a4,a5,a6⟩:=t6.at hi
  obtain ⟨b',o',its',n',c1,c2,c3,c4,c5,c6⟩:=t6.at hj
  unfold kas_ask
  rw [a1,c1]
  refine kat_lt a2 a4 c2 c4 (zr01 _ _ _ _ 0 a5 c5 ?_ hc)
  rw [<- Array.length_toList,<- Array.length_toList,a5.length,c5.length]
 refine wpAny_bind (wpAny_mono (kat_run (Q:=λ st' s'=>s'={ s with heap:=((s.heap.update a (Obj.mapSeq λ _=>#[])).push (seqObj "tuple" vs.toArray 0)).push (seqObj "list" #[] 0) }/\∃ p:Array Nat,arrOf st'=p.map (kas_item (vs.toArray.zip vs.toArray))/\failedOf st'=none/\Whole vs.length p/\Rise (λ i j=>lexB (rows.getD i []) (rows.getD j [])) p vs.length)
  (G:=λ p s'=>s'={ s with heap:=((s.heap.update a (Obj.mapSeq λ _=>#[])).push (seqObj "tuple" vs.toArray 0)).push (seqObj "list" #[] 0) }/\Whole vs.length p/\Rise (λ i j=>lexB (rows.getD i []) (rows.getD j [])) p vs.length)
  rfl h2 h64 (λ p st' s' b1 b2 b3 b4=>⟨b4.1,p,b2,b3,b4.2⟩) (zu01 ask (zj31 rows) (by lia) λ p w r=>⟨rfl,w,r⟩)) ?_ λ _ _ e=>e)
 rintro ⟨⟨⟩,st'⟩ s' ⟨rfl,p,har,hf,hw,hr⟩
 dsimp only
 have hout:=kat_snds rfl har
 rw [hout]
 refine wpAny_bind (seqEpoch_at g6 rfl (wpAny_bind (listUpdate_at (hsz2:=?_) g6 rfl ?_)))
 ·rw [hf]
  rw [if_neg (by simp)]
  exact wpAny_pure (h p hw hr)
 ·rw [List.size_toArray,List.length_map,Array.length_toList,hw.size,sizeLine_eq];lia
theorem zvk {l:Addr} {vs:List Value} {rows:List (List Int)} {Q:Value->Shared->Prop} (gl:s.heap.IsList l vs.toArray) (t:TupRows s.heap vs rows) (h2:2<=vs.length) (h64:vs.length < 64)
  (h:∀ p:Array Nat,Whole vs.length p->Rise (λ i j=>lexB (rows.getD i []) (rows.getD j [])) p vs.length->Q (.ref (s.heap.objs.size+1)) { s with heap:=sortedAll s.heap vs (List.toArray (p.toList.map λ i=>vs.getD i .none)) }):wpAny (model prog w) A (call (.builtin "sorted") [.ref l]) Q E s:=by
 refine Calls.call_function_entry kind_sorted plain_sorted entry_sorted (args_sorted1 _) ?_
 unfold Builtin.«sorted»
 have z:((s.heap.push (seqObj "list" #[] 0)).update s.heap.objs.size (Obj.mapSeq (·++vs.toArray))).objs.size=s.heap.objs.size+1:=by rw [Heap.size_update,size_push']
 have g:(((s.heap.push (seqObj "list" #[] 0)).update s.heap.objs.size (Obj.mapSeq (·++vs.toArray))).push (seqObj "list" vs.toArray 0)).get? (s.heap.objs.size+1)=some (seqObj "list" vs.toArray 0):=by
  rw [<- z];exact Heap.get?_push_size _ rfl
 have keep:∀ b o,s.heap.get? b=some o->(((s.heap.push (seqObj "list" #[] 0)).update s.heap.objs.size (Obj.mapSeq (·++vs.toArray))).push (seqObj "list" vs.toArray 0)).get? b=some o:=λ b o q=>by
  have hlt:b < s.heap.objs.size:=Heap.lt_size q
  rw [Heap.get?_push_ne _ _ _ (by rw [z];exact Nat.ne_of_lt (Nat.lt_succ_of_lt hlt)),Heap.get?_update_ne _ _ _ _ (Nat.ne_of_lt hlt),Heap.get?_push_ne _ _ _ (Nat.ne_of_lt hlt)]
  exact q
 refine wpAny_bind (m:=checkCount "sorted" 1 1 _) (wpAny_pure (wpAny_bind (collect_list gl ?_ (by rw [sizeLine_eq];lia))))
 refine wpAny_bind (wpAny_newList (show wpAny _ _ _ _ _ { s with heap:=((s.heap.push (seqObj "list" #[] 0)).update s.heap.objs.size (Obj.mapSeq (·++vs.toArray))).push (seqObj "list" vs.toArray 0) } from ?_) (by rw [sizeLine_eq];lia))
 rw [z]
 refine wpAny_bind (wpAny_holding (wpAny_call_entry slot_list_sort ⟨_,g,rfl⟩ entry_list_sort (zmp g (t.mono λ b o ho _=>keep b o ho) h2 h64 λ p w r=>⟨_,rfl,?_⟩) (args_list_sort _)))
 exact wpAny_pure ⟨_,rfl,h p w r⟩
end
inductive RowsV (K:Fg) (H:Hp):List V->List (List Int)->Prop
|nil:RowsV K H [] []
|cons {b:Addr} {r:List Int} {xs:List V} {rows:List (List Int)}:SqT K H b (r.map V.int)->r≠[]->RowsV K H xs rows->RowsV K H (.ref b :: xs) (r :: rows)
theorem RowsV.len {K:Fg} {H:Hp} {xs:List V} {rows:List (List Int)} (h:RowsV K H xs rows):xs.length=rows.length:=by
 induction h with
|nil=>rfl
|cons _ _ _ ih=>simp [ih]
def zu41 (rows:List (List Int)) (p:List Nat):Prop:=p.Perm (List.range rows.length)/\p.Pairwise λ i j=>lexB (rows.getD j []) (rows.getD i [])=false
def zdy (K:Fg):List V->Hp->VK->Prop:=λ vs H Q=>∃ (a:Addr) (xs:List V) (rows:List (List Int)),vs=[.ref a]/\SqL K H a xs/\RowsV K H xs rows/\rows.length < 64 /\
 ∀ p:List Nat,zu41 rows p->∀ l,H l=none->Q (.ref l) (upd H l (.lst (p.map λ i=>xs.getD i .non)))
theorem zm01 {X:Cx} {pins:List (Addr×Obj)} {s:Shared} {Y:St} {H:Hp} (I:L2.Inv X pins Y H s) {xs:List V} {rows:List (List Int)} (h:RowsV X.K H xs rows):∀ {us:List Value},Vals xs us->TupRows s.heap us rows:=by
 induction h with
|nil=>intro us r;cases r;exact .nil
|cons h1 h2 _ ih =>
  intro us r
  cases r with
 |cons a r =>
   cases a
   obtain ⟨its,rv,⟨o,g,gc,n,gd⟩,_⟩:=I.tuple h1
   exact .cons ⟨_,o,its.toArray,n,rfl,g,gc,gd,by simpa using zon rv,h2⟩ (ih r)
theorem Vals.getP {xs:List V} {us:List Value} (h:Vals xs us) {i:Nat} (hi:i < xs.length):RelV (xs.getD i .non) (us.getD i .none):=by
 obtain ⟨u,e,r⟩:=Vals.get h (List.getElem?_eq_getElem hi)
 rw [List.getD_eq_getElem?_getD,List.getD_eq_getElem?_getD,List.getElem?_eq_getElem hi,e]
 exact r
theorem Vals.pick {xs:List V} {us:List Value} (h:Vals xs us):∀ (p:List Nat),(∀ i∈p,i < xs.length)->Vals (p.map λ i=>xs.getD i .non) (p.map λ i=>us.getD i .none)
|[],_=>.nil
|i :: p,q=>.cons (Vals.getP h (q i (.head _))) (Vals.pick h p λ j hj=>q j (.tail _ hj))
theorem zsq {rows:List (List Int)} (h:rows.length < 2):zu41 rows (List.range rows.length):=by
 refine ⟨List.Perm.refl _,?_⟩
 rcases rows with _|⟨r,_|⟨r2,t⟩⟩
 ·simp
 ·simp [List.range_succ]
 ·simp at h;lia
theorem zrt {rows:List (List Int)} {p:Array Nat} (w:Whole rows.length p) (r:Rise (λ i j=>lexB (rows.getD i []) (rows.getD j [])) p rows.length):zu41 rows p.toList:=by
 refine ⟨w,?_⟩
 rw [List.pairwise_iff_getElem]
 intro i j hi hj hij
 have hz:=w.size
 have hi':i < p.size:=by simpa using hi
 have hj':j < p.size:=by simpa using hj
 have:=r i j (Nat.le_of_lt hij) (by lia)
 simpa [Array.getD,hi',hj'] using this
theorem zof {X:Cx} {K:Fg} (h:X.K=K):CallR X (.builtin "sorted") (zdy K):=by
 subst h
 intro pins s Y H xs us Q I r h
 obtain ⟨a,ys,rows,rfl,hx,hr,hz,q⟩:=h
 obtain ⟨u,rfl,r1⟩:=zfx r
 cases r1
 obtain ⟨its,rv,p,_⟩:=I.list hx
 have hl:its.length=rows.length:=by rw [<- rv.length,hr.len]
 have hy:=hr.len
 by_cases h2:its.length < 2
 ·have eo:(its.toArray.zip its.toArray).map (·.2)=its.toArray:=by
   apply Array.toList_inj.mp
   rw [Array.toList_map,Array.toList_zip];exact List.map_snd_zip (Nat.le_refl _)
  refine zho p.isList (by simpa using h2) ?_
  rw [eo]
  obtain ⟨e,he⟩:=sortedAll_at s.heap its its.toArray
  have ei:(List.range rows.length).map (λ i=>ys.getD i .non)=ys:=by
   apply List.ext_getElem
   ·simp [hy]
   ·intro i h1 h3;simp [List.getElem?_eq_getElem h3]
  refine ⟨.ref _,upd H (s.heap.objs.size+1) (.lst ys),I.laid (a:=s.heap.objs.size+1) (t':=s.toks) (λ b o=>sortedAll_old) (Nat.le_succ _) ⟨by rw [sizeLine_eq];lia,its,e,rv,he⟩,rfl,?_⟩
  have:=q _ (zsq (by lia)) _ (I.hok.fresh (Nat.le_succ _))
  rw [ei] at this
  exact this
 ·refine zvk p.isList (zm01 I hr rv) (by lia) (by lia) λ pp w rs=>?_
  rw [hl] at w rs
  obtain ⟨e,he⟩:=sortedAll_at s.heap its (List.toArray (pp.toList.map λ i=>its.getD i .none))
  have hlt:∀ i∈pp.toList,i < ys.length:=λ i hi=>by
   have:=List.mem_range.mp (w.mem_iff.mp hi)
   lia
  refine ⟨.ref _,upd H (s.heap.objs.size+1) (.lst (pp.toList.map λ i=>ys.getD i .non)),I.laid (a:=s.heap.objs.size+1) (t':=s.toks) (λ b o=>sortedAll_old) (Nat.le_succ _) ⟨?_,pp.toList.map λ i=>its.getD i .none,e,Vals.pick rv pp.toList hlt,he⟩,rfl,q _ (zrt w rs) _ (I.hok.fresh (Nat.le_succ _))⟩
  rw [List.length_map,Array.length_toList,w.size,sizeLine_eq];lia
end L3
namespace L4
open PySem PySem.Spec PyProof.Rows L2 L3
section
variable {K:Fg}
def rowD (r:List Int):D:=.tuple (r.map .int)
def zop:List D->(List D->Prop)->Prop
|[.list ds],Q=>∃ rows:List (List Int),ds=rows.map rowD/\(∀ r∈rows,r≠[])/\rows.length < 64/\∀ rows':List (List Int),rows'.Perm rows->rows'.Pairwise (λ a b=>lexB b a=false)->Q (rows'.map rowD)
|_,_=>False
theorem zyl {F H:Hp} (s:Same F H):∀ {xs:List V} {rows:List (List Int)},(∀ r∈rows,r≠[])->IsAll K F xs (rows.map rowD)->RowsV K H xs rows
|[],[],_,_=>.nil
|_,_ :: _,n,.cons a r=>by
  obtain ⟨b,ys,rfl,h1,h2⟩:=Is.tuple_inv a
  have:=zsh h2 (zxn _)
  subst this
  exact .cons (zwp s h1) (n _ (.head _)) (zyl s (λ r hr=>n r (.tail _ hr)) r)
theorem zcn {F:Hp} {xs:List V} {ds:List D} (h:IsAll K F xs ds) {i:Nat} (hi:i < xs.length):Is K F (xs.getD i .non) (ds.getD i .none):=by
 obtain ⟨d,e,r⟩:=h.get (List.getElem?_eq_getElem hi)
 rw [List.getD_eq_getElem?_getD,List.getD_eq_getElem?_getD,List.getElem?_eq_getElem hi,e]
 exact r
theorem ztg {F:Hp} {xs:List V} {ds:List D} (h:IsAll K F xs ds):∀ (p:List Nat),(∀ i∈p,i < xs.length)->IsAll K F (p.map λ i=>xs.getD i .non) (p.map λ i=>ds.getD i .none)
|[],_=>.nil
|i :: p,q=>.cons (zcn h (q i (.head _))) (ztg h p λ j hj=>q j (.tail _ hj))
theorem zas:CF K (zdy K) zop:=by
 intro F H vs ds Qd Q s hv h k
 unfold zop at h
 split at h
 ·obtain ⟨v,rfl,hw⟩:=vw1 hv
  obtain ⟨p,xs,rfl,h1,i1⟩:=hw.list s
  obtain ⟨rows,rfl,hn,hz,q⟩:=h
  have hr:=zyl s hn i1
  refine ⟨p,xs,rows,rfl,h1,hr,hz,λ pp po l hl=>?_⟩
  obtain ⟨ex,fn⟩:=zz5 (xs:=pp.map λ i=>xs.getD i .non) s hl
  have hlt:∀ i∈pp,i < xs.length:=λ i hi=>by
   have:=List.mem_range.mp (po.1.mem_iff.mp hi)
   rw [hr.len];exact this
  have e2:(pp.map λ i=>(rows.map rowD).getD i .none)=(pp.map λ i=>rows.getD i []).map rowD:=by
   rw [List.map_map]
   refine List.map_congr_left λ i hi=>?_
   have h3:i < rows.length:=by rw [<- hr.len];exact hlt i hi
   simp [h3]
  have e3:(List.range rows.length).map (λ i=>rows.getD i [])=rows:=by
   apply List.ext_getElem
   ·simp
   ·intro i h1 h3;simp [List.getElem?_eq_getElem h3]
  refine k _ (q (pp.map λ i=>rows.getD i []) ?_ ?_) l _ F _ ex hl zi0 fn ?_
  ·have:=po.1.map λ i=>rows.getD i []
   rw [e3] at this
   exact this
  ·exact List.pairwise_map.mpr po.2
  ·rw [<- e2];exact ztg i1 pp hlt
 ·exact h.elim
theorem zvw (ds:List D) (Q:List D->Prop):zop [.list ds] Q=∃ rows:List (List Int),ds=rows.map rowD/\(∀ r∈rows,r≠[])/\rows.length < 64/\∀ rows':List (List Int),rows'.Perm rows->rows'.Pairwise (λ a b=>lexB b a=false)->Q (rows'.map rowD):=rfl
end
end L4
namespace L3
open PySem PySem.Spec PyProof.Rows L2
section
variable {s:Shared} {w:World} {prog:Program} {E:Value->Shared->Prop} {A:Around}
end
section
variable {X:Cx} {tg:Expr}
end
end L3
namespace L4
open PySem PySem.Spec PyProof.Rows L2 L3
section
variable {K:Fg} {w:World}
end
section
variable {K:Fg} {g:TG} {dg:DG} {tb:TS} {db:DS} {n:Nat} {B:Bs} {F H:Hp} {Y:L2.St} {U:DSt} {fps:Nat->List Addr}
end
section
variable {K:Fg} {te:TE} {tA:TA} {dA:DF} {dc:DC} {tt tu:TT} {dt:DT} {t u:TS} {d e:DS}
abbrev DU:=DSt->(Bool->DSt->Prop)->Prop
variable {du:DU}
def RfU (K:Fg) (tt:TT) (du:DU):Prop:=∀ {B:Bs} {F H:Hp} {Y:L2.St} {U:DSt} {fps:Nat->List Addr} {Qd:Bool->DSt->Prop} {Q:Bool->Hp->Prop},RS K B F H Y U fps->du U Qd->(∀ b U',Qd b U'->∀ F' H' fps',RS K B F' H' Y U' fps'->Q b H')->tt Y H Q
def uNot (du:DU):DU:=λ U Q=>du U λ b U'=>Q (!b) U'
theorem zke (h:RfU K tt du):RfU K (tNot tt) (uNot du):=λ r q k=>h r q λ b U' z F' H' fps' r'=>k (!b) U' z F' H' fps' r'
def uAnd (dt:DT) (du:DU):DU:=λ U Q=>dt U λ b=>if b=true then du U Q else Q false U
theorem zl81 (ht:RfT K tt dt) (hu:RfU K tu du):RfU K (tAnd tt tu) (uAnd dt du):=by
 intro B F H Y U fps Qd Q r h k
 refine ht r.fh r.rv h λ b hb F1 H1 e1=>?_
 cases b with
|true=>rw [if_pos rfl] at hb ⊢;exact hu (r.grow e1) hb k
|false=>rw [if_neg Bool.false_ne_true] at hb ⊢;exact k false U hb F1 H1 fps (r.grow e1)
def uC (dc:DC):DU:=λ U Q=>dc U λ r U'=>∃ b,r=.fz (.bool b)/\Q b U'
theorem ru_c (h:RfC K te dc):RfU K (zz51 K te) (uC dc):=by
 intro B F H Y U fps Qd Q r hd k
 refine h r hd λ x U' q v F1 H1 fps1 fpr res=>?_
 obtain ⟨b,rfl,q⟩:=q
 have hr:=res.rt
 cases hr with
|fz hi =>
  cases hi
  exact ⟨b,rfl,k b U' q F1 H1 fps1 res.rs⟩
def dIfU (du:DU) (d e:DS):DS:=λ E U=>du U λ b U'=>if b=true then d E U' else e E U'
theorem zgf (ht:RfU K tt du) (h1:RfS K t d) (h2:RfS K u e):RfS K (tIfS tt t u) (dIfU du d e):=by
 intro B F H Y U fps E Z r h k
 refine ht r h λ b U' hb F1 H1 fps1 r1=>?_
 cases b with
|true=>rw [if_pos rfl] at hb ⊢;exact h1 r1 hb k
|false=>rw [if_neg Bool.false_ne_true] at hb ⊢;exact h2 r1 hb k
def zi31 (p:DSp) (dc:DC) (dA:DF):DC:=λ U Q=>dc U λ r U'=>∃ d,r=.fz d/\dA U' λ ds=>p (d :: ds) λ v=>Q (.fz v) U'
theorem zfo {p:DSp} {E:XK} (hc:RfC K te dc) (hA:RfA K tA dA):RfC K (zcs (spD K p) [] E (zk2 te tA)) (zi31 p dc dA):=by
 intro B F H Y U fps Qd Q r hd k
 refine hc r hd λ x U' q v F1 H1 fps1 fpr res=>?_
 obtain ⟨d,rfl,q⟩:=q
 have hr:=res.rt
 cases hr with
|fz hi =>
  refine hA res.rs.fh res.rs.rv q λ ds hp vs F2 H2 e2 i2=>?_
  refine (show spD K p (v :: vs++[]) H2 Q E from ?_)
  rw [List.append_nil]
  refine ⟨F2,d :: ds,_,e2.fh,.cons (hi.mono e2.f) i2,hp,λ z qz v' F' H' e3 i3=>?_⟩
  exact k _ U' qz v' F' H' fps1 [] ⟨res.rs.grow (e2.trans e3),.fz i3,.nil,λ a ha=>by simp at ha,λ _ _ _ _ a _ ha=>by simp at ha⟩
theorem zl61 (du:DU) (U:DSt) (Q:Bool->DSt->Prop):uNot du U Q=du U λ b U'=>Q (!b) U':=rfl
theorem zm71 (dt:DT) (du:DU) (U:DSt) (Q:Bool->DSt->Prop):uAnd dt du U Q=dt U λ b=>if b=true then du U Q else Q false U:=rfl
theorem e_uC (dc:DC) (U:DSt) (Q:Bool->DSt->Prop):uC dc U Q=dc U λ r U'=>∃ b,r=.fz (.bool b)/\Q b U':=rfl
theorem zh81 (du:DU) (d e:DS) (E:DEnds) (U:DSt):dIfU du d e E U=du U λ b U'=>if b=true then d E U' else e E U':=rfl
theorem zsw (p:DSp) (dc:DC) (dA:DF) (U:DSt) (Q:T->DSt->Prop):zi31 p dc dA U Q=dc U λ r U'=>∃ d,r=.fz d/\dA U' λ ds=>p (d :: ds) λ v=>Q (.fz v) U':=rfl
end
abbrev DX:=Addr->DSt->Prop
abbrev DSpX:=List Arg->(T->T->Prop)->(Addr->T->Prop)->Prop
def spX (K:Fg) (p:DSpX):Sp:=λ vs H Q E=>∃ F as bf oo Qd Xd,Same F H/\ArgsR K F H vs as bf oo/\(∀ b∈ofp oo,b ∉ bf)/\p as Qd Xd/\(∀ r t',Qd r t'->∀ v F' H' fpr fpo,Post K F H oo F' H' v r fpr t' fpo->Q v H') /\
 ∀ C t',Xd C t'->∀ F' H' fpo,Post K F H oo F' H' .non (.fz .none) [] t' fpo->E (.ref C) none H'
def ExOk (K:Fg) (EY:L2.St->XK) (ex:DX) (B:Bs):Prop:=∀ {C:Addr} {F H:Hp} {Y:L2.St} {U:DSt} {fps:Nat->List Addr},RS K B F H Y U fps->ex C U->EY Y (.ref C) none H
def RfSe (K:Fg) (EY:L2.St->XK) (ex:DX) (ts:TS) (ds:DS):Prop:=∀ {B:Bs} {F H:Hp} {Y:L2.St} {U:DSt} {fps:Nat->List Addr} {E:DEnds} {Z:Ends},ExOk K EY ex B->RS K B F H Y U fps->ds E U->En K B E Z->ts Z Y H
abbrev DCX:=DSt->(T->DSt->Prop)->DX->Prop
structure RfCx (K:Fg) (EY:L2.St->XK) (te:TE) (dc:DCX):Prop where
 of:∀ {B:Bs} {F H:Hp} {Y:L2.St} {U:DSt} {fps:Nat->List Addr} {Qd:T->DSt->Prop} {Xd:DX} {Q:VK},RS K B F H Y U fps->dc U Qd Xd->(∀ r U',Qd r U'->∀ v F' H' fps' fpr,Res K B F' H' Y U' fps' v r fpr->Q v H') ->
 (∀ C U',Xd C U'->∀ F' H' fps',RS K B F' H' Y U' fps'->EY Y (.ref C) none H')->te Y H Q
section
variable {K:Fg} {EY:L2.St->XK} {ex:DX} {te ta:TE} {tA:TA} {dA:DF} {dc:DCX} {tt:TT} {dt:DT} {t u tb:TS} {d e db:DS} {g:TG} {dg:DG} {n:Nat} {dp:DP} {dA':DAT}
theorem zhx (h:RfS K t d):RfSe K EY ex t d:=λ _ r q k=>h r q k
theorem zhn (h1:RfSe K EY ex t d) (h2:RfSe K EY ex u e):RfSe K EY ex (tSeq t u) (dSeq d e):=by
 intro B F H Y U fps E Z o r h k
 obtain ⟨J,ha,hb⟩:=h
 exact h1 o r ha ⟨λ r' q=>h2 o r' (hb _ q) k,k.bk,k.ct,k.rt⟩
theorem zcc1 (ht:RfT K tt dt) (h1:RfSe K EY ex t d) (h2:RfSe K EY ex u e):RfSe K EY ex (tIfS tt t u) (dIf dt d e):=by
 intro B F H Y U fps E Z o r h k
 refine ht r.fh r.rv h λ b hb F1 H1 e1=>?_
 cases b with
|true=>rw [if_pos rfl] at hb ⊢;exact h1 o (r.grow e1) hb k
|false=>rw [if_neg Bool.false_ne_true] at hb ⊢;exact h2 o (r.grow e1) hb k
def zar (dc:DCX) (ex:DX):DS:=λ E U=>dc U (λ _ U'=>E.nx U') ex
theorem zrs (hc:RfCx K EY te dc):RfSe K EY ex (zi61 te) (zar dc ex):=by
 intro B F H Y U fps E Z o r h k
 exact hc.of r h (λ r2 U' q v F1 H1 fps1 fpr res=>k.nx res.rs q) λ C U' q F1 H1 fps1 r1=>o r1 q
def zgv (C:Addr) (dA:DF) (ex:DX):DS:=λ _ U=>dA U λ ds=>ds.length<=sizeLine/\ex C U
theorem zmt {C:Addr} {E:XK} (h:RfA K tA dA):RfSe K (λ _=>E) ex (zd31 C E tA) (zgv C dA ex):=by
 intro B F H Y U fps E' Z o r hd k
 refine h r.fh r.rv hd λ ds q vs F1 H1 e1 i1=>⟨by rw [i1.dlen];exact q.1,o (r.grow e1) q.2⟩
def zkh (p:DSpX) (U:DSt) (as:List ArgP) (Q:T->DSt->Prop) (X:DX):Prop:=match zds as with
|some (i,q,t)=>zzu U i/\oneO i as/\zfp t/\p (as.map ArgP.arg) (λ r t2=>mutS U i q t2 λ U'=>Q r U') λ C t2=>mutS U i q t2 λ U'=>X C U'
|none=>noO as/\p (as.map ArgP.arg) (λ r _=>Q r U) λ C _=>X C U
theorem zmi {B:Bs} {F H:Hp} {Y:L2.St} {U:DSt} {fps:Nat->List Addr} {p:DSpX} {vs:List V} {as:List ArgP} {Qd:T->DSt->Prop} {Xd:DX} {Q:VK} {E:XK} (r:RS K B F H Y U fps) (ha:ArgsP K F H Y U vs as) (hc:zkh p U as Qd Xd)
  (k:∀ r U',Qd r U'->∀ v F' H' fps' fpr,Res K B F' H' Y U' fps' v r fpr->Q v H') (kx:∀ C U',Xd C U'->∀ F' H' fps',RS K B F' H' Y U' fps'->E (.ref C) none H'):spX K p vs H Q E:=by
 unfold zkh at hc
 split at hc
 ·rename_i i q t0 eo
  obtain ⟨ho,h1,hf,hp⟩:=hc
  obtain ⟨s,hs,hso⟩:∃ s,U[i]?=some s/\s.own=true:=by
   unfold zzu at ho
   split at ho
   ·rename_i q;exact ⟨_,q,rfl⟩
   ·rename_i q;exact ⟨_,q,rfl⟩
   ·exact ho.elim
  obtain ⟨a,hat,hargs⟩:=zld (λ h=>r.rtS h) ha eo h1 hf
  obtain ⟨fn,t1,g1,g2,g3,g4,back⟩:=r.put hs hso hat
  obtain ⟨bf,m1,m2⟩:=hargs fn g2 g3
  have go:∀ {r2 t2 v F' H' fpr fpo},Post K F H (some (a,fn)) F' H' v r2 fpr t2 fpo->∃ fps2,Res K B F' H' Y (U.set i (s.wth (setP t1 q t2))) fps2 v r2 fpr:=λ {r2 t2 v F' H' fpr fpo} post=>by
   obtain ⟨io1,io2,io3,io4⟩:=post.io a fn rfl
   obtain ⟨fps2,r2',e2,e3⟩:=back (F2:=F') (H2:=H') (u2:=t2) (fq:=fpo) post.hh post.ff post.fh (λ b hb fb _=>post.nw b hb fb) post.al (λ b hb f=>absurd (post.nw b (g2.dom b hb).1 (g2.dom b hb).2) f) io1 io2 (λ b hb=>(io3 b hb).elim .inl λ z=>.inr (r.newOk z))
   refine ⟨fps2,r2',post.rt,post.nd,λ b hb=>(r.newOk (post.fr b hb)).1,λ j s' ej hs' b hb hbr=>?_⟩
   have fresh:=post.fr b hbr
   by_cases hji:j=i
   ·subst hji
    rcases e3 b hb with z|z
    ·obtain ⟨x',t',a1,a2,a3,a4,a5⟩:=r.rt j s hs (zi2 hso)
     exact (a3.dom b z).1 fresh
    ·exact io4 b z hbr
   ·rw [e2 j hji] at hb
    rw [List.getElem?_set_ne (λ z=>hji z.symm)] at ej
    exact (r.newOk fresh).2 j s' ej hs' hb
  refine ⟨F,_,bf,some (a,fn),_,_,r.fh,m1,λ b hb hbf=>?_,hp,λ r2 t2 q2 v F' H' fpr fpo post=>?_,λ C t2 q2 F' H' fpo post=>?_⟩
  ·obtain ⟨j,hj,hbj,sj,e1,hh⟩:=m2 b hbf
   exact r.dj i j s sj (λ z=>hj z.symm) hs e1 hso hh b (g4 b hb) hbj
  ·obtain ⟨fps2,res⟩:=go post
   exact k _ _ (zbe hs hso g1 q2) v F' H' fps2 fpr res
  ·obtain ⟨fps2,res⟩:=go post
   exact kx _ _ (zbe hs hso g1 q2) F' H' fps2 res.rs
 ·rename_i eo
  obtain ⟨hn,hp⟩:=hc
  obtain ⟨bf,m1,_⟩:=znf (λ h=>r.rtS h) ha hn
  refine ⟨F,_,bf,none,_,_,r.fh,m1,λ b hb=>by simp [ofp] at hb,hp,λ r2 t2 q2 v F' H' fpr fpo post=>?_,λ C t2 q2 F' H' fpo post=>?_⟩
  ·have ex:Ext F H F' H':=⟨λ b o hb=>post.hh b o (by simp [ofp]) hb,post.ff,post.fh,post.nw⟩
   exact k _ _ q2 v F' H' fps fpr ⟨r.grow ex,post.rt,post.nd,λ b hb=>(r.newOk (post.fr b hb)).1,λ j s' ej hs' b hb hbr=>(r.newOk (post.fr b hbr)).2 j s' ej hs' hb⟩
  ·have ex:Ext F H F' H':=⟨λ b o hb=>post.hh b o (by simp [ofp]) hb,post.ff,post.fh,post.nw⟩
   exact kx _ _ q2 F' H' fps (r.grow ex)
def zb81 (p:DSpX) (da:DAT):DCX:=λ U Q X=>da U λ as=>zkh p U as Q X
theorem zzy {p:DSpX} (h:RfAT K tA dA'):RfCx K EY (ztx (spX K p) EY tA) (zb81 p dA'):=by
 refine ⟨λ {B F H Y U fps Qd Xd Q} r hd k kx=>?_⟩
 exact h r.fh r.rv hd λ as has vs F1 H1 e1 i1=>zmi (r.grow e1) i1 has k kx
def zt51 (o:Bool) (C:Addr) (m:Str) (p:DSpX) (dp:DP) (da:DAT):DCX:=λ U Q X=>dp U λ i q u=>nCls C u/\noM m u/\da U λ as=>zkh p U ((if o then .o i q u else .b i q u) :: as) Q X
theorem zg01 {P:Program} {w:World} {mg:Str->Option Value} {base:Heap} {p:DSpX} {C:Addr} {m:Str} {k:Nat} {ps:List Str} (o:Bool) (Yv:zpz P w K mg base C m k ps (spX K p)) (hp:RfP K ta dp) (h:RfAT K tA dA'):RfCx K EY (zsy P w K mg base m k EY ta tA) (zt51 o C m p dp dA'):=by
 refine ⟨λ {B F H Y U fps Qd Xd Q} r hd k kx=>?_⟩
 refine hp r.fh r.rv hd λ i q u hu v F1 H1 e1 at1=>?_
 have r1:=r.grow e1
 obtain ⟨fn,hr⟩:=at1.rt r1.rv
 obtain ⟨a,dx,fs,rfl,h1,h2⟩:=zed hr hu.1 hu.2.1
 refine ⟨a,C,dx,fs,ps,spX K p,rfl,h1,h2,Yv,h r1.fh r1.rv hu.2.2 λ as has vs F2 H2 e2 i2=>?_⟩
 have at2:=at1.mono e2.h
 cases o with
|true=>exact zmi (r1.grow e2) (.o at2 i2) has k kx
|false=>exact zmi (r1.grow e2) (.b at2 i2) has k kx
def zt31 (K:Fg):List (Value×DS)->Addr->DEnds->DSt->Prop
|[],_,_,_=>False
|(c,d) :: r,C,E,U=>∃ b,PySem.W.exmOne K (.ref C) c=some b/\if b=true then d E U else zt31 K r C E U
inductive RfHs (K:Fg):List (Value×TS)->List (Value×DS)->Prop
|nil:RfHs K [] []
|cons {c:Value} {t:TS} {d:DS} {l:List (Value×TS)} {hs:List (Value×DS)}:RfS K t d->RfHs K l hs->RfHs K ((c,t) :: l) ((c,d) :: hs)
end
section
variable {P:Program} {w:World} {K:Fg} {mg:Str->Option Value} {base:Heap}
def xEnd (as:List Arg) (a:Addr) (Xd:Addr->T->Prop):DX:=λ C U=>match oIx as with
|none=>Xd C (.fz .none)
|some k=>∃ t',U[k]?=some (.io a t')/\Xd C t'
theorem zzz {qual:Str} {st:Stmt} {N:List Str} {k:Nat} {p:DSpX}
  (body:∀ (f:Addr) (cdv:Value) (A:Around) (outer:List Env) (s:Shared) (H:Hp) (E:XK),Room k (A.deeper (envOfC qual (zf0 st) s.heap.objs.size f cdv))->∃ (t:TS) (d:DX->DS),PSs (cxOf (CX1 P w) P w K mg base N qual (zf0 st) f cdv A outer s H E) (zu1 st) t/\(∀ ex,RfSe K (λ _=>E) ex t (d ex))/\∀ as Qd Xd a,p as Qd Xd->d (xEnd as a Xd) (zs61 as a Qd) (zz9 N a as)) :
  zy8 P w K mg base qual st N k (spX K p):=by
 intro f cdv A outer s H vs Q E hr h
 obtain ⟨F,as,bf,oo,Qd,Xd,sf,ha,hd,hp,hq,hx⟩:=h
 obtain ⟨t,d,h1,h2,h3⟩:=body f cdv A outer s H E hr
 obtain ⟨hl,fl,a1,a2,a3,a4,a5⟩:=zlc ha
 obtain ⟨a,haa⟩:∃ a:Addr,∀ a' fp,oo=some (a',fp)->a'=a:=by
  cases oo with
 |none=>exact ⟨0,λ a' fp e=>by cases e⟩
 |some x=>exact ⟨x.1,λ a' fp e=>by cases e;rfl⟩
 have slot:∀ (i:Nat) sl,(zz9 N a as)[i]?=some sl->(sl=.un/\as.length<=i) \/ ∃ g,as[i]?=some g/\sl=zlx a g:=λ i sl e=>by
  unfold zz9 at e
  by_cases hi:i < as.length
  ·rw [List.getElem?_append_left (by simpa using hi),List.getElem?_map] at e
   obtain ⟨g,h1,h2⟩:=Option.map_eq_some_iff.mp e
   exact .inr ⟨g,h1,h2.symm⟩
  ·rw [List.getElem?_append_right (by simpa using hi),List.getElem?_replicate] at e
   split at e
   ·cases e;exact .inl ⟨rfl,by lia⟩
   ·cases e
 have val:∀ (i:Nat) v,vs[i]?=some v->(L2.start N vs).getD i none=some v:=λ i v e=>by
  have hi:i < vs.length:=by
   rcases Nat.lt_or_ge i vs.length with z|z
   ·exact z
   ·rw [List.getElem?_eq_none z] at e;cases e
  unfold L2.start
  rw [List.getD_eq_getElem?_getD,List.getElem?_append_left (by simpa using hi),List.getElem?_map,e]
  rfl
 have rs:RS K ⟨F,H,ofp oo⟩ F H (L2.start N vs) (zz9 N a as) fl:=by
  refine ⟨λ b o _ z=>z,λ _ _ z=>z,sf,λ b _ z=>z,λ b z=>z,by simp [L2.start,zz9,hl],λ i x e=>?_,λ i sl e hs=>?_,λ i sl e ho b hb=>?_,λ i j sl sl' hij e1 e2 o1 o2 b hb hb2=>?_⟩
  ·rcases slot i _ e with ⟨z,_⟩|⟨g,e1,e2⟩
   ·cases z
   ·cases g with
   |d x'=>cases e2;obtain ⟨v,g1,g2⟩:=a1 i x e1;exact ⟨v,val i v g1,g2⟩
   |b _=>cases e2
   |o _=>cases e2
  ·rcases slot i _ e with ⟨z,_⟩|⟨g,e1,e2⟩
   ·rw [z] at hs;cases hs
   ·cases g with
   |d x'=>rw [e2] at hs;cases hs
   |b x' =>
     obtain ⟨v,g1,g2,g3,g4⟩:=a2 i x' e1
     rw [e2]
     exact ⟨v,x',val i v g1,rfl,g2,λ a u z=>(by cases z),g3⟩
   |o x' =>
     obtain ⟨a',g1,g2,g3,g4,g5⟩:=a3 i x' e1
     have:=haa a' _ g2
     subst this
     rw [e2]
     exact ⟨_,x',val i _ g1,rfl,g3,λ a u z=>(by cases z;rfl),g4⟩
  ·rcases slot i _ e with ⟨z,_⟩|⟨g,e1,e2⟩
   ·rw [z] at ho;cases ho
   ·cases g with
   |d x'=>rw [e2] at ho;cases ho
   |b x'=>rw [e2] at ho;cases ho
   |o x' =>
     obtain ⟨a',g1,g2,g3,g4,g5⟩:=a3 i x' e1
     refine .inr ⟨?_,λ t z=>?_⟩
     ·show b∈ofp oo
      rw [g2];exact hb
     ·rw [e2] at z;cases z
  ·rcases slot i _ e1 with ⟨z,_⟩|⟨g,f1,f2⟩
   ·rw [z] at o1;cases o1
   ·cases g with
   |d x'=>rw [f2] at o1;cases o1
   |b x'=>rw [f2] at o1;cases o1
   |o x' =>
     obtain ⟨a',g1,g2,g3,g4,g5⟩:=a3 i x' f1
     rcases slot j _ e2 with ⟨z,_⟩|⟨g',f1',f2'⟩
     ·rw [z] at o2;cases o2
     ·cases g' with
     |d x''=>rw [f2'] at o2;cases o2
     |b x'' =>
       obtain ⟨v,k1,k2,k3,k4⟩:=a2 j x'' f1'
       exact hd b (by rw [g2];exact hb) (k4 b hb2)
     |o x'' =>
       obtain ⟨a'',k1,k2,k3,k4,k5⟩:=a3 j x'' f1'
       rw [g5] at k5
       exact hij (Option.some.inj k5)
 have fin:∀ {F' H':Hp} {Y':L2.St} {U':DSt} {fps':Nat->List Addr} {v:V} {r:T} {fpr:List Addr},Res K ⟨F,H,ofp oo⟩ F' H' Y' U' fps' v r fpr->exA as a Qd r U'->Q v H':=λ {F' H' Y' U' fps' v r fpr} res ex=>by
  unfold exA at ex
  split at ex
  ·rename_i eo
   refine hq r (.fz .none) ex v F' H' fpr [] ⟨res.rs.hh,res.rs.ff,res.rs.fh,res.rs.nw,res.rs.al,res.rt,res.nd,res.fr,λ a' fp e=>?_⟩
   obtain ⟨k,x,g1,g2,g3⟩:=a5 a' fp e
   rw [eo] at g3;cases g3
  ·rename_i ko eo
   obtain ⟨t',et,qd⟩:=ex
   obtain ⟨x',t'',b1,b2,b3,b4,b5⟩:=res.rs.rt ko _ et rfl
   cases b2
   have:=b4 a t' rfl
   subst this
   refine hq r t' qd v F' H' fpr (fps' ko) ⟨res.rs.hh,res.rs.ff,res.rs.fh,res.rs.nw,res.rs.al,res.rt,res.nd,res.fr,λ a' fp e=>?_⟩
   have ea:=haa a' fp e
   subst ea
   refine ⟨b3,b5,λ b hb=>?_,λ b hb=>res.dj ko _ et rfl b hb⟩
   rcases res.rs.fr ko _ et rfl b hb with z|⟨z,_⟩
   ·exact .inr z
   ·have:b∈ofp oo:=z
    rw [e] at this
    exact .inl this
 have finx:∀ {F' H':Hp} {Y':L2.St} {U':DSt} {fps':Nat->List Addr} {C:Addr},RS K ⟨F,H,ofp oo⟩ F' H' Y' U' fps'->xEnd as a Xd C U'->E (.ref C) none H':=λ {F' H' Y' U' fps' C} rs' ex=>by
  have res:Res K ⟨F,H,ofp oo⟩ F' H' Y' U' fps' .non (.fz .none) []:=⟨rs',.fz .non,.nil,λ a ha=>by simp at ha,λ _ _ _ _ a _ ha=>by simp at ha⟩
  unfold xEnd at ex
  split at ex
  ·rename_i eo
   refine hx C (.fz .none) ex F' H' [] ⟨res.rs.hh,res.rs.ff,res.rs.fh,res.rs.nw,res.rs.al,res.rt,res.nd,res.fr,λ a' fp e=>?_⟩
   obtain ⟨k,x,g1,g2,g3⟩:=a5 a' fp e
   rw [eo] at g3;cases g3
  ·rename_i ko eo
   obtain ⟨t',et,qd⟩:=ex
   obtain ⟨x',t'',b1,b2,b3,b4,b5⟩:=res.rs.rt ko _ et rfl
   cases b2
   have:=b4 a t' rfl
   subst this
   refine hx C t' qd F' H' (fps' ko) ⟨res.rs.hh,res.rs.ff,res.rs.fh,res.rs.nw,res.rs.al,res.rt,res.nd,res.fr,λ a' fp e=>?_⟩
   have ea:=haa a' fp e
   subst ea
   refine ⟨b3,b5,λ b hb=>?_,λ b hb=>res.dj ko _ et rfl b hb⟩
   rcases res.rs.fr ko _ et rfl b hb with z|⟨z,_⟩
   ·exact .inr z
   ·have:b∈ofp oo:=z
    rw [e] at this
    exact .inl this
 refine ⟨t,h1,h2 (xEnd as a Xd) (λ r q=>finx r q) rs (h3 as Qd Xd a hp) ⟨λ r q=>fin ⟨r,.fz .non,.nil,λ a ha=>by simp at ha,λ _ _ _ _ a _ ha=>by simp at ha⟩ q,λ _ z=>z.elim,λ _ z=>z.elim,λ res q=>fin res q⟩⟩
theorem zda1 {p:DSpX} {ps:List Str} (h:∀ as Qd Xd,p as Qd Xd->as.length=ps.length):∀ vs H Q E,spX K p vs H Q E->vs.length=ps.length:=λ vs H Q E z=>by
 obtain ⟨F,as,bf,oo,Qd,Xd,_,ha,_,hp,_⟩:=z
 rw [zxm ha];exact h as Qd Xd hp
end
end L4
namespace L3
open PySem PySem.Spec PyProof.Rows L2
section
variable {X:Cx}
def zxc1 (K:Fg) (x:V) (H:Hp) (Q:Str->Hp->Prop):Prop:=kFmt x H Q \/ ∃ ds:List PyData,Is K H x (.list ds)/\(PyData.list ds).showable=true/\(PyData.list ds).hasDict=false/\(PyData.list ds).depth<=40/\(PyData.list ds).shown.length<=sizeLine/\Q (PyData.list ds).shown H
def zx91 (K:Fg) (te:TE) (t:TJ):TJ:=λ acc Y H Q=>te Y H λ x H1=>zxc1 K x H1 λ z H2=>(acc++z).length<=sizeLine/\t (acc++z) Y H2 Q
theorem zdz {K:Fg} {k:Nat} {e:Expr} {te:TE} {pos:Pos} {es:List Expr} {t:TJ} (hK:X.K=K) (hr:Room k X.A) (he:PE X e te) (h:PJ X es t):PJ X (.FormattedValue e (-1) none pos :: es) (zx91 K te t):=by
 subst hK
 intro acc pins s Y H Q I q
 refine joinParts_cons (FormattedValue_plain (thn (he pins s Y H _ I q) λ v s1 hz=>?_))
 obtain ⟨x,H1,I1,r1,q1⟩:=hz
 rcases q1 with (⟨z,rfl,hz,q1⟩|⟨i,rfl,hi,q1⟩)|⟨ds,hi,h1,h2,h3,h4,q1⟩
 ·obtain ⟨t',rfl⟩:=r1
  exact formatField_str (λ t2 tk=>⟨q1.1,h _ pins _ Y H1 Q (I1.tok tk) q1.2⟩) hz
 ·obtain ⟨t',rfl⟩:=r1
  exact wpAny_formatField_int hi ⟨q1.1,h _ pins _ Y H1 Q (I1.tok _) q1.2⟩
 ·obtain ⟨as,rd⟩:=zw7 I1 hi r1
  obtain ⟨a,xs,rfl,_,_⟩:=hi.list_inv
  obtain rfl:v=Value.ref a:=r1
  have hu:=hr.un
  exact formatField_of_reads rd h1 (λ z=>by rw [h2] at z;cases z) hr.gd (by lia) (λ _ _ e=>e) (λ h' u tk k=>⟨q1.1,h _ pins _ Y H1 Q (I1.kept (t':=tk) k) q1.2⟩) h4
variable {k:Nat} {m:Str} {pos apos:Pos} {o:Expr} {ta:TE} {EY:St->XK}
theorem zoq {P:Program} {w:World} {K:Fg} {mg:Str->Option Value} {base:Heap} {pl:Sem Bool} (hP:X.prog=P) (hw:X.w=w) (hK:X.K=K) (hmg:X.mg=mg) (hbs:X.base=base) (hr:Room k X.A) (hx:∀ Y,zm9 (CX1 X.prog X.w) X (EY Y) Y) (he:PE X o ta)
  (ht:eval (.Call (.Attribute o m apos) [] [] pos) X.env=(do
   let ov <- eval o X.env
   standAt apos.atName
   let (f,first) <- holding [ov] (getMethod ov m pl)
   callWith pos f first (backTo pos (starEach [] X.env)) (backToKw pos (keywordEach [] X.env))):=by rfl) :
  PE X (.Call (.Attribute o m apos) [] [] pos) (zsy P w K mg base m k EY ta tNil):=by
 subst hP hw hK hmg hbs
 intro pins s Y H Q I h
 refine PySem.W.methodCall_KW (pl:=pl) (thn (he pins s Y H _ I h) λ u s1 hz=>?_) ht
 obtain ⟨x,H1,I1,rx,a,C,dx,fs,ps,sp,ex,ea,l,d,q⟩:=hz
 subst ex
 obtain rfl:u=Value.ref a:=rx
 obtain ⟨f,fd,c,hm,F,b⟩:=d
 refine zi4 I1 ea c hm l ?_
 exact PySem.W.callWith_K0 (first:=[.ref a]) I1.kIn hm.kp (zo11 (us:=[.ref a]) (vs:=[.ref a]) F hr b (hx Y) I1 (.cons rfl .nil) q)
end
end L3
namespace L4
open PySem PySem.Spec PyProof.Rows L2 L3
section
variable {K:Fg} {te:TE} {de:DE} {tj:TJ}
abbrev DJ:=DSt->Nat->(Nat->Prop)->Prop
variable {dj:DJ}
def RfFs (K:Fg) (tj:TJ) (dj:DJ):Prop:=∀ {F H:Hp} {Y:L2.St} {U:DSt} {acc:Str} {n:Nat} {Qd:Nat->Prop} {Q:Str->Hp->Prop},Same F H->RV K F H Y U->acc.length<=n->dj U n Qd->(∀ m,Qd m->∀ z F' H',Ext F H F' H'->z.length<=m->Q z H')->tj acc Y H Q
theorem zss (x y:Str):(x++y).length=x.length+y.length:=by
 show (x.cps++y.cps).size=_
 rw [Array.size_append];rfl
def dJN:DJ:=λ _ n Q=>n<=sizeLine/\Q n
theorem zt41:RfFs K jNil dJN:=λ s _ hn h k=>⟨Nat.le_trans hn h.1,k _ h.2 _ _ _ (Ext.refl s) hn⟩
def dJT (l:Nat) (dj:DJ):DJ:=λ U n Q=>n+l<=sizeLine/\dj U (n+l) Q
theorem zhs {y:Str} {l:Nat} (hy:y.length<=l) (h:RfFs K tj dj):RfFs K (zsa1 y tj) (dJT l dj):=by
 intro F H Y U acc n Qd Q s rv hn hd k
 have:=zss acc y
 exact ⟨by have:=hd.1;lia,h s rv (by lia) hd.2 k⟩
def ziz:D->Prop
|.list ds=>∃ ns:List Int,ds=ns.map .int/\ns.length<=12/\∀ n∈ns,0<=n/\n < 12
|_=>False
theorem zcr {n:Int} (h0:0<=n) (h1:n < 12):n.natAbs.log2 < 1920/\(PyData.shown (.int n)).length<=8/\(PyData.int n).weight<=4:=by
 have:n=0 \/ n=1 \/ n=2 \/ n=3 \/ n=4 \/ n=5 \/ n=6 \/ n=7 \/ n=8 \/ n=9 \/ n=10 \/ n=11:=by lia
 rcases this with rfl|rfl|rfl|rfl|rfl|rfl|rfl|rfl|rfl|rfl|rfl|rfl <;> exact ⟨by decide,by unfold PyData.shown;decide +kernel,by decide +kernel⟩
theorem zjj:∀ {ns:List Int},(∀ n∈ns,0<=n/\n < 12)->PyData.showableAll (ns.map .int)=true/\PyData.hasDictAll (ns.map .int)=false/\PyData.leavesShortAll 8 (ns.map .int)=true/\PyData.depthAll (ns.map .int)<=1/\PyData.weightAll (ns.map .int)<=5 * ns.length
|[],_=>by simp [PyData.showableAll,PyData.hasDictAll,PyData.leavesShortAll,PyData.depthAll,PyData.weightAll]
|n :: r,h=>by
  obtain ⟨a,b,c,d,e⟩:=zjj (ns:=r) λ x hx=>h x (List.mem_cons_of_mem _ hx)
  obtain ⟨h0,h1⟩:=h n List.mem_cons_self
  obtain ⟨s1,s2,s3⟩:=zcr h0 h1
  rw [List.map_cons]
  refine ⟨?_,?_,?_,?_,?_⟩
  ·simp only [PyData.showableAll,PyData.showable,a,Bool.and_true];exact decide_eq_true s1
  ·simp only [PyData.hasDictAll,PyData.hasDict,b,Bool.or_false]
  ·simp only [PyData.leavesShortAll,PyData.leavesShort,c,Bool.and_true];exact decide_eq_true s2
  ·simp only [PyData.depthAll,PyData.depth];lia
  ·simp only [PyData.weightAll,List.length_cons];lia
def dJL (de:DE) (dj:DJ):DJ:=λ U n Q=>de U λ d=>ziz d/\n+1000<=sizeLine/\dj U (n+1000) Q
theorem zf11 (he:RfE K te de) (h:RfFs K tj dj):RfFs K (zx91 K te tj) (dJL de dj):=by
 intro F H Y U acc n Qd Q s rv hn hd k
 refine he s rv hd λ d hx v F1 H1 e1 i1=>?_
 obtain ⟨hs,h1,h2⟩:=hx
 cases d with
|list ds =>
  obtain ⟨ns,rfl,hl,hb⟩:=hs
  obtain ⟨a,b,c,dd,e⟩:=zjj hb
  have hz:=PyData.shown_le 8 (by lia) (.list (ns.map .int)) (by simp only [PyData.leavesShort];exact c)
  have hw:(PyData.list (ns.map .int)).weight<=60:=by simp only [PyData.weight];lia
  have hz2:(PyData.list (ns.map .int)).shown.length<=1000:=by lia
  have:=zss acc (PyData.list (ns.map .int)).shown
  refine .inr ⟨_,i1.mono e1.fh,by simp only [PyData.showable];exact a,by simp only [PyData.hasDict];exact b,by simp only [PyData.depth];lia,by lia,by lia,?_⟩
  exact h e1.fh (rv.ext e1) (by lia) h2 λ m q z F2 H2 e2 hz=>k m q z F2 H2 (e1.trans e2) hz
|none=>exact hs.elim
|bool _=>exact hs.elim
|int _=>exact hs.elim
|str _=>exact hs.elim
|tuple _=>exact hs.elim
|dict _=>exact hs.elim
def zdm (dj:DJ):DE:=λ U Q=>dj U 0 λ n=>∀ z:Str,z.length<=n->Q (.str z)
theorem zbp (h:RfFs K tj dj):RfE K (zqs tj) (zdm dj):=by
 intro F H Y U Qd Q s rv hd k
 exact h s rv (Nat.le_refl 0) hd λ m q z F' H' e1 hz=>k _ (q z hz) _ F' H' e1 (.str z)
end
theorem zzw (dc:DCX) (ex:DX) (E:DEnds) (U:DSt):zar dc ex E U=dc U (λ _ U'=>E.nx U') ex:=rfl
theorem zxt (C:Addr) (dA:DF) (ex:DX) (E:DEnds) (U:DSt):zgv C dA ex E U=dA U λ ds=>ds.length<=sizeLine/\ex C U:=rfl
theorem zl01 (p:DSpX) (da:DAT) (U:DSt) (Q:T->DSt->Prop) (X:DX):zb81 p da U Q X=da U λ as=>zkh p U as Q X:=rfl
theorem zp21 (o:Bool) (C:Addr) (m:Str) (p:DSpX) (dp:DP) (da:DAT) (U:DSt) (Q:T->DSt->Prop) (X:DX):zt51 o C m p dp da U Q X=dp U λ i q u=>nCls C u/\noM m u/\da U λ as=>zkh p U ((if o then .o i q u else .b i q u) :: as) Q X:=rfl
theorem zaw (K:Fg) (C:Addr) (E:DEnds) (U:DSt):zt31 K [] C E U=False:=rfl
theorem zmv (K:Fg) (c:Value) (d:DS) (r:List (Value×DS)) (C:Addr) (E:DEnds) (U:DSt):zt31 K ((c,d) :: r) C E U=∃ b,PySem.W.exmOne K (.ref C) c=some b/\if b=true then d E U else zt31 K r C E U:=rfl
theorem zrc1 (U:DSt) (n:Nat) (Q:Nat->Prop):dJN U n Q=(n<=sizeLine/\Q n):=rfl
theorem znc1 (l:Nat) (dj:DJ) (U:DSt) (n:Nat) (Q:Nat->Prop):dJT l dj U n Q=(n+l<=sizeLine/\dj U (n+l) Q):=rfl
theorem zcd1 (de:DE) (dj:DJ) (U:DSt) (n:Nat) (Q:Nat->Prop):dJL de dj U n Q=de U λ d=>ziz d/\n+1000<=sizeLine/\dj U (n+1000) Q:=rfl
theorem zmr (dj:DJ) (U:DSt) (Q:D->Prop):zdm dj U Q=dj U 0 λ n=>∀ z:Str,z.length<=n->Q (.str z):=rfl
theorem zrp (p:DSpX) (U:DSt) (as:List ArgP) (Q:T->DSt->Prop) (X:DX):zkh p U as Q X=match zds as with
|some (i,q,t)=>zzu U i/\oneO i as/\zfp t/\p (as.map ArgP.arg) (λ r t2=>mutS U i q t2 λ U'=>Q r U') λ C t2=>mutS U i q t2 λ U'=>X C U'
|none=>noO as/\p (as.map ArgP.arg) (λ r _=>Q r U) λ C _=>X C U:=rfl
section
variable {K:Fg} {te ta:TE} {tA:TA} {da de:DE} {dA:DF} {dp:DP} {dn:DN}
end
end L4
namespace L4
open PySem PySem.W PySem.Spec PySem.Calls PyProof.Rows PySem.Builtin PySem.Builtin.ObjectAttr PySem.Builtin.Getset_descriptor
section
variable {prog:Program} {w:World} {A:Around} {E:Value->Shared->Prop} {s:Shared} {K:Fg} {x D:Addr} {ox:Obj}
structure XAt (h:Heap) (x:Addr) (ox:Obj) (C:Addr):Prop where
 at_:h.get? x=some ox
 cls:ox.cls=.ref C
theorem XAt.type {M:Model} {h:Heap} (I:XAt h x ox D):Looks M h (typeOf (.ref x)) (.ref D):=I.cls ▸ (Looks.ld I.at_).andThen .now
theorem zyk {R:Result->Shared->Prop} {tp:Value} (X:K.In s.heap) (I:XAt s.heap x ox D) (hm:mroIn K D (.type "object")=some true)
  (h:R (.ok (.ret (.ref D))) s):codeAny (model prog w) A (.call (.builtin "getset_descriptor.__get__") ⟨[.builtin "object.__class__",.ref x,tp],[]⟩) R s:=by
 obtain ⟨hh,g,dr,t,os⟩:=s
 have L0:=I.type (M:=model prog w)
 have L1:=looks_mroIn (M:=model prog w) X hm
 refine codeAny_call_builtin KF.slot_gs.plain KF.entry_gs (KF.slot_gs.check _ _ _ _ _ _ _ _ KF.type_class (KF.args_gs _ _ _) ?_)
 unfold Builtin.«getset_descriptor.__get__» descrGet
 rw [dga_obj]
 refine wpAny_bind (wpAny_pure ?_)
 unfold descrGetter descrCheckInstance descrNameAndClass isInstance
 simp only [KF.owner_class]
 repeat lk
 refine ⟨Code.quiet_builtin _ (by decide +kernel),codeAny_builtin KF.entry_class ?_⟩
 unfold Builtin.«object.__class__» shownTypeOf
 repeat lk
 exact h
theorem zaq {Q:Option Value->Shared->Prop} (X:K.In s.heap) (I:XAt s.heap x ox D) (hga:findIn K (.ref D) "__getattribute__"=some (some (.builtin "BaseException.__getattribute__"))) (hgn:findIn K (.ref D) "__getattr__"=some none) (ha:findIn K (.ref D) "__class__"=some (some (.builtin "object.__class__")))
  (hn:specialIn K (.builtin "object.__class__") "__get__"=some (some (.builtin "getset_descriptor.__get__"))) (htk:takesIn K (.builtin "object.__class__")=some true) (hm:mroIn K D (.type "object")=some true) (hmB:mroIn K D (.type "BaseException")=some true)
  (h:Q (some (.ref D)) { s with toks:=s.toks+1 }):wpAny (model prog w) A (getAttr? (.ref x) "__class__") Q E s:=by
 obtain ⟨hh,g,d,t,os⟩:=s
 have L0:=I.type (M:=model prog w)
 have L1:=looks_findIn (M:=model prog w) X hga
 have L2:=looks_findIn (M:=model prog w) X hgn
 have L3:Looks (model prog w) hh (Builtin.ObjectAttr.find (.ref x) (.ref D) "__class__") (.bind (.builtin "getset_descriptor.__get__") (.builtin "object.__class__")) :=
  (looks_findIn X ha).andThen ((show Looks _ _ (Builtin.ObjectAttr.getOf _) _ from looks_specialIn X hn).andThen ((show Looks _ _ (Builtin.ObjectAttr.dataDescriptor? (some (.builtin "object.__class__")) (some (.builtin "getset_descriptor.__get__"))) (some (.builtin "getset_descriptor.__get__",.builtin "object.__class__")) from (looks_takesIn X htk).andThen .now).andThen (Looks.tag .now)))
 have LB:=looks_mroIn (M:=model prog w) X hmB
 unfold getAttr? getAttrBy? getAttrBy
 refine wpAny_bind (wpAny_mkText (wpAny_bind (wpAny_attempt (wpAny_holding (wpAny_bind (L0.at (wpAny_bind (L1.at ?_))))))))
 show wpAny _ _ (getAttrByItsOwn _ _ _ _ _ _) _ _ _
 unfold getAttrByItsOwn
 refine wpAny_bind ?_
 show wpAny _ _ (typeLookup _ _) _ _ _
 refine L2.at ?_
 refine wpAny_bind (wpAny_attempt (wpAny_holding ?_))
 show wpAny _ _ (boundAndCalled _ _ _) _ _ _
 unfold boundAndCalled
 have f3:bindSpecial (.builtin "BaseException.__getattribute__") (.ref x)=pure (.builtin "BaseException.__getattribute__",[.ref x]):=F.excAttr_ValueError.ga.bind (.ref x)
 rw [f3]
 refine wpAny_bind (wpAny_pure ?_)
 refine wpAny_call (codeAny_call_builtin F.excAttr_ValueError.ga.plain F.entry_bexc_ga ?_)
 have hk:builtinKind "BaseException.__getattribute__"=some .slot:=by decide +kernel
 have hsplit:splitId "BaseException.__getattribute__"=some ("BaseException", "__getattribute__"):=by decide +kernel
 have hargs:=F.args_bexc_ga (.ref x) (.str "__class__" t)
 have LI:Looks (model prog w) hh (isInstance (.ref x) (.type "BaseException")) true:=L0.andThen LB
 simp only [checkBuiltinCall,hk,hsplit]
 refine wpAny_bind (LI.at ?_)
 repeat (any_goals (first|assumption|wp_step))
 refine wpAny_loadPart_at I.at_ ?_
 refine wpAny_pure ?_
 rw [I.cls]
 refine wpAny_bind (L3.at ?_)
 show wpAny _ _ (Builtin.ObjectAttr.bindTo _ _ _ _) _ _ _
 unfold Builtin.ObjectAttr.bindTo
 show wpAny _ _ (holding [Value.builtin "object.__class__"] (call (Value.builtin "getset_descriptor.__get__") [Value.builtin "object.__class__",Value.ref x,Value.ref D]) >>= ret) _ _ _
 refine wpAny_bind (wpAny_holding (wpAny_call (zyk (ox:=ox) X I hm ?_)))
 refine wpAny_pure ?_
 exact handed_on rfl (wpAny_pure h)
structure ExK (K:Fg) (D:Addr):Prop where
 hc:(clsIn K D).isSome=true
 hga:findIn K (.ref D) "__getattribute__"=some (some (.builtin "BaseException.__getattribute__"))
 hgn:findIn K (.ref D) "__getattr__"=some none
 ha:findIn K (.ref D) "__class__"=some (some (.builtin "object.__class__"))
 hn:specialIn K (.builtin "object.__class__") "__get__"=some (some (.builtin "getset_descriptor.__get__"))
 htk:takesIn K (.builtin "object.__class__")=some true
 hm:mroIn K D (.type "object")=some true
 hmB:mroIn K D (.type "BaseException")=some true
theorem zfu (k:ExK K D):KitX K (.ref x) (.ref D) (λ h=>XAt h x ox D) where
 ty:=λ _ _ _ I=>I.type
 it:=λ _ _ X _=>by
  obtain ⟨cdD,hcD⟩:=Option.isSome_iff_exists.mp k.hc
  unfold clsIn at hcD
  split at hcD
  ·rename_i c' d' cd' sl' ho
   intro A' Q' E' s' k q
   unfold isType loadHead
   exact wpAny_bind (wpAny_loadPart (k _ _ (X _ _ ho)) (wpAny_pure q))
  ·cases hcD
 ne:=λ h tp dd its n sl X htp=>by
  obtain ⟨cdD,hcD⟩:=Option.isSome_iff_exists.mp k.hc
  refine Bool.eq_false_iff.mpr λ q=>?_
  have e:D=tp:=Value.ref.inj (beq_iff_eq.mp q)
  subst e
  unfold clsIn at hcD
  split at hcD
  ·rename_i c' d' cd' sl' ho
   have z:=(X _ _ ho).symm.trans htp
   cases z
  ·cases hcD
 ca:=λ X I q=>zaq X I k.hga k.hgn k.ha k.hn k.htk k.hm k.hmB q
theorem exc_isinst {c:Value} {b:Bool} {Q:Value->Shared->Prop} (k:ExK K D) (X:K.In s.heap) (I:XAt s.heap x ox D) (e:kitOne K (.ref D) c=some b) (h:∀ tk,Q (.bool b) { s with toks:=tk }) :
  wpAny (model prog w) A (call (.builtin "isinstance") [.ref x,c]) Q E s:=kia_one (zfu k) X I e (λ z=>nomatch z) h
end
end L4
namespace L3
open PySem PySem.Spec PyProof.Rows L2
section
variable {X:Cx} {pins:List (Addr×Obj)} {Y:St} {H:Hp} {s:Shared}
theorem zn81 {M:Model} {A:Around} {E:Value->Shared->Prop} {i:Nat} {x:Str} {Q:Bool->Shared->Prop} (I:Inv X pins Y H s) (hN:X.N.Nodup) (hi:X.N[i]?=some x) (hk:X.env.kindOf x=some .local) {v:V} (hv:Y[i]?=some (some v))
  (h:∀ h',Inv X pins (Y.set i none) H { s with heap:=h' }->Q true { s with heap:=h' }):wpAny M A (nsDel X.env.locals x) Q E s:=by
 obtain ⟨m,hn,hl⟩:=id I.loc
 have hiY:i < Y.length:=by rw [I.len];exact (List.getElem?_eq_some_iff.mp hi).1
 have cne:=I.cne
 have tracked:∀ {a:Addr} {h':Heap},(∃ o,s.heap.get? a=some o/\H a=none)->Heap.SameBut a s.heap h'->HOk X.prog X.w H h':=λ {a h'} ha hs b ob e=>by
  obtain ⟨_,_,hfree⟩:=ha
  refine (I.hok b ob e).stay (λ c w' hc q=>(hs.2 c ?_).trans q) (λ _ q=>q) λ _ _ q=>q
  rintro rfl
  rcases hc with rfl|hc
  ·rw [hfree] at e;cases e
  ·rw [hfree] at hc;cases hc
 have hm:(m x).isSome=true:=by
  obtain ⟨u',r',q⟩:=hl i x v hi hv (.inl hk)
  rcases q with ⟨k,e⟩|⟨k,_⟩
  ·rw [e];rfl
  ·rw [hk] at k;rcases k with k|k <;> cases k
 refine wpAny_nsDel_keeps hn λ h' v' hn' hs=>?_
 rw [hm]
 obtain ⟨oL,_,_,hoL,_⟩:=id hn
 refine h _ ⟨I.ok,I.os,I.bare,⟨λ b o e n hb hx=>?_,λ b o e n hb hx=>?_,I.base.free,λ b o e hx=>?_,I.base.tups,I.base.frzs,I.base.tbls⟩,⟨_,hn',λ j y v' e1 e2 e3=>?_⟩,λ y c e=>?_,I.free,I.freeC,λ p hp=>?_,tracked ⟨oL,hoL,I.free⟩ hs,by simpa using I.len⟩
 ·exact (hs.2 b (Nat.ne_of_lt (Nat.lt_of_lt_of_le (Heap.lt_size e) I.ok.above))).trans (I.base.keep b o e n hb hx)
 ·obtain ⟨sl,e1⟩:=I.base.slot b o e n hb hx
  exact ⟨sl,(hs.2 b (Nat.ne_of_lt (Nat.lt_of_lt_of_le (Heap.lt_size e) I.ok.above))).trans e1⟩
 ·obtain ⟨o',e1⟩:=I.base.there b o e hx
  exact ⟨o',(hs.2 b (Nat.ne_of_lt (Nat.lt_of_lt_of_le (Heap.lt_size e) I.ok.above))).trans e1⟩
 ·by_cases hj:j=i
  ·subst hj
   rw [List.getElem?_set_self hiY] at e2
   cases e2
  ·rw [List.getElem?_set_ne (Ne.symm hj)] at e2
   obtain ⟨u',r',q⟩:=hl j y v' e1 e2 e3
   refine ⟨u',r',?_⟩
   rcases q with ⟨k,e⟩|⟨k,c,e,z⟩
   ·refine .inl ⟨k,?_⟩
    have:y≠x:=λ e=>hj (zii hN e1 (e ▸ hi))
    simp [this,e]
   ·exact .inr ⟨k,c,e,z.sameBut hs (cne y c e)⟩
 ·obtain ⟨w',z⟩:=I.cell y c e
  exact ⟨w',z.sameBut hs (cne y c e)⟩
 ·obtain ⟨e,n,ne,nf,d⟩:=I.pin p hp
  exact ⟨(hs.2 p.1 ne).trans e,n,ne,nf,d⟩
theorem zdp {M:Model} {A:Around} {E:Value->Shared->Prop} {i:Nat} {x:Str} {pos:Pos} {Q:Unit->Shared->Prop} (I:Inv X pins Y H s) (hN:X.N.Nodup) (hi:X.N[i]?=some x) (hk:X.env.kindOf x=some .local)
  (h:∀ s',Inv X pins (Y.set i none) H s'->Q () s'):wpAny M A (do bindName X.env x .none;unbindBehindTheSuite X.env x pos) Q E s:=by
 have hiY:i < Y.length:=by rw [I.len];exact (List.getElem?_eq_some_iff.mp hi).1
 have hp:(X.env.scope.kind == .class || (X.env.scope.kind == .module && X.env.locals != X.env.globals))=false:=by rw [I.ok.kind];rfl
 refine wpAny_bind (wpAny_bindName (zge I hN hi (.inl hk) (v:=.non) rfl (λ s1 I1=>?_) (.inr hk)))
 unfold unbindBehindTheSuite
 refine wpAny_onRaise ?_
 unfold unbindName
 refine wpAny_bind (wpAny_point (wpAny_bind ?_))
 unfold deleteName
 simp only [hk,hp]
 rw [if_neg (by decide)]
 refine wpAny_bind (zn81 I1 hN hi hk (List.getElem?_set_self hiY) λ h' I2=>?_)
 simp only [if_true,Bool.not_true,Bool.false_eq_true,if_false]
 rw [List.set_set] at I2
 exact wpAny_pure (wpAny_point (h _ I2))
end
def asX (X:Cx) (ea:Addr) (oe:Obj):Cx:={ zq11 X ea with pn:=X.pn++[(ea,oe)] }
section
variable {X:Cx} {pins:List (Addr×Obj)} {Y:St} {H H':Hp} {s s':Shared} {ea C:Addr} {oe:Obj} {B:Heap} {a0:Value}
theorem zq61 (I:Inv X pins Y H s) (hp:s.heap.get? ea=some oe/\H ea=none/\ea≠X.env.locals/\ea ∉ X.fs/\∀ v,oe.data≠.cell v):Inv (asX X ea oe) pins Y H s:=by
 have Im:=znm I ea
 refine ⟨⟨Im.ok.mod,Im.ok.kind,Im.ok.glob,Im.ok.blt,Im.ok.above,Im.ok.inj,Im.ok.has,Im.ok.cab,λ z=>Bool.noConfusion z,Im.ok.frames,Im.ok.stk,Im.ok.exf,Im.ok.bs,Im.ok.bsz,Im.ok.noex,Im.ok.exfs,Im.ok.funs,Im.ok.frf⟩,Im.os,Im.bare,Im.base,Im.loc,Im.cell,Im.free,Im.freeC,λ p h=>?_,Im.hok,Im.len⟩
 have h':p∈(X.pn++[(ea,oe)])++pins:=h
 rcases List.mem_append.mp h' with z|z
 ·rcases List.mem_append.mp z with z|z
  ·exact I.pin p (List.mem_append_left _ z)
  ·simp at z;subst z;exact hp
 ·exact I.pin p (List.mem_append_right _ z)
theorem znv (ok:X.Ok) (I:Inv (asX X ea oe) pins Y H s):Inv X pins Y H s :=
 ⟨ok,I.os,I.bare,I.base,I.loc,I.cell,I.free,I.freeC,λ p h=>I.pin p (by
  show p∈(X.pn++[(ea,oe)])++pins
  rcases List.mem_append.mp h with z|z
  ·exact List.mem_append_left _ (List.mem_append_left _ z)
  ·exact List.mem_append_right _ z),I.hok,I.len⟩
def unD (i:Nat) (D:Ends):Ends:={ nx:=λ Y H=>D.nx (Y.set i none) H,rt:=D.rt,bk:=λ Y H=>D.bk (Y.set i none) H,ct:=λ Y H=>D.ct (Y.set i none) H }
def tAs (i:Nat) (t:Addr->TS):TS:=λ D Y H=>∀ ea,H ea=none->t ea (unD i D) (Y.set i (some (.ref ea))) H
inductive HandsN (X:Cx):List ExceptHandler->List (Value×(Addr->TS))->Prop
|nil:HandsN X [] []
|cons {x n:Str} {np pos:Pos} {i:Nat} {b₀:Stmt} {suite:List Stmt} {c:Value} {t:Addr->Addr->TS} {hs:List ExceptHandler} {l:List (Value×(Addr->TS))}:Gl X x->(X.mg x=some c \/ (X.mg x=none/\bootBuiltins x=some c/\x ≠ "__name__"))->(x == ("__debug__":Str))=false ->
   X.N.Nodup->X.N[i]?=some n->X.env.kindOf n=some .local->(∀ ea oe C,oe.cls=.ref C->PSs (asX X ea oe) (b₀ :: suite) (t C ea))->HandsN X hs l ->
   HandsN X (.ExceptHandler (some (.Name x np)) (some n) (b₀ :: suite) pos :: hs) ((c,λ C=>tAs i (t C)) :: l)
def zfm (K:Fg):List (Value×(Addr->TS))->Addr->Ends->St->Hp->Prop
|[],_,_,_,_=>False
|(c,t) :: r,C,D,Y,H=>∃ b,PySem.W.exmOne K (.ref C) c=some b/\if b=true then t C D Y H else zfm K r C D Y H
theorem zpo (I:Inv X pins Y H s) (c:Come X H s ea C B a0 H' s') (hthere:∃ o,s'.heap.get? ea=some o) {D:Ends}:∀ {hs:List ExceptHandler} {l:List (Value×(Addr->TS))},HandsN X hs l->∀ (h:Heap) (tk:Nat),Heap.FlyingW B X.stack ea (.ref C) a0 h->s'.heap.UpToSlots h->zfm X.K l C D Y H' ->
  wpAny (model X.prog X.w) X.A (handleBy (.ref ea) X.env hs) (SP X pins D) X.xe { s' with heap:=h,toks:=tk }:=by
 intro hs l hh
 induction hh with
|nil=>intro h tk _ _ q;exact False.elim q
|@cons x n np pos i b₀ suite cl t hs l hg hm hdb hN hi hk ht hr ih =>
  intro h tk fl sm q
  obtain ⟨b,hb,q⟩:=q
  have I5:=zxl (tk:=tk) I c fl.1 sm
  have Im:=znm I5 ea
  have go:∀ (E':Value->Shared->Prop) (Q':Value->Shared->Prop),Q' cl { s' with heap:=h,toks:=tk }->wpAny (model X.prog X.w) (X.A.mark (some (.ref ea))) (eval (.Name x np) X.env) Q' E' { s' with heap:=h,toks:=tk }:=λ E' Q' z=>by
   rcases hm with hm|⟨hm,hv,hn⟩
   ·exact zwc (X:=zq11 X ea) Im hg hm z hdb
   ·exact zji (X:=zq11 X ea) Im hg hm hv z hn hdb
  refine wpAny_handleBy_cons (codeAny_handlers_test (go _ _ ?_)) (by intro z;cases z)
  obtain ⟨ob,hob,hcl⟩:=fl.there
  have LT:PySem.W.Looks (model X.prog X.w) h (typeOf (.ref ea)) (.ref C):=by
   rw [<- hcl]
   exact (PySem.W.Looks.ld hob).andThen .now
  refine (PySem.W.exm_one (I5.kIn) LT hb).here ?_
  cases b with
 |false =>
   have q':zfm X.K l C D Y H':=by simpa using q
   exact ih h tk fl sm q'
 |true =>
   have q':tAs i (t C) D Y H':=by simpa using q
   refine codeAny_handlers_suite_as (lands_againW fl λ h6 fl6 sm6=>?_)
   have I6:=zxl (tk:=tk) I c fl6.1 (sm.trans sm6)
   obtain ⟨oe,vs,ho6,hc6,hd6,_⟩:=fl6.first
   have hne:B.get? ea=none:=fl6.2.1
   have hH:H' ea=none:=by
    cases e:H' ea with
   |none=>rfl
   |some u =>
     obtain ⟨o,ho⟩:=hthere
     have:=c.b1 ea o u ho e
     rw [hne] at this;cases this
   have Ia:Inv (asX X ea oe) pins Y H' { s' with heap:=h6,toks:=tk }:=by
    refine zq61 I6 (ea:=ea) (oe:=oe) ⟨ho6,hH,λ z=>?_,λ hb=>?_,λ v z=>by rw [hd6] at z;cases z⟩
    ·obtain ⟨m,⟨oL,es,ep,hoL,hdL,_⟩,_⟩:=I6.loc
     have hoL':h6.get? X.env.locals=some oL:=hoL
     rw [<- z,ho6] at hoL';cases hoL'
     rw [hd6] at hdL;cases hdL
    ·obtain ⟨_,o',e',hd⟩:=I6.funs.mem hb
     have e'':h6.get? ea=some o':=e'
     rw [ho6] at e'';cases e''
     exact hd _ hd6
   refine zge (X:=asX X ea oe) Ia hN hi (.inl hk) (v:=.ref ea) rfl (λ s7 I7=>?_) (.inr hk)
   refine wpAny_noRaise (thn (ht ea oe C hc6 pins _ _ H' _ I7 (q' ea hH)) λ f s8 q8=>?_)
   have fin:∀ {Y2:St} {H2:Hp} {Q:Unit->Shared->Prop},Inv (asX X ea oe) pins Y2 H2 s8->(∀ s9,Inv X pins (Y2.set i none) H2 s9->Q () s9)->wpAny (model X.prog X.w) X.A (do bindName X.env n .none;unbindBehindTheSuite X.env n pos) Q X.xe s8:=λ I8 k=>zdp (znv I.ok I8) hN hi hk k
   cases f with
  |next=>obtain ⟨Y2,H2,I8,q2⟩:=q8;exact fin I8 λ s9 I9=>⟨_,H2,I9,q2⟩
  |brk=>obtain ⟨Y2,H2,I8,q2⟩:=q8;exact fin I8 λ s9 I9=>⟨_,H2,I9,q2⟩
  |cont=>obtain ⟨Y2,H2,I8,q2⟩:=q8;exact fin I8 λ s9 I9=>⟨_,H2,I9,q2⟩
  |ret u=>obtain ⟨v,Y2,H2,I8,r2,q2⟩:=q8;exact fin I8 λ s9 I9=>⟨v,_,H2,I9,r2,q2⟩
def zk61 (K:Fg) (l:List (Value×(Addr->TS))) (D:Ends) (Y:St):XK:=λ V _ H'=>∃ c,V=.ref c/\zfm K l c D Y H'
theorem zov {outer:List Env} {L:Addr} {D:Ends} {hs:List ExceptHandler} {l:List (Value×(Addr->TS))} {e:Value} (hst:X.stack=X.env :: outer) (hf:X.env.frame=some L) (hh:HandsN X hs l) (I:Inv X [] Y H s)
  (h:CX1 X.prog X.w X.stack H s (zk61 X.K l D Y) e s'):tryX X D hs e s':=by
 obtain ⟨ea,C,B,a0,H2,rfl,hfl,hos,hbare,u2,hok,hB,hB2,hB3,c',ec,hE⟩:=h
 cases ec
 have fr:X.A.frames=some (X.env :: outer):=by rw [<- hst];exact I.ok.frames
 have hfl':Heap.FlyingW B (X.env :: outer) ea (.ref C) a0 s'.heap:=by rw [<- hst];exact hfl
 obtain ⟨oe,hoe,_⟩:=hfl.there
 refine wpAny_looks_onW fr hf hfl' λ h4 hheld4 sm4=>?_
 refine wpAny_landsW hheld4 λ h5 fl5 sm5=>?_
 have fl5':Heap.FlyingW B X.stack ea (.ref C) a0 h5:=by rw [hst];exact fl5
 exact zpo I ⟨hos,hbare,u2,hok,hB,hB2,hB3⟩ ⟨oe,hoe⟩ hh h5 s'.toks fl5' (sm4.trans sm5) hE
theorem zgy {outer:List Env} {L:Addr} {body:List Stmt} {h₀:ExceptHandler} {hs:List ExceptHandler} {l:List (Value×(Addr->TS))} {tb:Ends->TS} {pos:Pos} (hst:X.stack=X.env :: outer) (hf:X.env.frame=some L) (hh:∀ pn xe,HandsN (zil X pn xe) (h₀ :: hs) l)
  (hb:∀ (D:Ends) (pn:List (Addr×Obj)) (xe:Value->Shared->Prop),(∀ Y,zm9 (CX1 X.prog X.w) (zil X pn xe) (zk61 X.K l D Y) Y)->PSs (zil X pn xe) body (tb D)):PS X (.Try body (h₀ :: hs) [] [] pos) (tTry tb):=by
 intro pins s Y H D I h
 have ok:=I.ok
 refine wpAny_Try_except ?_
 have I1:=zut I (tryX (zil X (X.pn++pins) X.xe) D (h₀ :: hs))
 have key:=hb D (X.pn++pins) (tryX (zil X (X.pn++pins) X.xe) D (h₀ :: hs)) (λ Y' ps H1 s1 e s2 J c=>zov (X:=zil X (X.pn++pins) X.xe) hst hf (hh _ _) (zsm J) c) [] s Y H D I1 h
 refine wpAny_mono key (λ f s1 q=>?_) λ e s1 q=>?_
 ·cases f with
 |next=>exact wpAny_execs_nil (zg4 ok q)
 |brk=>exact zg4 ok q
 |cont=>exact zg4 ok q
 |ret u=>exact zg4 ok q
 ·exact wpAny_mono q (λ _ s2 q2=>wpAny_mono q2 (λ _ s3 q3=>wpAny_mono q3 (λ f s4 q4=>zg4 ok q4) λ _ _ z=>z) λ _ _ z=>z) λ _ _ z=>z
def rIsE (K:Fg) (ea C:Addr):List V->Hp->VK->Prop:=λ xs H Q=>L4.ExK K C/\∃ cV c b,xs=[.ref ea,cV]/\clsV cV=some c/\PySem.W.kitOne K (.ref C) c=some b/\Q (.bl b) H
theorem zb3 {K:Fg} (h:X.K=K) (hc:oe.cls=.ref C):CallR (asX X ea oe) (.builtin "isinstance") (rIsE K ea C):=by
 subst h
 intro pins s Y H xs us Q I r h
 obtain ⟨k,cV,c,b,rfl,rc,e,q⟩:=h
 obtain ⟨u,v,rfl,ru,rv⟩:=r.two
 obtain rfl:=zsi rc rv
 cases (show u=Value.ref ea from ru)
 have hp:=I.pin (ea,oe) (List.mem_append_left _ (by show (ea,oe)∈X.pn++[(ea,oe)];simp))
 exact L4.exc_isinst k I.kIn ⟨hp.1,hc⟩ e λ tk=>⟨.bl b,H,I.tok tk,rfl,q⟩
end
end L3
namespace L4
open PySem PySem.Spec PyProof.Rows L2 L3
section
variable {i j:Nat} {ea:Addr}
structure ImpE (i:Nat) (ea:Addr) (te te':TE):Prop where
 of:∀ {Y:L2.St} {H:Hp} {Q Q':VK},Y[i]?=some (some (.ref ea))->(∀ v H1,Q' v H1->Q v H1)->te' Y H Q'->te Y H Q
structure ImpA (i:Nat) (ea:Addr) (ta ta':TA):Prop where
 of:∀ {Y:L2.St} {H:Hp} {Q Q':List V->Hp->Prop},Y[i]?=some (some (.ref ea))->(∀ v H1,Q' v H1->Q v H1)->ta' Y H Q'->ta Y H Q
structure ImpS (i:Nat) (ea:Addr) (ts ts':TS):Prop where
 of:∀ {D:Ends} {Y:L2.St} {H:Hp},Y[i]?=some (some (.ref ea))->ts' D Y H->ts D Y H
variable {te te':TE} {ta ta':TA} {u u':TS}
theorem zj5 {K:Fg} {C:Addr} {cV:V} {c:Value} {b:Bool} (hk:ExK K C) (hc:clsV cV=some c) (hb:PySem.W.kitOne K (.ref C) c=some b):ImpE i ea (tCB (rIsE K ea C) (zk2 (tVar i) (zk2 (tC cV) tNil))) (tC (.bl b)) :=
 ⟨λ hs k q=>⟨_,hs,hk,cV,c,b,rfl,hc,hb,k _ _ q⟩⟩
theorem zod:ImpA i ea tNil tNil:=⟨λ _ k q=>k _ _ q⟩
theorem zy1 (h:ImpE i ea te te') (h2:ImpA i ea ta ta'):ImpA i ea (zk2 te ta) (zk2 te' ta'):=⟨λ hs k q=>h.of hs (λ v H1 q1=>h2.of hs (λ vs H2 q2=>k _ _ q2) q1) q⟩
theorem zgj (h:ImpA i ea ta ta'):ImpE i ea (zqq ta) (zqq ta'):=⟨λ hs k q=>h.of hs (λ vs H1 q1=>⟨q1.1,λ p hp=>k _ _ (q1.2 p hp)⟩) q⟩
theorem zfz (h:ImpE i ea te te'):ImpS i ea (tAsg te (zhe j)) (tAsg te' (zhe j)):=⟨λ hs q=>h.of hs (λ _ _ q1=>q1) q⟩
theorem ztn (hij:i≠j) (h:ImpE i ea te te') (h2:ImpS i ea u u'):ImpS i ea (tSeq (tAsg te (zhe j)) u) (tSeq (tAsg te' (zhe j)) u'):=⟨λ {D Y H} hs q=>h.of hs (λ v H1 q1=>h2.of (by
 rw [List.getElem?_set_ne (λ z=>hij z.symm)];exact hs) q1) q⟩
theorem zcu {K:Fg} {x y:V} {H:Hp} {Q Q':VK} (k:∀ v H1,Q' v H1->Q v H1) (h:zhl K x y H Q'):zhl K x y H Q:=by
 rcases h with (⟨a,b,e1,e2,q⟩|⟨a,b,e1,e2,e3,q⟩|⟨l,b,xs,zs,e1,e2,e3,e4,e5,q⟩|⟨a,b,xs,ys,e1,e2,e3,e4,e5,e6,q1,q2⟩)|h
 ·exact .inl (.inl ⟨a,b,e1,e2,k _ _ q⟩)
 ·exact .inl (.inr (.inl ⟨a,b,e1,e2,e3,k _ _ q⟩))
 ·exact .inl (.inr (.inr (.inl ⟨l,b,xs,zs,e1,e2,e3,e4,e5,λ p hp=>k _ _ (q p hp)⟩)))
 ·exact .inl (.inr (.inr (.inr ⟨a,b,xs,ys,e1,e2,e3,e4,e5,e6,λ z=>k _ _ (q1 z),λ z p hp=>k _ _ (q2 z p hp)⟩)))
 ·obtain ⟨a,b,xs,ys,e1,e2,e3,e4,e5,q⟩:=h
  exact .inr ⟨a,b,xs,ys,e1,e2,e3,e4,e5,λ p hp=>k _ _ (q p hp)⟩
theorem zik {K:Fg} (h:ImpE i ea te te'):ImpE i ea (tOp (zhl K) (tVar j) te) (tOp (zhl K) (tVar j) te'):=⟨λ hs k q=>by
 obtain ⟨v,hv,q⟩:=q
 exact ⟨v,hv,h.of hs (λ y H2 q2=>zcu k q2) q⟩⟩
theorem zmn (h:ImpE i ea te te'):ImpE i ea (zdx te) (zdx te'):=⟨λ hs k q=>h.of hs (λ x H1 q1=>by
 obtain ⟨c,e,q1⟩:=q1
 exact ⟨c,e,k _ _ q1⟩) q⟩
end
section
variable {K:Fg} {B:Bs} {F H:Hp} {Y:L2.St} {U:DSt} {fps:Nat->List Addr} {i:Nat}
theorem RS.setU (r:RS K B F H Y U fps) (x:Option V) (hi:U[i]?=some .un):RS K B F H (Y.set i x) U fps:=by
 have ne:∀ {j:Nat} {s:Sl},U[j]?=some s->s≠.un->(Y.set i x).getD j none=Y.getD j none:=λ {j s} e hs=>by
  have:i≠j:=λ z=>by subst z;rw [hi] at e;cases e;exact hs rfl
  rw [List.getD_eq_getElem?_getD,List.getElem?_set_ne this,<- List.getD_eq_getElem?_getD]
 refine ⟨r.hh,r.ff,r.fh,r.nw,r.al,by rw [List.length_set];exact r.len,λ j d e=>?_,λ j s e hs=>?_,r.fr,r.dj⟩
 ·rw [ne e (λ z=>by cases z)];exact r.sh j d e
 ·rw [ne e (λ z=>by subst z;cases hs)];exact r.rt j s e hs
def zzi (K:Fg):List (Value×(Addr->DS))->Addr->DEnds->DSt->Prop
|[],_,_,_=>False
|(c,d) :: r,C,E,U=>∃ b,PySem.W.exmOne K (.ref C) c=some b/\if b=true then d C E U else zzi K r C E U
def dAs (i:Nat) (d:DS):DS:=λ E U=>U[i]?=some .un/\d { nx:=λ U'=>U'[i]?=some .un/\E.nx U',bk:=λ U'=>U'[i]?=some .un/\E.bk U',ct:=λ U'=>U'[i]?=some .un/\E.ct U',rt:=E.rt } U
def dG (Cs:List Addr) (C:Addr) (d:DS):DS:=λ E U=>C∈Cs/\d E U
inductive RfHsN (K:Fg):List (Value×(Addr->TS))->List (Value×(Addr->DS))->Prop
|nil:RfHsN K [] []
|cons {Cs:List Addr} {c:Value} {i:Nat} {t:Addr->Addr->TS} {t':Addr->TS} {d:Addr->DS} {l:List (Value×(Addr->TS))} {hs:List (Value×(Addr->DS))}:(∀ C,C∈Cs->∀ ea,ImpS i ea (t C ea) (t' C))->(∀ C,C∈Cs->RfS K (t' C) (d C))->RfHsN K l hs->RfHsN K ((c,λ C=>tAs i (t C)) :: l) ((c,λ C=>dAs i (dG Cs C (d C))) :: hs)
theorem zow {E:DEnds} {Z:Ends} {C:Addr} (r:RS K B F H Y U fps) (k:En K B E Z) {l:List (Value×(Addr->TS))} {hs:List (Value×(Addr->DS))} (h:RfHsN K l hs):zzi K hs C E U->zfm K l C Z Y H:=by
 induction h with
|nil=>exact λ z=>z
|@cons Cs c i t t' d l hs hi ht _ ih =>
  rintro ⟨b,hb,q⟩
  refine ⟨b,hb,?_⟩
  cases b with
 |true =>
   rw [if_pos rfl] at q ⊢
   obtain ⟨hu,hC,q⟩:=q
   intro ea hea
   have hlt:i < Y.length:=by rw [r.len];exact (List.getElem?_eq_some_iff.mp hu).1
   refine (hi C hC ea).of (List.getElem?_set_self hlt) (ht C hC (r.setU _ hu) q ⟨λ r' q'=>k.nx (r'.setU none q'.1) q'.2,λ r' q'=>k.bk (r'.setU none q'.1) q'.2,λ r' q'=>k.ct (r'.setU none q'.1) q'.2,λ res q'=>k.rt res q'⟩)
 |false=>rw [if_neg Bool.false_ne_true] at q ⊢;exact ih q
def ze71 (K:Fg) (db:DX->DS) (hs:List (Value×(Addr->DS))):DS:=λ E U=>db (λ C U'=>zzi K hs C E U') E U
theorem ztz {tb:Ends->TS} {db:DX->DS} {l:List (Value×(Addr->TS))} {hs:List (Value×(Addr->DS))} (hb:∀ (D:Ends) (ex:DX),RfSe K (zk61 K l D) ex (tb D) (db ex)) (hh:RfHsN K l hs):RfS K (tTry tb) (ze71 K db hs):=by
 intro B F H Y U fps E Z r h k
 exact hb Z _ (λ r' q=>⟨_,rfl,zow r' k hh q⟩) r h k
end
structure KxT (K:Fg) (Cs Ds:List Addr):Prop where
 ex:∀ C∈Cs,ExK K C
 one:∀ C∈Cs,∀ D∈Ds,PySem.W.kitOne K (.ref C) (.ref D)=some (C == D)
 ve:∀ C∈Cs,PySem.W.kitOne K (.ref C) (.type "ValueError")=some true
 nd:Ds.Nodup
theorem zyq {α:Type} {p:α->Prop}:∀ x∈([]:List α),p x:=λ _ h=>by simp at h
theorem zu3 {α:Type} {p:α->Prop} {a:α} {l:List α} (h:p a) (r:∀ x∈l,p x):∀ x∈a :: l,p x:=λ x hx=>by
 rcases List.mem_cons.mp hx with z|z
 ·rw [z];exact h
 ·exact r x z
theorem zm21 (K:Fg) (db:DX->DS) (hs:List (Value×(Addr->DS))) (E:DEnds) (U:DSt):ze71 K db hs E U=db (λ C U'=>zzi K hs C E U') E U:=rfl
theorem zcq (K:Fg) (C:Addr) (E:DEnds) (U:DSt):zzi K [] C E U=False:=rfl
theorem zbq (K:Fg) (c:Value) (d:Addr->DS) (r:List (Value×(Addr->DS))) (C:Addr) (E:DEnds) (U:DSt):zzi K ((c,d) :: r) C E U=∃ b,PySem.W.exmOne K (.ref C) c=some b/\if b=true then d C E U else zzi K r C E U:=rfl
theorem zhd1 (i:Nat) (d:DS) (E:DEnds) (U:DSt):dAs i d E U=(U[i]?=some .un/\d { nx:=λ U'=>U'[i]?=some .un/\E.nx U',bk:=λ U'=>U'[i]?=some .un/\E.bk U',ct:=λ U'=>U'[i]?=some .un/\E.ct U',rt:=E.rt } U):=rfl
theorem e_dG (Cs:List Addr) (C:Addr) (d:DS) (E:DEnds) (U:DSt):dG Cs C d E U=(C∈Cs/\d E U):=rfl
end L4
namespace L3
open PySem PySem.Spec PyProof.Rows L2
section
variable {X:Cx} {tg:Expr}
end
end L3
namespace L4
open PySem PySem.Spec PyProof.Rows L2 L3
section
variable {K:Fg} {w:World}
end
section
variable {K:Fg} {te:TE} {de:DE} {tj:TJ} {dj:DJ}
end
section
variable {K:Fg} {te te1 te2:TE} {df:DF} {de:DE} {dc:DC}
end
section
variable {X:Cx} {x:Str} {pos pos':Pos} {e a b:Expr} {te ta tb:TE} {k j:Nat} {K:Fg}
theorem pset (i:Nat) (hN:X.N.Nodup) (he:PE X e te) (hi:X.N[i]?=some x:=by rfl) (hx:Loc X.env.scope x:=by walk_at "vi") (hs:swapsWith e (some (.Name x pos')) pos.line X.env=pure false:=by rfl) (hf:X.fn x=true \/ X.env.scope.names.lookup x=some .local:=by walk_at "vi"):PS X (.Assign [.Name x pos'] e pos) (tAsg te (zhe i)):=ze51 hN hi hx he hs hf
theorem pgn (i:Nat) (hN:X.N.Nodup) (hi:X.N[i]?=some x:=by rfl) (hx:Loc X.env.scope x:=by walk_at "vi") (hf:X.fn x=true \/ X.env.scope.names.lookup x=some .local:=by walk_at "vi"):PG X (.Name x pos) (zhe i):=zc11 hN hi hx hf
theorem pix (w:World) (K:Fg) (hr:Room k X.A) (ha:PE X a ta) (hb:PE X b tb) (hw:X.w=w:=by rfl) (hK:X.K=K:=by rfl) (hs:zxs b:=by exact λ _ _=>rfl):PE X (.Subscript a b pos) (tOp (rIxV w K) ta tb):=zbd1 (ix_V (Room.units hr) hw hK) ha hb hs
theorem nds (l:List Str) (h:l.Nodup:=by decide +kernel):l.Nodup:=h
theorem rvi {i:Int}:RfV K (tC (.int i)) (dC (.int i)):=RfE.v zi1
theorem rgn (i:Nat) (hi:i < 100:=by decide):RfG K 100 (zhe i) (gN i):=zv2 hi
theorem rmn {A:Around} (hr:Room k A) (h:j<=k:=by decide):Room j A:=Room.mono hr h
end
section
variable {K:Fg} {te ta te1 te2:TE} {dn1 dn2:DN} {dp:DP}
variable {tA:TA} {dA:DAT}
end
section
variable {K:Fg} {B:Bs} {F H F' H':Hp} {Y:L2.St} {U:DSt} {fps:Nat->List Addr}
theorem zjs {s:Sl} (ho:s.own=true) (t:T):(s.wth t).own=true/\(s.wth t).has=true/\(s.wth t).tree=some t:=by
 cases s with
|ow _=>exact ⟨rfl,rfl,rfl⟩
|io _ _=>exact ⟨rfl,rfl,rfl⟩
|un=>cases ho
|sh _=>cases ho
|bo _=>cases ho
theorem RS.updM (r:RS K B F H Y U fps) {I:Nat->Prop} {U2:DSt} {fps2:Nat->List Addr} {F2 H2:Hp} (hI:∀ i,I i->∃ s,U[i]?=some s/\s.own=true)
  (hk:(∀ i t,I i->U[i]?≠some (.ow t)) \/ ∀ i a t,I i->U[i]?≠some (.io a t)) (hl:U2.length=U.length)
  (hU:∀ (j:Nat) s',U2[j]?=some s'->(I j/\∃ s t2 x,U[j]?=some s/\s'=s.wth t2/\Y.getD j none=some x/\Rt K F2 H2 x t2 (fps2 j)/\(fps2 j).Nodup) \/ (¬I j/\U[j]?=some s'/\fps2 j=fps j))
  (c1:∀ b o,(∀ i,I i->b ∉ fps i)->H b=some o->H2 b=some o) (c2:Same F F2) (c3:Same F2 H2) (c4:∀ b,H b≠none->F b=none->F2 b=none) (c5:∀ b,H b≠none->H2 b≠none)
  (m2:∀ i,I i->∀ b∈fps2 i,(∃ k,I k/\b∈fps k) \/ zo21 B U fps b) (d2:∀ i k,I i->I k->i≠k->∀ b∈fps2 i,b ∉ fps2 k):RS K B F2 H2 Y U2 fps2:=by
 have oth:∀ i (j:Nat) s',I i->¬I j->U[j]?=some s'->s'.has=true->∀ b∈fps i,b ∉ fps j:=λ i j s' hi hj e hs b hb=>by
  obtain ⟨s,es,ho⟩:=hI i hi
  exact r.dj i j s s' (λ z=>hj (z ▸ hi)) es e ho hs b hb
 refine ⟨λ b o hb h0=>?_,r.ff.trans c2,c3,λ b hb fb=>c4 b (r.al b hb) (r.nw b hb fb),λ b hb=>c5 b (r.al b hb),by rw [hl];exact r.len,λ j d e=>?_,λ j s' e hs'=>?_,λ j s' e ho' a ha=>?_,λ j k s1 s2 hjk e1 e2 o1 o2 a ha=>?_⟩
 ·refine c1 b o (λ i hi z=>?_) (r.hh b o hb h0)
  obtain ⟨s,es,ho⟩:=hI i hi
  rcases r.fr i s es ho b z with y|y
  ·rw [y] at h0;cases h0
  ·exact hb y.1
 ·rcases hU j _ e with ⟨hi,s,t2,x,es,z,_⟩|⟨_,z,_⟩
  ·obtain ⟨s0,es0,ho⟩:=hI j hi
   rw [es] at es0;cases es0
   have:=(zjs ho t2).1
   rw [<- z] at this;cases this
  ·obtain ⟨y,h1,h2⟩:=r.sh j d z;exact ⟨y,h1,h2.mono c2⟩
 ·rcases hU j _ e with ⟨hi,s,t2,x,es,z,hx,h2,n2⟩|⟨hj,z,ef⟩
  ·obtain ⟨s0,es0,ho⟩:=hI j hi
   rw [es] at es0;cases es0
   refine ⟨x,t2,hx,by rw [z];exact (zjs ho t2).2.2,h2,λ a u e'=>?_,n2⟩
   obtain ⟨x',t',a1,a2,a3,a4,a5⟩:=r.rt j s es (zi2 ho)
   rw [hx] at a1;cases a1
   cases s with
  |ow _=>rw [z] at e';cases e'
  |io a' u'=>rw [z] at e';cases e';exact a4 _ _ rfl
  |un=>cases ho
  |sh _=>cases ho
  |bo _=>cases ho
  ·rw [ef]
   obtain ⟨y,t',a1,a2,a3,a4,a5⟩:=r.rt j s' z hs'
   refine ⟨y,t',a1,a2,a3.frame c2 λ a ha=>?_,a4,a5⟩
   obtain ⟨d1,d2⟩:=a3.dom a ha
   refine ⟨?_,c4 a d1 d2⟩
   cases q:H a with
  |none=>exact absurd q d1
  |some o=>exact c1 a o (λ i hi w=>oth i j s' hi hj z hs' a w ha) q
 ·rcases hU j _ e with ⟨hi,s,t2,x,es,z,hx,h2,n2⟩|⟨hj,z,ef⟩
  ·obtain ⟨s0,es0,ho⟩:=hI j hi
   rw [es] at es0;cases es0
   rcases m2 j hi a ha with ⟨k,hk',y⟩|y
   ·obtain ⟨sk,ek,hok⟩:=hI k hk'
    rcases r.fr k sk ek hok a y with w|⟨w1,w2⟩
    ·exact .inl w
    ·refine .inr ⟨w1,λ t et=>?_⟩
     rw [z] at et
     cases s with
    |ow t' =>
      rcases hk with h|h
      ·exact h j t' hi es
      ·cases sk with
      |ow t''=>exact w2 t'' rfl
      |io a' t''=>exact h k a' t'' hk' ek
      |un=>cases hok
      |sh _=>cases hok
      |bo _=>cases hok
    |io _ _=>cases et
    |un=>cases ho
    |sh _=>cases ho
    |bo _=>cases ho
   ·exact .inl y.1
  ·rw [ef] at ha;exact r.fr j s' z ho' a ha
 ·rcases hU j _ e1 with ⟨hi,s,t2,x,es,z,_⟩|⟨hj,z,ef⟩ <;> rcases hU k _ e2 with ⟨hi',s',t2',x',es',z',_⟩|⟨hj',z',ef'⟩
  ·exact d2 j k hi hi' hjk a ha
  ·rw [ef']
   rcases m2 j hi a ha with ⟨i,hi2,y⟩|y
   ·exact oth i k s2 hi2 hj' z' o2 a y
   ·exact y.2 k s2 z' o2
  ·rw [ef] at ha
   intro w
   rcases m2 k hi' a w with ⟨i,hi2,y⟩|y
   ·exact oth i j s1 hi2 hj z (zi2 o1) a y ha
   ·exact y.2 j s1 z (zi2 o1) ha
  ·rw [ef] at ha;rw [ef']
   exact r.dj j k s1 s2 hjk z z' o1 o2 a ha
end
section
structure PreM (K:Fg) (F H:Hp) (vs:List V) (as:List Arg) (fl:Nat->List Addr):Prop where
 len:vs.length=as.length
 d:∀ (k:Nat) x,as[k]?=some (.d x)->∃ v,vs[k]?=some v/\Is K F v x
 b:∀ (k:Nat) x,as[k]?=some (.b x)->∃ v,vs[k]?=some v/\Rt K F H v x (fl k)/\(fl k).Nodup
 o:∀ (k:Nat) x,as[k]?=some (.o x)->∃ a,vs[k]?=some (.ref a)/\Rt K F H (.ref a) x (fl k)/\(fl k).Nodup
 dj:∀ (j k:Nat) x y,j≠k->as[j]?=some (.o x)->(as[k]?=some (.b y) \/ as[k]?=some (.o y))->∀ b∈fl j,b ∉ fl k
structure PostM (K:Fg) (F H:Hp) (vs:List V) (as:List Arg) (fl:Nat->List Addr) (F' H':Hp) (v:V) (r:T) (fpr:List Addr) (ts:List T) (fq:Nat->List Addr):Prop where
 hh:∀ b o,(∀ (k:Nat) x,as[k]?=some (.o x)->b ∉ fl k)->H b=some o->H' b=some o
 ff:Same F F'
 fh:Same F' H'
 nw:∀ b,H b≠none->F b=none->F' b=none
 al:∀ b,H b≠none->H' b≠none
 rt:Rt K F' H' v r fpr
 nd:fpr.Nodup
 fr:∀ a∈fpr,H a=none
 io:∀ (k:Nat) x a,as[k]?=some (.o x)->vs[k]?=some (.ref a)->∃ t',ts[k]?=some t'/\Rt K F' H' (.ref a) t' (fq k)/\(fq k).Nodup/\(∀ b∈fq k,(∃ (j:Nat) (y:T),as[j]?=some (.o y)/\b∈fl j) \/ H b=none)/\∀ b∈fq k,b ∉ fpr
 dj:∀ (j k:Nat) x y,j≠k->as[j]?=some (.o x)->as[k]?=some (.o y)->∀ b∈fq j,b ∉ fq k
abbrev DSpM:=List Arg->(T->List T->Prop)->Prop
def spM (K:Fg) (p:DSpM):Sp:=λ vs H Q _=>∃ F as fl Qd,Same F H/\PreM K F H vs as fl/\p as Qd/\∀ r ts,Qd r ts->∀ v F' H' fpr fq,PostM K F H vs as fl F' H' v r fpr ts fq->Q v H'
theorem zq91 {K:Fg} {p:DSpM} {ps:List Str} (h:∀ as Qd,p as Qd->as.length=ps.length):∀ vs H Q E,spM K p vs H Q E->vs.length=ps.length:=λ vs H Q E z=>by
 obtain ⟨F,as,fl,Qd,_,ha,hp,_⟩:=z
 rw [ha.len];exact h as Qd hp
def zx9 (al:Nat->Addr):Nat->List Arg->DSt
|_,[]=>[]
|k,.d x :: r=>.sh x :: zx9 al (k+1) r
|k,.b x :: r=>.bo x :: zx9 al (k+1) r
|k,.o x :: r=>.io (al k) x :: zx9 al (k+1) r
def znc (N:List Str) (al:Nat->Addr) (as:List Arg):DSt:=zx9 al 0 as++List.replicate (N.length - as.length) .un
def exM (al:Nat->Addr):Nat->List Arg->DSt->(List T->Prop)->Prop
|_,[],_,Q=>Q []
|k,.o _ :: r,s :: U,Q=>∃ t,s=.io (al k) t/\exM al (k+1) r U λ ts=>Q (t :: ts)
|k,.d _ :: r,_ :: U,Q=>exM al (k+1) r U λ ts=>Q (.fz .none :: ts)
|k,.b _ :: r,_ :: U,Q=>exM al (k+1) r U λ ts=>Q (.fz .none :: ts)
|_,_ :: _,[],_=>False
def zoy (as:List Arg) (al:Nat->Addr) (Qd:T->List T->Prop):DEnds:={ nx:=λ U=>exM al 0 as U (Qd (.fz .none)),rt:=λ r U=>exM al 0 as U (Qd r) }
theorem zd3 (al:Nat->Addr):∀ (k:Nat) (as:List Arg),(zx9 al k as).length=as.length
|_,[]=>rfl
|k,.d _ :: r=>congrArg (·+1) (zd3 al (k+1) r)
|k,.b _ :: r=>congrArg (·+1) (zd3 al (k+1) r)
|k,.o _ :: r=>congrArg (·+1) (zd3 al (k+1) r)
theorem zc9 (al:Nat->Addr):∀ (k:Nat) (as:List Arg) (i:Nat),(zx9 al k as)[i]?=(as[i]?).map (zlx (al (k+i)))
|_,[],i=>by simp [zx9]
|k,.d _ :: r,0=>rfl
|k,.b _ :: r,0=>rfl
|k,.o _ :: r,0=>rfl
|k,.d _ :: r,i+1=>by
  have:=zc9 al (k+1) r i
  rw [show k+1+i=k+(i+1) by lia] at this
  simpa [zx9] using this
|k,.b _ :: r,i+1=>by
  have:=zc9 al (k+1) r i
  rw [show k+1+i=k+(i+1) by lia] at this
  simpa [zx9] using this
|k,.o _ :: r,i+1=>by
  have:=zc9 al (k+1) r i
  rw [show k+1+i=k+(i+1) by lia] at this
  simpa [zx9] using this
theorem zdj (al:Nat->Addr):∀ (k:Nat) (as:List Arg) (U:DSt) (Q:List T->Prop),exM al k as U Q->∃ ts,Q ts/\∀ (i:Nat) x,as[i]?=some (.o x)->∃ t,U[i]?=some (.io (al (k+i)) t)/\ts[i]?=some t
|_,[],_,Q,h=>⟨[],by simpa [exM] using h,λ i x e=>by simp at e⟩
|k,.o y :: r,s :: U,Q,h=>by
  obtain ⟨t,es,h2⟩:=(show ∃ t,s=.io (al k) t/\exM al (k+1) r U λ ts=>Q (t :: ts) from h)
  obtain ⟨ts,q,e⟩:=zdj al (k+1) r U _ h2
  refine ⟨t :: ts,q,λ i x ei=>?_⟩
  cases i with
 |zero=>rw [es];exact ⟨t,rfl,rfl⟩
 |succ i =>
   obtain ⟨t',g1,g2⟩:=e i x (by simpa using ei)
   rw [show k+1+i=k+(i+1) by lia] at g1
   exact ⟨t',by simpa using g1,by simpa using g2⟩
|k,.d y :: r,s :: U,Q,h=>by
  obtain ⟨ts,q,e⟩:=zdj al (k+1) r U _ (show exM al (k+1) r U λ ts=>Q (.fz .none :: ts) from h)
  refine ⟨.fz .none :: ts,q,λ i x ei=>?_⟩
  cases i with
 |zero=>simp at ei
 |succ i =>
   obtain ⟨t',g1,g2⟩:=e i x (by simpa using ei)
   rw [show k+1+i=k+(i+1) by lia] at g1
   exact ⟨t',by simpa using g1,by simpa using g2⟩
|k,.b y :: r,s :: U,Q,h=>by
  obtain ⟨ts,q,e⟩:=zdj al (k+1) r U _ (show exM al (k+1) r U λ ts=>Q (.fz .none :: ts) from h)
  refine ⟨.fz .none :: ts,q,λ i x ei=>?_⟩
  cases i with
 |zero=>simp at ei
 |succ i =>
   obtain ⟨t',g1,g2⟩:=e i x (by simpa using ei)
   rw [show k+1+i=k+(i+1) by lia] at g1
   exact ⟨t',by simpa using g1,by simpa using g2⟩
|k,.o _ :: _,[],_,h=>(show False from h).elim
|k,.d _ :: _,[],_,h=>(show False from h).elim
|k,.b _ :: _,[],_,h=>(show False from h).elim
variable {P:Program} {w:World} {K:Fg} {mg:Str->Option Value} {base:Heap}
def oFl (as:List Arg) (fl:Nat->List Addr):List Addr:=(List.range as.length).flatMap λ k=>match (as[k]?:Option Arg) with
|some (Arg.o _)=>fl k
|_=>([]:List Addr)
theorem zen {as:List Arg} {fl:Nat->List Addr} {b:Addr}:b∈oFl as fl ↔ ∃ (k:Nat) (x:T),as[k]?=some (.o x)/\b∈fl k:=by
 unfold oFl
 rw [List.mem_flatMap]
 constructor
 ·rintro ⟨k,_,h⟩
  split at h
  ·rename_i x e;exact ⟨k,x,e,h⟩
  ·simp at h
 ·rintro ⟨k,x,e,h⟩
  refine ⟨k,List.mem_range.mpr (List.getElem?_eq_some_iff.mp e).1,?_⟩
  rw [e];exact h
theorem zby {qual:Str} {st:Stmt} {N:List Str} {k:Nat} {p:DSpM}
  (body:∀ (f:Addr) (cdv:Value) (A:Around) (outer:List Env) (s:Shared) (H:Hp) (E:XK),Room k (A.deeper (envOfC qual (zf0 st) s.heap.objs.size f cdv))->∃ t d,PSs (cxOf CX0 P w K mg base N qual (zf0 st) f cdv A outer s H E).nox (zu1 st) t/\RfS K t d/\∀ as Qd al,p as Qd->d (zoy as al Qd) (znc N al as)) :
  zl6 P w K mg base qual st N k (spM K p):=by
 intro f cdv A outer s H vs Q E hr h
 obtain ⟨F,as,fl,Qd,sf,pre,hp,hq⟩:=h
 obtain ⟨t,d,h1,h2,h3⟩:=body f cdv A outer s H E hr
 obtain ⟨al,hal⟩:∃ al:Nat->Addr,∀ (i:Nat) a,vs[i]?=some (.ref a)->al i=a :=
  ⟨λ i=>match vs[i]? with|some (.ref a)=>a|_=>0,λ i a e=>by simp only [e]⟩
 have slot:∀ (i:Nat) sl,(znc N al as)[i]?=some sl->(sl=.un/\as.length<=i) \/ ∃ g,as[i]?=some g/\sl=zlx (al i) g:=λ i sl e=>by
  unfold znc at e
  by_cases hi:i < as.length
  ·rw [List.getElem?_append_left (by rw [zd3];exact hi),zc9,Nat.zero_add] at e
   obtain ⟨g,h1,h2⟩:=Option.map_eq_some_iff.mp e
   exact .inr ⟨g,h1,h2.symm⟩
  ·rw [List.getElem?_append_right (by rw [zd3];lia),List.getElem?_replicate] at e
   split at e
   ·cases e;exact .inl ⟨rfl,by lia⟩
   ·cases e
 have val:∀ (i:Nat) v,vs[i]?=some v->(L2.start N vs).getD i none=some v:=λ i v e=>by
  have hi:i < vs.length:=(List.getElem?_eq_some_iff.mp e).1
  unfold L2.start
  rw [List.getD_eq_getElem?_getD,List.getElem?_append_left (by simpa using hi),List.getElem?_map,e]
  rfl
 have rs:RS K ⟨F,H,oFl as fl⟩ F H (L2.start N vs) (znc N al as) fl:=by
  refine ⟨λ b o _ z=>z,λ _ _ z=>z,sf,λ b _ z=>z,λ b z=>z,by simp [L2.start,znc,zd3,pre.len],λ i x e=>?_,λ i sl e hs=>?_,λ i sl e ho b hb=>?_,λ i j sl sl' hij e1 e2 o1 o2 b hb=>?_⟩
  ·rcases slot i _ e with ⟨z,_⟩|⟨g,e1,e2⟩
   ·cases z
   ·cases g with
   |d x'=>cases e2;obtain ⟨v,g1,g2⟩:=pre.d i x e1;exact ⟨v,val i v g1,g2⟩
   |b _=>cases e2
   |o _=>cases e2
  ·rcases slot i _ e with ⟨z,_⟩|⟨g,e1,e2⟩
   ·rw [z] at hs;cases hs
   ·cases g with
   |d x'=>rw [e2] at hs;cases hs
   |b x' =>
     obtain ⟨v,g1,g2,g3⟩:=pre.b i x' e1
     rw [e2]
     exact ⟨v,x',val i v g1,rfl,g2,λ a u z=>(by cases z),g3⟩
   |o x' =>
     obtain ⟨a',g1,g2,g3⟩:=pre.o i x' e1
     rw [e2,hal i a' g1]
     exact ⟨_,x',val i _ g1,rfl,g2,λ a u z=>(by cases z;rfl),g3⟩
  ·rcases slot i _ e with ⟨z,_⟩|⟨g,e1,e2⟩
   ·rw [z] at ho;cases ho
   ·cases g with
   |d x'=>rw [e2] at ho;cases ho
   |b x'=>rw [e2] at ho;cases ho
   |o x'=>exact .inr ⟨zen.mpr ⟨i,x',e1,hb⟩,λ t z=>by rw [e2] at z;cases z⟩
  ·rcases slot i _ e1 with ⟨z,_⟩|⟨g,f1,f2⟩
   ·rw [z] at o1;cases o1
   ·cases g with
   |d x'=>rw [f2] at o1;cases o1
   |b x'=>rw [f2] at o1;cases o1
   |o x' =>
     rcases slot j _ e2 with ⟨z,_⟩|⟨g',f1',f2'⟩
     ·rw [z] at o2;cases o2
     ·cases g' with
     |d x''=>rw [f2'] at o2;cases o2
     |b x''=>exact pre.dj i j x' x'' hij f1 (.inl f1') b hb
     |o x''=>exact pre.dj i j x' x'' hij f1 (.inr f1') b hb
 have fin:∀ {F' H':Hp} {Y':L2.St} {U':DSt} {fps':Nat->List Addr} {v:V} {r:T} {fpr:List Addr},Res K ⟨F,H,oFl as fl⟩ F' H' Y' U' fps' v r fpr->exM al 0 as U' (Qd r)->Q v H':=λ {F' H' Y' U' fps' v r fpr} res ex=>by
  obtain ⟨ts,qd,out⟩:=zdj al 0 as U' _ ex
  refine hq r ts qd v F' H' fpr fps' ⟨λ b o hb=>res.rs.hh b o (λ z=>?_),res.rs.ff,res.rs.fh,res.rs.nw,res.rs.al,res.rt,res.nd,res.fr,λ k x a ek ev=>?_,λ j k x y hjk ej ek b hb=>?_⟩
  ·obtain ⟨k,x,e,h⟩:=zen.mp z
   exact hb k x e h
  ·obtain ⟨t',et,e3⟩:=out k x ek
   rw [Nat.zero_add,hal k a ev] at et
   obtain ⟨x',t'',b1,b2,b3,b4,b5⟩:=res.rs.rt k _ et rfl
   cases b2
   have:=b4 a t' rfl
   subst this
   refine ⟨t',e3,b3,b5,λ b hb=>?_,λ b hb=>res.dj k _ et rfl b hb⟩
   rcases res.rs.fr k _ et rfl b hb with z|⟨z,_⟩
   ·exact .inr z
   ·exact .inl (zen.mp z)
  ·obtain ⟨t1,e1,_⟩:=out j x ej
   obtain ⟨t2,e2,_⟩:=out k y ek
   exact res.rs.dj j k _ _ hjk e1 e2 rfl rfl b hb
 refine ⟨t,h1,h2 rs (h3 as Qd al hp) ⟨λ r q=>fin ⟨r,.fz .non,.nil,λ a ha=>by simp at ha,λ _ _ _ _ a _ ha=>by simp at ha⟩ q,λ _ z=>z.elim,λ _ z=>z.elim,λ res q=>fin res q⟩⟩
end
section
variable {K:Fg} {B:Bs} {F H:Hp} {Y:L2.St} {U:DSt} {fps:Nat->List Addr}
def agP (K:Fg) (F H:Hp) (Y:L2.St) (U:DSt) (v:V):ArgP->Prop
|.d x=>Is K F v x
|.b i p t=>AtS H Y U i p v t
|.o i p t=>AtS H Y U i p v t
theorem ArgsP.at_ {vs:List V} {as:List ArgP} (h:ArgsP K F H Y U vs as):vs.length=as.length/\∀ (k:Nat) g,as[k]?=some g->∃ v,vs[k]?=some v/\agP K F H Y U v g:=by
 induction h with
|nil=>exact ⟨rfl,λ k g e=>by simp at e⟩
|d h _ ih =>
  refine ⟨by simp [ih.1],λ k g e=>?_⟩
  cases k with
 |zero=>simp at e;subst e;exact ⟨_,rfl,h⟩
 |succ k=>obtain ⟨v,g1,g2⟩:=ih.2 k g (by simpa using e);exact ⟨v,by simpa using g1,g2⟩
|b h _ ih =>
  refine ⟨by simp [ih.1],λ k g e=>?_⟩
  cases k with
 |zero=>simp at e;subst e;exact ⟨_,rfl,h⟩
 |succ k=>obtain ⟨v,g1,g2⟩:=ih.2 k g (by simpa using e);exact ⟨v,by simpa using g1,g2⟩
|o h _ ih =>
  refine ⟨by simp [ih.1],λ k g e=>?_⟩
  cases k with
 |zero=>simp at e;subst e;exact ⟨_,rfl,h⟩
 |succ k=>obtain ⟨v,g1,g2⟩:=ih.2 k g (by simpa using e);exact ⟨v,by simpa using g1,g2⟩
theorem Rt.ref_of {v:V} {t:T} {fn:List Addr} (h:Rt K F H v t fn) (hf:zfp t):∃ a,v=.ref a:=by
 cases h with
|fz _=>exact hf.elim
|li _ _ _=>exact ⟨_,rfl⟩
|ls _ _ _=>exact ⟨_,rfl⟩
|ob _ _ _ _ _=>exact ⟨_,rfl⟩
|dk _ _ _=>exact ⟨_,rfl⟩
|dt _ _ _=>exact ⟨_,rfl⟩
|tp _ _ _=>exact ⟨_,rfl⟩
def oIs:List ArgP->List Nat
|[]=>[]
|.o i _ _ :: r=>i :: oIs r
|.d _ :: r=>oIs r
|.b _ _ _ :: r=>oIs r
theorem zl1 {j:Nat}:∀ {as:List ArgP},j∈oIs as ↔ ∃ (k:Nat) (q:Pth) (t:T),as[k]?=some (.o j q t)
|[]=>by simp [oIs]
|.o i p u :: r=>by
  rw [show oIs (.o i p u :: r)=i :: oIs r from rfl,List.mem_cons,zl1 (as:=r)]
  constructor
  ·rintro (h|⟨k,q,t,h⟩)
   ·subst h;exact ⟨0,p,u,rfl⟩
   ·exact ⟨k+1,q,t,by simpa using h⟩
  ·rintro ⟨k,q,t,h⟩
   cases k with
  |zero=>simp at h;exact .inl h.1.symm
  |succ k=>exact .inr ⟨k,q,t,by simpa using h⟩
|.d x :: r=>by
  rw [show oIs (.d x :: r)=oIs r from rfl,zl1 (as:=r)]
  constructor
  ·rintro ⟨k,q,t,h⟩;exact ⟨k+1,q,t,by simpa using h⟩
  ·rintro ⟨k,q,t,h⟩
   cases k with
  |zero=>simp at h
  |succ k=>exact ⟨k,q,t,by simpa using h⟩
|.b i p u :: r=>by
  rw [show oIs (.b i p u :: r)=oIs r from rfl,zl1 (as:=r)]
  constructor
  ·rintro ⟨k,q,t,h⟩;exact ⟨k+1,q,t,by simpa using h⟩
  ·rintro ⟨k,q,t,h⟩
   cases k with
  |zero=>simp at h
  |succ k=>exact ⟨k,q,t,by simpa using h⟩
theorem zsc:∀ {as:List ArgP},(oIs as).Nodup->∀ {k k' j:Nat} {q q':Pth} {t t':T},as[k]?=some (.o j q t)->as[k']?=some (.o j q' t')->k=k'
|.o i p u :: r,nd,0,0,j,q,q',t,t',e,e'=>rfl
|.o i p u :: r,nd,0,k'+1,j,q,q',t,t',e,e'=>by
  simp at e e'
  have:=(List.nodup_cons.mp nd).1
  exact absurd (zl1.mpr ⟨k',q',t',e.1 ▸ e'⟩) this
|.o i p u :: r,nd,k+1,0,j,q,q',t,t',e,e'=>by
  simp at e e'
  have:=(List.nodup_cons.mp nd).1
  exact absurd (zl1.mpr ⟨k,q,t,e'.1 ▸ e⟩) this
|.o i p u :: r,nd,k+1,k'+1,j,q,q',t,t',e,e'=>by
  simp at e e'
  rw [zsc (List.nodup_cons.mp nd).2 e e']
|.d x :: r,nd,0,_,j,q,q',t,t',e,e'=>by simp at e
|.d x :: r,nd,_,0,j,q,q',t,t',e,e'=>by simp at e'
|.d x :: r,nd,k+1,k'+1,j,q,q',t,t',e,e'=>by
  simp at e e'
  rw [zsc (as:=r) nd e e']
|.b _ _ _ :: r,nd,0,_,j,q,q',t,t',e,e'=>by simp at e
|.b _ _ _ :: r,nd,_,0,j,q,q',t,t',e,e'=>by simp at e'
|.b _ _ _ :: r,nd,k+1,k'+1,j,q,q',t,t',e,e'=>by
  simp at e e'
  rw [zsc (as:=r) nd e e']
def mutM:DSt->List ArgP->List T->(DSt->Prop)->Prop
|U,[],_,N=>N U
|U,.o i q _ :: r,t :: ts,N=>mutS U i q t λ U'=>mutM U' r ts N
|U,.d _ :: r,_ :: ts,N=>mutM U r ts N
|U,.b _ _ _ :: r,_ :: ts,N=>mutM U r ts N
|_,_ :: _,[],_=>False
theorem ziu {s:Sl} (h:s.own=true):∃ t,s.tree=some t:=by
 cases s with
|ow t=>exact ⟨t,rfl⟩
|io a t=>exact ⟨t,rfl⟩
|un=>cases h
|sh _=>cases h
|bo _=>cases h
theorem zxe:∀ {as:List ArgP} {ts:List T} {U:DSt} {N:DSt->Prop},(oIs as).Nodup->(∀ i∈oIs as,∃ s,U[i]?=some s/\s.own=true)->mutM U as ts N ->
  ∃ U2,N U2/\U2.length=U.length/\(∀ (k i:Nat) q t,as[k]?=some (.o i q t)->∃ s t0 tk,U[i]?=some s/\s.tree=some t0/\ts[k]?=some tk/\U2[i]?=some (s.wth (setP t0 q tk)))/\∀ j,j ∉ oIs as->U2[j]?=U[j]?
|[],ts,U,N,_,_,h=>⟨U,h,rfl,λ k i q t e=>by simp at e,λ _ _=>rfl⟩
|.d x :: r,t1 :: ts,U,N,nd,ho,h=>by
  obtain ⟨U2,h1,h2,h3,h4⟩:=zxe (as:=r) nd ho (show mutM U r ts N from h)
  refine ⟨U2,h1,h2,λ k i q t e=>?_,h4⟩
  cases k with
 |zero=>simp at e
 |succ k=>obtain ⟨s,t0,tk,g1,g2,g3,g4⟩:=h3 k i q t (by simpa using e);exact ⟨s,t0,tk,g1,g2,by simpa using g3,g4⟩
|.b _ _ _ :: r,t1 :: ts,U,N,nd,ho,h=>by
  obtain ⟨U2,h1,h2,h3,h4⟩:=zxe (as:=r) nd ho (show mutM U r ts N from h)
  refine ⟨U2,h1,h2,λ k i q t e=>?_,h4⟩
  cases k with
 |zero=>simp at e
 |succ k=>obtain ⟨s,t0,tk,g1,g2,g3,g4⟩:=h3 k i q t (by simpa using e);exact ⟨s,t0,tk,g1,g2,by simpa using g3,g4⟩
|.o i p u :: r,t1 :: ts,U,N,nd,ho,h=>by
  obtain ⟨n1,n2⟩:=List.nodup_cons.mp nd
  obtain ⟨s,es,os⟩:=ho i List.mem_cons_self
  obtain ⟨t0,et⟩:=ziu os
  have h':=zbe es os et (show mutS U i p t1 λ U'=>mutM U' r ts N from h)
  have ne:∀ j,j≠i->(U.set i (s.wth (setP t0 p t1)))[j]?=U[j]?:=λ j hj=>List.getElem?_set_ne (λ z=>hj z.symm)
  have hlt:=(List.getElem?_eq_some_iff.mp es).1
  obtain ⟨U2,h1,h2,h3,h4⟩:=zxe (as:=r) n2 (λ j hj=>by rw [ne j (λ z=>n1 (z ▸ hj))];exact ho j (List.mem_cons_of_mem _ hj)) h'
  refine ⟨U2,h1,by rw [h2,List.length_set],λ k j q t e=>?_,λ j hj=>?_⟩
  ·cases k with
  |zero =>
    simp at e
    obtain ⟨rfl,rfl,rfl⟩:=e
    exact ⟨s,t0,t1,es,et,rfl,by rw [h4 _ n1,List.getElem?_set_self hlt]⟩
  |succ k =>
    have e:r[k]?=some (.o j q t):=by simpa using e
    obtain ⟨s',t0',tk,g1,g2,g3,g4⟩:=h3 k j q t e
    rw [ne j (λ z=>n1 (z ▸ zl1.mpr ⟨k,q,t,e⟩))] at g1
    exact ⟨s',t0',tk,g1,g2,by simpa using g3,g4⟩
  ·have hj2:j≠i/\j ∉ oIs r:=⟨λ z=>hj (z ▸ List.mem_cons_self),λ z=>hj (List.mem_cons_of_mem _ z)⟩
   rw [h4 j hj2.2,ne j hj2.1]
|.o _ _ _ :: _,[],_,_,_,_,h=>(show False from h).elim
|.d _ :: _,[],_,_,_,_,h=>(show False from h).elim
|.b _ _ _ :: _,[],_,_,_,_,h=>(show False from h).elim
end
section
variable {K:Fg} {B:Bs} {F H:Hp} {Y:L2.St} {U:DSt} {fps:Nat->List Addr}
def okS (w:Bool) (U:DSt) (i:Nat):Prop:=match U[i]?,w with
|some (.ow _),true=>True
|some (.io _ _),false=>True
|_,_=>False
def allK (w:Bool) (U:DSt):List ArgP->Prop
|[]=>True
|.o i _ t :: r=>okS w U i/\zfp t/\allK w U r
|.d _ :: r=>allK w U r
|.b _ _ _ :: r=>allK w U r
theorem zd9 {w:Bool}:∀ {as:List ArgP},allK w U as->∀ {k i:Nat} {q:Pth} {t:T},as[k]?=some (.o i q t)->okS w U i/\zfp t
|.o i p u :: r,h,0,j,q,t,e=>by simp at e;obtain ⟨rfl,rfl,rfl⟩:=e;exact ⟨h.1,h.2.1⟩
|.o i p u :: r,h,k+1,j,q,t,e=>zd9 (as:=r) h.2.2 (by simpa using e)
|.d _ :: r,h,0,j,q,t,e=>by simp at e
|.d _ :: r,h,k+1,j,q,t,e=>zd9 (as:=r) h (by simpa using e)
|.b _ _ _ :: r,h,0,j,q,t,e=>by simp at e
|.b _ _ _ :: r,h,k+1,j,q,t,e=>zd9 (as:=r) h (by simpa using e)
def zwi (l:List Nat):List ArgP->Prop
|[]=>True
|.b i _ _ :: r=>i ∉ l/\zwi l r
|.d _ :: r=>zwi l r
|.o _ _ _ :: r=>zwi l r
theorem ztd {l:List Nat}:∀ {as:List ArgP},zwi l as->∀ {k i:Nat} {q:Pth} {t:T},as[k]?=some (.b i q t)->i ∉ l
|.b i p u :: r,h,0,j,q,t,e=>by simp at e;obtain ⟨rfl,rfl,rfl⟩:=e;exact h.1
|.b i p u :: r,h,k+1,j,q,t,e=>ztd (as:=r) h.2 (by simpa using e)
|.d _ :: r,h,0,j,q,t,e=>by simp at e
|.d _ :: r,h,k+1,j,q,t,e=>ztd (as:=r) h (by simpa using e)
|.o _ _ _ :: r,h,0,j,q,t,e=>by simp at e
|.o _ _ _ :: r,h,k+1,j,q,t,e=>ztd (as:=r) h (by simpa using e)
theorem zgs {as:List ArgP} {k:Nat} {x:T} (e:(as.map ArgP.arg)[k]?=some (.o x)):∃ i q,as[k]?=some (.o i q x):=by
 rw [List.getElem?_map] at e
 obtain ⟨g,h1,h2⟩:=Option.map_eq_some_iff.mp e
 cases g with
|d _=>cases h2
|b _ _ _=>cases h2
|o i q t=>cases h2;exact ⟨i,q,h1⟩
theorem zw91 {as:List ArgP} {k:Nat} {x:T} (e:(as.map ArgP.arg)[k]?=some (.b x)):∃ i q,as[k]?=some (.b i q x):=by
 rw [List.getElem?_map] at e
 obtain ⟨g,h1,h2⟩:=Option.map_eq_some_iff.mp e
 cases g with
|d _=>cases h2
|o _ _ _=>cases h2
|b i q t=>cases h2;exact ⟨i,q,h1⟩
theorem zya1 {as:List ArgP} {k:Nat} {x:D} (e:(as.map ArgP.arg)[k]?=some (.d x)):as[k]?=some (.d x):=by
 rw [List.getElem?_map] at e
 obtain ⟨g,h1,h2⟩:=Option.map_eq_some_iff.mp e
 cases g with
|o _ _ _=>cases h2
|b _ _ _=>cases h2
|d x=>cases h2;exact h1
def zhq (p:DSpM) (U:DSt) (as:List ArgP) (Q:T->DSt->Prop):Prop:=(∃ w,allK w U as)/\(oIs as).Nodup/\zwi (oIs as) as/\p (as.map ArgP.arg) λ r ts=>mutM U as ts λ U'=>Q r U'
structure FoO (K:Fg) (F H:Hp) (Y:L2.St) (U:DSt) (fps:Nat->List Addr) (v:Option V) (i:Nat) (q:Pth) (t:T) (fn:List Addr) (a:Addr) (s:Sl) (t0:T) (x:V):Prop where
 ev:v=some (.ref a)
 es:U[i]?=some s
 os:s.own=true
 et:s.tree=some t0
 ex:Y.getD i none=some x
 rt0:Rt K F H x t0 (fps i)
 rta:Rt K F H (.ref a) t fn
 nd:fn.Nodup
 sub:∀ b∈fn,b∈fps i
 back:∀ (F2 H2:Hp) (u2:T) (fq:List Addr),Same F F2->(∀ b∈fps i,b ∉ fn->H2 b=H b/\F2 b=none)->Rt K F2 H2 (.ref a) u2 fq->fq.Nodup->(∀ b∈fq,b∈fn \/ b ∉ fps i)->∃ fp2,Rt K F2 H2 x (setP t0 q u2) fp2/\fp2.Nodup/\∀ b∈fp2,(b∈fps i/\b ∉ fn) \/ b∈fq
structure FoP (K:Fg) (F H:Hp) (Y:L2.St) (U:DSt) (j:Nat) (q:Pth) (fp2 fn fm fq:List Addr) (fpr:List Addr) (old:Addr->Prop) (t1:Option T) (s:Sl) (t0:T) (x:V) (tk:T):Prop where
 es:U[j]?=some s
 et:s.tree=some t0
 ex:Y.getD j none=some x
 ek:t1=some tk
 rt:Rt K F H x (setP t0 q tk) fp2
 nd:fp2.Nodup
 m2:∀ b∈fp2,(b∈fn/\b ∉ fm) \/ b∈fq
 mo:∀ b∈fq,old b
 fk:∀ b∈fq,b ∉ fpr
theorem zgu {p:DSpM} {vs:List V} {as:List ArgP} {Qd:T->DSt->Prop} {Q:VK} {E:XK} (r:RS K B F H Y U fps) (ha:ArgsP K F H Y U vs as) (hc:zhq p U as Qd)
  (kk:∀ r U',Qd r U'->∀ v F' H' fps' fpr,Res K B F' H' Y U' fps' v r fpr->Q v H'):spM K p vs H Q E:=by
 obtain ⟨⟨w,hk⟩,nd,apt,hp⟩:=hc
 obtain ⟨hl,hat⟩:=ha.at_
 have own:∀ i,okS w U i->∃ s,U[i]?=some s/\s.own=true:=λ i h=>by
  unfold okS at h
  split at h
  ·rename_i q;exact ⟨_,q,rfl⟩
  ·rename_i q;exact ⟨_,q,rfl⟩
  ·exact h.elim
 have ex:∀ k:Nat,∃ fn:List Addr,(∀ i q t,as[k]?=some (.b i q t)->∃ v,vs[k]?=some v/\Rt K F H v t fn/\fn.Nodup/\∀ a∈fn,a∈fps i/\∃ s,U[i]?=some s/\s.has=true) /\
   ∀ i q t,as[k]?=some (.o i q t)->∃ a s t0 x,FoO K F H Y U fps vs[k]? i q t fn a s t0 x:=λ k=>by
  cases e:as[k]? with
 |none=>exact ⟨[],(λ _ _ _ z=>by cases z),λ _ _ _ z=>by cases z⟩
 |some g =>
   obtain ⟨v,ev,hg⟩:=hat k g e
   cases g with
  |d _=>exact ⟨[],(λ _ _ _ z=>by cases z),λ _ _ _ z=>by cases z⟩
  |b i q t =>
    obtain ⟨fn,g1,g2,g3⟩:=r.rtS (show AtS H Y U i q v t from hg)
    exact ⟨fn,λ _ _ _ z=>(by cases z;exact ⟨v,ev,g1,g2,g3⟩),λ _ _ _ z=>by cases z⟩
  |o i q t =>
    obtain ⟨hok,hf⟩:=zd9 hk e
    obtain ⟨s,es,os⟩:=own i hok
    obtain ⟨s',t0,x,h1,h2,h3,h4⟩:=(show AtS H Y U i q v t from hg)
    rw [es] at h1;cases h1
    obtain ⟨x',t',a1,a2,a3,a4,a5⟩:=r.rt i s es (zi2 os)
    rw [h3] at a1;cases a1
    rw [h2] at a2;cases a2
    obtain ⟨fn,hn,sub,ndn,back⟩:=zu31 h4 a3 a5
    obtain ⟨a,rfl⟩:=Rt.ref_of hn hf
    refine ⟨fn,(λ _ _ _ z=>by cases z),λ _ _ _ z=>?_⟩
    cases z
    exact ⟨a,s,t0,x,ev,es,os,h2,h3,a3,hn,ndn,sub,λ F2 H2 u2 fq c1 c2 c3 c4 c5=>back c1 c2 c3 c4 c5⟩
 obtain ⟨fl,hfl⟩:=Classical.axiomOfChoice ex
 have pre:PreM K F H vs (as.map ArgP.arg) fl:=by
  refine ⟨by rw [List.length_map];exact hl,λ k x e=>?_,λ k x e=>?_,λ k x e=>?_,λ j k x y hjk ej ek b hb=>?_⟩
  ·obtain ⟨v,e1,e2⟩:=hat k _ (zya1 e);exact ⟨v,e1,e2⟩
  ·obtain ⟨i,q,e'⟩:=zw91 e
   obtain ⟨v,g1,g2,g3,_⟩:=(hfl k).1 i q x e'
   exact ⟨v,g1,g2,g3⟩
  ·obtain ⟨i,q,e'⟩:=zgs e
   obtain ⟨a,s,t0,x',o⟩:=(hfl k).2 i q x e'
   exact ⟨a,o.ev,o.rta,o.nd⟩
  ·obtain ⟨i,q,e1⟩:=zgs ej
   obtain ⟨a,s,t0,x',o⟩:=(hfl j).2 i q x e1
   rcases ek with ek|ek
   ·obtain ⟨i',q',e2⟩:=zw91 ek
    obtain ⟨v,_,_,_,g⟩:=(hfl k).1 i' q' y e2
    intro hbk
    obtain ⟨g1,s',es',hs'⟩:=g b hbk
    have ne:i≠i':=λ z=>ztd apt e2 (z ▸ zl1.mpr ⟨j,q,x,e1⟩)
    exact r.dj i i' s s' ne o.es es' o.os hs' b (o.sub b hb) g1
   ·obtain ⟨i',q',e2⟩:=zgs ek
    obtain ⟨a',s',t0',x'',o'⟩:=(hfl k).2 i' q' y e2
    intro hbk
    have ne:i≠i':=λ z=>hjk (zsc nd e1 (z ▸ e2))
    exact r.dj i i' s s' ne o.es o'.es o.os (zi2 o'.os) b (o.sub b hb) (o'.sub b hbk)
 refine ⟨F,as.map ArgP.arg,fl,_,r.fh,pre,hp,λ r2 ts q2 v F' H' fpr fq post=>?_⟩
 have oo:∀ {k i:Nat} {q:Pth} {t:T},as[k]?=some (.o i q t)->(as.map ArgP.arg)[k]?=some (.o t):=λ e=>by rw [List.getElem?_map,e];rfl
 obtain ⟨U2,n2,l2,out,same⟩:=zxe nd (λ i hi=>by obtain ⟨k,q,t,e⟩:=zl1.mp hi;exact own i (zd9 hk e).1) q2
 have sl:∀ {k i:Nat} {q:Pth} {t:T},as[k]?=some (.o i q t)->(∃ s,U[i]?=some s/\s.own=true)/\(∀ b∈fl k,b∈fps i)/\∀ b∈fps i,H b≠none:=λ {k i q t} e=>by
  obtain ⟨a,s,t0,x,o⟩:=(hfl k).2 i q t e
  exact ⟨⟨s,o.es,o.os⟩,o.sub,λ b hb=>(o.rt0.dom b hb).1⟩
 have far:∀ {k k' i i':Nat} {q q':Pth} {t t':T},as[k]?=some (.o i q t)->as[k']?=some (.o i' q' t')->k≠k'->∀ b∈fps i,b ∉ fps i':=λ {k k' i i' q q' t t'} e e' hne b hb=>by
  obtain ⟨⟨s,es,os⟩,_,_⟩:=sl e
  obtain ⟨⟨s',es',os'⟩,_,_⟩:=sl e'
  exact r.dj i i' s s' (λ z=>hne (zsc nd e (z ▸ e'))) es es' os (zi2 os') b hb
 have ex2:∀ j:Nat,∃ fp2:List Addr,(j ∉ oIs as->fp2=fps j)/\∀ (k:Nat) q t,as[k]?=some (.o j q t)->∃ s t0 x tk,FoP K F' H' Y U j q fp2 (fps j) (fl k) (fq k) fpr (λ b=>(∃ (j':Nat) (y:T),(as.map ArgP.arg)[j']?=some (.o y)/\b∈fl j') \/ H b=none) ts[k]? s t0 x tk:=λ j=>by
  by_cases hj:j∈oIs as
  ·obtain ⟨k,q,t,e⟩:=zl1.mp hj
   obtain ⟨a,s,t0,x,fo⟩:=(hfl k).2 j q t e
   have rt0:=fo.rt0
   obtain ⟨tk,etk,rtk,ndk,mk,fk⟩:=post.io k t a (oo e) fo.ev
   have keep:∀ b∈fps j,b ∉ fl k->H' b=H b/\F' b=none:=λ b hb hnb=>by
    obtain ⟨d1,d2⟩:=rt0.dom b hb
    refine ⟨?_,post.nw b d1 d2⟩
    cases z:H b with
   |none=>exact absurd z d1
   |some o =>
     refine post.hh b o (λ k' x' e' hb'=>?_) z
     obtain ⟨i',q',e2⟩:=zgs e'
     by_cases hk':k'=k
     ·subst hk';exact hnb hb'
     ·exact far e2 e hk' b ((sl e2).2.1 b hb') hb
   have c5:∀ b∈fq k,b∈fl k \/ b ∉ fps j:=λ b hb=>by
    rcases mk b hb with ⟨j',y,e',hb'⟩|z
    ·by_cases hk':j'=k
     ·subst hk';exact .inl hb'
     ·obtain ⟨i',q',e2⟩:=zgs e'
      exact .inr (far e2 e hk' b ((sl e2).2.1 b hb'))
    ·exact .inr λ w=>(rt0.dom b w).1 z
   obtain ⟨fp2,r2',n2',m2'⟩:=fo.back F' H' tk (fq k) post.ff keep rtk ndk c5
   refine ⟨fp2,λ z=>absurd hj z,λ k' q' t' e'=>?_⟩
   have ek:=zsc nd e e'
   subst ek
   rw [e] at e';cases e'
   exact ⟨s,t0,x,tk,fo.es,fo.et,fo.ex,etk,r2',n2',m2',mk,fk⟩
  ·exact ⟨fps j,λ _=>rfl,λ k q t e=>absurd (zl1.mpr ⟨k,q,t,e⟩) hj⟩
 obtain ⟨fps2,hf2⟩:=Classical.axiomOfChoice ex2
 have r':RS K B F' H' Y U2 fps2:=by
  refine r.updM (I:=λ i=>i∈oIs as) (λ i hi=>?_) ?_ l2 (λ j s' e=>?_) (λ b o hb=>post.hh b o λ k x e hbk=>?_) post.ff post.fh post.nw post.al (λ i hi b hb=>?_) λ i k hi hk' hne b hb hb2=>?_
  ·obtain ⟨k,q,t,e⟩:=zl1.mp hi;exact (sl e).1
  ·cases w with
  |true =>
    refine .inr λ i a t hi z=>?_
    obtain ⟨k,q,t',e⟩:=zl1.mp hi
    have h0:=(zd9 hk e).1
    unfold okS at h0
    rw [z] at h0
    exact h0
  |false =>
    refine .inl λ i t hi z=>?_
    obtain ⟨k,q,t',e⟩:=zl1.mp hi
    have h0:=(zd9 hk e).1
    unfold okS at h0
    rw [z] at h0
    exact h0
  ·by_cases hj:j∈oIs as
   ·obtain ⟨k,q,t,ek⟩:=zl1.mp hj
    obtain ⟨s,t0,tk,g1,g2,g3,g4⟩:=out k j q t ek
    obtain ⟨s1,t1,x,tk1,ff⟩:=(hf2 j).2 k q t ek
    have f1:=ff.es
    have f2:=ff.et
    have f4:=ff.ek
    rw [g1] at f1;cases f1
    rw [g2] at f2;cases f2
    rw [g3] at f4;cases f4
    rw [e] at g4;cases g4
    exact .inl ⟨hj,s,_,x,g1,rfl,ff.ex,ff.rt,ff.nd⟩
   ·rw [same j hj] at e
    exact .inr ⟨hj,e,(hf2 j).1 hj⟩
  ·obtain ⟨i,q,e2⟩:=zgs e
   exact hb i (zl1.mpr ⟨k,q,x,e2⟩) ((sl e2).2.1 b hbk)
  ·obtain ⟨k,q,t,ek⟩:=zl1.mp hi
   obtain ⟨s1,t1,x,tk1,ff⟩:=(hf2 i).2 k q t ek
   rcases ff.m2 b hb with z|z
   ·exact .inl ⟨i,hi,z.1⟩
   ·rcases ff.mo b z with ⟨j',y,e',hb'⟩|z
    ·obtain ⟨i',q',e2⟩:=zgs e'
     exact .inl ⟨i',zl1.mpr ⟨j',q',y,e2⟩,(sl e2).2.1 b hb'⟩
    ·exact .inr (r.newOk z)
  ·obtain ⟨k1,q1,t1,e1⟩:=zl1.mp hi
   obtain ⟨k2,q2',t2,e2⟩:=zl1.mp hk'
   have hkk:k1≠k2:=λ z=>by subst z;rw [e1] at e2;cases e2;exact hne rfl
   obtain ⟨_,_,_,_,fa⟩:=(hf2 i).2 k1 q1 t1 e1
   obtain ⟨_,_,_,_,fb⟩:=(hf2 k).2 k2 q2' t2 e2
   have mix:∀ {m m' i i':Nat} {q q':Pth} {t t':T},as[m]?=some (.o i q t)->as[m']?=some (.o i' q' t')->m≠m'->b∈fps i->b ∉ fl m->(∀ b∈fq m',(∃ (j':Nat) (y:T),(as.map ArgP.arg)[j']?=some (.o y)/\b∈fl j') \/ H b=none)->b∈fq m'->False:=λ {m m' i i' q q' t t'} g1 g2 hm h1 h2 h3 h4=>by
    rcases h3 b h4 with ⟨j',y,e',hb'⟩|z
    ·obtain ⟨i2,q2,e3⟩:=zgs e'
     by_cases hj:j'=m
     ·subst hj;exact h2 hb'
     ·exact far e3 g1 hj b ((sl e3).2.1 b hb') h1
    ·exact (sl g1).2.2 b h1 z
   rcases fa.m2 b hb with ⟨z1,z2⟩|z <;> rcases fb.m2 b hb2 with ⟨y1,y2⟩|y
   ·exact far e1 e2 hkk b z1 y1
   ·exact mix e1 e2 hkk z1 z2 fb.mo y
   ·exact mix e2 e1 (λ z=>hkk z.symm) y1 y2 fa.mo z
   ·exact post.dj k1 k2 t1 t2 hkk (oo e1) (oo e2) b z y
 refine kk r2 U2 n2 v F' H' fps2 fpr ⟨r',post.rt,post.nd,λ b hb=>(r.newOk (post.fr b hb)).1,λ j s' ej hs' b hb hbr=>?_⟩
 have fresh:=post.fr b hbr
 by_cases hj:j∈oIs as
 ·obtain ⟨k,q,t,ek⟩:=zl1.mp hj
  obtain ⟨_,_,_,_,ff⟩:=(hf2 j).2 k q t ek
  rcases ff.m2 b hb with z|z
  ·exact (sl ek).2.2 b z.1 fresh
  ·exact ff.fk b z hbr
 ·rw [(hf2 j).1 hj] at hb
  rw [same j hj] at ej
  exact (r.newOk fresh).2 j s' ej hs' hb
variable {tA:TA} {dA:DAT}
def zyz (p:DSpM) (da:DAT):DC:=λ U Q=>da U λ as=>zhq p U as Q
theorem zmh {p:DSpM} {E:XK} (h:RfAT K tA dA):RfC K (zcs (spM K p) [] E tA) (zyz p dA):=by
 intro B F H Y U fps Qd Q r hd k
 refine h r.fh r.rv hd λ as has vs F1 H1 e1 i1=>?_
 rw [List.append_nil]
 exact zgu (r.grow e1) i1 has k
theorem zwv (p:DSpM) (da:DAT) (U:DSt) (Q:T->DSt->Prop):zyz p da U Q=(da U λ as=>zhq p U as Q):=rfl
theorem zjv (p:DSpM) (U:DSt) (as:List ArgP) (Q:T->DSt->Prop):zhq p U as Q=((∃ w,allK w U as)/\(oIs as).Nodup/\zwi (oIs as) as/\p (as.map ArgP.arg) λ r ts=>mutM U as ts λ U'=>Q r U'):=rfl
end
end L4
namespace L5
open PySem PySem.Spec PyProof.Rows L2 L3 L4
section
variable {K:Fg} {te ta:TE} {df:DF} {da:DE} {tt tu:TT} {dt:DT} {du dv:DU}
def zw11 (df:DF) (da:DE):DE:=λ U Q=>df U λ ds=>da U λ y=>∃ (ns:List Int) (z:Int) (j:Nat),ds=ns.map .int/\y=.int z/\ns[j]?=some z/\(∀ m,m < j->ns[m]?≠some z)/\Q (.int (j:Int))
theorem zew (df:DF) (da:DE) (U:DSt) (Q:D->Prop):zw11 df da U Q=(df U λ ds=>da U λ y=>∃ (ns:List Int) (z:Int) (j:Nat),ds=ns.map .int/\y=.int z/\ns[j]?=some z/\(∀ m,m < j->ns[m]?≠some z)/\Q (.int (j:Int))):=rfl
theorem zbn (h:RfF K te df) (ha:RfE K ta da):RfE K (tBMU K "list" zvx te (zk2 ta tNil)) (zw11 df da):=by
 intro F H Y U Qd Q s rv hd k
 refine h s rv hd λ ds hds a xs F1 H1 e1 hn h1 h2 h3=>⟨.inl ⟨rfl,xs,SqL.of h1⟩,?_⟩
 refine ha e1.fh (rv.ext e1) hds λ y hy v F2 H2 e2 i2=>?_
 obtain ⟨ns,z,j,rfl,rfl,hj,hno,q⟩:=hy
 have:=zsh h3 (zxn ns)
 subst this
 cases i2.int_inv
 refine ⟨a,ns.map V.int,.int z,rfl,rfl,e2.h _ _ h1,rfl,by rw [List.all_map];simp [zct],j,⟨.int z,by rw [List.getElem?_map,hj];rfl,by simp [eqV]⟩,λ m w hm hw=>?_,k _ q _ F2 H2 (e1.trans e2) (.int _)⟩
 rw [List.getElem?_map] at hw
 obtain ⟨x,hx,rfl⟩:=Option.map_eq_some_iff.mp hw
 have:x≠z:=λ e=>hno m hm (by rw [hx,e])
 simp [eqV,this]
def uT (dt:DT):DU:=λ U Q=>dt U λ b=>Q b U
theorem e_uT (dt:DT) (U:DSt) (Q:Bool->DSt->Prop):uT dt U Q=dt U λ b=>Q b U:=rfl
theorem ru_t (h:RfT K tt dt):RfU K tt (uT dt):=by
 intro B F H Y U fps Qd Q r hd k
 exact h r.fh r.rv hd λ b hb F1 H1 e1=>k b U hb F1 H1 fps (r.grow e1)
def uOr (du dv:DU):DU:=λ U Q=>du U λ b U'=>if b=true then Q true U' else dv U' Q
theorem ztc1 (du dv:DU) (U:DSt) (Q:Bool->DSt->Prop):uOr du dv U Q=du U λ b U'=>if b=true then Q true U' else dv U' Q:=rfl
theorem zza1 (h1:RfU K tt du) (h2:RfU K tu dv):RfU K (tOr tt tu) (uOr du dv):=by
 intro B F H Y U fps Qd Q r h k
 refine h1 r h λ b U' hb F1 H1 fps1 r1=>?_
 cases b with
|true=>rw [if_pos rfl] at hb ⊢;exact k true U' hb F1 H1 fps1 r1
|false=>rw [if_neg Bool.false_ne_true] at hb ⊢;exact h2 r1 hb k
end
section
variable {prog:Program} {w:World} {A:Around} {E:Value->Shared->Prop}
end
section
variable {X:Cx} {pins:List (Addr×Obj)} {Y:L2.St} {A:Around} {E:Value->Shared->Prop}
end
section
variable {K:Fg} {te:TE} {de:DE}
end
section
variable {K:Fg}
end
theorem zx81 {α β:Type} {xs:List α} {enc:α->D} (ok:β->Prop) (en:β->D) {n:Nat} {ix:List Nat} {dg:DG} {de:DE} {U:DSt} {Q:List D->Prop} (hz:xs.length<=sizeLine)
  (h:∀ x∈xs,dg (enc x) (cST n ix U) λ U'=>de U' λ r=>∃ b,ok b/\r=en b) (q:∀ bs:List β,bs.length=xs.length->(∀ b∈bs,ok b)->Q (bs.map en)):zx31 (xs.map enc) n ix dg zc41 de U Q:=by
 refine ⟨by rw [List.length_map];exact hz,λ _ o=>∃ b,ok b/\o=some (en b),λ i d e=>?_,λ os hl hR=>?_⟩
 ·rw [List.getElem?_map] at e
  obtain ⟨x,hx,rfl⟩:=Option.map_eq_some_iff.mp e
  have:=h x (List.mem_of_getElem? hx)
  have e1:(λ r=>∃ b,ok b/\some r=some (en b))=λ r=>∃ b,ok b/\r=en b:=by funext r;simp
  show dg (enc x) (cST n ix U) λ U'=>if true=true then de U' λ r=>∃ b,ok b/\some r=some (en b) else ∃ b,ok b/\none=some (en b)
  rw [e1]
  simp only [if_true]
  exact this
 ·have key:∀ os:List (Option D),(∀ o∈os,∃ b,ok b/\o=some (en b))->∃ bs:List β,bs.length=os.length/\(∀ b∈bs,ok b)/\os.filterMap id=bs.map en:=by
   intro os
   induction os with
  |nil=>intro _;exact ⟨[],rfl,(λ b hb=>by simp at hb),rfl⟩
  |cons o r ih =>
    intro k
    obtain ⟨b,h1,rfl⟩:=k o (by simp)
    obtain ⟨bs,k1,k2,k3⟩:=ih λ o ho=>k o (by simp [ho])
    refine ⟨b :: bs,by simp [k1],λ c hc=>?_,by simp [k3]⟩
    rcases List.mem_cons.mp hc with z|z
    ·rw [z];exact h1
    ·exact k2 c z
  obtain ⟨bs,b1,b2,b3⟩:=key os λ o ho=>by
   obtain ⟨j,hj⟩:=List.mem_iff_getElem?.mp ho
   exact hR j o hj
  rw [b3]
  exact q bs (by rw [b1,hl,List.length_map]) b2
end L5
open PySem PySem.Spec PyProof.Rows L2 L3 L4 L5
local macro_rules|`(tactic| walk_at "sc")=>`(tactic| exact ⟨rfl,rfl,rfl,by decide +kernel,rfl,by decide +kernel,by decide +kernel⟩)
local macro_rules|`(tactic| walk_at "csc")=>`(tactic| exact ⟨rfl,by decide +kernel,by decide +kernel,by decide +kernel,by decide +kernel⟩)
local macro_rules|`(tactic| walk_at "ds")=>do `(tactic| simp only [$(<- ("zhd zz9 zlx znc zx9 zoy exM List.map_cons List.map_nil List.length_cons List.length_nil Nat.reduceAdd Nat.reduceSub List.replicate List.cons_append List.nil_append".splitOn " ").toArray.mapM λ s=>`(Lean.Parser.Tactic.simpLemma| $(Lean.mkIdent s.toName):ident)),*])
local macro_rules|`(tactic| walk_at "cs")=>do `(tactic| simp only [$(<- ("cST List.map_cons List.map_nil List.replicate List.cons_append List.nil_append List.getD_cons_zero List.getD_cons_succ".splitOn " ").toArray.mapM λ s=>`(Lean.Parser.Tactic.simpLemma| $(Lean.mkIdent s.toName):ident)),*])
local macro_rules|`(tactic| walk_at "dd")=>do `(tactic| simp only [$(<- ("zew e_uT ztc1 zwv zjv allK okS oIs zwi mutM exM e_dF zm21 zcq zbq zhd1 e_dG e_dC zmb1 ze81 zo51 zn01 zu21 ziy zr71 zdd1 zi81 zg51 zfv zp41 zxz zj81 zu71 zqx zev zjc1 zxa1 zxb1 zbr zb11 zuc1 zy41 zhc1 zw21 zly zgz e_gN zr11 zlu e_gT zn31 zu51 zkb1 zib1 zbc1 e_cE e_cF zl31 za61 zj51 zp31 zd71 zc31 zu11 zpc1 zzb1 zq71 zux zqc1 e_cN zj71 zfq za51 e_aD e_aB e_aO zj01 znz zmy zry e_eN zy01 zhw zlp zd01 zer zxq zhy zvw zl61 zm71 e_uC zh81 zsw zzw zxt zl01 zp21 zaw zmv zrc1 znc1 zcd1 zmr zrp zl41 zo81 zg11 ze61 zf61 zc81 zv51 zty zg31 zo71 zc51 zs81 zb71 zlc1 zdb1 zgd1 zyy zwx zd51 zwz zsb1 zr21 fAdd fCat fI fI0 fMul fRep fEq fNe fIx zeu fB fTru fLen zw81 zl71 fInt fSl fSlF zqy zn71 zh61 zt81 zj61 zi71 zv61 zvy zw51 zx61 zfc1 za71 fzT vwT slT slot Sl.wth mApp fPut fGet fII keyD nFld nCls noM nSet nFII nIx noO noS zds oneO zfp ArgP.arg toD zuy zs61 exA oIx List.getElem?_cons_zero List.getElem?_cons_succ List.set_cons_zero List.set_cons_succ List.length_cons List.length_nil List.map_cons List.map_nil List.nil_append List.cons_append List.lookup putA setP getP beq_self_eq_true Nat.reduceAdd Nat.reduceSub Nat.reduceMul Int.reduceAdd Int.reduceSub Int.reduceMul Int.reduceNeg Int.reduceLT Int.reduceLE Int.reducePow Int.reduceToNat Nat.reducePow Nat.reduceLT Nat.reduceLeDiff Nat.reduceEqDiff Int.reduceEq Int.reduceMod Int.reduceDiv Int.reduceBEq Int.reduceBNe Int.reduceGT Int.reduceGE za41 CPow sizeLine_eq decide_eq_true_eq decide_true decide_false Bool.not_true Bool.not_false Bool.not_eq_true' Bool.not_eq_eq_eq_not Bool.not_not decide_eq_false_iff_not decide_not true_and and_true if_true if_false Bool.false_eq_true reduceCtorEq ite_true ite_false not_false_eq_true not_true_eq_false ne_eq Option.some.injEq exists_eq_left' exists_eq_left Option.map_some Option.map_none Option.bind_some zc8 zi8 zva zxf zzg za8 zyi zsg zaa zm8 zs8 zv9 zdf zag zwh zff zv6 zc7 zs6 zx5 zx4 zo5 zte zr6 za7 zv5 zr4 zt5 zdd zz6 zq6 zc6 zn4 zw5 zne zh7 zkd zy5 zk4 zn5 zdc zu5 zob zeb zb4 zl4 zpa zq4 zka zya zy3 zs3 zib zk5 zqb zhc zm4 zx3 zih zaj zrh zti zjf zre zyg zid zfd zse zmd zyb zfa zpb zr7 zq7 zl7 zp7 zf7 zd6 zy6 zp9 zl9 zqa zoa zq8 zt7 zn8 zef zeh zfh zng zoe zcc zde zoh zxh zbi zci zhf znd ztf zce zie zje zqe zgb zxa zfb zaf zle zze zkb zra zsb zpd zbd zzb zua znb zue zsd zxb zq9 zgc zwd ztb zg9 zhb zjb zl8 zo9 zab zp8 zk8 zfc zj9 zu8".splitOn " ").toArray.mapM λ s=>`(Lean.Parser.Tactic.simpLemma| $(Lean.mkIdent s.toName):ident)),*])
local macro_rules|`(tactic| walk_at "dn")=>`(tactic| (refine ze0 λ J hJ=>?_;walk_at "dd";refine hJ _ ?_;clear hJ))
local macro_rules|`(tactic| walk_at "dns")=>`(tactic| repeat walk_at "dn")
namespace K15
open PySem PySem.Spec PyProof.Rows L2 L3 L4 L5
def top (i:Nat):Stmt:=PySem.Challenge.pw_vatyard_k15_too_full.main.body.getD i (.Pass ⟨0,0,0,0⟩)
abbrev zf2:Stmt:=zw2 (top 13) 0
abbrev zd2:Stmt:=zw2 (top 13) 1
abbrev za3:Stmt:=zw2 (top 14) 0
abbrev zy2:Stmt:=zw2 (top 14) 1
abbrev zm2:Stmt:=zw2 (top 15) 0
abbrev zp2:Stmt:=zw2 (top 15) 1
abbrev zae:Stmt:=top 16
abbrev za1:Stmt:=zw2 (top 18) 0
abbrev zsa:Stmt:=zw2 (top 18) 1
abbrev ze6:Stmt:=zw2 (top 18) 2
abbrev zo1:Stmt:=zw2 (top 18) 3
abbrev zk3:Stmt:=zw2 (top 18) 4
abbrev zb5:Stmt:=zw2 (top 18) 5
abbrev ze9:Stmt:=zw2 (top 18) 6
abbrev zo3:Stmt:=zw2 (top 18) 7
abbrev zu2:Stmt:=top 19
abbrev zm7:Stmt:=top 21
abbrev zv7:Stmt:=top 22
abbrev zj6:Stmt:=top 23
abbrev zw4:Stmt:=top 24
abbrev zr3:Stmt:=top 25
abbrev ze5:Stmt:=top 26
abbrev zo6:Stmt:=top 27
abbrev zc5:Stmt:=top 28
abbrev zq3:Stmt:=top 29
abbrev zn6:Stmt:=top 30
abbrev zf4:Stmt:=top 31
abbrev zs1:Stmt:=top 32
abbrev zms:Stmt:=top 33
inductive Gt where
|st (x:Int)|la (x:Int) (f:Nat)|ti (x y:Int) (t:Nat)
def Gt.d:Gt->D
|.st x=>.tuple [.str "steady",.int x]
|.la x f=>.tuple [.str "late",.int x,.int (f:Int)]
|.ti x y t=>.tuple [.str "tidal",.int x,.int y,.int (t:Int)]
def Gt.at:Gt->Nat->Int
|.st x,_=>x
|.la x f,m=>if f<=m then x else 0
|.ti x y t,m=>if m % t=0 then x else y
def Gt.ob (C1 C2 C3:Addr):Gt->L4.T
|.st x=>.ob C1 [("wide",.fz (.int x))]
|.la x f=>.ob C2 [("wide",.fz (.int x)),("since",.fz (.int (f:Int)))]
|.ti x y t=>.ob C3 [("wide",.fz (.int x)),("other",.fz (.int y)),("turn",.fz (.int (t:Int)))]
def Gt.ok:Gt->Prop
|.ti _ _ t=>0 < t/\t < 1000
|_=>True
section
variable {P:Program} {w:World} {K:Fg} {mg:Str->Option Value} {base:Heap} {jB jD jC:Addr}
def zt3 (C:Addr):DSpT:=λ as Q=>∃ x:Int,as=[.o (.ob C []),.d (.int x)]/\Q (.fz .none) (.ob C [("wide",.fz (.int x))])
def zs5 (C:Addr):DSpT:=λ as Q=>∃ x y:Int,as=[.o (.ob C []),.d (.int x),.d (.int y)]/\Q (.fz .none) (.ob C [("wide",.fz (.int x)),("since",.fz (.int y))])
def zv4 (C:Addr):DSpT:=λ as Q=>∃ x y z:Int,as=[.o (.ob C []),.d (.int x),.d (.int y),.d (.int z)]/\Q (.fz .none) (.ob C [("wide",.fz (.int x)),("other",.fz (.int y)),("turn",.fz (.int z))])
def zg2 (C:Addr):DSpT:=λ as Q=>∃ (x:Int) (m:Nat),as=[.b (.ob C [("wide",.fz (.int x))]),.d (.int (m:Int))]/\Q (.fz (.int (Gt.at (.st x) m))) (.fz .none)
def zz2 (C:Addr):DSpT:=λ as Q=>∃ (x:Int) (f m:Nat),as=[.b (.ob C [("wide",.fz (.int x)),("since",.fz (.int (f:Int)))]),.d (.int (m:Int))]/\Q (.fz (.int (Gt.at (.la x f) m))) (.fz .none)
def zo2 (C:Addr):DSpT:=λ as Q=>∃ (x y:Int) (t m:Nat),as=[.b (.ob C [("wide",.fz (.int x)),("other",.fz (.int y)),("turn",.fz (.int (t:Int)))]),.d (.int (m:Int))]/\0 < t/\t < 1000/\Q (.fz (.int (Gt.at (.ti x y t) m))) (.fz .none)
def zsj (C1 C2 C3:Addr):DSpT:=λ as Q=>∃ g:Gt,as=[.d g.d]/\Q (g.ob C1 C2 C3) (.fz .none)
theorem zc3:FnScope ["self", "wide"] ["self", "wide"] (zf0 zf2):=by walk_at "sc"
theorem zs7 (M:Md K mg) (cT:TopCls K "Steady" jB) (T:TopMeth K jB "__init__" "Steady.__init__" zf2) (jT:NoAttr K jB "wide"):zzo P w K mg base "Steady" jB 1 ["self", "wide"] (spT K (zt3 jB)):=by
 have kL:=cT.cls
 refine zxj M cT T zc3 (λ _ _ _ _ _ _ us hl=>by obtain ⟨_,_,rfl⟩:=ar2 hl;rfl) (zfe λ as Qd h=>by obtain ⟨_,rfl,_⟩:=h;rfl) (zm3 ?_)
 intro f cdv A outer s H E hr
 have nd:=zc3.nd
 refine ⟨_,_,(zk0 (zg6 (pv 0) (pv 1) rfl)),(zk6 kL jT (RfE.c (zm0 1)) (zl0 0)),?_⟩
 rintro as Qd a ⟨x,rfl,q⟩
 walk_at "ds"
 walk_at "dd"
 exact ⟨_,rfl,q⟩
theorem zu4:FnScope ["self", "wide", "since"] ["self", "wide", "since"] (zf0 za3):=by walk_at "sc"
theorem zza (M:Md K mg) (cT:TopCls K "Late" jD) (T:TopMeth K jD "__init__" "Late.__init__" za3) (kH:NoAttr K jD "wide") (jY:NoAttr K jD "since"):zzo P w K mg base "Late" jD 1 ["self", "wide", "since"] (spT K (zs5 jD)):=by
 have qC:=cT.cls
 refine zxj M cT T zu4 (λ _ _ _ _ _ _ us hl=>by obtain ⟨_,_,_,rfl⟩:=ar3 hl;rfl) (zfe λ as Qd h=>by obtain ⟨_,_,rfl,_⟩:=h;rfl) (zm3 ?_)
 intro f cdv A outer s H E hr
 have nd:=zu4.nd
 refine ⟨_,_,(zd0 (zg6 (pv 0) (pv 1) rfl)
   (zk0 (zg6 (pv 0) (pv 2) rfl))),(zn0 (zk6 qC kH (RfE.c (zm0 1)) (zl0 0))
   (zk6 qC jY (RfE.c (zm0 2)) (zl0 0))),?_⟩
 rintro as Qd a ⟨x,y,rfl,q⟩
 walk_at "ds"
 walk_at "dn"
 walk_at "dd"
 exact ⟨_,rfl,q⟩
theorem zv3:FnScope ["self", "wide", "other", "turn"] ["self", "wide", "other", "turn"] (zf0 zm2):=by walk_at "sc"
theorem zt8 (M:Md K mg) (cT:TopCls K "Tidal" jC) (T:TopMeth K jC "__init__" "Tidal.__init__" zm2) (jZ:NoAttr K jC "wide") (jU:NoAttr K jC "other") (kA:NoAttr K jC "turn"):zzo P w K mg base "Tidal" jC 1 ["self", "wide", "other", "turn"] (spT K (zv4 jC)):=by
 have kI:=cT.cls
 refine zxj M cT T zv3 (λ _ _ _ _ _ _ us hl=>by obtain ⟨_,_,_,_,rfl⟩:=ar4 hl;rfl) (zfe λ as Qd h=>by obtain ⟨_,_,_,rfl,_⟩:=h;rfl) (zm3 ?_)
 intro f cdv A outer s H E hr
 have nd:=zv3.nd
 refine ⟨_,_,(zd0 (zg6 (pv 0) (pv 1) rfl)
   (zd0 (zg6 (pv 0) (pv 2) rfl)
   (zk0 (zg6 (pv 0) (pv 3) rfl)))),(zn0 (zk6 kI jZ (RfE.c (zm0 1)) (zl0 0))
   (zn0 (zk6 kI jU (RfE.c (zm0 2)) (zl0 0))
   (zk6 kI kA (RfE.c (zm0 3)) (zl0 0)))),?_⟩
 rintro as Qd a ⟨x,y,z,rfl,q⟩
 walk_at "ds"
 walk_at "dn"
 walk_at "dn"
 walk_at "dd"
 exact ⟨_,rfl,q⟩
theorem zg3:FnScope ["self", "moment"] ["self", "moment"] (zf0 zd2):=by walk_at "sc"
theorem zo7 (kL:Cls K jB) (T:TopMeth K jB "width_at" "Steady.width_at" zd2) (jT:NoAttr K jB "wide"):zh5 P w K mg base jB "width_at" 1 ["self", "moment"] (spT K (zg2 jB)):=by
 refine zq5 kL T zg3 (λ _ _ _ _ _ _ us hl=>by obtain ⟨_,_,rfl⟩:=ar2 hl;rfl) (zfe λ as Qd h=>by obtain ⟨_,_,rfl,_⟩:=h;rfl) (zm3 ?_)
 intro f cdv A outer s H E hr
 have nd:=zg3.nd
 refine ⟨_,_,(zk0 (zz0 (zt0 (K:=K) rfl (pv 0) rfl))),(zc1 (RfE.c (RfP.e (zb1 kL jT (zl0 0))))),?_⟩
 rintro as Qd a ⟨x,m,rfl,q⟩
 walk_at "ds"
 walk_at "dd"
 exact q
theorem zd4:FnScope ["self", "moment"] ["self", "moment"] (zf0 zy2):=by walk_at "sc"
theorem zba (qC:Cls K jD) (T:TopMeth K jD "width_at" "Late.width_at" zy2) (kH:NoAttr K jD "wide") (jY:NoAttr K jD "since"):zh5 P w K mg base jD "width_at" 1 ["self", "moment"] (spT K (zz2 jD)):=by
 refine zq5 qC T zd4 (λ _ _ _ _ _ _ us hl=>by obtain ⟨_,_,rfl⟩:=ar2 hl;rfl) (zfe λ as Qd h=>by obtain ⟨_,_,_,rfl,_⟩:=h;rfl) (zm3 ?_)
 intro f cdv A outer s H E hr
 have nd:=zd4.nd
 refine ⟨_,_,(zk0 (zz0 (zim (zc2 zab1 (pv 1) (zt0 (K:=K) rfl (pv 0) rfl) (zr2 _)) (zt0 (K:=K) rfl (pv 0) rfl) zg0))),(zc1 (RfE.c (zny (zv1 (zo0 r_ge (zb0 1) (RfP.v (zb1 qC jY (zl0 0))))) (RfP.e (zb1 qC kH (zl0 0))) zi1))),?_⟩
 rintro as Qd a ⟨x,f,m,rfl,q⟩
 walk_at "ds"
 walk_at "dd"
 have q:Qd (.fz (.int (if f<=m then x else 0))) (.fz .none):=q
 refine two (λ h=>?_) λ h=>?_
 ·rw [if_pos (by lia)] at q;exact q
 ·rw [if_neg (by lia)] at q;exact q
theorem zz3:FnScope ["self", "moment"] ["self", "moment"] (zf0 zp2):=by walk_at "sc"
theorem zr8 (kI:Cls K jC) (T:TopMeth K jC "width_at" "Tidal.width_at" zp2) (jZ:NoAttr K jC "wide") (jU:NoAttr K jC "other") (kA:NoAttr K jC "turn"):zh5 P w K mg base jC "width_at" 1 ["self", "moment"] (spT K (zo2 jC)):=by
 refine zq5 kI T zz3 (λ _ _ _ _ _ _ us hl=>by obtain ⟨_,_,rfl⟩:=ar2 hl;rfl) (zfe λ as Qd h=>by obtain ⟨_,_,_,_,rfl,_⟩:=h;rfl) (zm3 ?_)
 intro f cdv A outer s H E hr
 have nd:=zz3.nd
 refine ⟨_,_,(zk0 (zz0 (zim (zc2 (zig (K:=K) rfl (Room.units hr)) (zw0 zc4 (pv 1) (zt0 (K:=K) rfl (pv 0) rfl)) zg0 (zr2 _)) (zt0 (K:=K) rfl (pv 0) rfl) (zt0 (K:=K) rfl (pv 0) rfl)))),(zc1 (RfE.c (zny (zv1 (zlb q_eq (RfV.h (RfE.v (zo0 zcf (zb0 1) (RfP.v (zb1 kI kA (zl0 0)))))) (RfV.h rvi))) (RfP.e (zb1 kI jZ (zl0 0))) (RfP.e (zb1 kI jU (zl0 0)))))),?_⟩
 rintro as Qd a ⟨x,y,t,m,rfl,h0,h1,q⟩
 walk_at "ds"
 walk_at "dd"
 have q:Qd (.fz (.int (if m % t=0 then x else y))) (.fz .none):=q
 have e:((m:Int) % (t:Int)=0) ↔ m % t=0:=by rw [<- Int.natCast_emod];lia
 refine ⟨by lia,two (λ h=>?_) λ h=>?_⟩
 ·rw [if_pos (e.mp h)] at q;exact q
 ·rw [if_neg (λ z=>h (e.mpr z))] at q;exact q
theorem zmf:FnScope ["gate"] ["gate"] (zf0 zae):=by walk_at "sc"
theorem zuo (M:Md K mg) (T:TopDef K "gate_of" zae) (vH:zzo P w K mg base "Tidal" jC 1 ["self", "wide", "other", "turn"] (spT K (zv4 jC))) (vF:zzo P w K mg base "Steady" jB 1 ["self", "wide"] (spT K (zt3 jB))) (vJ:zzo P w K mg base "Late" jD 1 ["self", "wide", "since"] (spT K (zs5 jD))):Def P w K mg base "gate_of" 3 ["gate"] (spT K (zsj jB jD jC)):=by
 refine zb7 M T zmf (λ _ _ _ _ _ _ us hl=>by obtain ⟨_,rfl⟩:=ar1 hl;rfl) (zfe λ as Qd h=>by obtain ⟨_,rfl,_⟩:=h;rfl) (zm3 ?_)
 intro f cdv A outer s H E hr
 have nd:=zmf.nd
 refine ⟨_,_,(zd0 (zdb (zc2 (zig (K:=K) rfl (Room.units hr)) (pix w K hr (pv 0) zg0) ziq (zr2 _)) (zk0 (zz0 (zee vF (rmn hr) rfl (za0 (pix w K hr (pv 0) zg0) zh0)))) zg1)
   (zd0 (zdb (zc2 (zig (K:=K) rfl (Room.units hr)) (pix w K hr (pv 0) zg0) ziq (zr2 _)) (zk0 (zz0 (zee vJ (rmn hr) rfl (za0 (pix w K hr (pv 0) zg0) (za0 (pix w K hr (pv 0) zg0) zh0))))) zg1)
   (zk0 (zz0 (zee vH (rmn hr) rfl (za0 (pix w K hr (pv 0) zg0) (za0 (pix w K hr (pv 0) zg0) (za0 (pix w K hr (pv 0) zg0) zh0)))))))),(zn0 (zfl (zv1 (zlb q_eq (RfV.h (RfE.v (zo0 r_ix (zb0 0) rvi))) (RfV.h (RfE.v zvp)))) (zc1 (RfN.c (zyj (at_d (zo0 r_ix (zb0 0) rvi) zx1)))) zh1)
   (zn0 (zfl (zv1 (zlb q_eq (RfV.h (RfE.v (zo0 r_ix (zb0 0) rvi))) (RfV.h (RfE.v zvp)))) (zc1 (RfN.c (zyj (at_d (zo0 r_ix (zb0 0) rvi) (at_d (zo0 r_ix (zb0 0) rvi) zx1))))) zh1)
   (zc1 (RfN.c (zyj (at_d (zo0 r_ix (zb0 0) rvi) (at_d (zo0 r_ix (zb0 0) rvi) (at_d (zo0 r_ix (zb0 0) rvi) zx1)))))))),?_⟩
 rintro as Qd a ⟨g,rfl,q⟩
 cases g with
|st x =>
  unfold Gt.d
  walk_at "ds"
  refine ze0 λ J hJ=>?_
  walk_at "dd"
  refine ⟨_,rfl,?_⟩
  walk_at "dd"
  exact ⟨_,rfl,x,rfl,trivial,q⟩
|la x f =>
  unfold Gt.d
  walk_at "ds"
  refine ze0 λ J hJ=>?_
  walk_at "dd"
  refine ⟨_,rfl,?_⟩
  walk_at "dd"
  rw [if_neg (by decide +kernel)]
  refine hJ _ ?_
  clear hJ
  refine ze0 λ J hJ=>?_
  walk_at "dd"
  refine ⟨_,rfl,?_⟩
  walk_at "dd"
  exact ⟨_,rfl,_,rfl,x,f,rfl,trivial,q⟩
|ti x y t =>
  unfold Gt.d
  walk_at "ds"
  refine ze0 λ J hJ=>?_
  walk_at "dd"
  refine ⟨_,rfl,?_⟩
  walk_at "dd"
  rw [if_neg (by decide +kernel)]
  refine hJ _ ?_
  clear hJ
  refine ze0 λ J hJ=>?_
  walk_at "dd"
  refine ⟨_,rfl,?_⟩
  walk_at "dd"
  rw [if_neg (by decide +kernel)]
  refine hJ _ ?_
  clear hJ
  walk_at "dd"
  exact ⟨_,rfl,_,rfl,_,rfl,x,y,t,rfl,trivial,q⟩
end
structure Pi where
 u:Nat
 v:Nat
 len:Nat
 pr:Int
 g:Gt
def Pi.d (p:Pi):D:=.tuple [.int (p.u:Int),.int (p.v:Int),.int (p.len:Int),.int p.pr,p.g.d]
theorem zh6 {n k:Nat} (h:k < n):ixN n ((k:Nat):Int)=some k:=by
 unfold ixN
 rw [if_pos (by lia),if_pos (by lia)];simp
structure Va where
 nm:Str
 room:Int
 fill:Int
def Va.d (v:Va):D:=.tuple [.str v.nm,.int v.room,.int v.fill]
def pS (C C1 C2 C3:Addr) (rooms lying:List Int) (ps:List Pi) (m:Nat) (en:List Int) (kvs:List (List Key×D)):L4.T :=
 .ob C [("rooms",.li (rooms.map .int)),("lying",.li (lying.map .int)),("pipes",.fz (.list (ps.map Pi.d))),("gates",.ls (ps.map λ p=>p.g.ob C1 C2 C3)),("moment",.fz (.int (m:Int))),("entered",.li (en.map .int)),("coming",.dt kvs)]
section
variable {P:Program} {w:World} {K:Fg} {mg:Str->Option Value} {base:Heap} {jB jD jC jA:Addr}
def zm5 (C C1 C2 C3:Addr):DSpT:=λ as Q=>∃ (vs:List Va) (ps:List Pi),as=[.o (.ob C []),.d (.tuple [.list (vs.map Va.d),.list (ps.map Pi.d)])]/\vs.length<=12/\ps.length<=24 /\
 Q (.fz .none) (pS C C1 C2 C3 (vs.map Va.room) (vs.map Va.fill) ps 0 (List.replicate ps.length 0) [])
def zg7 (C C1 C2 C3:Addr):DSpT:=λ as Q=>∃ (rooms lying:List Int) (ps:List Pi) (m:Nat) (en:List Int) (kvs:List (List Key×D)) (k:Nat) (p:Pi) (e:Int),as=[.b (pS C C1 C2 C3 rooms lying ps m en kvs),.d (.int (k:Int))]/\ps[k]?=some p/\en[k]?=some e/\p.g.ok/\ps.length<=24/\Q (.fz (.int (p.g.at m - e))) (.fz .none)
def zgh (C C1 C2 C3:Addr):DSpT:=λ as Q=>∃ (rooms lying:List Int) (ps:List Pi) (m:Nat) (en:List Int) (kvs:List (List Key×D)) (k:Nat) (am:Int) (p:Pi) (e y c0:Int),as=[.o (pS C C1 C2 C3 rooms lying ps m en kvs),.d (.int (k:Int)),.d (.int am)]/\ps[k]?=some p/\en[k]?=some e/\lying[p.u]?=some y/\p.g.ok/\ps.length<=24/\kvs.length < 16777216 /\
 1<=am/\am<=p.g.at m - e/\am<=y/\(getA kvs [.inl ((m:Int)+(p.len:Int)),.inl (k:Int)]).getD (.int 0)=.int c0 /\
 Q (.fz (.int (y - am))) (pS C C1 C2 C3 rooms (lying.set p.u (y - am)) ps m (en.set k (e+am)) (putD kvs [.inl ((m:Int)+(p.len:Int)),.inl (k:Int)] (.int (c0+am))))
def zi9 (C C1 C2 C3:Addr):DSpT:=λ as Q=>∃ (rooms lying:List Int) (ps:List Pi) (m:Nat) (en:List Int) (kvs:List (List Key×D)),as=[.b (pS C C1 C2 C3 rooms lying ps m en kvs)]/\Q (.fz (.list (lying.map .int))) (.fz .none)
def over (rooms lying:List Int):List Nat:=(rooms.mapIdx λ i r=>(i,r)).filterMap λ x=>if x.2 < lying.getD x.1 0 then some x.1 else none
def zh3 (C C1 C2 C3:Addr):DSpT:=λ as Q=>∃ (rooms lying:List Int) (ps:List Pi) (m:Nat) (en:List Int) (kvs:List (List Key×D)),as=[.b (pS C C1 C2 C3 rooms lying ps m en kvs)]/\rooms.length=lying.length/\rooms.length<=12/\Q (.fz (.list ((over rooms lying).map λ k:Nat=>PyData.int (k:Int)))) (.fz .none)
theorem zd8:FnScope ["self"] ["self"] (zf0 ze6):=by walk_at "sc"
theorem zzf (jE:Cls K jA) (T:TopMeth K jA "holds" "Play.holds" ze6) (kJ:mg "list"=none) (jH:NoAttr K jA "lying"):zh5 P w K mg base jA "holds" 1 ["self"] (spT K (zi9 jA jB jD jC)):=by
 refine zq5 jE T zd8 (λ _ _ _ _ _ _ us hl=>by obtain ⟨_,rfl⟩:=ar1 hl;rfl) (zfe λ as Qd h=>by obtain ⟨_,_,_,_,_,_,rfl,_⟩:=h;rfl) (zm3 ?_)
 intro f cdv A outer s H E hr
 have nd:=zd8.nd
 refine ⟨_,_,(zk0 (zz0 (zn3 (zi3 (K:=K) rfl) rfl kJ zja (za0 (zt0 (K:=K) rfl (pv 0) rfl) zh0)))),(zc1 (RfE.c (RfF.e (zyr zcl (zy0 (RfP.v (zb1 jE jH (zl0 0))) zn2))))),?_⟩
 rintro as Qd a ⟨rooms,lying,ps,m,en,kvs,rfl,q⟩
 unfold pS
 walk_at "ds"
 walk_at "dd"
 exact q
theorem zna:FnScope ["self"] ["self"] (zf0 zb5):=by walk_at "sc"
theorem zui (jE:Cls K jA) (T:TopMeth K jA "full" "Play.full" zb5) (jP:mg "enumerate"=none) (kB:NoAttr K jA "rooms") (jH:NoAttr K jA "lying"):zh5 P w K mg base jA "full" 1 ["self"] (spT K (zh3 jA jB jD jC)):=by
 refine zq5 jE T zna (λ _ _ _ _ _ _ us hl=>by obtain ⟨_,rfl⟩:=ar1 hl;rfl) (zfe λ as Qd h=>by obtain ⟨_,_,_,_,_,_,rfl,_⟩:=h;rfl) (zm3 ?_)
 intro f cdv A outer s H E hr
 have nd:=zna.nd
 refine ⟨_,_,(zk0 (zz0 (zt6 (sc:=zf0 zb5) (N:=["self"]) (own:=["vat", "room"]) (ix:=[0]) rfl rfl rfl (by walk_at "csc") (zqo (K:=K) rfl rfl jP (za0 (zt0 (K:=K) rfl (pv 0) rfl) zh0)) (λ _ _ _ _=>⟨(zck (K:=K) (n:=2) rfl rfl (zt4 (pgn 0 (nds ["vat", "room", "self"])) (zt4 (pgn 1 (nds ["vat", "room", "self"])) zlk))),(zko (zc2 zhp (pix w K hr (zt0 (K:=K) rfl (pv 2) rfl) (pv 0)) (pv 1) (zr2 _))),(pv 0)⟩)))),(zc1 (RfE.c (RfF.e (zy4 (za11 (zy0 (RfP.v (zb1 jE kB (zl0 0))) zn2)) (zqv (zu7 (zv2 (i:=0) (n:=2) (by decide)) (zu7 (zv2 (i:=1) (n:=2) (by decide)) zan))) (zv1 (zo0 r_gt (RfE.v (zo0 r_ix (RfP.v (zb1 jE jH (zl0 2))) (zb0 0))) (zb0 1))) (zm0 0))))),?_⟩
 rintro as Qd a ⟨rooms,lying,ps,m,en,kvs,rfl,hl,h12,q⟩
 unfold pS
 walk_at "ds"
 walk_at "dd"
 rw [zxd]
 refine zf41 (λ x=>if x.2 < lying.getD x.1 0 then some (.int (x.1:Int)) else none) (by rw [sizeLine_eq,List.length_mapIdx];lia) (λ x hx=>?_) ?_
 ·obtain ⟨i,r⟩:=x
  obtain ⟨j,hj,ej⟩:=List.mem_mapIdx.mp hx
  cases ej
  have ly:i < lying.length:=by lia
  have gl:atI (lying.map PyData.int) ((i:Nat):Int)=some (.int (lying.getD i 0)):=zf5 (by lia) (by rw [Int.toNat_natCast,List.getElem?_map,List.getD_eq_getElem?_getD,List.getElem?_eq_getElem ly];rfl)
  walk_at "cs"
  walk_at "dd"
  refine ⟨_,gl,?_⟩
  walk_at "dd"
  exact two (λ z=>by rw [if_pos z]) λ z=>by rw [if_neg z]
 ·unfold over at q
  rw [List.map_filterMap] at q
  refine (congrArg (λ l=>Qd (.fz (.list l)) (.fz .none)) ?_).mp q
  congr 1
  funext x
  split <;> rfl
theorem zs4:FnScope ["self", "yard"] ["self", "yard"] (zf0 za1):=by walk_at "sc"
theorem zh9 (M:Md K mg) (cT:TopCls K "Play" jA) (T:TopMeth K jA "__init__" "Play.__init__" za1) (kF:mg "len"=none) (kJ:mg "list"=none) (vC:Def P w K mg base "gate_of" 3 ["gate"] (spT K (zsj jB jD jC))) (kB:NoAttr K jA "rooms") (jH:NoAttr K jA "lying") (jI:NoAttr K jA "pipes") (kC:NoAttr K jA "gates") (jG:NoAttr K jA "moment") (jK:NoAttr K jA "entered") (jL:NoAttr K jA "coming"):zzo P w K mg base "Play" jA 4 ["self", "yard"] (spT K (zm5 jA jB jD jC)):=by
 have jE:=cT.cls
 refine zxj M cT T zs4 (λ _ _ _ _ _ _ us hl=>by obtain ⟨_,_,rfl⟩:=ar2 hl;rfl) (zfe λ as Qd h=>by obtain ⟨_,_,rfl,_⟩:=h;rfl) (zm3 ?_)
 intro f cdv A outer s H E hr
 have nd:=zs4.nd
 refine ⟨_,_,(zd0 (zg6 (pv 0) (zt6 (sc:=zf0 za1) (N:=["self", "yard"]) (own:=["vat"]) (ix:=[]) rfl rfl rfl (by walk_at "csc") (pi_W (K:=K) rfl (pix w K hr (pv 1) zg0)) (λ _ _ _ _=>⟨(pgn 0 (nds ["vat"])),zl5,(pix w K hr (pv 0) zg0)⟩)) rfl)
   (zd0 (zg6 (pv 0) (zt6 (sc:=zf0 za1) (N:=["self", "yard"]) (own:=["vat"]) (ix:=[]) rfl rfl rfl (by walk_at "csc") (pi_W (K:=K) rfl (pix w K hr (pv 1) zg0)) (λ _ _ _ _=>⟨(pgn 0 (nds ["vat"])),zl5,(pix w K hr (pv 0) zg0)⟩)) rfl)
   (zd0 (zg6 (pv 0) (zn3 (zi3 (K:=K) rfl) rfl kJ zja (za0 (pix w K hr (pv 1) zg0) zh0)) rfl)
   (zd0 (zg6 (pv 0) (zt6 (sc:=zf0 za1) (N:=["self", "yard"]) (own:=["pipe"]) (ix:=[]) rfl rfl rfl (by walk_at "csc") (pi_W (K:=K) rfl (pix w K hr (pv 1) zg0)) (λ _ _ _ _=>⟨(pgn 0 (nds ["pipe"])),zl5,(zp0 vC (rmn hr) rfl (za0 (pix w K hr (pv 0) zg0) zh0))⟩)) rfl)
   (zd0 (zg6 (pv 0) zg0 rfl)
   (zd0 (zg6 (pv 0) (zw0 zj3 (zt1 (za0 zg0 zh0)) (zu0 (zb2 (K:=K) rfl) rfl kF zac (za0 (zt0 (K:=K) rfl (pv 0) rfl) zh0))) rfl)
   (zk0 (zg6 (pv 0) ziv rfl)))))))),(zn0 (zk6 jE kB (RfF.c (zy4 (zmx (RfE.v (zo0 r_ix (zb0 1) rvi))) (zv2 (i:=0) (n:=1) (by decide)) zg8 (zo0 r_ix (zb0 0) rvi))) (zl0 0))
   (zn0 (zk6 jE jH (RfF.c (zy4 (zmx (RfE.v (zo0 r_ix (zb0 1) rvi))) (zv2 (i:=0) (n:=1) (by decide)) zg8 (zo0 r_ix (zb0 0) rvi))) (zl0 0))
   (zn0 (zk6 jE jI (RfE.c (RfF.e (zyr zcl (zy0 (RfE.v (zo0 r_ix (zb0 1) rvi)) zn2)))) (zl0 0))
   (zn0 (zk6 jE kC (RfN.c (za31 (zmx (RfE.v (zo0 r_ix (zb0 1) rvi))) (zv2 (i:=0) (n:=1) (by decide)) (zll (at_d (zo0 r_ix (zb0 0) rvi) zx1)))) (zl0 0))
   (zn0 (zk6 jE jG (RfE.c zi1) (zl0 0))
   (zn0 (zk6 jE jK (RfF.c (zrq (zg5 (zc0 zi1 zq0)) (zkl zap (zy0 (RfP.v (zb1 jE jI (zl0 0))) zn2)))) (zl0 0))
   (zk6 jE jL zic1 (zl0 0)))))))),?_⟩
 rintro as Qd a ⟨vs,ps,rfl,hv,hp,q⟩
 walk_at "ds"
 refine ze0 λ J hJ=>?_
 walk_at "dd"
 refine ⟨_,rfl,?_⟩
 walk_at "dd"
 refine zjx (λ v=>.int v.room) (by rw [sizeLine_eq];lia) (λ v _=>?_) (hJ _ ?_)
 ·unfold Va.d
  walk_at "cs"
  walk_at "dd"
  exact ⟨_,rfl,rfl⟩
 clear hJ
 refine ze0 λ J hJ=>?_
 walk_at "dd"
 refine ⟨_,rfl,?_⟩
 walk_at "dd"
 refine zjx (λ v=>.int v.fill) (by rw [sizeLine_eq];lia) (λ v _=>?_) (hJ _ ?_)
 ·unfold Va.d
  walk_at "cs"
  walk_at "dd"
  exact ⟨_,rfl,rfl⟩
 clear hJ
 refine ze0 λ J hJ=>?_
 walk_at "dd"
 refine ⟨_,rfl,?_⟩
 walk_at "dd"
 refine hJ _ ?_
 clear hJ
 refine ze0 λ J hJ=>?_
 walk_at "dd"
 refine ⟨_,rfl,?_⟩
 walk_at "dd"
 refine zg61 (λ p=>p.g.ob jB jD jC) (by rw [sizeLine_eq];lia) (λ p _=>?_) (hJ _ ?_)
 ·unfold Pi.d
  walk_at "cs"
  walk_at "dd"
  exact ⟨_,rfl,p.g,rfl,rfl⟩
 clear hJ
 walk_at "dn"
 refine ze0 λ J hJ=>?_
 walk_at "dd"
 rw [List.length_map,Int.toNat_natCast,List.flatten_replicate_singleton]
 refine ⟨by lia,by lia,by lia,hJ _ ?_⟩
 clear hJ
 walk_at "dd"
 refine ⟨_,rfl,?_⟩
 unfold pS at q
 rw [List.map_map,List.map_map,List.map_replicate] at q
 exact q
theorem za6:FnScope ["self", "pipe"] ["self", "pipe"] (zf0 zk3):=by walk_at "sc"
theorem zwb (jE:Cls K jA) (T:TopMeth K jA "room_in" "Play.room_in" zk3) (kF:mg "len"=none) (qC:Cls K jD) (kL:Cls K jB) (kI:Cls K jC) (jG:NoAttr K jA "moment") (jK:NoAttr K jA "entered") (jI:NoAttr K jA "pipes") (kC:NoAttr K jA "gates") (kT:zh5 P w K mg base jB "width_at" 1 ["self", "moment"] (spT K (zg2 jB))) (qM:zh5 P w K mg base jD "width_at" 1 ["self", "moment"] (spT K (zz2 jD))) (qD:zh5 P w K mg base jC "width_at" 1 ["self", "moment"] (spT K (zo2 jC))):zh5 P w K mg base jA "room_in" 2 ["self", "pipe"] (spT K (zg7 jA jB jD jC)):=by
 refine zq5 jE T za6 (λ _ _ _ _ _ _ us hl=>by obtain ⟨_,_,rfl⟩:=ar2 hl;rfl) (zfe λ as Qd h=>by obtain ⟨_,_,_,_,_,_,_,_,_,rfl,_⟩:=h;rfl) (zm3 ?_)
 intro f cdv A outer s H E hr
 have nd:=za6.nd
 refine ⟨_,_,(zd0 (zdb (zo8 (zqp zyc1 zv41 zg0 (pv 1) (zu0 (zb2 (K:=K) rfl) rfl kF zac (za0 (zt0 (K:=K) rfl (pv 0) rfl) zh0)))) (zk0 zhg) zg1)
   (zk0 (zz0 (zw0 zin (zou (P:=P) (w:=w) (K:=K) (mg:=mg) (base:=base) (k:=1) rfl rfl rfl rfl rfl (rmn hr) (pix w K hr (zt0 (K:=K) rfl (pv 0) rfl) (pv 1)) (za0 (zt0 (K:=K) rfl (pv 0) rfl) zh0)) (pix w K hr (zt0 (K:=K) rfl (pv 0) rfl) (pv 1)))))),(zn0 (zfl (zqu (zv1 (zyw r_le r_lt zi1 (zm0 1) (zkl zap (zy0 (RfP.v (zb1 jE jI (zl0 0))) zn2))))) zah zh1)
   (zc1 (RfE.c (zo0 zt21 (RfE.v (RfN.ex (ztv (tab:=[(jB,(zg2 jB)),(jD,(zz2 jD)),(jC,(zo2 jC))]) (tab3 ⟨_,kT⟩ ⟨_,qM⟩ ⟨_,qD⟩) (zmc1 (zb1 jE kC (zl0 0)) (zm0 1)) (zc0 (RfP.e (zb1 jE jG (zl0 0))) zq0)))) (RfE.v (zo0 r_ix (RfP.v (zb1 jE jK (zl0 0))) (zb0 1))))))),?_⟩
 rintro as Qd a ⟨rooms,lying,ps,m,en,kvs,k,p,e,rfl,hk,he,ok,hl,q⟩
 unfold pS
 walk_at "ds"
 refine ze0 λ J hJ=>?_
 walk_at "dd"
 have lk:=(List.getElem?_eq_some_iff.mp hk).1
 rw [List.length_map,if_pos (by lia),if_neg (by lia)]
 refine hJ _ ?_
 clear hJ
 walk_at "dd"
 refine ⟨k,_,zh6 (by rw [List.length_map];exact lk),by rw [List.getElem?_map,hk];rfl,?_⟩
 have ge:atI (en.map PyData.int) ((k:Nat):Int)=some (.int e):=zf5 (by lia) (by rw [Int.toNat_natCast,List.getElem?_map,he];rfl)
 obtain ⟨u,v,ln,pr,g⟩:=p
 have fin:∀ x:Int,x=g.at m->∃ d,atI (en.map PyData.int) ((k:Nat):Int)=some d/\fSub (.int x) d λ d=>Qd (.fz d) (.fz .none):=λ x hx=>⟨_,ge,by rw [hx];exact q⟩
 cases g with
|st x =>
  unfold Gt.ob
  walk_at "dd"
  exact ⟨_,List.mem_cons_self,x,m,rfl,fin _ rfl⟩
|la x f =>
  unfold Gt.ob
  walk_at "dd"
  exact ⟨_,List.mem_cons_of_mem _ List.mem_cons_self,x,f,m,rfl,fin _ rfl⟩
|ti x y t =>
  unfold Gt.ob
  walk_at "dd"
  exact ⟨_,List.mem_cons_of_mem _ (List.mem_cons_of_mem _ List.mem_cons_self),x,y,t,m,rfl,ok.1,ok.2,fin _ rfl⟩
theorem zic:FnScope ["self", "pipe", "amount", "left", "start", "place"] ["self", "pipe", "amount"] (zf0 ze9):=by walk_at "sc"
theorem zuk (jE:Cls K jA) (T:TopMeth K jA "let" "Play.let" ze9) (jK:NoAttr K jA "entered") (jH:NoAttr K jA "lying") (jL:NoAttr K jA "coming") (jI:NoAttr K jA "pipes") (jG:NoAttr K jA "moment") (qS:zh5 P w K mg base jA "room_in" 2 ["self", "pipe"] (spT K (zg7 jA jB jD jC))):zh5 P w K mg base jA "let" 3 ["self", "pipe", "amount"] (spT K (zgh jA jB jD jC)):=by
 refine zq5 jE T zic (λ _ _ _ _ _ _ us hl=>by obtain ⟨_,_,_,rfl⟩:=ar3 hl;rfl) (zfe λ as Qd h=>by obtain ⟨_,_,_,_,_,_,_,_,_,_,_,_,rfl,_⟩:=h;rfl) (zm3 ?_)
 intro f cdv A outer s H E hr
 have nd:=zic.nd
 refine ⟨_,_,(zd0 (pset 3 nd (zio qS (rmn hr) (pv 0) (za0 (pv 1) zh0)))
   (zd0 (zdb (zc2 zv41 (pv 2) zg0 (zr2 _)) (zk0 zhg) zg1)
   (zd0 (zdb (zc2 zhp (pv 2) (pv 3) (zr2 _)) (zk0 zhg) zg1)
   (zd0 (pset 4 nd (pix w K hr (pix w K hr (zt0 (K:=K) rfl (pv 0) rfl) (pv 1)) zg0))
   (zd0 (zdb (zc2 zhp (pv 2) (pix w K hr (zt0 (K:=K) rfl (pv 0) rfl) (pv 4)) (zr2 _)) (zk0 zhg) zg1)
   (zd0 (zuj (zt0 (K:=K) rfl (pv 0) rfl) (pv 1) (zg41 (K:=K) (Room.units hr) rfl) (pv 2) zpw (zfi (Room.units hr)))
   (zd0 (zuj (zt0 (K:=K) rfl (pv 0) rfl) (pv 4) (zg41 (K:=K) (Room.units hr) rfl) (pv 2) zr81 (zfi (Room.units hr)))
   (zd0 (pset 5 nd (zh2 (za0 (zw0 (zs0 (K:=K) rfl) (zt0 (K:=K) rfl (pv 0) rfl) (pix w K hr (pix w K hr (zt0 (K:=K) rfl (pv 0) rfl) (pv 1)) zg0)) (za0 (pv 1) zh0))))
   (zd0 (zbb (zw0 (zs0 (K:=K) rfl) (zpi (K:=K) rfl PySem.F.plainAttrs_dict PySem.F.slot_dict_get PySem.F.type_dict_get (zxx (Room.units hr)) (zt0 (K:=K) rfl (pv 0) rfl) (za0 (pv 5) (za0 zg0 zh0))) (pv 2)) (zcb (zt0 (K:=K) rfl (pv 0) rfl) (pv 5) (zfi (Room.units hr))))
   (zk0 (zz0 (pix w K hr (zt0 (K:=K) rfl (pv 0) rfl) (pv 4))))))))))))),(zn0 (zma (zog false (zl0 0) (at_d (zm0 1) zx1)))
   (zn0 (zfl (zv1 (zo0 r_lt (zb0 2) rvi)) zah zh1)
   (zn0 (zfl (zv1 (zo0 r_gt (zb0 2) (zb0 3))) zah zh1)
   (zn0 (ze1 (zo0 r_ix (RfE.v (zo0 r_ix (RfP.v (zb1 jE jI (zl0 0))) (zb0 1))) rvi) (rgn 4))
   (zn0 (zfl (zv1 (zo0 r_gt (zb0 2) (RfE.v (zo0 r_ix (RfP.v (zb1 jE jH (zl0 0))) (zb0 4))))) zah zh1)
   (zn0 (zzs (zb1 jE jK (zl0 0)) (zm0 1) (zm0 2))
   (zn0 (zzs (zb1 jE jH (zl0 0)) (zm0 4) (zm0 2))
   (zn0 (ze1 (zf6 (zc0 (zo0 za4 (RfP.v (zb1 jE jG (zl0 0))) (RfE.v (zo0 r_ix (RfE.v (zo0 r_ix (RfP.v (zb1 jE jI (zl0 0))) (zb0 1))) rvi))) (zc0 (zm0 1) zq0))) (rgn 5))
   (zn0 (zw9 (zo0 za4 (RfE.v (zj11 (zb1 jE jL (zl0 0)) (zm0 5) zi1)) (zb0 2)) (zb1 jE jL (zl0 0)) (zm0 5))
   (zc1 (RfE.c (zo0 r_ix (RfP.v (zb1 jE jH (zl0 0))) (zb0 4))))))))))))),?_⟩
 rintro as Qd a ⟨rooms,lying,ps,m,en,kvs,k,am,p,e,y,c0,rfl,hk,he,hy,ok,hl,hkv,a1,a2,a3,hc,q⟩
 have lk:=(List.getElem?_eq_some_iff.mp hk).1
 have le:=(List.getElem?_eq_some_iff.mp he).1
 have ly:=(List.getElem?_eq_some_iff.mp hy).1
 unfold pS at q ⊢
 walk_at "ds"
 refine ze0 λ J hJ=>?_
 walk_at "dd"
 refine ⟨rooms,lying,ps,m,en,kvs,k,p,e,rfl,hk,he,ok,hl,hJ _ ?_⟩
 clear hJ
 refine ze0 λ J hJ=>?_
 walk_at "dd"
 rw [if_neg (by lia)]
 refine hJ _ ?_
 clear hJ
 refine ze0 λ J hJ=>?_
 walk_at "dd"
 rw [if_neg (by lia)]
 refine hJ _ ?_
 clear hJ
 have gp:atI (ps.map Pi.d) ((k:Nat):Int)=some (.tuple [.int (p.u:Int),.int (p.v:Int),.int (p.len:Int),.int p.pr,p.g.d]):=zf5 (by lia) (by rw [Int.toNat_natCast,List.getElem?_map,hk];rfl)
 have gy:atI (lying.map PyData.int) ((p.u:Nat):Int)=some (.int y):=zf5 (by lia) (by rw [Int.toNat_natCast,List.getElem?_map,hy];rfl)
 refine ze0 λ J hJ=>?_
 walk_at "dd"
 refine ⟨_,gp,?_⟩
 walk_at "dd"
 refine ⟨_,rfl,hJ _ ?_⟩
 clear hJ
 refine ze0 λ J hJ=>?_
 walk_at "dd"
 refine ⟨_,gy,?_⟩
 walk_at "dd"
 rw [if_neg (by lia)]
 refine hJ _ ?_
 clear hJ
 refine ze0 λ J hJ=>?_
 walk_at "dd"
 refine ⟨by lia,_,by rw [Int.toNat_natCast,List.getElem?_map,he];rfl,?_⟩
 walk_at "dd"
 refine ⟨k,zh6 (by rw [List.length_map];exact le),hJ _ ?_⟩
 clear hJ
 refine ze0 λ J hJ=>?_
 walk_at "dd"
 refine ⟨by lia,_,by rw [Int.toNat_natCast,List.getElem?_map,hy];rfl,?_⟩
 walk_at "dd"
 refine ⟨p.u,zh6 (by rw [List.length_map];exact ly),hJ _ ?_⟩
 clear hJ
 refine ze0 λ J hJ=>?_
 walk_at "dd"
 refine ⟨_,gp,?_⟩
 walk_at "dd"
 refine ⟨_,rfl,hJ _ ?_⟩
 clear hJ
 refine ze0 λ J hJ=>?_
 walk_at "dd"
 refine ⟨[.inl ((m:Int)+(p.len:Int)),.inl (k:Int)],rfl,?_⟩
 rw [hc]
 walk_at "dd"
 refine ⟨[.inl ((m:Int)+(p.len:Int)),.inl (k:Int)],rfl,hkv,hJ _ ?_⟩
 clear hJ
 walk_at "dd"
 rw [List.map_set,List.map_set] at q
 refine ⟨_,zf5 (by lia) (by rw [Int.toNat_natCast,List.getElem?_set_self (by rw [List.length_map];exact ly)]),_,rfl,q⟩
end
def kTI (t:Int) (i:Nat):List Key:=[.inl t,.inl (i:Int)]
def cm (kvs:List (List Key×D)) (t:Int) (i:Nat):Int:=match getA kvs (kTI t i) with
|some (.int c)=>c
|_=>0
def AllI (kvs:List (List Key×D)):Prop:=∀ k d,getA kvs k=some d->∃ c,d=.int c
def inc (l:List Int) (v:Nat) (c:Int):List Int:=l.set v (l.getD v 0+c)
def arrL (ps:List Pi) (kvs:List (List Key×D)) (t:Int):Nat->List Int->List Int
|0,l=>l
|n+1,l=>inc (arrL ps kvs t n l) ((ps[n]?).map Pi.v |>.getD 0) (cm kvs t n)
def arrK (kvs:List (List Key×D)) (t:Int):Nat->List (List Key×D)
|0=>kvs
|n+1=>zd7 (arrK kvs t n) (kTI t n)
theorem zye {κ:Type} [DecidableEq κ] (k k':κ):∀ kvs:List (κ×D),getA (zd7 kvs k) k'=if k=k' then none else getA kvs k'
|[]=>by unfold zd7 getA;simp
|(a,d) :: r=>by
  have ih:=zye k k' r
  unfold zd7 at ih ⊢
  by_cases e:a=k
  ·rw [List.filter_cons_of_neg (by simp [e]),ih,zr1,e]
   split <;> rfl
  ·rw [List.filter_cons_of_pos (by simp [e]),zr1,zr1,ih]
   by_cases f:a=k'
   ·subst f;rw [if_pos rfl,if_neg (λ z=>e z.symm),if_pos rfl]
   ·rw [if_neg f,if_neg f]
theorem zrl {t t':Int} {i i':Nat} (h:kTI t i=kTI t' i'):t=t'/\i=i':=by
 unfold kTI at h
 injection h with h1 h2
 injection h1 with h1
 injection h2 with h2 _
 injection h2 with h2
 exact ⟨h1,by lia⟩
theorem zve (kvs:List (List Key×D)) (t:Int) (t':Int) (i:Nat):∀ n,getA (arrK kvs t n) (kTI t' i)=if t'=t/\i < n then none else getA kvs (kTI t' i)
|0=>by rw [if_neg (by lia)];rfl
|n+1=>by
  show getA (zd7 (arrK kvs t n) (kTI t n)) (kTI t' i)=_
  rw [zye,zve kvs t t' i n]
  by_cases e:kTI t n=kTI t' i
  ·obtain ⟨e1,e2⟩:=zrl e
   rw [if_pos e,if_pos ⟨e1.symm,by lia⟩]
  ·rw [if_neg e]
   by_cases f:t'=t/\i < n
   ·rw [if_pos f,if_pos ⟨f.1,by lia⟩]
   ·rw [if_neg f,if_neg (λ z=>?_)]
    refine f ⟨z.1,?_⟩
    have:i≠n:=λ y=>e (by rw [z.1,y])
    lia
theorem zdq {kvs:List (List Key×D)} (h:AllI kvs) (k:List Key):AllI (zd7 kvs k):=λ k' d e=>by
 rw [zye] at e
 split at e
 ·cases e
 ·exact h k' d e
theorem zb9 {kvs:List (List Key×D)} (h:AllI kvs) (t:Int):∀ n,AllI (arrK kvs t n)
|0=>h
|n+1=>zdq (zb9 h t n) _
theorem zpp {kvs:List (List Key×D)} (h:AllI kvs) (t:Int) (i:Nat):(getA kvs (kTI t i)).getD (.int 0)=.int (cm kvs t i):=by
 unfold cm
 cases e:getA kvs (kTI t i) with
|none=>rfl
|some d =>
  obtain ⟨c,rfl⟩:=h _ _ e
  rfl
theorem zfs (kvs:List (List Key×D)) (t:Int) (n:Nat):cm (arrK kvs t n) t n=cm kvs t n:=by
 unfold cm
 rw [zve,if_neg (by lia)]
theorem zcg (l:List Int) (v:Nat) (c:Int):(inc l v c).length=l.length:=by unfold inc;simp
theorem zea (ps:List Pi) (kvs:List (List Key×D)) (t:Int) (l:List Int):∀ n,(arrL ps kvs t n l).length=l.length
|0=>rfl
|n+1=>by
  show (inc _ _ _).length=_
  rw [zcg,zea ps kvs t l n]
section
variable {P:Program} {w:World} {K:Fg} {mg:Str->Option Value} {base:Heap} {jB jD jC jA:Addr}
theorem zfw {rooms lying:List Int} (hl:rooms.length=lying.length):over rooms lying=[] ↔ ∀ (i:Nat) r y,rooms[i]?=some r->lying[i]?=some y->y<=r:=by
 unfold over
 rw [List.filterMap_eq_nil_iff]
 constructor
 ·intro h i r y h1 h2
  have hi:=(List.getElem?_eq_some_iff.mp h1).1
  have:=h (i,r) (List.mem_mapIdx.mpr ⟨i,hi,by rw [(List.getElem?_eq_some_iff.mp h1).2]⟩)
  by_cases z:r < lying.getD i 0
  ·rw [if_pos z] at this;cases this
  ·rw [List.getD_eq_getElem?_getD,h2] at z
   have z:¬ r < y:=z
   lia
 ·rintro h ⟨i,r⟩ hx
  obtain ⟨j,hj,ej⟩:=List.mem_mapIdx.mp hx
  cases ej
  have ly:i < lying.length:=by lia
  have:=h i _ _ (List.getElem?_eq_getElem hj) (List.getElem?_eq_getElem ly)
  have e:lying.getD i 0=lying[i]:=by rw [List.getD_eq_getElem?_getD,List.getElem?_eq_getElem ly];rfl
  show (if rooms[i] < lying.getD i 0 then some i else none)=none
  rw [e,if_neg (by lia)]
theorem zk11 {rooms lying:List Int}:∀ i∈over rooms lying,i < rooms.length:=λ i hi=>by
 unfold over at hi
 obtain ⟨⟨j,r⟩,h1,h2⟩:=List.mem_filterMap.mp hi
 obtain ⟨k,hk,ek⟩:=List.mem_mapIdx.mp h1
 cases ek
 dsimp only at h2
 split at h2
 ·cases h2;exact hk
 ·cases h2
theorem zzn (rooms lying:List Int):(over rooms lying).length<=rooms.length:=by
 unfold over
 exact Nat.le_trans (List.length_filterMap_le _ _) (by simp)
def zgl (rooms lying:List Int):Prop:=rooms.length=lying.length/\rooms.length<=12/\∀ (i:Nat) r y,rooms[i]?=some r->lying[i]?=some y->y<=r
def zo4 (C C1 C2 C3:Addr):DSpT:=λ as Q=>∃ (rooms lying:List Int) (ps:List Pi) (m:Nat) (en:List Int) (kvs:List (List Key×D)),as=[.b (pS C C1 C2 C3 rooms lying ps m en kvs)]/\zgl rooms lying/\Q (.fz .none) (.fz .none)
def zda (C C1 C2 C3:Addr):DSpT:=λ as Q=>∃ (rooms lying:List Int) (ps:List Pi) (m:Nat) (en:List Int) (kvs:List (List Key×D)),as=[.o (pS C C1 C2 C3 rooms lying ps m en kvs)]/\zgl rooms lying/\ps.length<=24/\(∀ p∈ps,p.v < lying.length)/\AllI kvs /\
 Q (.fz (.int ((m+1:Nat):Int))) (pS C C1 C2 C3 rooms (arrL ps kvs ((m+1:Nat):Int) ps.length lying) ps (m+1) (List.replicate ps.length 0) (arrK kvs ((m+1:Nat):Int) ps.length))
theorem zj2:FnScope ["play", "vats"] ["play"] (zf0 zu2):=by walk_at "sc"
theorem zme (M:Md K mg) (T:TopDef K "refuse_full" zu2) (jE:Cls K jA) (kE:zh5 P w K mg base jA "full" 1 ["self"] (spT K (zh3 jA jB jD jC))):Def P w K mg base "refuse_full" 2 ["play"] (spT K (zo4 jA jB jD jC)):=by
 refine zb7 M T zj2 (λ _ _ _ _ _ _ us hl=>by obtain ⟨_,rfl⟩:=ar1 hl;rfl) (zfe λ as Qd h=>by obtain ⟨_,_,_,_,_,_,rfl,_⟩:=h;rfl) (zm3 ?_)
 intro f cdv A outer s H E hr
 have nd:=zj2.nd
 refine ⟨_,_,(zd0 (pset 1 nd (zs2 kE (rmn hr) (pv 0)))
   (zk0 (zdb (ze3 (K:=K) rfl (pv 1) (λ _=>rfl)) (zk0 zhg) zg1))),(zn0 (zma (zog false (zl0 0) zx1))
   (zfl (zam (zb0 1)) zah zh1)),?_⟩
 rintro as Qd a ⟨rooms,lying,ps,m,en,kvs,rfl,⟨h1,h2,h3⟩,q⟩
 unfold pS
 walk_at "ds"
 refine ze0 λ J hJ=>?_
 walk_at "dd"
 refine ⟨rooms,lying,ps,m,en,kvs,rfl,h1,h2,?_⟩
 rw [(zfw h1).mpr h3]
 walk_at "dd"
 refine hJ _ ?_
 clear hJ
 walk_at "dd"
 rw [if_neg (by decide)]
 exact q
theorem zt2:FnScope ["self", "number", "pipe"] ["self"] (zf0 zo3):=by walk_at "sc"
theorem zfg (jE:Cls K jA) (T:TopMeth K jA "go_on" "Play.go_on" zo3) (jP:mg "enumerate"=none) (kF:mg "len"=none) (uA:Def P w K mg base "refuse_full" 2 ["play"] (spT K (zo4 jA jB jD jC))) (jG:NoAttr K jA "moment") (jK:NoAttr K jA "entered") (jI:NoAttr K jA "pipes") (jH:NoAttr K jA "lying") (jL:NoAttr K jA "coming"):zh5 P w K mg base jA "go_on" 3 ["self"] (spT K (zda jA jB jD jC)):=by
 refine zq5 jE T zt2 (λ _ _ _ _ _ _ us hl=>by obtain ⟨_,rfl⟩:=ar1 hl;rfl) (zfe λ as Qd h=>by obtain ⟨_,_,_,_,_,_,rfl,_⟩:=h;rfl) (zm3 ?_)
 intro f cdv A outer s H E hr
 have nd:=zt2.nd
 refine ⟨_,(dSeq (zp61 (zf71 (zo4 jA jB jD jC) (aB (pVar 0) aNil)))
   (dSeq (zwj jA "moment" (λ i j=>i+j) (pVar 0) (dC (.int 1)))
   (dSeq (dFld jA "entered" (cF (dRep (dLst (zk7 (dC (.int 0)) dNil)) (dCB fLen (zk7 (dPV (pFld jA "pipes" (pVar 0))) dNil)))) (pVar 0))
   (dSeq (dFor (zey (zk7 (dPE (pFld jA "pipes" (pVar 0))) dNil)) (gT 2 (zyh (gN 1) (zyh (gN 2) zk21))) (zlg (λ i j=>i+j) (pFld jA "lying" (pVar 0)) (dOp fIx (zdo 2) (dC (.int 1))) (pFld jA "coming" (pVar 0)) (dTup (zk7 (dPE (pFld jA "moment" (pVar 0))) (zk7 (dVar 1) dNil))) (dC (.int 0))))
   (dRet (cE (dPE (pFld jA "moment" (pVar 0))))))))),(zd0 (zuf (zp0 uA (rmn hr) rfl (za0 (pv 0) zh0)))
   (zd0 (zhj (pv 0) zg0 zq21)
   (zd0 (zg6 (pv 0) (zw0 zj3 (zt1 (za0 zg0 zh0)) (zu0 (zb2 (K:=K) rfl) rfl kF zac (za0 (zt0 (K:=K) rfl (pv 0) rfl) zh0))) rfl)
   (zd0 (zub PassesOwn.never rfl (zqo (K:=K) rfl rfl jP (za0 (zt0 (K:=K) rfl (pv 0) rfl) zh0)) (zck (K:=K) (n:=2) rfl rfl (zt4 (pgn 1 nd) (zt4 (pgn 2 nd) zlk))) (zk0 (zuj (zt0 (K:=K) rfl (pv 0) rfl) (pix w K hr (pv 2) zg0) (zg41 (K:=K) (Room.units hr) rfl) (zpi (K:=K) rfl PySem.F.plainAttrs_dict PySem.F.slot_dict_pop PySem.F.type_dict_pop (zvs (Room.units hr)) (zt0 (K:=K) rfl (pv 0) rfl) (za0 (zh2 (za0 (zt0 (K:=K) rfl (pv 0) rfl) (za0 (pv 1) zh0))) (za0 zg0 zh0))) zpw (zfi (Room.units hr)))))
   (zk0 (zz0 (zt0 (K:=K) rfl (pv 0) rfl))))))),(zn0 (zyn (zvg (at_b (zl0 0) zx1)))
   (zn0 (zmj (fn:=(λ i j=>i+j)) jE jG (zl0 0) zi1)
   (zn0 (zk6 jE jK (RfF.c (zrq (zg5 (zc0 zi1 zq0)) (zkl zap (zy0 (RfP.v (zb1 jE jI (zl0 0))) zn2)))) (zl0 0))
   (zn0 (zec (zis (zc0 (RfP.e (zb1 jE jI (zl0 0))) zq0)) (zqv (zu7 (rgn 1) (zu7 (rgn 2) zan))) (zgk (zb1 jE jH (zl0 0)) (zo0 r_ix (zb0 2) rvi) (zb1 jE jL (zl0 0)) (zf6 (zc0 (RfP.e (zb1 jE jG (zl0 0))) (zc0 (zm0 1) zq0))) zi1))
   (zc1 (RfE.c (RfP.e (zb1 jE jG (zl0 0))))))))),?_⟩
 rintro as Qd a ⟨rooms,lying,ps,m,en,kvs,rfl,no,h24,hv,hi,q⟩
 unfold pS at q ⊢
 walk_at "ds"
 refine ze0 λ J hJ=>?_
 walk_at "dd"
 refine ⟨rooms,lying,ps,m,en,kvs,rfl,no,?_⟩
 walk_at "dd"
 refine hJ _ ?_
 clear hJ
 refine ze0 λ J hJ=>?_
 walk_at "dd"
 refine hJ _ ?_
 clear hJ
 refine ze0 λ J hJ=>?_
 walk_at "dd"
 rw [List.length_map,Int.toNat_natCast,List.flatten_replicate_singleton]
 refine ⟨by lia,by lia,by lia,hJ _ ?_⟩
 clear hJ
 have et:(m:Int)+1=((m+1:Nat):Int):=by lia
 rw [et]
 generalize hT:((m+1:Nat):Int)=t at q ⊢
 refine ze0 λ J hJ=>?_
 walk_at "dd"
 rw [zxd]
 refine zb6 (λ i U=>∃ (s1 s2:Sl),U=[.io a (.ob jA [("rooms",.li (rooms.map .int)),("lying",.li ((arrL ps kvs t i lying).map .int)),("pipes",.fz (.list (ps.map Pi.d))),("gates",.ls (ps.map λ p=>p.g.ob jB jD jC)),("moment",.fz (.int t)),("entered",.li (List.replicate ps.length (.int 0))),("coming",.dt (arrK kvs t i))]),s1,s2]) ⟨_,_,rfl⟩ ?_ ?_
 ·rintro i x U hx ⟨s1,s2,rfl⟩
  obtain ⟨i',p⟩:=x
  rw [List.getElem?_mapIdx] at hx
  obtain ⟨p',hp,e⟩:=Option.map_eq_some_iff.mp hx
  cases e
  have hl:p.v < (arrL ps kvs t i lying).length:=by rw [zea];exact hv p (List.mem_of_getElem? hp)
  have en1:arrL ps kvs t (i+1) lying=inc (arrL ps kvs t i lying) p.v (cm kvs t i):=by
   show inc _ _ _=_
   rw [hp];rfl
  have ek1:arrK kvs t (i+1)=zd7 (arrK kvs t i) (kTI t i):=rfl
  rw [en1,ek1]
  have ec:=zpp (zb9 hi t i) t i
  rw [zfs] at ec
  generalize arrL ps kvs t i lying=L at hl ⊢
  generalize arrK kvs t i=M at ec ⊢
  generalize hpd:ps.map Pi.d=PD
  unfold Pi.d
  refine ⟨rfl,zmk (z:=(p.v:Int)) (y:=L.getD p.v 0) (c:=cm kvs t i) (yd:=.tuple [.int t,.int (i:Int)]) (zd:=.int 0) (key:=kTI t i) (j:=p.v) (ds:=L.map .int) (kvs:=M) rfl rfl rfl (by decide +kernel) (λ Q hq=>?_) (λ Q hq=>?_) (λ Q hq=>hq) (by lia) ?_ (zh6 (by rw [List.length_map];exact hl)) rfl ec ?_⟩
  ·walk_at "dd"
   exact ⟨_,rfl,hq⟩
  ·walk_at "dd"
   exact hq
  ·rw [Int.toNat_natCast,List.getElem?_map,List.getD_eq_getElem?_getD,List.getElem?_eq_getElem hl];rfl
  ·refine ⟨.sh (.int (i:Int)),.sh (.tuple [.int (p.u:Int),.int (p.v:Int),.int (p.len:Int),.int p.pr,p.g.d]),?_⟩
   unfold inc
   rw [List.map_set]
   rfl
 ·rintro U ⟨s1,s2,rfl⟩
  rw [List.length_mapIdx]
  refine hJ _ ?_
  clear hJ
  walk_at "dd"
  rw [List.map_replicate] at q
  exact ⟨_,rfl,q⟩
end
def zp3 (C C1 C2 C3 CT:Addr):DSpX:=λ as Q X=>∃ (rooms lying:List Int) (ps:List Pi) (m:Nat) (en:List Int) (kvs:List (List Key×D)),as=[.b (pS C C1 C2 C3 rooms lying ps m en kvs)]/\rooms.length=lying.length/\rooms.length<=12 /\
 (over rooms lying=[]->Q (.fz .none) (.fz .none))/\(over rooms lying≠[]->X CT (.fz .none))
def zz4 (C C1 C2 C3 CT:Addr):DSpX:=λ as Q X=>∃ (rooms lying:List Int) (ps:List Pi) (m:Nat) (en:List Int) (kvs:List (List Key×D)),as=[.o (pS C C1 C2 C3 rooms lying ps m en kvs)]/\rooms.length=lying.length/\rooms.length<=12/\ps.length<=24/\(∀ p∈ps,p.v < lying.length)/\AllI kvs /\
 (over rooms lying=[]->Q (.fz (.int ((m+1:Nat):Int))) (pS C C1 C2 C3 rooms (arrL ps kvs ((m+1:Nat):Int) ps.length lying) ps (m+1) (List.replicate ps.length 0) (arrK kvs ((m+1:Nat):Int) ps.length))) /\
 (over rooms lying≠[]->X CT (pS C C1 C2 C3 rooms lying ps m en kvs))
section
variable {P:Program} {w:World} {K:Fg} {mg:Str->Option Value} {base:Heap} {jB jD jC jA jF:Addr}
theorem zvb (M:Md K mg) (T:TopDef K "refuse_full" zu2) (jE:Cls K jA) (kE:zh5 P w K mg base jA "full" 1 ["self"] (spT K (zh3 jA jB jD jC))) (kM:XCls K "TooFull" jF):Def1 P w K mg base "refuse_full" 2 ["play"] (spX K (zp3 jA jB jD jC jF)):=by
 refine zc01 M T zj2 (λ _ _ _ _ _ _ us hl=>by obtain ⟨_,rfl⟩:=ar1 hl;rfl) (zda1 λ as Qd Xd h=>by obtain ⟨_,_,_,_,_,_,rfl,_⟩:=h;rfl) (zzz ?_)
 intro f cdv A outer s H E hr
 have nd:=zj2.nd
 refine ⟨_,λ ex=>(dSeq (dSet 1 (zr51 false jA "full" (zh3 jA jB jD jC) (pVar 0) aNil))
   (dIf (dTru (zdo 1)) (zgv jF (zk7 (zdm (dJT 9 (dJL (dVar 1) (dJT 26 dJN)))) dNil) ex) zo61)),(zd0 (pset 1 nd (zs2 kE (rmn hr) (pv 0)))
   (zk0 (zdb (ze3 (K:=K) rfl (pv 1) (λ _=>rfl)) (zk0 (ziw zpn kM rfl rfl (za0 (zcp (zbs (zdz (K:=K) rfl hr (pv 1) (zbs zm51)))) zh0))) zg1))),λ ex=>(zhn (zhx (zma (zog false (zl0 0) zx1)))
   (zcc1 (zam (zb0 1)) (zmt (zc0 (zbp (zhs (l:=9) (by decide +kernel) (zf11 (zm0 1) (zhs (l:=26) (by decide +kernel) zt41)))) zq0)) (zhx zh1))),?_⟩
 rintro as Qd Xd a ⟨rooms,lying,ps,m,en,kvs,rfl,h1,h2,q1,q2⟩
 unfold pS
 walk_at "ds"
 refine ze0 λ J hJ=>?_
 walk_at "dd"
 refine ⟨rooms,lying,ps,m,en,kvs,rfl,h1,h2,?_⟩
 walk_at "dd"
 refine hJ _ ?_
 clear hJ
 walk_at "dd"
 rw [List.isEmpty_map]
 by_cases z:over rooms lying=[]
 ·rw [z,if_neg (by decide)]
  exact q1 z
 ·rw [if_pos (by simpa using z)]
  have ol:=zzn rooms lying
  refine ⟨⟨(over rooms lying).map λ k:Nat=>(k:Int),by rw [List.map_map];rfl,by rw [List.length_map];lia,λ n hn=>?_⟩,λ _ _=>q2 z⟩
  obtain ⟨k,hk,rfl⟩:=List.mem_map.mp hn
  have:=zk11 k hk
  lia
theorem zud (jE:Cls K jA) (T:TopMeth K jA "go_on" "Play.go_on" zo3) (jP:mg "enumerate"=none) (kF:mg "len"=none) (jG:NoAttr K jA "moment") (jK:NoAttr K jA "entered") (jI:NoAttr K jA "pipes") (jH:NoAttr K jA "lying") (jL:NoAttr K jA "coming") (qT:Def1 P w K mg base "refuse_full" 2 ["play"] (spX K (zp3 jA jB jD jC jF))):zpz P w K mg base jA "go_on" 3 ["self"] (spX K (zz4 jA jB jD jC jF)):=by
 refine zww jE T zt2 (λ _ _ _ _ _ _ us hl=>by obtain ⟨_,rfl⟩:=ar1 hl;rfl) (zda1 λ as Qd Xd h=>by obtain ⟨_,_,_,_,_,_,rfl,_⟩:=h;rfl) (zzz ?_)
 intro f cdv A outer s H E hr
 have nd:=zt2.nd
 refine ⟨_,λ ex=>(dSeq (zar (zb81 (zp3 jA jB jD jC jF) (aB (pVar 0) aNil)) ex)
   (dSeq (zwj jA "moment" (λ i j=>i+j) (pVar 0) (dC (.int 1)))
   (dSeq (dFld jA "entered" (cF (dRep (dLst (zk7 (dC (.int 0)) dNil)) (dCB fLen (zk7 (dPV (pFld jA "pipes" (pVar 0))) dNil)))) (pVar 0))
   (dSeq (dFor (zey (zk7 (dPE (pFld jA "pipes" (pVar 0))) dNil)) (gT 2 (zyh (gN 1) (zyh (gN 2) zk21))) (zlg (λ i j=>i+j) (pFld jA "lying" (pVar 0)) (dOp fIx (zdo 2) (dC (.int 1))) (pFld jA "coming" (pVar 0)) (dTup (zk7 (dPE (pFld jA "moment" (pVar 0))) (zk7 (dVar 1) dNil))) (dC (.int 0))))
   (dRet (cE (dPE (pFld jA "moment" (pVar 0))))))))),(zd0 (zuf (zvt qT (rmn hr) rfl zai (za0 (pv 0) zh0)))
   (zd0 (zhj (pv 0) zg0 zq21)
   (zd0 (zg6 (pv 0) (zw0 zj3 (zt1 (za0 zg0 zh0)) (zu0 (zb2 (K:=K) rfl) rfl kF zac (za0 (zt0 (K:=K) rfl (pv 0) rfl) zh0))) rfl)
   (zd0 (zub PySem.PassesOwn.leaving rfl (zqo (K:=K) rfl rfl jP (za0 (zt0 (K:=K) rfl (pv 0) rfl) zh0)) (zck (K:=K) (n:=2) rfl rfl (zt4 (pgn 1 nd) (zt4 (pgn 2 nd) zlk))) (zk0 (zuj (zt0 (K:=K) rfl (pv 0) rfl) (pix w K hr (pv 2) zg0) (zg41 (K:=K) (Room.units hr) rfl) (zpi (K:=K) rfl PySem.F.plainAttrs_dict PySem.F.slot_dict_pop PySem.F.type_dict_pop (zvs (Room.units hr)) (zt0 (K:=K) rfl (pv 0) rfl) (za0 (zh2 (za0 (zt0 (K:=K) rfl (pv 0) rfl) (za0 (pv 1) zh0))) (za0 zg0 zh0))) zpw (zfi (Room.units hr)))))
   (zk0 (zz0 (zt0 (K:=K) rfl (pv 0) rfl))))))),λ ex=>(zhn (zrs (zzy (at_b (zl0 0) zx1)))
   (zhn (zhx (zmj (fn:=(λ i j=>i+j)) jE jG (zl0 0) zi1))
   (zhn (zhx (zk6 jE jK (RfF.c (zrq (zg5 (zc0 zi1 zq0)) (zkl zap (zy0 (RfP.v (zb1 jE jI (zl0 0))) zn2)))) (zl0 0)))
   (zhn (zhx (zec (zis (zc0 (RfP.e (zb1 jE jI (zl0 0))) zq0)) (zqv (zu7 (rgn 1) (zu7 (rgn 2) zan))) (zgk (zb1 jE jH (zl0 0)) (zo0 r_ix (zb0 2) rvi) (zb1 jE jL (zl0 0)) (zf6 (zc0 (RfP.e (zb1 jE jG (zl0 0))) (zc0 (zm0 1) zq0))) zi1)))
   (zhx (zc1 (RfE.c (RfP.e (zb1 jE jG (zl0 0)))))))))),?_⟩
 rintro as Qd Xd a ⟨rooms,lying,ps,m,en,kvs,rfl,h1,h2,h24,hv,hi,q,qx⟩
 unfold pS at q qx ⊢
 walk_at "ds"
 refine ze0 λ J hJ=>?_
 walk_at "dd"
 refine ⟨rooms,lying,ps,m,en,kvs,rfl,h1,h2,λ z=>?_,λ z=>⟨_,rfl,qx z⟩⟩
 have q:=q z
 clear qx
 refine hJ _ ?_
 clear hJ
 refine ze0 λ J hJ=>?_
 walk_at "dd"
 refine hJ _ ?_
 clear hJ
 refine ze0 λ J hJ=>?_
 walk_at "dd"
 rw [List.length_map,Int.toNat_natCast,List.flatten_replicate_singleton]
 refine ⟨by lia,by lia,by lia,hJ _ ?_⟩
 clear hJ
 have et:(m:Int)+1=((m+1:Nat):Int):=by lia
 rw [et]
 generalize hT:((m+1:Nat):Int)=t at q ⊢
 refine ze0 λ J hJ=>?_
 walk_at "dd"
 rw [zxd]
 refine zb6 (λ i U=>∃ (s1 s2:Sl),U=[.io a (.ob jA [("rooms",.li (rooms.map .int)),("lying",.li ((arrL ps kvs t i lying).map .int)),("pipes",.fz (.list (ps.map Pi.d))),("gates",.ls (ps.map λ p=>p.g.ob jB jD jC)),("moment",.fz (.int t)),("entered",.li (List.replicate ps.length (.int 0))),("coming",.dt (arrK kvs t i))]),s1,s2]) ⟨_,_,rfl⟩ ?_ ?_
 ·rintro i x U hx ⟨s1,s2,rfl⟩
  obtain ⟨i',p⟩:=x
  rw [List.getElem?_mapIdx] at hx
  obtain ⟨p',hp,e⟩:=Option.map_eq_some_iff.mp hx
  cases e
  have hl:p.v < (arrL ps kvs t i lying).length:=by rw [zea];exact hv p (List.mem_of_getElem? hp)
  have en1:arrL ps kvs t (i+1) lying=inc (arrL ps kvs t i lying) p.v (cm kvs t i):=by
   show inc _ _ _=_
   rw [hp];rfl
  have ek1:arrK kvs t (i+1)=zd7 (arrK kvs t i) (kTI t i):=rfl
  rw [en1,ek1]
  have ec:=zpp (zb9 hi t i) t i
  rw [zfs] at ec
  generalize arrL ps kvs t i lying=L at hl ⊢
  generalize arrK kvs t i=M at ec ⊢
  generalize hpd:ps.map Pi.d=PD
  unfold Pi.d
  refine ⟨rfl,zmk (z:=(p.v:Int)) (y:=L.getD p.v 0) (c:=cm kvs t i) (yd:=.tuple [.int t,.int (i:Int)]) (zd:=.int 0) (key:=kTI t i) (j:=p.v) (ds:=L.map .int) (kvs:=M) rfl rfl rfl (by decide +kernel) (λ Q hq=>?_) (λ Q hq=>?_) (λ Q hq=>hq) (by lia) ?_ (zh6 (by rw [List.length_map];exact hl)) rfl ec ?_⟩
  ·walk_at "dd"
   exact ⟨_,rfl,hq⟩
  ·walk_at "dd"
   exact hq
  ·rw [Int.toNat_natCast,List.getElem?_map,List.getD_eq_getElem?_getD,List.getElem?_eq_getElem hl];rfl
  ·refine ⟨.sh (.int (i:Int)),.sh (.tuple [.int (p.u:Int),.int (p.v:Int),.int (p.len:Int),.int p.pr,p.g.d]),?_⟩
   unfold inc
   rw [List.map_set]
   rfl
 ·rintro U ⟨s1,s2,rfl⟩
  rw [List.length_mapIdx]
  refine hJ _ ?_
  clear hJ
  walk_at "dd"
  rw [List.map_replicate] at q
  exact ⟨_,rfl,q⟩
end
structure Le where
 t:Nat
 at_:Nat
 am:Int
def Le.d (l:Le):D:=.tuple [.int (l.t:Int),.int (l.at_:Int),.int l.am]
theorem ztu {kvs:List (List Key×D)} (h:AllI kvs) (k:List Key) (c:Int):AllI (putD kvs k (.int c)):=λ k' d e=>by
 rw [zsn] at e
 split at e
 ·cases e;exact ⟨c,rfl⟩
 ·exact h k' d e
theorem zbm (kvs:List (List Key×D)) (t:Int):∀ n,(arrK kvs t n).length<=kvs.length
|0=>Nat.le_refl _
|n+1=>Nat.le_trans (List.length_filter_le _ _) (zbm kvs t n)
def sL (L:List Le) (f:Le->Int):Int:=(L.map f).sum
theorem zni (f:Le->Int):sL [] f=0:=rfl
theorem zx2 (l:Le) (L:List Le) (f:Le->Int):sL (l :: L) f=f l+sL L f:=by unfold sL;simp
theorem zwa (L M:List Le) (f:Le->Int):sL (L++M) f=sL L f+sL M f:=by unfold sL;simp
theorem zmm {L:List Le} {f g:Le->Int} (h:∀ l∈L,f l=g l):sL L f=sL L g:=by
 unfold sL;rw [List.map_congr_left h]
theorem zbk {h:List Int} {v:Nat} (hv:v < h.length) (c:Int) (x:Nat):(inc h v c).getD x 0=h.getD x 0+if v=x then c else 0:=by
 unfold inc
 rw [List.getD_eq_getElem?_getD,List.getElem?_set]
 by_cases e:v=x
 ·subst e
  rw [if_pos rfl,if_pos hv,if_pos rfl];rfl
 ·rw [if_neg e,if_neg e,<- List.getD_eq_getElem?_getD];lia
def za9 (ps:List Pi) (i:Nat):Nat:=(ps[i]?).map Pi.v |>.getD 0
theorem zlm {ps:List Pi} {kvs:List (List Key×D)} {t:Int} {l:List Int} (hv:∀ i,i < ps.length->za9 ps i < l.length) (x:Nat):∀ n,n<=ps.length->(arrL ps kvs t n l).getD x 0=l.getD x 0+sm n λ i=>if za9 ps i=x then cm kvs t i else 0
|0,_=>by show l.getD x 0=l.getD x 0+0;lia
|n+1,h=>by
  show (inc (arrL ps kvs t n l) (za9 ps n) (cm kvs t n)).getD x 0=_
  rw [zbk (by rw [zea];exact hv n (by lia)),zlm hv x n (by lia),zoc];lia
theorem dbl {ps:List Pi} {c:Le->Prop} [DecidablePred c] {n x:Nat}:∀ {L:List Le},(∀ l∈L,l.at_ < n)->sm n (λ i=>if za9 ps i=x then sL L (λ l=>if l.at_=i/\c l then l.am else 0) else 0)=sL L λ l=>if c l/\za9 ps l.at_=x then l.am else 0
|[],_=>by
  rw [zni,zpe (h:=λ _=>0) λ k _=>by rw [zni];split <;> rfl]
  exact zeo n
|l :: r,h=>by
  have ih:=dbl (ps:=ps) (c:=c) (n:=n) (x:=x) (L:=r) λ l' hl'=>h l' (List.mem_cons_of_mem _ hl')
  have hl:=h l List.mem_cons_self
  rw [zx2,<- ih,<- zg21 (j:=l.at_) (if c l/\za9 ps l.at_=x then l.am else 0) hl,<- zh21]
  refine zpe λ k _=>?_
  rw [zx2]
  by_cases e:za9 ps k=x
  ·rw [if_pos e,if_pos e]
   by_cases z:k=l.at_
   ·subst z
    by_cases y:c l
    ·rw [if_pos ⟨rfl,y⟩,if_pos rfl,if_pos ⟨y,e⟩]
    ·rw [if_neg (λ q=>y q.2),if_pos rfl,if_neg (λ q=>y q.1)]
   ·rw [if_neg (λ q=>z q.1.symm),if_neg z]
  ·rw [if_neg e,if_neg e]
   by_cases z:k=l.at_
   ·subst z
    rw [if_pos rfl,if_neg (λ q=>e q.2)];lia
   ·rw [if_neg z];lia
theorem zol {a b:List Int} (hl:a.length=b.length) (h:∀ x,a.getD x 0=b.getD x 0):a=b:=by
 refine List.ext_getElem hl λ i h1 h2=>?_
 have:=h i
 rw [List.getD_eq_getElem?_getD,List.getD_eq_getElem?_getD,List.getElem?_eq_getElem h1,List.getElem?_eq_getElem h2] at this
 exact this
def pl (ps:List Pi) (i:Nat):Nat:=((ps[i]?).map Pi.len).getD 0
def zv8 (ps:List Pi) (i:Nat):Nat:=((ps[i]?).map Pi.u).getD 0
def zak (ps:List Pi) (i t:Nat):Int:=((ps[i]?).map λ p=>p.g.at t).getD 0
def byS (L:List Le) (t i:Nat):Int:=sL L λ l=>if l.t=t/\l.at_=i then l.am else 0
def cmS (ps:List Pi) (L:List Le) (t i:Nat):Int:=sL L λ l=>if l.at_=i/\l.t+pl ps l.at_=t then l.am else 0
theorem zls {L:List Le} {f:Le->Int} (h:∀ l∈L,f l=0):sL L f=0:=by
 induction L with
|nil=>rfl
|cons a r ih=>rw [zx2,h a List.mem_cons_self,ih λ l hl=>h l (List.mem_cons_of_mem _ hl)];rfl
theorem zp1 (h:List Int) (v:Nat) (c:Int) (hv:v < h.length) (x:Nat):(h.set v c).getD x 0=if v=x then c else h.getD x 0:=by
 rw [List.getD_eq_getElem?_getD,List.getElem?_set]
 by_cases e:v=x
 ·subst e;rw [if_pos rfl,if_pos hv,if_pos rfl];rfl
 ·rw [if_neg e,if_neg e,<- List.getD_eq_getElem?_getD]
theorem zjt {ps:List Pi} {m:Nat} (h:∀ p∈ps,p.v < m) {i:Nat} (hi:i < ps.length):za9 ps i < m:=by
 unfold za9
 rw [List.getElem?_eq_getElem hi]
 exact h _ (List.getElem_mem _)
theorem zwc1 {L:List Le} {f:Le->Int} (h:∀ l∈L,0<=f l):0<=sL L f:=by
 induction L with
|nil=>exact Int.le_refl _
|cons a r ih =>
  have h1:=h a List.mem_cons_self
  have h2:=ih λ l hl=>h l (List.mem_cons_of_mem _ hl)
  rw [zx2];lia
theorem zy11 (L:List Le) (f g:Le->Int):sL L f+sL L g=sL L λ l=>f l+g l:=by
 induction L with
|nil=>rfl
|cons a r ih=>rw [zx2,zx2,zx2,<- ih];lia
theorem zd81 {kvs:List (List Key×D)} (t t':Int) (i i':Nat) (c:Int):cm (putD kvs (kTI t i) (.int c)) t' i'=if t=t'/\i=i' then c else cm kvs t' i':=by
 unfold cm
 rw [zsn]
 by_cases e:t=t'/\i=i'
 ·obtain ⟨rfl,rfl⟩:=e
  rw [if_pos rfl,if_pos ⟨rfl,rfl⟩]
 ·rw [if_neg (λ z=>e (zrl z)),if_neg e]
theorem zqn (kvs:List (List Key×D)) (k:List Key) (d:D):(putD kvs k d).map (·.1)=kvs.map (·.1) \/ k ∉ kvs.map (·.1)/\(putD kvs k d).map (·.1)=kvs.map (·.1)++[k]:=by
 unfold putD
 by_cases h:(kvs.any λ kv=>decide (kv.1=k))=true
 ·left
  rw [if_pos h,List.map_map]
  refine List.map_congr_left λ kv _=>?_
  show (if kv.1=k then (kv.1,d) else kv).1=kv.1
  split <;> rfl
 ·right
  rw [if_neg h,List.map_append]
  refine ⟨λ z=>h ?_,rfl⟩
  obtain ⟨kv,h1,h2⟩:=List.mem_map.mp z
  exact List.any_eq_true.mpr ⟨kv,h1,by simpa using h2⟩
theorem zmq {kvs:List (List Key×D)} (h:(kvs.map (·.1)).Nodup) (k:List Key) (d:D):((putD kvs k d).map (·.1)).Nodup:=by
 rcases zqn kvs k d with e|⟨hk,e⟩
 ·rw [e];exact h
 ·rw [e]
  refine List.nodup_append.mpr ⟨h,by simp,λ a ha b hb=>?_⟩
  simp at hb
  subst hb
  rintro rfl
  exact hk ha
def kRow (kv:List Key×D):List Int:=match kv with
|([.inl a,.inl b],.int c)=>[a,b,c]
|_=>[0]
theorem zem:∀ {a b:List (List Int)},a.Perm b->a.Pairwise (λ x y=>lexB y x=false)->b.Pairwise (λ x y=>lexB y x=false)->a=b
|[],_,p,_,_=>p.nil_eq
|x :: r,[],p,_,_=>by simp at p
|x :: r,y :: t,p,ha,hb=>by
  have hx:x∈y :: t:=p.mem_iff.mp List.mem_cons_self
  have hy:y∈x :: r:=p.mem_iff.mpr List.mem_cons_self
  have e:x=y:=by
   rcases List.mem_cons.mp hx with h|h
   ·exact h
   ·rcases List.mem_cons.mp hy with h'|h'
    ·exact h'.symm
    ·exact znk ((List.pairwise_cons.mp hb).1 x h) ((List.pairwise_cons.mp ha).1 y h')
  subst e
  rw [zem (List.Perm.cons_inv p) (List.pairwise_cons.mp ha).2 (List.pairwise_cons.mp hb).2]
def zxv (ps:List Pi) (now:Nat) (h:List Int) (l:Le):List Int :=
 if l.t+pl ps l.at_<=now then inc (inc h (zv8 ps l.at_) (-l.am)) (za9 ps l.at_) l.am else inc h (zv8 ps l.at_) (-l.am)
def hold (ps:List Pi) (now:Nat):List Le->List Int->List Int
|[],h=>h
|l :: r,h=>hold ps now r (zxv ps now h l)
theorem zvj (ps:List Pi) (now:Nat):∀ (L:List Le) (l:Le) (h:List Int),hold ps now (L++[l]) h=zxv ps now (hold ps now L h) l
|[],_,_=>rfl
|_ :: r,l,h=>zvj ps now r l _
theorem zpj (ps:List Pi) (now:Nat) (h:List Int) (l:Le):(zxv ps now h l).length=h.length:=by
 unfold zxv
 split
 ·rw [zcg,zcg]
 ·rw [zcg]
theorem zj1 (ps:List Pi) (now:Nat):∀ (L:List Le) (h:List Int),(hold ps now L h).length=h.length
|[],_=>rfl
|l :: r,h=>by
  show (hold ps now r _).length=_
  rw [zj1 ps now r,zpj]
section
variable {ps:List Pi} {m:Nat}
theorem zyt (h:∀ p∈ps,p.u < m/\p.v < m/\1<=p.len) {i:Nat} (hi:i < ps.length):zv8 ps i < m:=by
 unfold zv8
 rw [List.getElem?_eq_getElem hi]
 exact (h _ (List.getElem_mem _)).1
theorem zvd {now:Nat} (hp:∀ p∈ps,p.u < m/\p.v < m/\1<=p.len) (x:Nat):∀ (L:List Le) (h:List Int),h.length=m->(∀ l∈L,l.at_ < ps.length)->(hold ps now L h).getD x 0=h.getD x 0+sL L λ l=>(if zv8 ps l.at_=x then -l.am else 0)+if l.t+pl ps l.at_<=now/\za9 ps l.at_=x then l.am else 0
|[],h,_,_=>by show h.getD x 0=h.getD x 0+0;lia
|l :: r,h,hm,hl=>by
  have a1:=hl l List.mem_cons_self
  have hs:=zyt hp a1
  have hg:=zjt (λ p q=>(hp p q).2.1) a1
  have ih:=zvd (now:=now) hp x r (zxv ps now h l) (by rw [zpj];exact hm) λ x hx=>hl x (List.mem_cons_of_mem _ hx)
  show (hold ps now r _).getD x 0=_
  rw [ih,zx2]
  unfold zxv
  by_cases e:l.t+pl ps l.at_<=now
  ·rw [if_pos e,zbk (by rw [zcg];lia),zbk (by lia)]
   have:(if l.t+pl ps l.at_<=now/\za9 ps l.at_=x then l.am else 0)=if za9 ps l.at_=x then l.am else 0:=by
    by_cases z:za9 ps l.at_=x <;> simp [e,z]
   rw [this];lia
  ·have:(if l.t+pl ps l.at_<=now/\za9 ps l.at_=x then l.am else 0)=0:=if_neg λ y=>e y.1
   rw [if_neg e,zbk (by lia),this];lia
structure Pl (fills:List Int) (ps:List Pi) (now:Nat) (L:List Le) (yy ee:List Int) (kvs:List (List Key×D)):Prop where
 la:∀ l∈L,l.at_ < ps.length/\1<=l.am/\l.t<=now
 ly:yy=hold ps now L fills
 nn:∀ x∈yy,0<=x
 el:ee.length=ps.length
 en:∀ i,i < ps.length->ee.getD i 0=byS L now i
 cap:∀ i,i < ps.length->byS L now i<=zak ps i now
 ai:AllI kvs
 nd:(kvs.map (·.1)).Nodup
 ks:∀ k∈kvs.map (·.1),∃ l∈L,k=kTI ((l.t+pl ps l.at_:Nat):Int) l.at_/\now < l.t+pl ps l.at_
 cs:∀ t i,now < t->i < ps.length->cm kvs (t:Nat) i=cmS ps L t i
 kl:kvs.length<=L.length
theorem zok {L:List Le} {now:Nat} (h:∀ l∈L,l.t<=now) (i:Nat):byS L (now+1) i=0:=zls λ l hl=>by
 rw [if_neg (λ y=>by have:=h l hl;lia)]
theorem zun {kvs:List (List Key×D)} {t:Int} {kv:List Key×D}:∀ {n:Nat},kv∈arrK kvs t n->kv∈kvs/\∀ j,j < n->kv.1≠kTI t j
|0,h=>⟨h,λ j hj=>absurd hj (by lia)⟩
|n+1,h=>by
  obtain ⟨h1,h2⟩:=List.mem_filter.mp h
  obtain ⟨h3,h4⟩:=zun h1
  refine ⟨h3,λ j hj=>?_⟩
  by_cases e:j=n
  ·subst e;simpa using h2
  ·exact h4 j (by lia)
theorem zao (kvs:List (List Key×D)) (t:Int):∀ n,(arrK kvs t n).Sublist kvs
|0=>List.Sublist.refl _
|n+1=>List.Sublist.trans List.filter_sublist (zao kvs t n)
variable {fills:List Int} {now:Nat} {L:List Le} {ly en:List Int} {kvs:List (List Key×D)}
theorem Pl.init (h:∀ x∈fills,0<=x) (hw:∀ p∈ps,∀ t,0<=p.g.at t):Pl fills ps 0 [] fills (List.replicate ps.length 0) [] where
 la:=λ l hl=>by simp at hl
 ly:=rfl
 nn:=h
 el:=by simp
 en:=λ i hi=>by rw [List.getD_eq_getElem?_getD,List.getElem?_replicate,if_pos hi];rfl
 cap:=λ i hi=>by
  show 0<=zak ps i 0
  unfold zak
  rw [List.getElem?_eq_getElem hi]
  exact hw _ (List.getElem_mem _) 0
 ai:=λ k d e=>by simp [getA] at e
 nd:=by simp
 ks:=λ k hk=>by simp at hk
 cs:=λ t i _ _=>rfl
 kl:=by simp
theorem Pl.go (P:Pl fills ps now L ly en kvs) (hp:∀ p∈ps,p.u < fills.length/\p.v < fills.length/\1<=p.len) (hw:∀ p∈ps,∀ t,0<=p.g.at t) :
  Pl fills ps (now+1) L (arrL ps kvs ((now+1:Nat):Int) ps.length ly) (List.replicate ps.length 0) (arrK kvs ((now+1:Nat):Int) ps.length):=by
 have hl:∀ l∈L,l.at_ < ps.length:=λ l hl=>(P.la l hl).1
 have e1:ly.length=fills.length:=by rw [P.ly,zj1]
 have hv:∀ i,i < ps.length->za9 ps i < ly.length:=λ i hi=>by rw [e1];exact zjt (λ p q=>(hp p q).2.1) hi
 have get:∀ x,(arrL ps kvs ((now+1:Nat):Int) ps.length ly).getD x 0=ly.getD x 0+sL L λ l=>if l.t+pl ps l.at_=now+1/\za9 ps l.at_=x then l.am else 0:=λ x=>by
  rw [zlm hv x ps.length (Nat.le_refl _)]
  congr 1
  rw [zpe (h:=λ i=>if za9 ps i=x then sL L (λ l=>if l.at_=i/\l.t+pl ps l.at_=now+1 then l.am else 0) else 0) λ i hi=>by rw [P.cs (now+1) i (by lia) hi];rfl]
  exact dbl (c:=λ l=>l.t+pl ps l.at_=now+1) hl
 refine ⟨λ l q=>⟨(P.la l q).1,(P.la l q).2.1,by have:=(P.la l q).2.2;lia⟩,?_,λ x hx=>?_,by simp,λ i hi=>?_,λ i hi=>?_,zb9 P.ai _ _,?_,λ k hk=>?_,λ t i ht hi=>?_,Nat.le_trans (zbm _ _ _) P.kl⟩
 ·refine zol (by rw [zea,e1,zj1]) λ x=>?_
  rw [get,P.ly,zvd hp x L fills rfl hl,zvd hp x L fills rfl hl,Int.add_assoc,zy11]
  congr 1
  refine zmm λ l _=>?_
  rw [Int.add_assoc]
  congr 1
  by_cases z:za9 ps l.at_=x
  ·by_cases y:l.t+pl ps l.at_<=now
   ·rw [if_pos ⟨y,z⟩,if_neg (λ q=>by have:=q.1;lia),if_pos ⟨by lia,z⟩];lia
   ·by_cases y2:l.t+pl ps l.at_=now+1
    ·rw [if_neg (λ q=>y q.1),if_pos ⟨y2,z⟩,if_pos ⟨by lia,z⟩];lia
    ·rw [if_neg (λ q=>y q.1),if_neg (λ q=>y2 q.1),if_neg (λ q=>by have:=q.1;lia)];lia
  ·rw [if_neg (λ q=>z q.2),if_neg (λ q=>z q.2),if_neg (λ q=>z q.2)];lia
 ·obtain ⟨i,hi⟩:=List.mem_iff_getElem?.mp hx
  have h1:=get i
  rw [List.getD_eq_getElem?_getD,hi] at h1
  have h2:0<=ly.getD i 0:=by
   rw [List.getD_eq_getElem?_getD]
   cases e:ly[i]? with
  |none=>exact Int.le_refl _
  |some y=>exact P.nn y (List.mem_of_getElem? e)
  have h3:0<=sL L λ l=>if l.t+pl ps l.at_=now+1/\za9 ps l.at_=i then l.am else 0:=zwc1 λ l q=>by
   have:=(P.la l q).2.1
   split <;> lia
  have h1:x=_:=h1
  lia
 ·rw [List.getD_eq_getElem?_getD,List.getElem?_replicate,if_pos hi,zok λ l q=>(P.la l q).2.2];rfl
 ·rw [zok λ l q=>(P.la l q).2.2]
  unfold zak
  rw [List.getElem?_eq_getElem hi]
  exact hw _ (List.getElem_mem _) _
 ·exact List.Sublist.nodup (List.Sublist.map _ (zao kvs _ _)) P.nd
 ·obtain ⟨kv,h1,rfl⟩:=List.mem_map.mp hk
  obtain ⟨h2,h3⟩:=zun h1
  obtain ⟨l,hl1,e,hl2⟩:=P.ks _ (List.mem_map.mpr ⟨kv,h2,rfl⟩)
  refine ⟨l,hl1,e,?_⟩
  have h4:=h3 l.at_ (hl l hl1)
  rw [e] at h4
  have:l.t+pl ps l.at_≠now+1:=λ z=>h4 (by rw [z])
  lia
 ·rw [<- P.cs t i (by lia) hi]
  unfold cm
  rw [zve,if_neg (λ z=>by have:=z.1;lia)]
theorem Pl.let_ (P:Pl fills ps now L ly en kvs) (hp:∀ p∈ps,p.u < fills.length/\p.v < fills.length/\1<=p.len) {k:Nat} {p:Pi} {am:Int} (hk:ps[k]?=some p) (a1:1<=am) (a2:am<=zak ps k now - byS L now k) (a3:am<=ly.getD p.u 0) :
  Pl fills ps now (L++[⟨now,k,am⟩]) (ly.set p.u (ly.getD p.u 0 - am)) (en.set k (en.getD k 0+am)) (putD kvs (kTI ((now:Int)+(p.len:Int)) k) (.int (cm kvs ((now:Int)+(p.len:Int)) k+am))):=by
 have hkl:=(List.getElem?_eq_some_iff.mp hk).1
 have epl:pl ps k=p.len:=by unfold pl;rw [hk];rfl
 have est:zv8 ps k=p.u:=by unfold zv8;rw [hk];rfl
 have hpp:=hp p (List.mem_of_getElem? hk)
 have e1:ly.length=fills.length:=by rw [P.ly,zj1]
 have eb:∀ i,byS (L++[⟨now,k,am⟩]) now i=byS L now i+if k=i then am else 0:=λ i=>by
  unfold byS
  rw [zwa,zx2,zni]
  by_cases z:k=i
  ·rw [if_pos z,if_pos ⟨rfl,z⟩]
   show _+(am+0)=_
   lia
  ·rw [if_neg z,if_neg (λ y=>z y.2)];lia
 refine ⟨λ l hl=>?_,?_,λ x hx=>?_,by rw [List.length_set];exact P.el,λ i hi=>?_,λ i hi=>?_,ztu P.ai _ _,zmq P.nd _ _,λ q hq=>?_,λ t i ht hi=>?_,?_⟩
 ·rcases List.mem_append.mp hl with z|z
  ·exact P.la l z
  ·simp at z;subst z;exact ⟨hkl,a1,Nat.le_refl _⟩
 ·rw [zvj,<- P.ly]
  unfold zxv
  rw [if_neg (by show ¬ now+pl ps k<=now;lia)]
  show _=inc ly (zv8 ps k) (-am)
  rw [est]
  rfl
 ·rcases List.mem_or_eq_of_mem_set hx with z|z
  ·exact P.nn x z
  ·lia
 ·rw [zp1 _ _ _ (by rw [P.el];exact hkl),eb]
  by_cases z:k=i
  ·subst z;rw [if_pos rfl,if_pos rfl,P.en k hkl]
  ·rw [if_neg z,if_neg z,P.en i hi];lia
 ·rw [eb]
  by_cases z:k=i
  ·subst z;rw [if_pos rfl];lia
  ·rw [if_neg z];have:=P.cap i hi;lia
 ·rcases zqn kvs (kTI ((now:Int)+(p.len:Int)) k) (.int (cm kvs ((now:Int)+(p.len:Int)) k+am)) with e|⟨_,e⟩
  ·rw [e] at hq
   obtain ⟨l,h1,h2⟩:=P.ks q hq
   exact ⟨l,List.mem_append_left _ h1,h2⟩
  ·rw [e] at hq
   rcases List.mem_append.mp hq with z|z
   ·obtain ⟨l,h1,h2⟩:=P.ks q z
    exact ⟨l,List.mem_append_left _ h1,h2⟩
   ·simp at z
    refine ⟨⟨now,k,am⟩,by simp,?_,?_⟩
    ·rw [z]
     show _=kTI ((now+pl ps k:Nat):Int) k
     rw [epl]
     congr 1
    ·show now < now+pl ps k
     lia
 ·have:cmS ps (L++[⟨now,k,am⟩]) t i=cmS ps L t i+if k=i/\now+p.len=t then am else 0:=by
   unfold cmS
   rw [zwa,zx2,zni]
   show _+((if k=i/\now+pl ps k=t then am else 0)+0)=_
   rw [epl];lia
  rw [this,zd81,<- P.cs t i ht hi]
  by_cases z:k=i/\now+p.len=t
  ·obtain ⟨rfl,rfl⟩:=z
   rw [if_pos ⟨by lia,rfl⟩,if_pos ⟨rfl,rfl⟩,show (now:Int)+(p.len:Int)=((now+p.len:Nat):Int) by lia]
  ·rw [if_neg (λ y=>z ⟨y.2,by have:=y.1;lia⟩),if_neg z];lia
 ·have h1:=zky kvs (kTI ((now:Int)+(p.len:Int)) k) (.int (cm kvs ((now:Int)+(p.len:Int)) k+am))
  have h2:=P.kl
  rw [List.length_append]
  show _<=L.length+1
  lia
end
def zr9 (C C1 C2 C3:Addr):DSpT:=λ as Q=>∃ (rooms lying:List Int) (ps:List Pi) (m:Nat) (en:List Int) (kvs:List (List Key×D)),as=[.b (pS C C1 C2 C3 rooms lying ps m en kvs)]/\Q (.fz (.int (m:Int))) (.fz .none)
def zq1 (C C1 C2 C3:Addr):DSpT:=λ as Q=>∃ (rooms lying:List Int) (ps:List Pi) (m:Nat) (en:List Int) (kvs:List (List Key×D)),as=[.b (pS C C1 C2 C3 rooms lying ps m en kvs)]/\kvs.length < 64/\(∀ kv∈kvs,kv.1.length=2)/\plD kvs=(kvs.map kRow).map rowD /\
 ∀ W:List (List Int),W.Perm (kvs.map kRow)->W.Pairwise (λ a b=>lexB b a=false)->Q (.fz (.list (W.map rowD))) (.fz .none)
theorem zts (kv:List Key×D):kRow kv≠[]:=by
 unfold kRow
 split <;> simp
section
variable {P:Program} {w:World} {K:Fg} {mg:Str->Option Value} {base:Heap} {jB jD jC jA:Addr}
theorem zkc:FnScope ["self"] ["self"] (zf0 zsa):=by walk_at "sc"
theorem zwk (jE:Cls K jA) (T:TopMeth K jA "now" "Play.now" zsa) (jG:NoAttr K jA "moment"):zh5 P w K mg base jA "now" 1 ["self"] (spT K (zr9 jA jB jD jC)):=by
 refine zq5 jE T zkc (λ _ _ _ _ _ _ us hl=>by obtain ⟨_,rfl⟩:=ar1 hl;rfl) (zfe λ as Qd h=>by obtain ⟨_,_,_,_,_,_,rfl,_⟩:=h;rfl) (zm3 ?_)
 intro f cdv A outer s H E hr
 have nd:=zkc.nd
 refine ⟨_,_,(zk0 (zz0 (zt0 (K:=K) rfl (pv 0) rfl))),(zc1 (RfE.c (RfP.e (zb1 jE jG (zl0 0))))),?_⟩
 rintro as Qd a ⟨rooms,lying,ps,m,en,kvs,rfl,q⟩
 unfold pS
 walk_at "ds"
 walk_at "dd"
 exact q
theorem zw3:FnScope ["self"] ["self"] (zf0 zo1):=by walk_at "sc"
theorem zj8 (jE:Cls K jA) (T:TopMeth K jA "under_way" "Play.under_way" zo1) (qJ:mg "sorted"=none) (jL:NoAttr K jA "coming"):zh5 P w K mg base jA "under_way" 1 ["self"] (spT K (zq1 jA jB jD jC)):=by
 refine zq5 jE T zw3 (λ _ _ _ _ _ _ us hl=>by obtain ⟨_,rfl⟩:=ar1 hl;rfl) (zfe λ as Qd h=>by obtain ⟨_,_,_,_,_,_,rfl,_⟩:=h;rfl) (zm3 ?_)
 intro f cdv A outer s H E hr
 have nd:=zw3.nd
 refine ⟨_,_,(zk0 (zz0 (zu0 (zof (K:=K) rfl) rfl qJ zej (za0 (zoz (zt6 (sc:=zf0 zo1) (N:=["self"]) (own:=["place", "amount"]) (ix:=[]) rfl rfl rfl (by walk_at "csc") (zmu (zt0 (K:=K) rfl (pv 0) rfl)) (λ _ _ _ _=>⟨(zck (K:=K) (n:=2) rfl rfl (zt4 (pgn 0 (nds ["place", "amount"])) (zt4 (pgn 1 (nds ["place", "amount"])) zlk))),zl5,(zw0 (zs0 (K:=K) rfl) (pv 0) (zh2 (za0 (pv 1) zh0)))⟩))) zh0)))),(zc1 (RfE.c (RfF.e (zyr zas (zy0 (RfE.v (RfF.e (zup (zb1 jE jL (zl0 0))))) zn2))))),?_⟩
 rintro as Qd a ⟨rooms,lying,ps,m,en,kvs,rfl,hk,hk2,hk3,q⟩
 unfold pS
 walk_at "ds"
 walk_at "dd"
 refine ⟨by lia,λ kv hkv=>?_,_,hk3,λ r hr=>?_,by rw [List.length_map];exact hk,q⟩
 ·have:=hk2 kv hkv
  exact ⟨λ z=>by rw [z] at this;simp at this,by lia⟩
 ·obtain ⟨kv,_,rfl⟩:=List.mem_map.mp hr
  exact zts kv
end
abbrev Ways:=List (Nat×Int)
def putW (W:Ways) (j:Nat) (c:Int):Ways:=if (W.any λ x=>decide (x.1=j))=true then W.map (λ x=>if x.1=j then (x.1,c) else x) else W++[(j,c)]
def getW (W:Ways) (j:Nat):Int:=((W.find? λ x=>decide (x.1=j)).map (·.2)).getD 0
def encW {κ:Type} (g:Nat->κ) (W:Ways):List (κ×D):=W.map λ x=>(g x.1,.int x.2)
theorem zaz {κ:Type} [DecidableEq κ] {g:Nat->κ} (hg:∀ a b,g a=g b->a=b) (W:Ways) (j:Nat) (c:Int):putD (encW g W) (g j) (.int c)=encW g (putW W j c):=by
 have e:∀ a,decide (g a=g j)=decide (a=j):=λ a=>decide_eq_decide.mpr ⟨hg a j,λ z=>by rw [z]⟩
 unfold putD putW encW
 rw [List.any_map]
 have e2:((λ kv:κ×D=>decide (kv.1=g j)) ∘ λ x:Nat×Int=>(g x.1,PyData.int x.2))=λ x=>decide (x.1=j):=by
  funext x;exact e x.1
 rw [e2]
 split
 ·rw [List.map_map,List.map_map]
  refine List.map_congr_left λ x _=>?_
  show (if g x.1=g j then (g x.1,PyData.int c) else (g x.1,PyData.int x.2))=_
  by_cases z:x.1=j
  ·rw [if_pos (by rw [z])]
   show _=((λ x:Nat×Int=>(g x.1,PyData.int x.2)) (if x.1=j then (x.1,c) else x))
   rw [if_pos z]
  ·rw [if_neg (λ y=>z (hg _ _ y))]
   show _=((λ x:Nat×Int=>(g x.1,PyData.int x.2)) (if x.1=j then (x.1,c) else x))
   rw [if_neg z]
 ·rw [List.map_append];rfl
theorem zwr {κ:Type} [DecidableEq κ] {g:Nat->κ} (hg:∀ a b,g a=g b->a=b) (j:Nat):∀ W:Ways,(getA (encW g W) (g j)).getD (.int 0)=.int (getW W j)
|[]=>rfl
|(a,c) :: r=>by
  have ih:=zwr hg j r
  show (getA ((g a,PyData.int c) :: encW g r) (g j)).getD (.int 0)=_
  rw [zr1]
  by_cases z:a=j
  ·subst z
   rw [if_pos rfl]
   unfold getW
   rw [List.find?_cons_of_pos (by simp)];rfl
  ·rw [if_neg (λ y=>z (hg _ _ y)),ih]
   unfold getW
   rw [List.find?_cons_of_neg (by simpa using z)]
def gP (ps:List Pi) (now:Nat) (j:Nat):List Key:=kTI ((now:Int)+(pl ps j:Int)) j
theorem zv11 {ps:List Pi} {now:Nat} (a b:Nat) (h:gP ps now a=gP ps now b):a=b:=(zrl h).2
theorem zuh {ps:List Pi} {now:Nat}:∀ W:Ways,AllI (encW (gP ps now) W)
|[]=>λ k d e=>by simp [encW,getA] at e
|(a,c) :: r=>λ k d e=>by
  have e:getA ((gP ps now a,PyData.int c) :: encW (gP ps now) r) k=some d:=e
  rw [zr1] at e
  split at e
  ·cases e;exact ⟨c,rfl⟩
  ·exact zuh r k d e
theorem za81 {ps:List Pi} {now:Nat} (W:Ways) (j:Nat):cm (encW (gP ps now) W) ((now:Int)+(pl ps j:Int)) j=getW W j:=by
 have h1:=zpp (zuh (ps:=ps) (now:=now) W) ((now:Int)+(pl ps j:Int)) j
 have h2:=zwr (g:=gP ps now) zv11 j W
 have h3:gP ps now j=kTI ((now:Int)+(pl ps j:Int)) j:=rfl
 rw [h3,h1] at h2
 injection h2
def rowW (ps:List Pi) (now:Nat) (x:Nat×Int):List Int:=[(now:Int)+(pl ps x.1:Int),(x.1:Int),x.2]
theorem zjn {ps:List Pi} {now:Nat} (W:Ways):(encW (gP ps now) W).map kRow=W.map (rowW ps now):=by
 unfold encW
 rw [List.map_map];rfl
theorem zay {ps:List Pi} {now:Nat} (W:Ways):plD (encW (gP ps now) W)=((encW (gP ps now) W).map kRow).map rowD:=by
 rw [zjn,List.map_map]
 unfold plD encW
 rw [List.map_map];rfl
theorem zau {W:Ways} {b:Nat} (h:b ∉ W.map (·.1)) (c:Int):putW W b c=W++[(b,c)]:=by
 unfold putW
 rw [if_neg]
 intro z
 obtain ⟨x,hx,e⟩:=List.any_eq_true.mp z
 exact h (List.mem_map.mpr ⟨x,hx,of_decide_eq_true e⟩)
theorem zbu {W:Ways} {b:Nat} (h:b ∉ W.map (·.1)) (s c:Int):putW (W++[(b,s)]) b c=W++[(b,c)]:=by
 unfold putW
 rw [if_pos (by simp),List.map_append]
 congr 1
 ·have e:W.map (λ x=>if x.1=b then (x.1,c) else x)=W.map id:=List.map_congr_left λ x hx=>if_neg λ e=>h (List.mem_map.mpr ⟨x,hx,e⟩)
  rw [e,List.map_id]
 ·simp
theorem zcw {W:Ways} {b:Nat} (h:b ∉ W.map (·.1)):getW W b=0:=by
 unfold getW
 rw [List.find?_eq_none.mpr]
 ·rfl
 ·intro x hx e
  exact h (List.mem_map.mpr ⟨x,hx,of_decide_eq_true e⟩)
theorem zpu {W:Ways} {b:Nat} (h:b ∉ W.map (·.1)) (s:Int):getW (W++[(b,s)]) b=s:=by
 unfold getW
 rw [List.find?_append,List.find?_eq_none.mpr]
 ·simp
 ·intro x hx e
  exact h (List.mem_map.mpr ⟨x,hx,of_decide_eq_true e⟩)
def wayW (W:Ways) (b:Nat) (s:Int):Ways:=if s=0 then W else W++[(b,s)]
theorem zrw {W:Ways} {b:Nat} (h:b ∉ W.map (·.1)) (s:Int):getW (wayW W b s) b=s:=by
 unfold wayW
 split
 ·rename_i z;rw [zcw h,z]
 ·exact zpu h s
theorem zwu {W:Ways} {b:Nat} (h:b ∉ W.map (·.1)) (s:Int) {c:Int} (hc:c≠0):putW (wayW W b s) b c=wayW W b c:=by
 unfold wayW
 rw [if_neg hc]
 split
 ·exact zau h c
 ·exact zbu h s c
theorem zso (W:Ways) (b:Nat) (s:Int):(wayW W b s).length<=W.length+1:=by unfold wayW;split <;> simp
def zp4:DSp:=λ ds Q=>∃ (ns:List Int) (k:Nat),ds=[.list (ns.map .int),.int (k:Int)]/\k<=1000/\∀ m:Int,0<=m->m < 999999000001->Q (.int m)
def zga:DSp:=λ ds Q=>∃ (n r:Int),ds=[.int n,.int r]/\0<=n/\n < 999999000001/\0<=r/\r<=1000000000000/\∀ f:Int,0<=f->f<=r->Q (.int f)
def zl2:DSp:=λ ds Q=>∃ i:Int,ds=[.int i,.int i]/\Q (.bool true)
def zs9:DSp:=λ ds Q=>∃ xs:List Int,ds=[.list (xs.map .int),.list (xs.map .int)]/\xs.length<=1000/\Q (.bool true)
structure Sp (n:Nat) (f:Nat->Nat):Prop where
 bd:∀ i,i < n->f i < n
 inj:∀ i j,i < n->j < n->f i=f j->i=j
def dSp (n:Nat) (f:Nat->Nat):List D:=(List.range n).map λ i=>.int ((f i:Nat):Int)
def zuc:DSp:=λ ds Q=>∃ (ns:List Int) (n:Nat),ds=[.list (ns.map .int),.int (n:Int)]/\4<=n/\n<=12/\∀ f,Sp n f->Q (.list (dSp n f))
def swp (f:Nat->Nat) (k a:Nat):Nat->Nat:=λ i=>if i=a then f k else if i=k then f a else f i
theorem Sp.swp {n:Nat} {f:Nat->Nat} (h:Sp n f) {k a:Nat} (hk:k < n) (ha:a < n):Sp n (swp f k a):=by
 have key:∀ i,i < n->∃ j,j < n/\K15.swp f k a i=f j/\(i=a->j=k)/\(i≠a->i=k->j=a)/\(i≠a->i≠k->j=i):=λ i hi=>by
  unfold K15.swp
  by_cases z:i=a
  ·exact ⟨k,hk,by rw [if_pos z],λ _=>rfl,λ y=>absurd z y,λ y=>absurd z y⟩
  ·by_cases y:i=k
   ·exact ⟨a,ha,by rw [if_neg z,if_pos y],λ x=>absurd x z,λ _ _=>rfl,λ _ x=>absurd y x⟩
   ·exact ⟨i,hi,by rw [if_neg z,if_neg y],λ x=>absurd x z,λ _ x=>absurd x y,λ _ _=>rfl⟩
 refine ⟨λ i hi=>?_,λ i j hi hj e=>?_⟩
 ·obtain ⟨x,hx,ex,_⟩:=key i hi
  rw [ex];exact h.bd x hx
 ·obtain ⟨x,hx,ex,x1,x2,x3⟩:=key i hi
  obtain ⟨y,hy,ey,y1,y2,y3⟩:=key j hj
  rw [ex,ey] at e
  have e:=h.inj x y hx hy e
  by_cases i1:i=a <;> by_cases j1:j=a <;> by_cases i2:i=k <;> by_cases j2:j=k <;> simp_all
theorem zlv {α:Type} {n u:Nat} {g:Nat->α} {x:α}:((List.range n).map g).set u x=(List.range n).map λ v=>if v=u then x else g v:=by
 apply List.ext_getElem?
 intro j
 rw [List.getElem?_set,List.getElem?_map,List.getElem?_map,List.length_map,List.length_range]
 by_cases h:j < n
 ·rw [List.getElem?_range h]
  by_cases z:u=j
  ·subst z;simp [h]
  ·simp [z]
   exact λ y=>absurd y.symm z
 ·rw [List.getElem?_eq_none (by simpa using h)]
  by_cases z:u=j
  ·subst z;simp [h]
  ·simp [z]
theorem zt11 (n:Nat) (f:Nat->Nat) (k a:Nat):((dSp n f).set k (.int ((f a:Nat):Int))).set a (.int ((f k:Nat):Int))=dSp n (swp f k a):=by
 unfold dSp
 rw [zlv,zlv]
 refine List.map_congr_left λ v _=>?_
 unfold swp
 by_cases z:v=a
 ·rw [if_pos z,if_pos z]
 ·by_cases y:v=k
  ·rw [if_neg z,if_pos y,if_neg z,if_pos y]
  ·rw [if_neg z,if_neg y,if_neg z,if_neg y]
theorem zu6 {n:Nat} {f:Nat->Nat} {k:Nat} (h:k < n):atI (dSp n f) ((k:Nat):Int)=some (.int ((f k:Nat):Int)):=by
 unfold dSp
 exact zf5 (by lia) (by rw [Int.toNat_natCast,List.getElem?_map,List.getElem?_range h];rfl)
theorem ztr (c:Int) {n:Nat} (h:0 < n):∃ u:Nat,c % (n:Int)=(u:Int)/\u < n:=by
 refine ⟨(c % (n:Int)).toNat,?_,?_⟩
 ·have:=Int.emod_nonneg c (b:=(n:Int)) (by lia);lia
 ·have:=Int.emod_lt_of_pos c (b:=(n:Int)) (by lia);lia
theorem pick_map' {α β:Type} (f:α->β) (xs:List α) (lo hi st:Option Int):zjl (xs.map f) lo hi st=(zjl xs lo hi st).map f:=by
 unfold zjl
 rw [List.length_map,List.map_filterMap]
 congr 1
 funext j
 rw [List.getElem?_map]
section
variable {P:Program} {w:World} {K:Fg} {mg:Str->Option Value} {base:Heap}
theorem zia:FnScope ["script", "k", "step", "found", "cell"] ["script", "k"] (zf0 zm7):=by walk_at "sc"
theorem zei (M:Md K mg) (T:TopDef K "_law_draw" zm7) (kF:mg "len"=none):Def P w K mg base "_law_draw" 1 ["script", "k"] (spD K zp4):=by
 refine zb7 M T zia (λ _ _ _ _ _ _ us hl=>by obtain ⟨_,_,rfl⟩:=ar2 hl;rfl) (zhu λ ds Qd h=>by obtain ⟨_,_,rfl,_⟩:=h;rfl) (zxi ?_)
 intro f cdv A outer s H E hr
 have nd:=zia.nd
 refine ⟨_,_,(zd0 (pset 2 nd (zw0 (zs0 (K:=K) rfl) zg0 (zw0 zu9 (zu0 (zb2 (K:=K) rfl) rfl kF zac (za0 (pv 0) zh0)) zg0)))
   (zd0 (pset 3 nd (zw0 (zs0 (K:=K) rfl) (zw0 zj3 zg0 (pv 1)) zg0))
   (zd0 (zub PassesOwn.never rfl (pi_W (K:=K) rfl (zdr (K:=K) rfl (pv 0) (zqd (zw0 zc4 (pv 1) (pv 2))) zvm (zqd (pv 2)))) (pgn 4 nd) (zk0 (pset 3 nd (zw0 zc4 (zw0 (zs0 (K:=K) rfl) (zw0 zj3 (pv 3) (zw0 (zs0 (K:=K) rfl) (zw0 zj3 zg0 (pv 1)) zg0)) (pv 4)) zg0))))
   (zk0 (zz0 (zw0 zc4 (zw0 zj3 (pv 3) (zw0 (zs0 (K:=K) rfl) (zw0 (zs0 (K:=K) rfl) (zw0 zc4 (zw0 zu9 (pv 3) zg0) zg0) (zw0 zj3 zg0 (pv 1))) zg0)) zg0)))))),(zn0 (ze1 (zo0 za4 rvi (RfE.v (zo0 zl11 (RfE.v (zkl zap (zy0 (zb0 0) zn2))) rvi))) (rgn 2))
   (zn0 (ze1 (zo0 za4 (RfE.v (zo0 zuq rvi (zb0 1))) rvi) (rgn 3))
   (zn0 (zec (zl91 (RfF.e (zl51 (zb0 0) (zrj (zo0 zcf (zb0 1) (zb0 2))) zvl (zrj (zm0 2))))) (rgn 4) (ze1 (zo0 zcf (RfE.v (zo0 za4 (RfE.v (zo0 zuq (zb0 3) (RfE.v (zo0 za4 (RfE.v (zo0 zuq rvi (zb0 1))) rvi)))) (zb0 4))) rvi) (rgn 3)))
   (zc1 (RfE.c (zo0 zcf (RfE.v (zo0 zuq (zb0 3) (RfE.v (zo0 za4 (RfE.v (zo0 za4 (RfE.v (zo0 zcf (RfE.v (zo0 zl11 (zb0 3) rvi)) rvi)) (RfE.v (zo0 zuq rvi (zb0 1))))) rvi)))) rvi)))))),?_⟩
 rintro ds Qd ⟨ns,k,rfl,hk,q⟩
 walk_at "ds"
 walk_at "dn"
 refine ze0 λ J hJ=>?_
 walk_at "dd"
 refine ⟨.inl ⟨by decide,by decide⟩,hJ _ ?_⟩
 clear hJ
 refine ze0 λ J hJ=>?_
 walk_at "dd"
 rw [pick_map',List.length_map]
 have hst:0 < 1+(ns.length:Int) / 8:=by lia
 generalize 1+(ns.length:Int) / 8=st at hst ⊢
 refine ⟨by lia,by intro z;cases z;lia,?_⟩
 refine zb6 (λ _ U=>∃ (f:Int) (s4:Sl),0<=f/\f < 999999000001/\U=[.sh (.list (ns.map .int)),.sh (.int (k:Int)),.sh (.int st),.sh (.int f),s4]) ⟨31 * (k:Int)+5,.un,by lia,by lia,rfl⟩ ?_ ?_
 ·rintro i x U hx ⟨f,s4,f0,f1,rfl⟩
  walk_at "dd"
  exact ⟨.inl ⟨by decide,by decide⟩,.inl ⟨by lia,by lia⟩,_,_,Int.emod_nonneg _ (by decide),Int.emod_lt_of_pos _ (by decide),rfl⟩
 ·rintro U ⟨f,s4,f0,f1,rfl⟩
  refine hJ _ ?_
  clear hJ
  walk_at "dd"
  exact ⟨.inl ⟨by decide,by decide⟩,.inl ⟨by lia,by lia⟩,q _ (Int.emod_nonneg _ (by decide)) (Int.emod_lt_of_pos _ (by decide))⟩
theorem zca:FnScope ["number", "most"] ["number", "most"] (zf0 zv7):=by walk_at "sc"
theorem zcj (M:Md K mg) (T:TopDef K "_law_part" zv7) (vI:mg "min"=none):Def P w K mg base "_law_part" 1 ["number", "most"] (spD K zga):=by
 refine zb7 M T zca (λ _ _ _ _ _ _ us hl=>by obtain ⟨_,_,rfl⟩:=ar2 hl;rfl) (zhu λ ds Qd h=>by obtain ⟨_,_,rfl,_⟩:=h;rfl) (zxi ?_)
 intro f cdv A outer s H E hr
 have nd:=zca.nd
 refine ⟨_,_,(zd0 (zdb (zc2 (zig (K:=K) rfl (Room.units hr)) (zw0 zc4 (pv 0) zg0) zg0 (zr2 _)) (zk0 (zz0 (zu0 (zlq rfl) rfl vI zs71 (za0 (zw0 zc4 (zw0 zu9 (pv 0) zg0) zg0) (za0 (pv 1) zh0))))) zg1)
   (zk0 (zz0 (zw0 zc4 (zw0 zj3 (zw0 zu9 (pv 0) zg0) zg0) (zw0 (zs0 (K:=K) rfl) (pv 1) zg0))))),(zn0 (zfl (zv1 (zlb q_eq (RfV.h (RfE.v (zo0 zcf (zb0 0) rvi))) (RfV.h rvi))) (zc1 (RfE.c (zkl zw61 (zy0 (RfE.v (zo0 zcf (RfE.v (zo0 zl11 (zb0 0) rvi)) rvi)) (zy0 (zb0 1) zn2))))) zh1)
   (zc1 (RfE.c (zo0 zcf (RfE.v (zo0 zuq (RfE.v (zo0 zl11 (zb0 0) rvi)) rvi)) (RfE.v (zo0 za4 (zb0 1) rvi)))))),?_⟩
 rintro ds Qd ⟨n,r,rfl,h0,h1,r0,r1,q⟩
 walk_at "ds"
 refine ze0 λ J hJ=>?_
 walk_at "dd"
 refine two (λ _=>q _ ?_ ?_) λ _=>hJ _ ?_
 ·split <;> lia
 ·split <;> lia
 clear hJ
 walk_at "dd"
 have:=Int.emod_nonneg (n / 3 * 31) (b:=r+1) (by lia)
 have:=Int.emod_lt_of_pos (n / 3 * 31) (b:=r+1) (by lia)
 exact ⟨.inr ⟨by decide,by decide⟩,by lia,q _ (by lia) (by lia)⟩
theorem zb8:FnScope ["found", "due"] ["found", "due"] (zf0 zj6):=by walk_at "sc"
theorem zjg (M:Md K mg) (T:TopDef K "_law_whole" zj6) (kt:Kit K) (vG:mg "bool"=none) (vE:mg "int"=none) (jJ:mg "isinstance"=none):Def P w K mg base "_law_whole" 1 ["found", "due"] (spD K zl2):=by
 refine zb7 M T zb8 (λ _ _ _ _ _ _ us hl=>by obtain ⟨_,_,rfl⟩:=ar2 hl;rfl) (zhu λ ds Qd h=>by obtain ⟨_,rfl,_⟩:=h;rfl) (zxi ?_)
 intro f cdv A outer s H E hr
 have nd:=zb8.nd
 refine ⟨_,_,(zk0 (zz0 (zdl (zu0 (zlh (K:=K) rfl) rfl jJ zr0 (za0 (pv 0) (za0 (ztj (v:=.ty "int") rfl vE zjy rfl) zh0))) (zdl (zlw (zu0 (zlh (K:=K) rfl) rfl jJ zr0 (za0 (pv 0) (za0 (ztj (v:=.ty "bool") rfl vG zm11 rfl) zh0)))) (ztp (zug (zig (K:=K) rfl (Room.units hr)) (pv 0) (pv 1) (zr2 _))))))),(zc1 (RfE.c (zqc (zx51 kt (by simp) (zb0 0)) (zqc (zsl (zx51 kt (by simp) (zb0 0))) (zlb q_eq (RfV.h (zb0 0)) (RfV.h (zb0 1))))))),?_⟩
 rintro ds Qd ⟨i,rfl,q⟩
 walk_at "ds"
 walk_at "dd"
 exact ⟨λ _=>trivial,λ _=>trivial,by simpa using q⟩
theorem zj7:FnScope ["found", "due", "k"] ["found", "due"] (zf0 zw4):=by walk_at "sc"
theorem zjd (M:Md K mg) (T:TopDef K "_law_wholes" zw4) (kt:Kit K) (jJ:mg "isinstance"=none) (kF:mg "len"=none) (kJ:mg "list"=none) (jN:mg "range"=none) (jO:Def P w K mg base "_law_whole" 1 ["found", "due"] (spD K zl2)):Def P w K mg base "_law_wholes" 2 ["found", "due"] (spD K zs9):=by
 refine zb7 M T zj7 (λ _ _ _ _ _ _ us hl=>by obtain ⟨_,_,rfl⟩:=ar2 hl;rfl) (zhu λ ds Qd h=>by obtain ⟨_,rfl,_⟩:=h;rfl) (zxi ?_)
 intro f cdv A outer s H E hr
 have nd:=zj7.nd
 refine ⟨_,_,(zd0 (zdb (PW.pt (zma1 (zo8 (ze3 (K:=K) rfl (zu0 (zlh (K:=K) rfl) rfl jJ zr0 (za0 (pv 0) (za0 (ztj (v:=.ty "list") rfl kJ zja rfl) zh0))) (λ _=>rfl))) (zmz (zc2 (zbz (K:=K) rfl (Room.units hr)) (zu0 (zb2 (K:=K) rfl) rfl kF zac (za0 (pv 0) zh0)) (zu0 (zb2 (K:=K) rfl) rfl kF zac (za0 (pv 1) zh0)) (zr2 _))))) (zk0 (zz0 zqk)) zg1)
   (zd0 (zub PassesOwn.never rfl (zz1 rfl jN (za0 (zu0 (zb2 (K:=K) rfl) rfl kF zac (za0 (pv 1) zh0)) zh0)) (pgn 2 nd) (zk0 (zdb (zo8 (ze3 (K:=K) rfl (zp0 jO (rmn hr) rfl (za0 (pix w K hr (pv 0) (pv 2)) (za0 (pix w K hr (pv 1) (pv 2)) zh0))) (λ _=>rfl))) (zk0 (zz0 zqk)) zg1)))
   (zk0 (zz0 zqk)))),(zn0 (zfl (zzc1 (zqu (zam (RfE.v (zx51 kt (by simp) (zb0 0))))) (zv1 (zlb q_ne (RfV.h (RfE.v (zkl zap (zy0 (zb0 0) zn2)))) (RfV.h (RfE.v (zkl zap (zy0 (zb0 1) zn2))))))) (zc1 (RfE.c zz8)) zh1)
   (zn0 (zec (zi5 (zc0 (zkl zap (zy0 (zb0 1) zn2)) zq0)) (rgn 2) (zfl (zqu (zam (RfE.v (zk1 (zc0 (zo0 r_ix (zb0 0) (zb0 2)) (zc0 (zo0 r_ix (zb0 1) (zb0 2)) zq0)))))) (zc1 (RfE.c zz8)) zh1))
   (zc1 (RfE.c zz8)))),?_⟩
 rintro ds Qd ⟨xs,rfl,hx,q⟩
 walk_at "ds"
 refine ze0 λ J hJ=>?_
 walk_at "dd"
 refine ⟨λ _=>trivial,hJ _ ?_⟩
 clear hJ
 refine ze0 λ J hJ=>?_
 walk_at "dd"
 rw [List.length_map,Int.toNat_natCast]
 unfold rngD
 refine ⟨by lia,by lia,zb6 (λ i U=>∃ s2:Sl,U=[.sh (.list (xs.map .int)),.sh (.list (xs.map .int)),s2]) ⟨.un,rfl⟩ ?_ ?_⟩
 ·rintro i x U hi ⟨s2,rfl⟩
  obtain ⟨h1,h2⟩:=List.getElem?_eq_some_iff.mp hi
  simp at h1 h2
  subst h2
  rw [show (0:Int)+(i:Int)=(i:Int) by lia]
  have g:atI (xs.map PyData.int) ((i:Nat):Int)=some (.int xs[i]):=zf5 (by lia) (by rw [Int.toNat_natCast,List.getElem?_map,List.getElem?_eq_getElem h1];rfl)
  walk_at "dd"
  refine ⟨_,g,_,g,xs[i],rfl,?_⟩
  walk_at "dd"
  exact ⟨_,rfl⟩
 ·rintro U ⟨s2,rfl⟩
  refine hJ _ ?_
  clear hJ
  walk_at "dd"
  exact q
theorem zy7:FnScope ["script", "many", "spots", "k", "at", "here"] ["script", "many"] (zf0 zr3):=by walk_at "sc"
theorem zdg (M:Md K mg) (T:TopDef K "_law_spots" zr3) (jN:mg "range"=none) (jM:Def P w K mg base "_law_draw" 1 ["script", "k"] (spD K zp4)):Def P w K mg base "_law_spots" 2 ["script", "many"] (spD K zuc):=by
 refine zb7 M T zy7 (λ _ _ _ _ _ _ us hl=>by obtain ⟨_,_,rfl⟩:=ar2 hl;rfl) (zhu λ ds Qd h=>by obtain ⟨_,_,rfl,_⟩:=h;rfl) (zxi ?_)
 intro f cdv A outer s H E hr
 have nd:=zy7.nd
 refine ⟨_,_,(zd0 (zw6 (i:=2) (sc:=zf0 zr3) (N:=["script", "many", "spots", "k", "at", "here"]) (own:=["k"]) (ix:=[]) rfl rfl rfl (by walk_at "csc") nd rfl rfl (zz1 rfl jN (za0 (pv 1) zh0)) (λ _ _ _ _=>⟨(pgn 0 (nds ["k"])),zl5,(pv 0)⟩))
   (zd0 (zub PassesOwn.never rfl (zz1 rfl jN (za0 (pv 1) zh0)) (pgn 3 nd) (zd0 (pset 4 nd (zw0 zc4 (zp0 jM (rmn hr) rfl (za0 (pv 0) (za0 (zw0 (zs0 (K:=K) rfl) zg0 (pv 3)) zh0))) (pv 1)))
   (zd0 (pset 5 nd (pix w K hr (pv 2) (pv 3)))
   (zd0 (zbb (pix w K hr (pv 2) (pv 4)) (zcb (pv 2) (pv 3) (zfi (Room.units hr))))
   (zk0 (zbb (pv 5) (zcb (pv 2) (pv 4) (zfi (Room.units hr)))))))))
   (zk0 (zz0 (pv 2))))),(zn0 (zma (RfF.c (zy4 (RfI.j (zi5 (zc0 (zm0 1) zq0))) (zv2 (i:=0) (n:=1) (by decide)) zg8 (zm0 0))))
   (zn0 (zec (zi5 (zc0 (zm0 1) zq0)) (rgn 3) (zn0 (ze1 (zo0 zcf (RfE.v (zk1 (zc0 (zm0 0) (zc0 (zo0 za4 rvi (zb0 3)) zq0)))) (zb0 1)) (rgn 4))
   (zn0 (ze1 (zo0 r_ix (zb0 2) (zb0 3)) (rgn 5))
   (zn0 (zw9 (zo0 r_ix (zb0 2) (zb0 4)) (zl0 2) (zm0 3))
   (zw9 (zm0 5) (zl0 2) (zm0 4))))))
   (zat (i:=2)))),?_⟩
 rintro ds Qd ⟨ns,n,rfl,h4,h12,q⟩
 walk_at "ds"
 refine ze0 λ J hJ=>?_
 walk_at "dd"
 rw [Int.toNat_natCast]
 unfold rngD
 refine ⟨by lia,by lia,zjx (λ k:Nat=>PyData.int (k:Int)) (by rw [sizeLine_eq,List.length_range];lia) (λ k hk=>?_) (hJ _ ?_)⟩
 ·walk_at "cs"
  walk_at "dd"
  rw [show (0:Int)+(k:Int)=(k:Int) by lia]
 clear hJ
 refine ze0 λ J hJ=>?_
 walk_at "dd"
 rw [Int.toNat_natCast]
 unfold rngD
 refine ⟨by lia,by lia,zb6 (λ i U=>∃ (f:Nat->Nat) (s3 s4 s5:Sl),Sp n f/\U=[.sh (.list (ns.map .int)),.sh (.int (n:Int)),.ow (.li (dSp n f)),s3,s4,s5]) ⟨λ i=>i,.un,.un,.un,⟨λ i h=>h,λ i j _ _ e=>e⟩,rfl⟩ ?_ ?_⟩
 ·rintro i x U hx ⟨f,s3,s4,s5,sp,rfl⟩
  obtain ⟨hi,hi2⟩:=List.getElem?_eq_some_iff.mp hx
  simp at hi hi2
  subst hi2
  rw [show (0:Int)+(i:Int)=(i:Int) by lia]
  walk_at "dd"
  refine ze0 λ J hJ=>?_
  walk_at "dd"
  refine ⟨ns,30+i,by simp,by lia,λ m m0 m1=>?_⟩
  walk_at "dd"
  obtain ⟨a,ea,ha⟩:=ztr m (n:=n) (by lia)
  rw [ea]
  refine ⟨by lia,hJ _ ?_⟩
  clear hJ
  refine ze0 λ J hJ=>?_
  walk_at "dd"
  refine ⟨_,zu6 hi,hJ _ ?_⟩
  clear hJ
  have hlen:(dSp n f).length=n:=by unfold dSp;simp
  refine ze0 λ J hJ=>?_
  walk_at "dd"
  refine ⟨_,zu6 ha,i,by rw [hlen];exact zh6 hi,hJ _ ?_⟩
  clear hJ
  walk_at "dd"
  refine ⟨a,by rw [List.length_set,hlen];exact zh6 ha,_,_,_,_,sp.swp hi ha,by rw [zt11]⟩
 ·rintro U ⟨f,s3,s4,s5,sp,rfl⟩
  refine hJ _ ?_
  clear hJ
  walk_at "dd"
  exact q f sp
end
theorem l12:(Str.ofString "abcdefghijkl").length<=16777216:=by decide +kernel
theorem zy31 {i:Int} (h0:0<=i) (h1:i < 12):∃ c,atI (Str.ofString "abcdefghijkl").cps.toList i=some c:=by
 have e:((Str.ofString "abcdefghijkl").cps.toList.length:Int)=12:=by decide +kernel
 obtain ⟨x,hx,h⟩:=zob1 (xs:=(Str.ofString "abcdefghijkl").cps.toList) h0 (by rw [e];exact h1)
 exact ⟨x,h⟩
def okB (v:Va):Prop:=0<=v.room/\v.fill=0
def okM (v:Va):Prop:=0<=v.fill/\v.fill<=v.room/\v.room<=200000000000
structure VOk (f:Nat->Nat) (g:Nat->Va) (m:Nat):Prop where
 v0:(g (f 0)).room=700000000000/\(g (f 0)).fill=700000000000
 v1:(g (f 1)).room=1000000000000/\(g (f 1)).fill=0
 vm:∀ k,2<=k->k < m->okM (g (f k))
 vo:∀ j,(∀ k,k < m->j≠f k)->okB (g j)
def dVs (n:Nat) (g:Nat->Va):List D:=(List.range n).map λ i=>(g i).d
def up (g:Nat->Va) (j:Nat) (v:Va):Nat->Va:=λ i=>if i=j then v else g i
theorem zum (n:Nat) (g:Nat->Va) (j:Nat) (v:Va):(dVs n g).set j v.d=dVs n (up g j v):=by
 unfold dVs
 rw [zlv]
 refine List.map_congr_left λ i _=>?_
 unfold up
 split <;> rfl
theorem zqf (n:Nat) (g:Nat->Va):(dVs n g).length=n:=by unfold dVs;simp
def zvf:DSp:=λ ds Q=>∃ (ns:List Int) (n:Nat) (f:Nat->Nat),ds=[.list (ns.map .int),.int (n:Int),.list (dSp n f)]/\4<=n/\n<=12/\Sp n f/\∀ g,VOk f g 4->Q (.list (dVs n g))
def P4 (f:Nat->Nat) (l:Nat->Nat) (pr:Int):List Pi:=[⟨f 0,f 2,l 0,pr,.st 1000000000000⟩,⟨f 0,f 3,l 1,pr,.st 1000000000000⟩,⟨f 2,f 1,l 2,pr,.st 1000000000000⟩,⟨f 3,f 1,l 3,0,.st 1000000000000⟩]
def zvc:DSp:=λ ds Q=>∃ (ns:List Int) (n:Nat) (f l:Nat->Nat),ds=[.list (ns.map .int),.list (dSp n f),.list [.int (l 0:Nat),.int (l 1:Nat),.int (l 2:Nat),.int (l 3:Nat)]]/\4<=n/\∀ (t:Nat) (pr:Int),t < 4->Q (.list (((P4 f l pr).drop t++(P4 f l pr).take t).map Pi.d))
section
variable {P:Program} {w:World} {K:Fg} {mg:Str->Option Value} {base:Heap}
theorem zta:FnScope ["script", "many", "spots", "letters", "vats", "k", "room"] ["script", "many", "spots"] (zf0 ze5):=by walk_at "sc"
theorem zdi (M:Md K mg) (T:TopDef K "_law_vats" ze5) (jN:mg "range"=none) (jM:Def P w K mg base "_law_draw" 1 ["script", "k"] (spD K zp4)) (kN:Def P w K mg base "_law_part" 1 ["number", "most"] (spD K zga)):Def P w K mg base "_law_vats" 2 ["script", "many", "spots"] (spD K zvf):=by
 refine zb7 M T zta (λ _ _ _ _ _ _ us hl=>by obtain ⟨_,_,_,rfl⟩:=ar3 hl;rfl) (zhu λ ds Qd h=>by obtain ⟨_,_,_,rfl,_⟩:=h;rfl) (zxi ?_)
 intro f cdv A outer s H E hr
 have nd:=zta.nd
 refine ⟨_,_,(zd0 (pset 3 nd ziq)
   (zd0 (zw6 (i:=4) (sc:=zf0 ze5) (N:=["script", "many", "spots", "letters", "vats", "k", "room"]) (own:=["k"]) (ix:=[3,0]) rfl rfl rfl (by walk_at "csc") nd rfl rfl (zz1 rfl jN (za0 (pv 1) zh0)) (λ _ _ _ _=>⟨(pgn 0 (nds ["k", "letters", "script"])),zl5,(zh2 (za0 (pix w K hr (pv 1) (pv 0)) (za0 (zw0 zc4 (zp0 jM (rmn hr) rfl (za0 (pv 2) (za0 (zw0 (zs0 (K:=K) rfl) zg0 (pv 0)) zh0))) zg0) (za0 zg0 zh0))))⟩))
   (zd0 (zbb (zh2 (za0 (pix w K hr (pv 3) (pix w K hr (pv 2) zg0)) (za0 (zw0 zj3 zg0 (zw0 zal zg0 zg0)) (za0 (zw0 zj3 zg0 (zw0 zal zg0 zg0)) zh0)))) (zcb (pv 4) (pix w K hr (pv 2) zg0) (zfi (Room.units hr))))
   (zd0 (zbb (zh2 (za0 (pix w K hr (pv 3) (pix w K hr (pv 2) zg0)) (za0 (zw0 zal zg0 zg0) (za0 zg0 zh0)))) (zcb (pv 4) (pix w K hr (pv 2) zg0) (zfi (Room.units hr))))
   (zd0 (zub PassesOwn.never rfl (zgq rfl jN (za0 zg0 (za0 zg0 zh0))) (pgn 5 nd) (zd0 (pset 6 nd (zp0 kN (rmn hr) rfl (za0 (zp0 jM (rmn hr) rfl (za0 (pv 0) (za0 (zw0 (zs0 (K:=K) rfl) zg0 (pv 5)) zh0))) (za0 (zw0 zj3 zg0 (zw0 zal zg0 zg0)) zh0))))
   (zk0 (zbb (zh2 (za0 (pix w K hr (pv 3) (pix w K hr (pv 2) (pv 5))) (za0 (pv 6) (za0 (zp0 kN (rmn hr) rfl (za0 (zp0 jM (rmn hr) rfl (za0 (pv 0) (za0 (zw0 (zs0 (K:=K) rfl) zg0 (pv 5)) zh0))) (za0 (pv 6) zh0))) zh0)))) (zcb (pv 4) (pix w K hr (pv 2) (pv 5)) (zfi (Room.units hr)))))))
   (zk0 (zz0 (pv 4)))))))),(zn0 (ze1 zvp (rgn 3))
   (zn0 (zma (RfF.c (zy4 (RfI.j (zi5 (zc0 (zm0 1) zq0))) (zv2 (i:=0) (n:=1) (by decide)) zg8 (zf6 (zc0 (zo0 r_ix (zb0 1) (zb0 0)) (zc0 (zo0 zcf (RfE.v (zk1 (zc0 (zm0 2) (zc0 (zo0 za4 rvi (zb0 0)) zq0)))) rvi) (zc0 zi1 zq0)))))))
   (zn0 (zw9 (zf6 (zc0 (zo0 r_ix (zb0 3) (RfE.v (zo0 r_ix (zb0 2) rvi))) (zc0 (zo0 zuq rvi (RfE.v (zo0 zex rvi rvi))) (zc0 (zo0 zuq rvi (RfE.v (zo0 zex rvi rvi))) zq0)))) (zl0 4) (zo0 r_ix (zb0 2) rvi))
   (zn0 (zw9 (zf6 (zc0 (zo0 r_ix (zb0 3) (RfE.v (zo0 r_ix (zb0 2) rvi))) (zc0 (zo0 zex rvi rvi) (zc0 zi1 zq0)))) (zl0 4) (zo0 r_ix (zb0 2) rvi))
   (zn0 (zec (zh01 (zc0 zi1 (zc0 zi1 zq0))) (rgn 5) (zn0 (ze1 (zk1 (zc0 (zk1 (zc0 (zm0 0) (zc0 (zo0 za4 rvi (zb0 5)) zq0))) (zc0 (zo0 zuq rvi (RfE.v (zo0 zex rvi rvi))) zq0))) (rgn 6))
   (zw9 (zf6 (zc0 (zo0 r_ix (zb0 3) (RfE.v (zo0 r_ix (zb0 2) (zb0 5)))) (zc0 (zm0 6) (zc0 (zk1 (zc0 (zk1 (zc0 (zm0 0) (zc0 (zo0 za4 rvi (zb0 5)) zq0))) (zc0 (zm0 6) zq0))) zq0)))) (zl0 4) (zo0 r_ix (zb0 2) (zb0 5)))))
   (zat (i:=4))))))),?_⟩
 rintro ds Qd ⟨ns,n,f,rfl,h4,h12,sp,q⟩
 have b0:=sp.bd 0 (by lia)
 have b1:=sp.bd 1 (by lia)
 have n01:f 0≠f 1:=λ e=>by have:=sp.inj 0 1 (by lia) (by lia) e;lia
 walk_at "ds"
 walk_at "dn"
 refine ze0 λ J hJ=>?_
 walk_at "dd"
 rw [Int.toNat_natCast]
 unfold rngD
 refine ⟨by lia,by lia,zx81 okB Va.d (by rw [sizeLine_eq,List.length_range];lia) (λ k hk=>?_) λ bs hbs okb=>hJ _ ?_⟩
 ·have hk:=List.mem_range.mp hk
  rw [show (0:Int)+(k:Int)=(k:Int) by lia]
  obtain ⟨c,hc⟩:=zy31 (i:=(k:Int)) (by lia) (by lia)
  walk_at "cs"
  walk_at "dd"
  refine ⟨l12,_,hc,ns,60+k,by simp,by lia,λ m m0 m1=>?_⟩
  walk_at "dd"
  exact ⟨⟨_,m % 100,0⟩,⟨by show 0<=m % 100;lia,rfl⟩,rfl⟩
 clear hJ
 rw [List.length_range] at hbs
 obtain ⟨g,eg,okg⟩:∃ g:Nat->Va,bs.map Va.d=dVs n g/\∀ i,okB (g i):=by
  refine ⟨λ i=>bs.getD i ⟨"",0,0⟩,?_,λ i=>?_⟩
  ·unfold dVs
   apply List.ext_getElem?
   intro j
   rw [List.getElem?_map,List.getElem?_map]
   by_cases h:j < n
   ·rw [List.getElem?_range h,List.getElem?_eq_getElem (by lia)]
    show some (bs[j]).d=some ((bs.getD j ⟨"",0,0⟩).d)
    rw [List.getD_eq_getElem?_getD,List.getElem?_eq_getElem (by lia)];rfl
   ·rw [List.getElem?_eq_none (by lia),List.getElem?_eq_none (by simpa using h)];rfl
  ·show okB (bs.getD i ⟨"",0,0⟩)
   rw [List.getD_eq_getElem?_getD]
   cases h:bs[i]? with
  |none=>exact ⟨by decide,rfl⟩
  |some v=>exact okb v (List.mem_of_getElem? h)
 rw [eg]
 obtain ⟨c0,hc0⟩:=zy31 (i:=(f 0:Int)) (by lia) (by lia)
 obtain ⟨c1,hc1⟩:=zy31 (i:=(f 1:Int)) (by lia) (by lia)
 have a0:atI (dSp n f) 0=some (.int (f 0:Nat)):=zu6 (k:=0) (by lia)
 have a1:atI (dSp n f) 1=some (.int (f 1:Nat)):=zu6 (k:=1) (by lia)
 refine ze0 λ J hJ=>?_
 walk_at "dd"
 refine ⟨_,a0,?_⟩
 walk_at "dd"
 refine ⟨l12,_,hc0,by decide,.inl ⟨by decide,by decide⟩,by decide,.inl ⟨by decide,by decide⟩,_,a0,?_⟩
 walk_at "dd"
 refine ⟨f 0,by rw [zqf];exact zh6 b0,hJ _ ?_⟩
 clear hJ
 rw [show PyData.tuple [.str ⟨#[c0]⟩,.int 700000000000,.int 700000000000]=(⟨⟨#[c0]⟩,700000000000,700000000000⟩:Va).d from rfl,zum]
 refine ze0 λ J hJ=>?_
 walk_at "dd"
 refine ⟨_,a1,?_⟩
 walk_at "dd"
 refine ⟨l12,_,hc1,by decide,_,a1,?_⟩
 walk_at "dd"
 refine ⟨f 1,by rw [zqf];exact zh6 b1,hJ _ ?_⟩
 clear hJ
 rw [show PyData.tuple [.str ⟨#[c1]⟩,.int 1000000000000,.int 0]=(⟨⟨#[c1]⟩,1000000000000,0⟩:Va).d from rfl,zum]
 have v2:VOk f (up (up g (f 0) ⟨⟨#[c0]⟩,700000000000,700000000000⟩) (f 1) ⟨⟨#[c1]⟩,1000000000000,0⟩) 2:=by
  refine ⟨?_,?_,λ k h1 h2=>by lia,λ j hj=>?_⟩
  ·unfold up;rw [if_neg n01,if_pos rfl];exact ⟨rfl,rfl⟩
  ·unfold up;rw [if_pos rfl];exact ⟨rfl,rfl⟩
  ·unfold up;rw [if_neg (hj 1 (by lia)),if_neg (hj 0 (by lia))];exact okg j
 generalize up (up g (f 0) ⟨⟨#[c0]⟩,700000000000,700000000000⟩) (f 1) ⟨⟨#[c1]⟩,1000000000000,0⟩=g2 at v2
 refine ze0 λ J hJ=>?_
 walk_at "dd"
 unfold rngD
 refine zb6 (λ i U=>∃ (g:Nat->Va) (s5 s6:Sl),VOk f g (2+i)/\U=[.sh (.list (ns.map .int)),.sh (.int (n:Int)),.sh (.list (dSp n f)),.sh (.str "abcdefghijkl"),.ow (.li (dVs n g)),s5,s6]) ⟨g2,.un,.un,v2,rfl⟩ ?_ ?_
 ·rintro i x U hx ⟨g,s5,s6,vo,rfl⟩
  obtain ⟨hi,hi2⟩:=List.getElem?_eq_some_iff.mp hx
  simp at hi hi2
  subst hi2
  have e2:(2:Int)+(i:Int)=((2+i:Nat):Int):=by lia
  rw [e2]
  have bk:=sp.bd (2+i) (by lia)
  have ak:atI (dSp n f) ((2+i:Nat):Int)=some (.int (f (2+i):Nat)):=zu6 (by lia)
  obtain ⟨ck,hck⟩:=zy31 (i:=(f (2+i):Int)) (by lia) (by lia)
  walk_at "dd"
  refine ze0 λ J hJ=>?_
  walk_at "dd"
  refine ⟨ns,10+(2+i),by simp,by lia,λ m m0 m1=>?_⟩
  walk_at "dd"
  refine ⟨by decide,.inl ⟨by decide,by decide⟩,m,200000000000,rfl,m0,m1,by decide,by decide,λ r r0 r1=>hJ _ ?_⟩
  clear hJ
  walk_at "dd"
  refine ⟨_,ak,?_⟩
  walk_at "dd"
  refine ⟨l12,_,hck,ns,14+(2+i),by simp,by lia,λ m' m0' m1'=>⟨m',r,rfl,m0',m1',r0,by lia,λ fi f0 f1=>⟨_,ak,?_⟩⟩⟩
  walk_at "dd"
  refine ⟨f (2+i),by rw [zqf];exact zh6 bk,up g (f (2+i)) ⟨⟨#[ck]⟩,r,fi⟩,.sh (.int ((2+i:Nat):Int)),.sh (.int r),?_,?_⟩
  ·have ne:∀ k,k < 2+i->f k≠f (2+i):=λ k hk e=>by have:=sp.inj k (2+i) (by lia) (by lia) e;lia
   refine ⟨?_,?_,λ k h1 h2=>?_,λ j hj=>?_⟩
   ·unfold up;rw [if_neg (ne 0 (by lia))];exact vo.v0
   ·unfold up;rw [if_neg (ne 1 (by lia))];exact vo.v1
   ·unfold up
    by_cases z:k=2+i
    ·subst z;rw [if_pos rfl];exact ⟨f0,f1,r1⟩
    ·rw [if_neg (ne k (by lia))];exact vo.vm k h1 (by lia)
   ·unfold up
    rw [if_neg (hj (2+i) (by lia))]
    exact vo.vo j λ k hk=>hj k (by lia)
  ·rw [show PyData.tuple [.str ⟨#[ck]⟩,.int r,.int fi]=(⟨⟨#[ck]⟩,r,fi⟩:Va).d from rfl,zum]
 ·rintro U ⟨g,s5,s6,vo,rfl⟩
  refine hJ _ ?_
  clear hJ
  walk_at "dd"
  exact q g vo
end
theorem zgo {α:Type} (l:List α) (t:Nat):cutG l (some (t:Int)) none=l.drop t:=by
 unfold cutG
 rw [HT.sIx_nat,HT.sIx_none,List.take_of_length_le (by rw [List.length_drop];lia)]
 by_cases h:t<=l.length
 ·rw [Nat.min_eq_left h]
 ·rw [Nat.min_eq_right (by lia),List.drop_of_length_le (Nat.le_refl _),List.drop_of_length_le (by lia)]
theorem zcy {α:Type} (l:List α) (t:Nat):cutG l none (some (t:Int))=l.take t:=by
 unfold cutG
 rw [HT.sIx_nat,HT.sIx_none,List.drop_zero,Nat.sub_zero]
 by_cases h:t<=l.length
 ·rw [Nat.min_eq_left h]
 ·rw [Nat.min_eq_right (by lia),List.take_of_length_le (Nat.le_refl _),List.take_of_length_le (by lia)]
theorem zmo (n:Nat) (r:Nat->Int) (ly:List Int):(List.range n).filterMap (λ k=>if r k < ly.getD k 0 then some (PyData.int (k:Int)) else none)=((over ((List.range n).map r) ly).map λ k:Nat=>(k:Int)).map PyData.int:=by
 unfold over
 have e:((List.range n).map r).mapIdx (λ i x=>(i,x))=(List.range n).map λ k=>(k,r k):=by
  apply List.ext_getElem?
  intro j
  rw [List.getElem?_mapIdx,List.getElem?_map,List.getElem?_map]
  by_cases h:j < n
  ·rw [List.getElem?_range h];rfl
  ·rw [List.getElem?_eq_none (by simpa using h)];rfl
 rw [e,List.filterMap_map,List.map_map,List.map_filterMap]
 congr 1
 funext k
 simp only [Function.comp]
 split <;> rfl
def zy9 (C C1 C2 C3:Addr):DSpT:=λ as Q=>∃ (n:Nat) (g:Nat->Va) (ly:List Int) (ps:List Pi) (m:Nat) (en:List Int) (kvs:List (List Key×D)),as=[.b (pS C C1 C2 C3 ((List.range n).map λ i=>(g i).room) ly ps m en kvs),.d (.list (dVs n g)),.b (.li (ly.map .int))]/\n<=12/\ly.length=n/\Q (.fz (.bool true)) (.fz .none)
section
variable {P:Program} {w:World} {K:Fg} {mg:Str->Option Value} {base:Heap} {jB jD jC jA:Addr}
theorem zf8:FnScope ["script", "spots", "lengths", "price", "wide", "pipes", "turn"] ["script", "spots", "lengths"] (zf0 zo6):=by walk_at "sc"
theorem zpg (M:Md K mg) (T:TopDef K "_law_pipes" zo6) (jM:Def P w K mg base "_law_draw" 1 ["script", "k"] (spD K zp4)):Def P w K mg base "_law_pipes" 2 ["script", "spots", "lengths"] (spD K zvc):=by
 refine zb7 M T zf8 (λ _ _ _ _ _ _ us hl=>by obtain ⟨_,_,_,rfl⟩:=ar3 hl;rfl) (zhu λ ds Qd h=>by obtain ⟨_,_,_,_,rfl,_⟩:=h;rfl) (zxi ?_)
 intro f cdv A outer s H E hr
 have nd:=zf8.nd
 refine ⟨_,_,(zd0 (pset 3 nd (zw0 zc4 (zp0 jM (rmn hr) rfl (za0 (pv 0) (za0 zg0 zh0))) zg0))
   (zd0 (pset 4 nd (zh2 (za0 ziq (za0 (zw0 zal zg0 zg0) zh0))))
   (zd0 (pset 5 nd (zt1 (za0 (zh2 (za0 (pix w K hr (pv 1) zg0) (za0 (pix w K hr (pv 1) zg0) (za0 (pix w K hr (pv 2) zg0) (za0 (pv 3) (za0 (pv 4) zh0)))))) (za0 (zh2 (za0 (pix w K hr (pv 1) zg0) (za0 (pix w K hr (pv 1) zg0) (za0 (pix w K hr (pv 2) zg0) (za0 (pv 3) (za0 (pv 4) zh0)))))) zh0))))
   (zd0 (pset 5 nd (zw0 (zs0 (K:=K) rfl) (pv 5) (zt1 (za0 (zh2 (za0 (pix w K hr (pv 1) zg0) (za0 (pix w K hr (pv 1) zg0) (za0 (pix w K hr (pv 2) zg0) (za0 (pv 3) (za0 (pv 4) zh0)))))) (za0 (zh2 (za0 (pix w K hr (pv 1) zg0) (za0 (pix w K hr (pv 1) zg0) (za0 (pix w K hr (pv 2) zg0) (za0 zg0 (za0 (pv 4) zh0)))))) zh0)))))
   (zd0 (pset 6 nd (zw0 zc4 (zp0 jM (rmn hr) rfl (za0 (pv 0) (za0 zg0 zh0))) zg0))
   (zk0 (zz0 (zw0 (zs0 (K:=K) rfl) (zbo (sl_W (K:=K) rfl) (pv 5) (zqd (pv 6)) zvm) (zbo (sl_W (K:=K) rfl) (pv 5) zvm (zqd (pv 6))))))))))),(zn0 (ze1 (zo0 zcf (RfE.v (zk1 (zc0 (zm0 0) (zc0 zi1 zq0)))) rvi) (rgn 3))
   (zn0 (ze1 (zf6 (zc0 zvp (zc0 (zo0 zex rvi rvi) zq0))) (rgn 4))
   (zn0 (ze1 (RfF.e (zg5 (zc0 (zf6 (zc0 (zo0 r_ix (zb0 1) rvi) (zc0 (zo0 r_ix (zb0 1) rvi) (zc0 (zo0 r_ix (zb0 2) rvi) (zc0 (zm0 3) (zc0 (zm0 4) zq0)))))) (zc0 (zf6 (zc0 (zo0 r_ix (zb0 1) rvi) (zc0 (zo0 r_ix (zb0 1) rvi) (zc0 (zo0 r_ix (zb0 2) rvi) (zc0 (zm0 3) (zc0 (zm0 4) zq0)))))) zq0)))) (rgn 5))
   (zn0 (ze1 (zo0 za4 (zb0 5) (RfE.v (RfF.e (zg5 (zc0 (zf6 (zc0 (zo0 r_ix (zb0 1) rvi) (zc0 (zo0 r_ix (zb0 1) rvi) (zc0 (zo0 r_ix (zb0 2) rvi) (zc0 (zm0 3) (zc0 (zm0 4) zq0)))))) (zc0 (zf6 (zc0 (zo0 r_ix (zb0 1) rvi) (zc0 (zo0 r_ix (zb0 1) rvi) (zc0 (zo0 r_ix (zb0 2) rvi) (zc0 zi1 (zc0 (zm0 4) zq0)))))) zq0)))))) (rgn 5))
   (zn0 (ze1 (zo0 zcf (RfE.v (zk1 (zc0 (zm0 0) (zc0 zi1 zq0)))) rvi) (rgn 6))
   (zc1 (RfF.c (zk51 zba1 (RfE.v (zu91 (zb0 5) (zrj (zm0 6)) zvl)) (RfE.v (zu91 (zb0 5) zvl (zrj (zm0 6)))))))))))),?_⟩
 rintro ds Qd ⟨ns,n,f,l,rfl,h4,q⟩
 walk_at "ds"
 refine ze0 λ J hJ=>?_
 walk_at "dd"
 refine ⟨ns,4,rfl,by lia,λ m m0 m1=>?_⟩
 walk_at "dd"
 refine hJ _ ?_
 clear hJ
 generalize m % 1000001=pr
 refine ze0 λ J hJ=>?_
 walk_at "dd"
 refine ⟨by decide,hJ _ ?_⟩
 clear hJ
 have a0:atI (dSp n f) 0=some (.int (f 0:Nat)):=zu6 (k:=0) (by lia)
 have a1:atI (dSp n f) 1=some (.int (f 1:Nat)):=zu6 (k:=1) (by lia)
 have a2:atI (dSp n f) 2=some (.int (f 2:Nat)):=zu6 (k:=2) (by lia)
 have a3:atI (dSp n f) 3=some (.int (f 3:Nat)):=zu6 (k:=3) (by lia)
 refine ze0 λ J hJ=>?_
 walk_at "dd"
 refine ⟨_,a0,_,a2,_,rfl,_,a0,_,a3,_,rfl,hJ _ ?_⟩
 clear hJ
 refine ze0 λ J hJ=>?_
 walk_at "dd"
 refine ⟨_,a2,_,a1,_,rfl,_,a3,_,a1,_,rfl,hJ _ ?_⟩
 clear hJ
 refine ze0 λ J hJ=>?_
 walk_at "dd"
 refine ⟨ns,5,rfl,by lia,λ m m0 m1=>?_⟩
 walk_at "dd"
 obtain ⟨t,et,ht⟩:=ztr m (n:=4) (by lia)
 have et:m % 4=(t:Int):=et
 rw [et]
 refine hJ _ ?_
 clear hJ
 walk_at "dd"
 have q:=q t pr ht
 change (L4.cutD ((P4 f l pr).map Pi.d) (some (t:Int)) none).length+(L4.cutD ((P4 f l pr).map Pi.d) none (some (t:Int))).length<=16777216/\Qd (.list (L4.cutD ((P4 f l pr).map Pi.d) (some (t:Int)) none++L4.cutD ((P4 f l pr).map Pi.d) none (some (t:Int))))
 rw [zto,zto,zgo,zcy,<- List.map_append]
 exact ⟨by simp [P4];lia,q⟩
theorem zha:FnScope ["play", "vats", "held", "due"] ["play", "vats", "held"] (zf0 zc5):=by walk_at "sc"
theorem zli (M:Md K mg) (T:TopDef K "_law_full" zc5) (kF:mg "len"=none) (jN:mg "range"=none) (qH:Def P w K mg base "_law_wholes" 2 ["found", "due"] (spD K zs9)) (jE:Cls K jA) (kE:zh5 P w K mg base jA "full" 1 ["self"] (spT K (zh3 jA jB jD jC))) (uH:zh5 P w K mg base jA "holds" 1 ["self"] (spT K (zi9 jA jB jD jC))):Def P w K mg base "_law_full" 3 ["play", "vats", "held"] (spT K (zy9 jA jB jD jC)):=by
 refine zb7 M T zha (λ _ _ _ _ _ _ us hl=>by obtain ⟨_,_,_,rfl⟩:=ar3 hl;rfl) (zfe λ as Qd h=>by obtain ⟨_,_,_,_,_,_,_,rfl,_⟩:=h;rfl) (zm3 ?_)
 intro f cdv A outer s H E hr
 have nd:=zha.nd
 refine ⟨_,_,(zd0 (zw6 (i:=3) (sc:=zf0 zc5) (N:=["play", "vats", "held", "due"]) (own:=["k"]) (ix:=[2,1]) rfl rfl rfl (by walk_at "csc") nd rfl rfl (zz1 rfl jN (za0 (zu0 (zb2 (K:=K) rfl) rfl kF zac (za0 (pv 1) zh0)) zh0)) (λ _ _ _ _=>⟨(pgn 0 (nds ["k", "held", "vats"])),(zko (zc2 zhp (pix w K hr (pv 1) (pv 0)) (pix w K hr (pix w K hr (pv 2) (pv 0)) zg0) (zr2 _))),(pv 0)⟩))
   (zk0 (zz0 (zdl (zp0 qH (rmn hr) rfl (za0 (zs2 kE (rmn hr) (pv 0)) (za0 (pv 3) zh0))) (ztp (zp0 qH (rmn hr) rfl (za0 (zs2 uH (rmn hr) (pv 0)) (za0 (pv 2) zh0)))))))),(zn0 (ze1 (RfF.e (zy4 (RfI.j (zi5 (zc0 (zkl zap (zy0 (zb0 1) zn2)) zq0))) (zv2 (i:=0) (n:=1) (by decide)) (zv1 (zo0 r_gt (RfE.v (zo0 r_ix (zb0 1) (zb0 0))) (RfE.v (zo0 r_ix (RfE.v (zo0 r_ix (zb0 2) (zb0 0))) rvi)))) (zm0 0))) (rgn 3))
   (zc1 (RfE.c (zqc (zrn (zy0 (RfE.v (RfN.ex (zkg (zl0 0) zx1))) (zy0 (zb0 3) zn2))) (zrn (zy0 (RfE.v (RfN.ex (zkg (zl0 0) zx1))) (zy0 (zb0 2) zn2))))))),?_⟩
 rintro as Qd a ⟨n,g,ly,ps,m,en,kvs,rfl,hn,hl,q⟩
 walk_at "ds"
 refine ze0 λ J hJ=>?_
 walk_at "dd"
 rw [zqf,Int.toNat_natCast]
 unfold rngD
 refine ⟨by lia,by lia,zf41 (λ k:Nat=>if (g k).room < ly.getD k 0 then some (.int (k:Int)) else none) (by rw [sizeLine_eq,List.length_range];lia) (λ k hk=>?_) (hJ _ ?_)⟩
 ·have hk:=List.mem_range.mp hk
  rw [show (0:Int)+(k:Int)=(k:Int) by lia]
  have g1:atI (ly.map PyData.int) ((k:Nat):Int)=some (.int (ly.getD k 0)):=zf5 (by lia) (by rw [Int.toNat_natCast,List.getElem?_map,List.getD_eq_getElem?_getD,List.getElem?_eq_getElem (by lia)];rfl)
  have g2:atI (dVs n g) ((k:Nat):Int)=some (.tuple [.str (g k).nm,.int (g k).room,.int (g k).fill]):=zf5 (by lia) (by unfold dVs;rw [Int.toNat_natCast,List.getElem?_map,List.getElem?_range hk];rfl)
  walk_at "cs"
  walk_at "dd"
  refine ⟨_,g1,_,g2,?_⟩
  walk_at "dd"
  exact ⟨_,rfl,two (λ h=>by rw [if_pos (by simpa using h)]) λ h=>by rw [if_neg (by simpa using h)]⟩
 clear hJ
 rw [zmo]
 have ol:=zzn ((List.range n).map λ i=>(g i).room) ly
 rw [List.length_map,List.length_range] at ol
 unfold pS
 walk_at "dd"
 refine ⟨_,ly,ps,m,en,kvs,rfl,by rw [List.length_map,List.length_range];exact hl.symm,by rw [List.length_map,List.length_range];exact hn,?_⟩
 walk_at "dd"
 refine ⟨_,by rw [List.map_map];rfl,by rw [List.length_map];lia,?_⟩
 walk_at "dd"
 refine ⟨_,ly,ps,m,en,kvs,rfl,?_⟩
 walk_at "dd"
 refine ⟨ly,rfl,by lia,?_⟩
 walk_at "dd"
 exact q
end
def zd1 (n:Nat) (g:Nat->Va):List Int:=(List.range n).map λ i=>(g i).room
def zv0 (n:Nat) (g:Nat->Va):List Int:=(List.range n).map λ i=>(g i).fill
theorem zx0 (n:Nat) (g:Nat->Va):(zv0 n g).length=n:=by simp [zv0]
theorem zj4 (n:Nat) (g:Nat->Va):(zd1 n g).length=n:=by simp [zd1]
structure Pok (n:Nat) (ps:List Pi):Prop where
 p24:ps.length<=24
 n12:n<=12
 pu:∀ p∈ps,p.u < n/\p.v < n/\1<=p.len/\p.g.ok/\∀ t,0<=p.g.at t
theorem Pok.hp {n:Nat} {ps:List Pi} (h:Pok n ps) (g:Nat->Va):∀ p∈ps,p.u < (zv0 n g).length/\p.v < (zv0 n g).length/\1<=p.len:=λ p hp=>by
 rw [zx0];exact ⟨(h.pu p hp).1,(h.pu p hp).2.1,(h.pu p hp).2.2.1⟩
theorem Pok.hw {n:Nat} {ps:List Pi} (h:Pok n ps):∀ p∈ps,∀ t,0<=p.g.at t:=λ p hp=>(h.pu p hp).2.2.2.2
def zpc (C C1 C2 C3:Addr):DSpT:=λ as Q=>∃ (n:Nat) (g:Nat->Va) (ps:List Pi) (L:List Le) (now later:Nat) (ly en:List Int) (kvs:List (List Key×D)),as=[.o (pS C C1 C2 C3 (zd1 n g) ly ps now en kvs),.d (.int (now:Int)),.d (.int (later:Int))]/\Pok n ps/\Pl (zv0 n g) ps now L ly en kvs/\now<=later /\
 (∀ m,now<=m->m < later->zgl (zd1 n g) (hold ps m L (zv0 n g)))/\∀ en' kvs',Pl (zv0 n g) ps later L (hold ps later L (zv0 n g)) en' kvs'->Q (.fz (.bool true)) (pS C C1 C2 C3 (zd1 n g) (hold ps later L (zv0 n g)) ps later en' kvs')
def zq2 (C C1 C2 C3:Addr):DSpM:=λ as Q=>∃ (n:Nat) (g:Nat->Va) (ps:List Pi) (L:List Le) (now k:Nat) (p:Pi) (am:Int) (ly en:List Int) (kvs:List (List Key×D)),as=[.o (pS C C1 C2 C3 (zd1 n g) ly ps now en kvs),.d (.list (dVs n g)),.o (.li (ly.map .int)),.d (.int (k:Int)),.d (.int (p.u:Int)),.d (.int am)]/\Pok n ps/\ps[k]?=some p/\Pl (zv0 n g) ps now L ly en kvs/\L.length<=1000/\0<=am /\
 (am=0->Q (.fz (.bool true)) [pS C C1 C2 C3 (zd1 n g) ly ps now en kvs,.fz .none,.li (ly.map .int),.fz .none,.fz .none,.fz .none]) /\
 (0 < am->am<=zak ps k now - byS L now k/\am<=ly.getD p.u 0/\Q (.fz (.bool true)) [pS C C1 C2 C3 (zd1 n g) (ly.set p.u (ly.getD p.u 0 - am)) ps now (en.set k (en.getD k 0+am)) (putD kvs (kTI ((now:Int)+(p.len:Int)) k) (.int (cm kvs ((now:Int)+(p.len:Int)) k+am))),.fz .none,.li ((ly.set p.u (ly.getD p.u 0 - am)).map .int),.fz .none,.fz .none,.fz .none])
section
variable {P:Program} {w:World} {K:Fg} {mg:Str->Option Value} {base:Heap} {jB jD jC jA:Addr}
theorem zh8:FnScope ["play", "now", "later"] ["play", "now", "later"] (zf0 zn6):=by walk_at "sc"
theorem zqg (M:Md K mg) (T:TopDef K "_law_on_to" zn6) (jO:Def P w K mg base "_law_whole" 1 ["found", "due"] (spD K zl2)) (jE:Cls K jA) (uI:zh5 P w K mg base jA "go_on" 3 ["self"] (spT K (zda jA jB jD jC))):Def P w K mg base "_law_on_to" 4 ["play", "now", "later"] (spT K (zpc jA jB jD jC)):=by
 refine zb7 M T zh8 (λ _ _ _ _ _ _ us hl=>by obtain ⟨_,_,_,rfl⟩:=ar3 hl;rfl) (zfe λ as Qd h=>by obtain ⟨_,_,_,_,_,_,_,_,_,rfl,_⟩:=h;rfl) (zm3 ?_)
 intro f cdv A outer s H E hr
 have nd:=zh8.nd
 refine ⟨_,_,(zd0 (zyu PassesOwn.never (zc2 zv41 (pv 1) (pv 2) (zr2 _)) (zd0 (pset 1 nd (zw0 (zs0 (K:=K) rfl) (pv 1) zg0))
   (zk0 (zdb (zo8 (ze3 (K:=K) rfl (zp0 jO (rmn hr) rfl (za0 (zs2 uI (rmn hr) (pv 0)) (za0 (pv 1) zh0))) (λ _=>rfl))) (zk0 (zz0 zqk)) zg1))))
   (zk0 (zz0 zqk))),(zn0 (zvv (zv1 (zo0 r_lt (zb0 1) (zb0 2))) (zn0 (ze1 (zo0 za4 (zb0 1) rvi) (rgn 1))
   (zgf (zke (ru_c (zfo (zog true (zl0 0) zx1) (zc0 (zm0 1) zq0)))) (zc1 (RfE.c zz8)) zh1)))
   (zc1 (RfE.c zz8))),?_⟩
 rintro as Qd a ⟨n,g,ps,L,now,later,ly,en,kvs,rfl,po,P0,hle,no,q⟩
 have hp:=po.hp g
 have hw:=po.hw
 walk_at "ds"
 refine ze0 λ J hJ=>?_
 refine ⟨λ μ U=>∃ (m:Nat) (ly en:List Int) (kvs:List (List Key×D)),μ=later - m/\now<=m/\m<=later/\Pl (zv0 n g) ps m L ly en kvs/\U=[.io a (pS jA jB jD jC (zd1 n g) ly ps m en kvs),.sh (.int (m:Int)),.sh (.int (later:Int))],⟨_,now,ly,en,kvs,rfl,Nat.le_refl _,hle,P0,rfl⟩,?_⟩
 rintro μ U ⟨m,ly,en,kvs,rfl,h1,h2,P1,rfl⟩
 have e1:=P1.ly
 walk_at "dd"
 refine two (λ z=>?_) λ z=>hJ _ ?_
 ·clear hJ
  have z:m < later:=by lia
  have nov:=no m h1 z
  rw [<- e1] at nov
  refine ze0 λ J hJ=>?_
  walk_at "dd"
  refine hJ _ ?_
  clear hJ
  unfold pS
  walk_at "dd"
  refine ⟨_,ly,ps,m,en,kvs,rfl,nov,po.p24,λ p hpm=>?_,P1.ai,?_⟩
  ·rw [e1,zj1,zx0];exact (po.pu p hpm).2.1
  walk_at "dd"
  refine ⟨_,rfl,(m:Int)+1,rfl,?_⟩
  walk_at "dd"
  exact ⟨true,rfl,by rw [if_neg (by decide)];exact ⟨later - (m+1),by lia,m+1,_,_,_,rfl,by lia,by lia,P1.go hp hw,rfl⟩⟩
 ·clear hJ
  obtain rfl:m=later:=by lia
  walk_at "dd"
  rw [e1] at P1 ⊢
  exact ⟨_,rfl,q _ _ P1⟩
theorem zp6:FnScope ["play", "vats", "held", "at", "start", "amount"] ["play", "vats", "held", "at", "start", "amount"] (zf0 zf4):=by walk_at "sc"
theorem zgd (M:Md K mg) (T:TopDef K "_law_let_on" zf4) (jO:Def P w K mg base "_law_whole" 1 ["found", "due"] (spD K zl2)) (kO:Def P w K mg base "_law_full" 3 ["play", "vats", "held"] (spT K (zy9 jA jB jD jC))) (jE:Cls K jA) (uY:zh5 P w K mg base jA "let" 3 ["self", "pipe", "amount"] (spT K (zgh jA jB jD jC))):Def P w K mg base "_law_let_on" 4 ["play", "vats", "held", "at", "start", "amount"] (spM K (zq2 jA jB jD jC)):=by
 refine zb7 M T zp6 (λ _ _ _ _ _ _ us hl=>by obtain ⟨_,_,_,_,_,_,rfl⟩:=ar6 hl;rfl) (zq91 λ as Qd h=>by obtain ⟨_,_,_,_,_,_,_,_,_,_,_,rfl,_⟩:=h;rfl) (zby ?_)
 intro f cdv A outer s H E hr
 have nd:=zp6.nd
 refine ⟨_,_,(zd0 (zdb (zc2 zhp (pv 5) zg0 (zr2 _)) (zd0 (zbb (zw0 zin (pix w K hr (pv 2) (pv 4)) (pv 5)) (zcb (pv 2) (pv 4) (zfi (Room.units hr))))
   (zk0 (zdb (zo8 (ze3 (K:=K) rfl (zp0 jO (rmn hr) rfl (za0 (zio uY (rmn hr) (pv 0) (za0 (pv 3) (za0 (pv 5) zh0))) (za0 (pix w K hr (pv 2) (pv 4)) zh0))) (λ _=>rfl))) (zk0 (zz0 zqk)) zg1))) zg1)
   (zk0 (zz0 (zp0 kO (rmn hr) rfl (za0 (pv 0) (za0 (pv 1) (za0 (pv 2) zh0))))))),(zn0 (zfl (zv1 (zo0 r_gt (zb0 5) rvi)) (zn0 (zw9 (zo0 zt21 (RfE.v (zo0 r_ix (zb0 2) (zb0 4))) (zb0 5)) (zl0 2) (zm0 4))
   (zgf (zke (ru_c (zfo (zog true (zl0 0) (at_d (zm0 3) (at_d (zm0 5) zx1))) (zc0 (zo0 r_ix (zb0 2) (zb0 4)) zq0)))) (zc1 (RfE.c zz8)) zh1)) zh1)
   (zc1 (zvg (at_b (zl0 0) (at_d (zm0 1) (at_b (zl0 2) zx1)))))),?_⟩
 rintro as Qd al ⟨n,g,ps,L,now,k,p,am,ly,en,kvs,rfl,po,hk,P0,hL,h0,q0,q1⟩
 have hkl:=(List.getElem?_eq_some_iff.mp hk).1
 have pu:=po.pu p (List.mem_of_getElem? hk)
 have e1:=P0.ly
 have lyl:ly.length=n:=by rw [e1,zj1,zx0]
 have ga:∀ (h:List Int) (v:Nat),v < h.length->atI (h.map PyData.int) ((v:Nat):Int)=some (.int (h.getD v 0)):=λ h v hv=>zf5 (by lia) (by rw [Int.toNat_natCast,List.getElem?_map,List.getD_eq_getElem?_getD,List.getElem?_eq_getElem hv];rfl)
 walk_at "ds"
 refine zwe (λ U=>∃ (ly' en':List Int) (kvs':List (List Key×D)),ly'.length=n/\Qd (.fz (.bool true)) [pS jA jB jD jC (zd1 n g) ly' ps now en' kvs',.fz .none,.li (ly'.map .int),.fz .none,.fz .none,.fz .none]/\U=[.io (al 0) (pS jA jB jD jC (zd1 n g) ly' ps now en' kvs'),.sh (.list (dVs n g)),.io (al 2) (.li (ly'.map .int)),.sh (.int (k:Int)),.sh (.int (p.u:Int)),.sh (.int am)]) ?_ ?_
 ·walk_at "dd"
  refine two (λ z=>?_) λ z=>⟨ly,en,kvs,lyl,q0 (by lia),rfl⟩
  obtain ⟨q2,q3,q4⟩:=q1 z
  refine ze0 λ J hJ=>?_
  walk_at "dd"
  refine ⟨_,ga ly p.u (by lia),?_⟩
  walk_at "dd"
  refine ⟨p.u,by rw [List.length_map,lyl];exact zh6 pu.1,hJ _ ?_⟩
  clear hJ
  rw [show (ly.map PyData.int).set p.u (.int (ly.getD p.u 0 - am))=(ly.set p.u (ly.getD p.u 0 - am)).map PyData.int by rw [List.map_set]]
  unfold pS
  walk_at "dd"
  refine ⟨_,ly,ps,now,en,kvs,k,am,p,en.getD k 0,ly.getD p.u 0,cm kvs ((now:Int)+(p.len:Int)) k,rfl,hk,?_,?_,pu.2.2.2.1,po.p24,?_,by lia,?_,q3,?_,?_⟩
  ·rw [List.getD_eq_getElem?_getD,List.getElem?_eq_getElem (by rw [P0.el];exact hkl)];rfl
  ·rw [List.getD_eq_getElem?_getD,List.getElem?_eq_getElem (by rw [lyl];exact pu.1)];rfl
  ·have:=P0.kl;lia
  ·have ew:zak ps k now=p.g.at now:=by unfold zak;rw [hk];rfl
   rw [P0.en k hkl,<- ew];exact q2
  ·exact zpp P0.ai _ _
  walk_at "dd"
  refine ⟨_,rfl,_,ga _ p.u (by rw [List.length_set,lyl];exact pu.1),?_⟩
  rw [zp1 _ _ _ (by rw [lyl];exact pu.1),if_pos rfl]
  exact ⟨_,rfl,true,rfl,by rw [if_neg (by decide)];exact ⟨_,_,_,by rw [List.length_set,lyl],q4,rfl⟩⟩
 rintro U ⟨ly',en',kvs',hl',q',rfl⟩
 walk_at "dd"
 exact ⟨n,g,ly',ps,now,en',kvs',rfl,po.n12,hl',_,rfl,_,rfl,q'⟩
end
theorem zrf:bootBuiltins "ValueError"=some (.type "ValueError"):=by decide +kernel
def ze8 (C C1 C2 C3:Addr):DSpT:=λ as Q=>∃ (rooms ly:List Int) (ps:List Pi) (now:Nat) (en:List Int) (kvs:List (List Key×D)) (R:List (List Int)),as=[.o (pS C C1 C2 C3 rooms ly ps now en kvs),.d (.int (now:Int)),.b (.li (R.map rowD))]/\rooms.length=ly.length/\rooms.length<=12/\ps.length<=24/\(∀ p∈ps,p.v < ly.length)/\AllI kvs/\over rooms ly≠[] /\
 kvs.length < 64/\(∀ kv∈kvs,kv.1.length=2)/\plD kvs=(kvs.map kRow).map rowD/\R.Perm (kvs.map kRow)/\Q (.fz (.bool true)) (pS C C1 C2 C3 rooms ly ps now en kvs)
section
variable {P:Program} {w:World} {K:Fg} {mg:Str->Option Value} {base:Heap} {jB jD jC jA jF kS kQ jW kG jQ jX kU kR jR:Addr}
theorem zr5:FnScope ["play", "now", "way", "told", "k", "e"] ["play", "now", "way"] (zf0 zq3):=by walk_at "sc"
theorem zrb (M:Md K mg) (T:TopDef K "_law_refused" zq3) (kt:Kit K) (kW:mg "ValueError"=none) (jJ:mg "isinstance"=none) (jN:mg "range"=none) (qJ:mg "sorted"=none) (jO:Def P w K mg base "_law_whole" 1 ["found", "due"] (spD K zl2)) (jE:Cls K jA) (uZ:zh5 P w K mg base jA "now" 1 ["self"] (spT K (zr9 jA jB jD jC))) (jV:zh5 P w K mg base jA "under_way" 1 ["self"] (spT K (zq1 jA jB jD jC))) (uB:zpz P w K mg base jA "go_on" 3 ["self"] (spX K (zz4 jA jB jD jC jF))) (kX:XCls K "YardError" kS) (uF:XCls K "NoPipe" kQ) (qK:XCls K "NoAmount" jW) (qU:XCls K "TooWide" kG) (kY:XCls K "TooLittle" jQ) (qL:XCls K "NoMoment" jX) (uQ:XCls K "NoRow" kU) (uG:XCls K "NoName" kR) (kZ:XCls K "NoMeasure" jR) (kM:XCls K "TooFull" jF) (jS:PySem.W.exmOne K (.ref jF) (.ref kS)=some true) (kx:KxT K [jF] [kQ,jW,kG,jQ,jX,kU,kR,jR,jF]):Def P w K mg base "_law_refused" 4 ["play", "now", "way"] (spT K (ze8 jA jB jD jC)):=by
 refine zb7 M T zr5 (λ _ _ _ _ _ _ us hl=>by obtain ⟨_,_,_,rfl⟩:=ar3 hl;rfl) (zfe λ as Qd h=>by obtain ⟨_,_,_,_,_,_,_,rfl,_⟩:=h;rfl) (zm3 ?_)
 intro f cdv A outer s H E hr
 have nd:=zr5.nd
 refine ⟨_,(dSeq (dAsg (dF (dLst dNil)) (gN 3))
   (dSeq (dFor (zm61 (zk7 (dC (.int 2)) dNil)) (gN 4) (ze71 K (λ ex=>(zar (zt51 true jA "go_on" (zz4 jA jB jD jC jF) (pVar 0) aNil) ex)) [(.ref kS,λ C=>dAs 5 (dG [jF] C (dSeq (dAsg (dOp fAdd (zdo 3) (dF (dLst (zk7 (dC (.bool (C == kQ))) (zk7 (dC (.bool (C == jW))) (zk7 (dC (.bool (C == kG))) dNil)))))) (gN 3))
   (dSeq (dAsg (dOp fAdd (zdo 3) (dF (dLst (zk7 (dC (.bool (C == jQ))) (zk7 (dC (.bool (C == jX))) (zk7 (dC (.bool (C == kU))) dNil)))))) (gN 3))
   (dSeq (dAsg (dOp fAdd (zdo 3) (dF (dLst (zk7 (dC (.bool (C == kR))) (zk7 (dC (.bool (C == jR))) (zk7 (zm41 (dC (.bool true))) dNil)))))) (gN 3))
   (dAsg (dOp fAdd (zdo 3) (dF (dLst (zk7 (zm41 (dC (.bool (C == jF)))) dNil)))) (gN 3)))))))]))
   (dRet (cE (zb41 (dOp fEq (zdo 3) (dF (dRep (dLst (zk7 (dC (.bool false)) dNil)) (dC (.int 20))))) (zb41 (zr41 zl2 (zk7 (eN (ze41 jA "now" (zr9 jA jB jD jC) (pVar 0) aNil)) (zk7 (dVar 1) dNil))) (dOp fEq (eN (ze41 jA "under_way" (zq1 jA jB jD jC) (pVar 0) aNil)) (dF (dCF zop (zk7 (zdo 2) dNil)))))))))),(zd0 (pset 3 nd (zt1 zh0))
   (zd0 (zub PassesOwn.never rfl (zz1 rfl jN (za0 zg0 zh0)) (pgn 4 nd) (zk0 (zgy rfl rfl (λ pn xe=>(HandsN.cons (i:=5) (t:=λ C ea=>(tSeq (tAsg (tOp (zhl K) (tVar 3) (zqq (zk2 (tCB (rIsE K ea C) (zk2 (tVar 5) (zk2 (tC (.ref kQ)) tNil))) (zk2 (tCB (rIsE K ea C) (zk2 (tVar 5) (zk2 (tC (.ref jW)) tNil))) (zk2 (tCB (rIsE K ea C) (zk2 (tVar 5) (zk2 (tC (.ref kG)) tNil))) tNil))))) (zhe 3)) (tSeq (tAsg (tOp (zhl K) (tVar 3) (zqq (zk2 (tCB (rIsE K ea C) (zk2 (tVar 5) (zk2 (tC (.ref jQ)) tNil))) (zk2 (tCB (rIsE K ea C) (zk2 (tVar 5) (zk2 (tC (.ref jX)) tNil))) (zk2 (tCB (rIsE K ea C) (zk2 (tVar 5) (zk2 (tC (.ref kU)) tNil))) tNil))))) (zhe 3)) (tSeq (tAsg (tOp (zhl K) (tVar 3) (zqq (zk2 (tCB (rIsE K ea C) (zk2 (tVar 5) (zk2 (tC (.ref kR)) tNil))) (zk2 (tCB (rIsE K ea C) (zk2 (tVar 5) (zk2 (tC (.ref jR)) tNil))) (zk2 (zdx (tCB (rIsE K ea C) (zk2 (tVar 5) (zk2 (tC (.ty "ValueError")) tNil)))) tNil))))) (zhe 3)) (tAsg (tOp (zhl K) (tVar 3) (zqq (zk2 (zdx (tCB (rIsE K ea C) (zk2 (tVar 5) (zk2 (tC (.ref jF)) tNil)))) tNil))) (zhe 3)))))) rfl (.inl (M.got kX.at_)) (by decide) nd rfl rfl (λ ea oe C hC=>(zd0 (pset 3 nd (zw0 (zs0 (K:=K) rfl) (pv 3) (zt1 (za0 (zu0 (zb3 rfl hC) rfl jJ zr0 (za0 (pv 5) (za0 (ze7 (v:=.ref kQ) rfl (M.got uF.at_) rfl) zh0))) (za0 (zu0 (zb3 rfl hC) rfl jJ zr0 (za0 (pv 5) (za0 (ze7 (v:=.ref jW) rfl (M.got qK.at_) rfl) zh0))) (za0 (zu0 (zb3 rfl hC) rfl jJ zr0 (za0 (pv 5) (za0 (ze7 (v:=.ref kG) rfl (M.got qU.at_) rfl) zh0))) zh0))))))
   (zd0 (pset 3 nd (zw0 (zs0 (K:=K) rfl) (pv 3) (zt1 (za0 (zu0 (zb3 rfl hC) rfl jJ zr0 (za0 (pv 5) (za0 (ze7 (v:=.ref jQ) rfl (M.got kY.at_) rfl) zh0))) (za0 (zu0 (zb3 rfl hC) rfl jJ zr0 (za0 (pv 5) (za0 (ze7 (v:=.ref jX) rfl (M.got qL.at_) rfl) zh0))) (za0 (zu0 (zb3 rfl hC) rfl jJ zr0 (za0 (pv 5) (za0 (ze7 (v:=.ref kU) rfl (M.got uQ.at_) rfl) zh0))) zh0))))))
   (zd0 (pset 3 nd (zw0 (zs0 (K:=K) rfl) (pv 3) (zt1 (za0 (zu0 (zb3 rfl hC) rfl jJ zr0 (za0 (pv 5) (za0 (ze7 (v:=.ref kR) rfl (M.got uG.at_) rfl) zh0))) (za0 (zu0 (zb3 rfl hC) rfl jJ zr0 (za0 (pv 5) (za0 (ze7 (v:=.ref jR) rfl (M.got kZ.at_) rfl) zh0))) (za0 (zlw (zu0 (zb3 rfl hC) rfl jJ zr0 (za0 (pv 5) (za0 (ztj (v:=.ty "ValueError") rfl kW zrf rfl) zh0)))) zh0))))))
   (zk0 (pset 3 nd (zw0 (zs0 (K:=K) rfl) (pv 3) (zt1 (za0 (zlw (zu0 (zb3 rfl hC) rfl jJ zr0 (za0 (pv 5) (za0 (ze7 (v:=.ref jF) rfl (M.got kM.at_) rfl) zh0)))) zh0))))))))) HandsN.nil)) (λ D pn xe hx=>(zk0 (zuf (zoq (k:=3) rfl rfl rfl rfl rfl (rmn hr) hx (pv 0))))))))
   (zk0 (zz0 (zdl (zug (zig (K:=K) rfl (Room.units hr)) (pv 3) (zw0 zj3 (zt1 (za0 zqk zh0)) zg0) (zr2 _)) (zdl (zp0 jO (rmn hr) rfl (za0 (zs2 uZ (rmn hr) (pv 0)) (za0 (pv 1) zh0))) (ztp (zug (zig (K:=K) rfl (Room.units hr)) (zs2 jV (rmn hr) (pv 0)) (zu0 (zof (K:=K) rfl) rfl qJ zej (za0 (pv 2) zh0)) (zr2 _))))))))),(zn0 (ze1 (RfF.e (zg5 zq0)) (rgn 3))
   (zn0 (zec (zi5 (zc0 zi1 zq0)) (rgn 4) (ztz (λ D ex=>(zrs (zg01 true uB (zl0 0) zx1))) (RfHsN.cons (Cs:=[jF]) (i:=5) (λ C hC ea=>(ztn (i:=5) (j:=3) (by decide) (zik (zgj (zy1 (zj5 (cV:=.ref kQ) (kx.ex C hC) rfl (kx.one C hC kQ (by simp))) (zy1 (zj5 (cV:=.ref jW) (kx.ex C hC) rfl (kx.one C hC jW (by simp))) (zy1 (zj5 (cV:=.ref kG) (kx.ex C hC) rfl (kx.one C hC kG (by simp))) zod))))) (ztn (i:=5) (j:=3) (by decide) (zik (zgj (zy1 (zj5 (cV:=.ref jQ) (kx.ex C hC) rfl (kx.one C hC jQ (by simp))) (zy1 (zj5 (cV:=.ref jX) (kx.ex C hC) rfl (kx.one C hC jX (by simp))) (zy1 (zj5 (cV:=.ref kU) (kx.ex C hC) rfl (kx.one C hC kU (by simp))) zod))))) (ztn (i:=5) (j:=3) (by decide) (zik (zgj (zy1 (zj5 (cV:=.ref kR) (kx.ex C hC) rfl (kx.one C hC kR (by simp))) (zy1 (zj5 (cV:=.ref jR) (kx.ex C hC) rfl (kx.one C hC jR (by simp))) (zy1 (zmn (zj5 (cV:=.ty "ValueError") (kx.ex C hC) rfl (kx.ve C hC))) zod))))) (zfz (zik (zgj (zy1 (zmn (zj5 (cV:=.ref jF) (kx.ex C hC) rfl (kx.one C hC jF (by simp)))) zod)))))))) (λ C hC=>(zn0 (ze1 (zo0 za4 (zb0 3) (RfE.v (RfF.e (zg5 (zc0 zz8 (zc0 zz8 (zc0 zz8 zq0))))))) (rgn 3))
   (zn0 (ze1 (zo0 za4 (zb0 3) (RfE.v (RfF.e (zg5 (zc0 zz8 (zc0 zz8 (zc0 zz8 zq0))))))) (rgn 3))
   (zn0 (ze1 (zo0 za4 (zb0 3) (RfE.v (RfF.e (zg5 (zc0 zz8 (zc0 zz8 (zc0 (zsl zz8) zq0))))))) (rgn 3))
   (ze1 (zo0 za4 (zb0 3) (RfE.v (RfF.e (zg5 (zc0 (zsl zz8) zq0))))) (rgn 3)))))) RfHsN.nil)))
   (zc1 (RfE.c (zqc (zlb q_eq (RfV.h (zb0 3)) (RfV.h (RfE.v (RfF.e (zrq (zg5 (zc0 zz8 zq0)) zi1))))) (zqc (zk1 (zc0 (RfN.ex (zkg (zl0 0) zx1)) (zc0 (zm0 1) zq0))) (zlb q_eq (RfV.h (RfE.v (RfN.ex (zkg (zl0 0) zx1)))) (RfV.h (RfE.v (RfF.e (zyr zas (zy0 (zb0 2) zn2)))))))))))),?_⟩
 rintro as Qd a ⟨rooms,ly,ps,now,en,kvs,R,rfl,h1,h2,h24,hv,hai,ho,k1,k2,k3,k4,q⟩
 obtain ⟨b0,b1,b2,b3,b4,b5,b6,b7⟩:(jF == kQ)=false/\(jF == jW)=false/\(jF == kG)=false/\(jF == jQ)=false/\(jF == jX)=false/\(jF == kU)=false/\(jF == kR)=false/\(jF == jR)=false:=by
  have nd:=kx.nd
  simp only [List.nodup_cons,List.mem_cons,List.not_mem_nil,not_or,or_false] at nd
  simp only [beq_eq_false_iff_ne]
  refine ⟨?_,?_,?_,?_,?_,?_,?_,?_⟩ <;> intro e <;> simp_all
 walk_at "ds"
 walk_at "dn"
 refine ze0 λ J hJ=>?_
 walk_at "dd"
 unfold rngD
 refine zb6 (λ i U=>∃ s4:Sl,U=[.io a (pS jA jB jD jC rooms ly ps now en kvs),.sh (.int (now:Int)),.bo (.li (R.map rowD)),.sh (.list (List.replicate (10 * i) (.bool false))),s4,.un]) ⟨.un,rfl⟩ ?_ ?_
 ·rintro i x U hx ⟨s4,rfl⟩
  obtain ⟨hi,hi2⟩:=List.getElem?_eq_some_iff.mp hx
  simp at hi hi2
  subst hi2
  unfold pS
  walk_at "dd"
  refine ⟨rooms,ly,ps,now,en,kvs,rfl,h1,h2,h24,hv,hai,λ z=>absurd z ho,λ _=>?_⟩
  refine ⟨true,jS,?_⟩
  rw [if_pos rfl]
  refine ⟨by simp,?_⟩
  rw [b0,b1,b2,b3,b4,b5,b6,b7,show (jF == jF)=true from by simp]
  have len:(List.replicate (10 * i) (PyData.bool false)).length<=10:=by rw [List.length_replicate];lia
  have rep:List.replicate (10 * i) (PyData.bool false)++[PyData.bool false,.bool false,.bool false]++[PyData.bool false,.bool false,.bool false]++[PyData.bool false,.bool false,.bool false]++[PyData.bool false]=List.replicate (10 * (i+1)) (PyData.bool false):=by
   rw [show 10 * (i+1)=10 * i+10 by lia,<- List.replicate_append_replicate]
   simp only [List.append_assoc];rfl
  rw [<- rep]
  generalize List.replicate (10 * i) (PyData.bool false)=T0 at len
  refine ze0 λ J hJ=>?_
  walk_at "dd"
  refine ⟨by lia,hJ _ ?_⟩
  clear hJ
  refine ze0 λ J hJ=>?_
  walk_at "dd"
  refine ⟨by simp;lia,hJ _ ?_⟩
  clear hJ
  refine ze0 λ J hJ=>?_
  walk_at "dd"
  refine ⟨by simp;lia,hJ _ ?_⟩
  clear hJ
  walk_at "dd"
  exact ⟨by simp;lia,_,rfl⟩
 rintro U ⟨s4,rfl⟩
 refine hJ _ ?_
 clear hJ
 rw [List.length_range]
 unfold pS at q ⊢
 walk_at "dd"
 refine ⟨by decide +kernel,by decide +kernel,?_⟩
 rw [if_pos (by decide +kernel)]
 refine ⟨_,ly,ps,now,en,kvs,rfl,?_⟩
 walk_at "dd"
 refine ⟨_,rfl,?_⟩
 walk_at "dd"
 refine ⟨_,ly,ps,now,en,kvs,rfl,k1,k2,k3,λ W w1 w2=>?_⟩
 walk_at "dd"
 have hR:R.length < 64:=by have:=k4.length_eq;rw [List.length_map] at this;lia
 refine ⟨R,rfl,λ r hr=>?_,hR,λ R' r1 r2=>?_⟩
 ·obtain ⟨kv,_,rfl⟩:=List.mem_map.mp (k4.mem_iff.mp hr)
  exact zts kv
 obtain rfl:W=R':=zem (w1.trans (k4.symm.trans r1.symm)) w2 r2
 have fw:Fit 2 (.list (W.map rowD)):=zet λ r _=>Fit.tup λ e he=>by
  obtain ⟨z,_,rfl⟩:=List.mem_map.mp he
  exact Fit.int z
 rw [fw.eqv]
 exact ⟨fw.shaped (by decide),fw.shaped (by decide),_,rfl,q⟩
end
theorem zoi {di:DF} {dg:DG} {db:DS} {E:DEnds} {U:DSt} (h:∀ B:DS,(∀ E U,db E U->B E U)->dFor di dg B E U):dFor di dg db E U:=h db λ _ _ z=>z
theorem ar8 {α:Type} {us:List α} (hl:us.length=8):∃ a b c d e f g h,us=[a,b,c,d,e,f,g,h]:=by
 obtain ⟨a,r,rfl,k⟩:=ars hl
 obtain ⟨b,c,d,e,f,g,h,rfl⟩:=ar7 k
 exact ⟨a,b,c,d,e,f,g,h,rfl⟩
theorem zyo {h:List Int} {v:Nat}:h.set v (h.getD v 0 - 0)=h:=by
 rw [Int.sub_zero]
 apply List.ext_getElem?
 intro j
 rw [List.getElem?_set]
 split
 ·rename_i e;subst e
  split
  ·rename_i e;rw [List.getD_eq_getElem?_getD,List.getElem?_eq_getElem e];rfl
  ·rename_i e;rw [List.getElem?_eq_none (by lia)]
 ·rfl
theorem zot {h:List Int} {v:Nat} (hv:v < h.length) (s z:Int):(h.set v (h.getD v 0 - s)).set v ((h.set v (h.getD v 0 - s)).getD v 0 - z)=h.set v (h.getD v 0 - (s+z)):=by
 rw [List.set_set,zp1 _ _ _ hv,if_pos rfl,show h.getD v 0 - s - z=h.getD v 0 - (s+z) by lia]
theorem zx8 (W:Ways) (b:Nat):wayW W b 0=W:=if_pos rfl
def ze4 (C C1 C2 C3:Addr):DSpM:=λ as Q=>∃ (n:Nat) (g:Nat->Va) (ps:List Pi) (L:List Le) (now b:Nat) (p:Pi) (x y:Int) (ly en:List Int) (W:Ways),as=[.o (pS C C1 C2 C3 (zd1 n g) ly ps now en (encW (gP ps now) W)),.d (.list (dVs n g)),.d (.list (ps.map Pi.d)),.o (.li (ly.map .int)),.d (.int (p.u:Int)),.d (.list [.int 0,.int x,.int y]),.d (.int (now:Int)),.o (.li ((W.map (rowW ps now)).map rowD))] /\
 Pok n ps/\ps[b]?=some p/\(∀ (m:Nat) p',m < b->ps[m]?=some p'->p'.u≠p.u)/\Pl (zv0 n g) ps now L ly en (encW (gP ps now) W)/\L.length<=500/\W.length<=10/\b ∉ W.map (·.1)/\0<=x/\0<=y/\x+y<=zak ps b now - byS L now b/\x+y<=ly.getD p.u 0 /\
 ∀ (L2:List Le) (en':List Int),L2.length<=3->(∀ l∈L2,l.t=now/\l.at_=b)->sL L2 (λ l=>l.am)=x+y->Pl (zv0 n g) ps now (L++L2) (ly.set p.u (ly.getD p.u 0 - (x+y))) en' (encW (gP ps now) (wayW W b (x+y))) ->
  Q (.fz (.bool true)) [pS C C1 C2 C3 (zd1 n g) (ly.set p.u (ly.getD p.u 0 - (x+y))) ps now en' (encW (gP ps now) (wayW W b (x+y))),.fz .none,.fz .none,.li ((ly.set p.u (ly.getD p.u 0 - (x+y))).map .int),.fz .none,.fz .none,.fz .none,.li (((wayW W b (x+y)).map (rowW ps now)).map rowD)]
theorem zbv {C C1 C2 C3:Addr} {n:Nat} {g:Nat->Va} {ps:List Pi} {L L2:List Le} {now b:Nat} {p:Pi} {s z:Int} {ly en:List Int} {W:Ways} {R:T->List T->Prop} (po:Pok n ps) (hb:ps[b]?=some p)
  (P1:Pl (zv0 n g) ps now (L++L2) (ly.set p.u (ly.getD p.u 0 - s)) en (encW (gP ps now) (wayW W b s))) (hlen:(L++L2).length<=1000) (lyl:ly.length=n) (s0:0<=s) (z0:0<=z) (hbW:b ∉ W.map (·.1)) (hL2:∀ l∈L2,l.t=now/\l.at_=b) (hs2:sL L2 (λ l=>l.am)=s)
  (a2:s+z<=zak ps b now - byS L now b) (a3:s+z<=ly.getD p.u 0)
  (k:∀ L3 en',L3.length<=L2.length+1->(∀ l∈L3,l.t=now/\l.at_=b)->sL L3 (λ l=>l.am)=s+z->Pl (zv0 n g) ps now (L++L3) (ly.set p.u (ly.getD p.u 0 - (s+z))) en' (encW (gP ps now) (wayW W b (s+z)))->R (.fz (.bool true)) [pS C C1 C2 C3 (zd1 n g) (ly.set p.u (ly.getD p.u 0 - (s+z))) ps now en' (encW (gP ps now) (wayW W b (s+z))),.fz .none,.li ((ly.set p.u (ly.getD p.u 0 - (s+z))).map .int),.fz .none,.fz .none,.fz .none]) :
  zq2 C C1 C2 C3 [.o (pS C C1 C2 C3 (zd1 n g) (ly.set p.u (ly.getD p.u 0 - s)) ps now en (encW (gP ps now) (wayW W b s))),.d (.list (dVs n g)),.o (.li ((ly.set p.u (ly.getD p.u 0 - s)).map .int)),.d (.int (b:Int)),.d (.int (p.u:Int)),.d (.int z)] R:=by
 have pu:=po.pu p (List.mem_of_getElem? hb)
 have ew:pl ps b=p.len:=by unfold pl;rw [hb];rfl
 have eb:byS (L++L2) now b=byS L now b+s:=by
  unfold byS
  rw [zwa]
  congr 1
  rw [<- hs2]
  exact zmm λ l hl=>if_pos (hL2 l hl)
 have hg:(ly.set p.u (ly.getD p.u 0 - s)).getD p.u 0=ly.getD p.u 0 - s:=by rw [zp1 _ _ _ (by rw [lyl];exact pu.1),if_pos rfl]
 refine ⟨n,g,ps,L++L2,now,b,p,z,_,en,_,rfl,po,hb,P1,hlen,z0,λ z3=>?_,λ z3=>?_⟩
 ·subst z3
  rw [Int.add_zero] at k
  exact k L2 en (by lia) hL2 hs2 P1
 ·have h1:z<=zak ps b now - byS (L++L2) now b:=by lia
  have h2:z<=(ly.set p.u (ly.getD p.u 0 - s)).getD p.u 0:=by lia
  refine ⟨h1,h2,?_⟩
  have P2:=P1.let_ (po.hp g) hb (by lia) h1 h2
  have e1:putD (encW (gP ps now) (wayW W b s)) (kTI ((now:Int)+(p.len:Int)) b) (.int (cm (encW (gP ps now) (wayW W b s)) ((now:Int)+(p.len:Int)) b+z))=encW (gP ps now) (wayW W b (s+z)):=by
   rw [<- ew,za81,zrw hbW]
   exact (zaz zv11 _ b _).trans (by rw [zwu hbW s (by lia)])
  rw [e1,zot (by rw [lyl];exact pu.1)] at P2 ⊢
  rw [List.append_assoc] at P2
  refine k (L2++[⟨now,b,z⟩]) _ (by simp) (λ l hl=>?_) ?_ P2
  ·rcases List.mem_append.mp hl with y|y
   ·exact hL2 l y
   ·simp at y;subst y;exact ⟨rfl,rfl⟩
  ·rw [zwa,hs2,zx2,zni]
   show s+(z+0)=_
   lia
theorem zdt {ps:List Pi} {now b:Nat} {p:Pi} (hb:ps[b]?=some p) (W:Ways) {c:Int} (hc:0 < c):(W.map (rowW ps now)).map rowD++[.tuple [.int ((now:Int)+(p.len:Int)),.int (b:Int),.int c]]=((wayW W b c).map (rowW ps now)).map rowD:=by
 have ew:pl ps b=p.len:=by unfold pl;rw [hb];rfl
 unfold wayW
 rw [if_neg (by lia),List.map_append,List.map_append,<- ew];rfl
theorem zsr {ps:List Pi} {b:Nat} {p:Pi} (h24:ps.length<=24) (hb:ps[b]?=some p):atI (ps.map Pi.d) ((b:Nat):Int)=some p.d:=zf5 (by lia) (by rw [Int.toNat_natCast,List.getElem?_map,hb];rfl)
section
variable {P:Program} {w:World} {K:Fg} {mg:Str->Option Value} {base:Heap} {jB jD jC jA:Addr}
theorem zp5:FnScope ["play", "vats", "pipes", "held", "start", "parts", "now", "way", "at", "sent", "part", "gone"] ["play", "vats", "pipes", "held", "start", "parts", "now", "way"] (zf0 zs1):=by walk_at "sc"
theorem zmb (M:Md K mg) (T:TopDef K "_law_emptied" zs1) (kF:mg "len"=none) (kJ:mg "list"=none) (jN:mg "range"=none) (qV:Def P w K mg base "_law_refused" 4 ["play", "now", "way"] (spT K (ze8 jA jB jD jC))) (kK:Def P w K mg base "_law_let_on" 4 ["play", "vats", "held", "at", "start", "amount"] (spM K (zq2 jA jB jD jC))):Def P w K mg base "_law_emptied" 5 ["play", "vats", "pipes", "held", "start", "parts", "now", "way"] (spM K (ze4 jA jB jD jC)):=by
 refine zb7 M T zp5 (λ _ _ _ _ _ _ us hl=>by obtain ⟨_,_,_,_,_,_,_,_,rfl⟩:=ar8 hl;rfl) (zq91 λ as Qd h=>by obtain ⟨_,_,_,_,_,_,_,_,_,_,_,_,rfl,_⟩:=h;rfl) (zby ?_)
 intro f cdv A outer s H E hr
 have nd:=zp5.nd
 refine ⟨_,_,(zd0 (pset 8 nd (zpi (K:=K) rfl PySem.F.plainAttrs_list PySem.F.slot_list_index PySem.F.type_list_index zno (zt6 (sc:=zf0 zs1) (N:=["play", "vats", "pipes", "held", "start", "parts", "now", "way", "at", "sent", "part", "gone"]) (own:=["one"]) (ix:=[]) rfl rfl rfl (by walk_at "csc") (pi_W (K:=K) rfl (pv 2)) (λ _ _ _ _=>⟨(pgn 0 (nds ["one"])),zl5,(pix w K hr (pv 0) zg0)⟩)) (za0 (pv 4) zh0)))
   (zd0 (pset 9 nd zg0)
   (zd0 (zub PassesOwn.never rfl (pi_W (K:=K) rfl (pv 5)) (pgn 10 nd) (zd0 (zdb (zo8 (ze3 (K:=K) rfl (zp0 kK (rmn hr) rfl (za0 (pv 0) (za0 (pv 1) (za0 (pv 3) (za0 (pv 8) (za0 (pv 4) (za0 (pv 10) zh0))))))) (λ _=>rfl))) (zk0 (zz0 zqk)) zg1)
   (zd0 (pset 9 nd (zw0 (zs0 (K:=K) rfl) (pv 9) (pv 10)))
   (zd0 (pset 11 nd (zn3 (zi3 (K:=K) rfl) rfl kJ zja (za0 (pv 7) zh0)))
   (zd0 (zdb (zc2 zhp (pv 9) zg0 (zr2 _)) (zk0 (zuf (zpi (K:=K) rfl PySem.F.plainAttrs_list PySem.F.slot_list_append PySem.F.type_list_append zrd (pv 11) (za0 (zh2 (za0 (zw0 (zs0 (K:=K) rfl) (pv 6) (pix w K hr (pix w K hr (pv 2) (pv 8)) zg0)) (za0 (pv 8) (za0 (pv 9) zh0)))) zh0)))) zg1)
   (zk0 (zdb (PW.pt (zt61 (zc2 (zbz (K:=K) rfl (Room.units hr)) (zt6 (sc:=zf0 zs1) (N:=["play", "vats", "pipes", "held", "start", "parts", "now", "way", "at", "sent", "part", "gone"]) (own:=["k"]) (ix:=[3,1]) rfl rfl rfl (by walk_at "csc") (zz1 rfl jN (za0 (zu0 (zb2 (K:=K) rfl) rfl kF zac (za0 (pv 1) zh0)) zh0)) (λ _ _ _ _=>⟨(pgn 0 (nds ["k", "held", "vats"])),(zko (zc2 zhp (pix w K hr (pv 1) (pv 0)) (pix w K hr (pix w K hr (pv 2) (pv 0)) zg0) (zr2 _))),(pv 0)⟩)) (zt1 zh0) (zr2 _)) (zt01 (zo8 (ze3 (K:=K) rfl (zp0 qV (rmn hr) rfl (za0 (pv 0) (za0 (pv 6) (za0 (pv 11) zh0)))) (λ _=>rfl)))))) (zk0 (zz0 zqk)) zg1)))))))
   (zd0 (zdb (zc2 zhp (pv 9) zg0 (zr2 _)) (zk0 (zuf (zpi (K:=K) rfl PySem.F.plainAttrs_list PySem.F.slot_list_append PySem.F.type_list_append zrd (pv 7) (za0 (zh2 (za0 (zw0 (zs0 (K:=K) rfl) (pv 6) (pix w K hr (pix w K hr (pv 2) (pv 8)) zg0)) (za0 (pv 8) (za0 (pv 9) zh0)))) zh0)))) zg1)
   (zk0 (zz0 zqk)))))),(zn0 (ze1 (zbn (zy4 (zmx (zb0 2)) (zv2 (i:=0) (n:=1) (by decide)) zg8 (zo0 r_ix (zb0 0) rvi)) (zm0 4)) (rgn 8))
   (zn0 (ze1 zi1 (rgn 9))
   (zn0 (zec (zl91 (zm0 5)) (rgn 10) (zn0 (zgf (zke (ru_c (zmh (at_o (zl0 0) (at_d (zm0 1) (at_o (zl0 3) (at_d (zm0 8) (at_d (zm0 4) (at_d (zm0 10) zx1))))))))) (zc1 (RfE.c zz8)) zh1)
   (zn0 (ze1 (zo0 za4 (zb0 9) (zb0 10)) (rgn 9))
   (zn0 (zma (RfF.c (zyr zcl (zy0 (zb0 7) zn2))))
   (zn0 (zfl (zv1 (zo0 r_gt (zb0 9) rvi)) (zyn (za91 zk31 (zl0 11) (zc0 (zf6 (zc0 (zo0 za4 (zb0 6) (RfE.v (zo0 r_ix (RfE.v (zo0 r_ix (zb0 2) (zb0 8))) rvi))) (zc0 (zm0 8) (zc0 (zm0 9) zq0)))) zq0))) zh1)
   (zgf (zl81 (zv1 (zlb q_ne (RfV.h (RfE.v (RfF.e (zy4 (RfI.j (zi5 (zc0 (zkl zap (zy0 (zb0 1) zn2)) zq0))) (zv2 (i:=0) (n:=1) (by decide)) (zv1 (zo0 r_gt (RfE.v (zo0 r_ix (zb0 1) (zb0 0))) (RfE.v (zo0 r_ix (RfE.v (zo0 r_ix (zb0 2) (zb0 0))) rvi)))) (zm0 0))))) (zqz zf31))) (zke (ru_c (zvg (at_o (zl0 0) (at_d (zm0 6) (at_b (zl0 11) zx1))))))) (zc1 (RfE.c zz8)) zh1))))))
   (zn0 (zfl (zv1 (zo0 r_gt (zb0 9) rvi)) (zyn (za91 zk31 (zl0 7) (zc0 (zf6 (zc0 (zo0 za4 (zb0 6) (RfE.v (zo0 r_ix (RfE.v (zo0 r_ix (zb0 2) (zb0 8))) rvi))) (zc0 (zm0 8) (zc0 (zm0 9) zq0)))) zq0))) zh1)
   (zc1 (RfE.c zz8)))))),?_⟩
 rintro as Qd al ⟨n,g,ps,L,now,b,p,x,y,ly,en,W,rfl,po,hb,hfirst,P0,hL,hW,hbW,hx,hy,hw,hly,q⟩
 have hbl:=(List.getElem?_eq_some_iff.mp hb).1
 have pu:=po.pu p (List.mem_of_getElem? hb)
 have e1:=P0.ly
 have lyl:ly.length=n:=by rw [e1,zj1,zx0]
 walk_at "ds"
 refine ze0 λ J hJ=>?_
 walk_at "dd"
 refine zjx (λ p=>.int (p.u:Int)) (by rw [sizeLine_eq];have:=po.p24;lia) (λ p' hp'=>?_) ?_
 ·unfold Pi.d
  walk_at "cs"
  walk_at "dd"
  exact ⟨_,rfl,rfl⟩
 refine ⟨ps.map λ p=>(p.u:Int),_,b,by rw [List.map_map];rfl,rfl,by rw [List.getElem?_map,hb];rfl,λ m hm e=>?_,hJ _ ?_⟩
 ·rw [List.getElem?_map] at e
  obtain ⟨p',hp',e2⟩:=Option.map_eq_some_iff.mp e
  exact hfirst m p' hm hp' (by lia)
 clear hJ
 walk_at "dn"
 refine ze0 λ J hJ=>?_
 refine zoi λ B hB=>?_
 walk_at "dd"
 have sx:∀ i,i<=3->∃ s:Int,s=if i<=1 then 0 else if i=2 then x else x+y:=λ i _=>⟨_,rfl⟩
 refine zb6 (xs:=[0,x,y]) (enc:=PyData.int) (λ i U=>∃ (s:Int) (L2:List Le) (en':List Int) (s10 s11:Sl),s=(if i<=1 then 0 else if i=2 then x else x+y)/\L2.length<=i/\(∀ l∈L2,l.t=now/\l.at_=b)/\sL L2 (λ l=>l.am)=s/\Pl (zv0 n g) ps now (L++L2) (ly.set p.u (ly.getD p.u 0 - s)) en' (encW (gP ps now) (wayW W b s)) /\
  U=[.io (al 0) (pS jA jB jD jC (zd1 n g) (ly.set p.u (ly.getD p.u 0 - s)) ps now en' (encW (gP ps now) (wayW W b s))),.sh (.list (dVs n g)),.sh (.list (ps.map Pi.d)),.io (al 3) (.li ((ly.set p.u (ly.getD p.u 0 - s)).map .int)),.sh (.int (p.u:Int)),.sh (.list [.int 0,.int x,.int y]),.sh (.int (now:Int)),.io (al 7) (.li ((W.map (rowW ps now)).map rowD)),.sh (.int (b:Int)),.sh (.int s),s10,s11]) ?_ ?_ ?_
 ·refine ⟨0,[],en,.un,.un,rfl,by simp,λ l hl=>by simp at hl,rfl,?_,?_⟩
  ·rw [zyo,zx8,List.append_nil];exact P0
  ·rw [zyo,zx8]
 ·rintro i z U hz ⟨s,L2,en',s10,s11,es,hl2,hL2,hs2,P1,rfl⟩
  have hi:=(List.getElem?_eq_some_iff.mp hz).1
  simp at hi
  have z0:0<=z/\s+z=(if i<=0 then 0 else if i=1 then x else x+y)/\s+z<=x+y:=by
   rcases (by lia:i=0 \/ i=1 \/ i=2) with rfl|rfl|rfl <;> simp at hz es ⊢ <;> lia
  obtain ⟨z0,z1,z2⟩:=z0
  have s0:0<=s:=by rw [es];split <;> (try split) <;> lia
  refine hB _ _ ?_
  clear hB
  refine ze0 λ J hJ=>?_
  walk_at "dd"
  refine ⟨⟨false,trivial,trivial,trivial⟩,by decide,zbv po hb P1 (by rw [List.length_append];lia) lyl s0 z0 hbW hL2 hs2 (by lia) (by lia) λ L3 en3 l1 l2 l3 P3=>?_⟩
  walk_at "dd"
  refine ⟨true,rfl,?_⟩
  rw [if_neg (by decide)]
  refine hJ _ ?_
  clear hJ
  refine ze0 λ J hJ=>?_
  walk_at "dd"
  refine hJ _ ?_
  clear hJ
  refine ze0 λ J hJ=>?_
  walk_at "dd"
  refine hJ _ ?_
  clear hJ
  refine zwe (λ U=>U=[.io (al 0) (pS jA jB jD jC (zd1 n g) (ly.set p.u (ly.getD p.u 0 - (s+z))) ps now en3 (encW (gP ps now) (wayW W b (s+z)))),.sh (.list (dVs n g)),.sh (.list (ps.map Pi.d)),.io (al 3) (.li ((ly.set p.u (ly.getD p.u 0 - (s+z))).map .int)),.sh (.int (p.u:Int)),.sh (.list [.int 0,.int x,.int y]),.sh (.int (now:Int)),.io (al 7) (.li ((W.map (rowW ps now)).map rowD)),.sh (.int (b:Int)),.sh (.int (s+z)),.sh (.int z),.ow (.li (((wayW W b (s+z)).map (rowW ps now)).map rowD))]) ?_ ?_
  ·walk_at "dd"
   refine two (λ y1=>⟨_,zsr po.p24 hb,?_⟩) λ y1=>?_
   ·unfold Pi.d
    walk_at "dd"
    refine ⟨_,rfl,by rw [List.length_map,List.length_map];lia,?_⟩
    rw [zdt hb W y1]
   ·rw [show s+z=0 by lia,zx8]
  rintro U rfl
  walk_at "dd"
  have l4:(ly.set p.u (ly.getD p.u 0 - (s+z))).length=n:=by rw [List.length_set,lyl]
  generalize hR:ly.set p.u (ly.getD p.u 0 - (s+z))=ly3 at l4 P3
  rw [zqf,Int.toNat_natCast]
  unfold rngD
  have n12:=po.n12
  refine ⟨by lia,by lia,zf41 (λ k:Nat=>if (g k).room < ly3.getD k 0 then some (.int (k:Int)) else none) (by rw [sizeLine_eq,List.length_range];lia) (λ k hk=>?_) ?_⟩
  ·have hk:=List.mem_range.mp hk
   rw [show (0:Int)+(k:Int)=(k:Int) by lia]
   have g1:atI (ly3.map PyData.int) ((k:Nat):Int)=some (.int (ly3.getD k 0)):=zf5 (by lia) (by rw [Int.toNat_natCast,List.getElem?_map,List.getD_eq_getElem?_getD,List.getElem?_eq_getElem (by lia)];rfl)
   have g2:atI (dVs n g) ((k:Nat):Int)=some (.tuple [.str (g k).nm,.int (g k).room,.int (g k).fill]):=zf5 (by lia) (by unfold dVs;rw [Int.toNat_natCast,List.getElem?_map,List.getElem?_range hk];rfl)
   walk_at "cs"
   walk_at "dd"
   refine ⟨_,g1,_,g2,?_⟩
   walk_at "dd"
   exact ⟨_,rfl,two (λ h=>by rw [if_pos (by simpa using h)]) λ h=>by rw [if_neg (by simpa using h)]⟩
  rw [zmo]
  have fw:Fit 1 (.list (((over ((List.range n).map λ i=>(g i).room) ly3).map λ k:Nat=>(k:Int)).map PyData.int)):=zet λ r _=>Fit.int r
  have fin:∃ (s_1:Int) (L2:List Le) (en':List Int) (s10 s11:Sl),(s_1=if i<=0 then 0 else if i=1 then x else x+y)/\L2.length<=i+1/\(∀ l∈L2,l.t=now/\l.at_=b)/\sL L2 (λ l=>l.am)=s_1/\Pl (zv0 n g) ps now (L++L2) (ly.set p.u (ly.getD p.u 0 - s_1)) en' (encW (gP ps now) (wayW W b s_1)) /\
    [.io (al 0) (pS jA jB jD jC (zd1 n g) ly3 ps now en3 (encW (gP ps now) (wayW W b (s+z)))),.sh (.list (dVs n g)),.sh (.list (ps.map Pi.d)),.io (al 3) (.li (ly3.map .int)),.sh (.int (p.u:Int)),.sh (.list [.int 0,.int x,.int y]),.sh (.int (now:Int)),.io (al 7) (.li ((W.map (rowW ps now)).map rowD)),.sh (.int (b:Int)),.sh (.int (s+z)),.sh (.int z),.ow (.li (((wayW W b (s+z)).map (rowW ps now)).map rowD))]=[.io (al 0) (pS jA jB jD jC (zd1 n g) (ly.set p.u (ly.getD p.u 0 - s_1)) ps now en' (encW (gP ps now) (wayW W b s_1))),.sh (.list (dVs n g)),.sh (.list (ps.map Pi.d)),.io (al 3) (.li ((ly.set p.u (ly.getD p.u 0 - s_1)).map .int)),.sh (.int (p.u:Int)),.sh (.list [.int 0,.int x,.int y]),.sh (.int (now:Int)),.io (al 7) (.li ((W.map (rowW ps now)).map rowD)),.sh (.int (b:Int)),.sh (.int s_1),s10,s11]:=by
   subst hR
   exact ⟨s+z,L3,en3,_,_,z1,by lia,l2,l3,P3,rfl⟩
  refine ⟨fw.shaped (by decide),rfl,two (λ ne=>?_) λ _=>fin⟩
  have wl:=zso W b (s+z)
  refine ⟨trivial,_,ly3,ps,now,en3,_,_,rfl,by rw [zj4,l4],by rw [zj4];exact n12,po.p24,λ p hp=>by rw [l4];exact (po.pu p hp).2.1,zuh _,λ e=>?_,?_,?_,zay _,by rw [zjn],true,rfl,by rw [if_neg (by decide)];exact fin⟩
  ·have e:over ((List.range n).map λ i=>(g i).room) ly3=[]:=e
   rw [e] at ne
   exact absurd ne (by decide)
  ·unfold encW;rw [List.length_map];lia
  ·intro kv hkv
   obtain ⟨x,_,rfl⟩:=List.mem_map.mp hkv
   rfl
 rintro U ⟨s,L2,en',s10,s11,es,hl2,hL2,hs2,P1,rfl⟩
 refine hJ _ ?_
 clear hJ
 have es:s=x+y:=es
 subst es
 refine zwe (λ U=>U=[.io (al 0) (pS jA jB jD jC (zd1 n g) (ly.set p.u (ly.getD p.u 0 - (x+y))) ps now en' (encW (gP ps now) (wayW W b (x+y)))),.sh (.list (dVs n g)),.sh (.list (ps.map Pi.d)),.io (al 3) (.li ((ly.set p.u (ly.getD p.u 0 - (x+y))).map .int)),.sh (.int (p.u:Int)),.sh (.list [.int 0,.int x,.int y]),.sh (.int (now:Int)),.io (al 7) (.li (((wayW W b (x+y)).map (rowW ps now)).map rowD)),.sh (.int (b:Int)),.sh (.int (x+y)),s10,s11]) ?_ ?_
 ·walk_at "dd"
  refine two (λ y1=>⟨_,zsr po.p24 hb,?_⟩) λ y1=>?_
  ·unfold Pi.d
   walk_at "dd"
   refine ⟨_,rfl,by rw [List.length_map,List.length_map];lia,?_⟩
   rw [zdt hb W y1]
  ·rw [show x+y=0 by lia,zx8]
 rintro U rfl
 walk_at "dd"
 exact ⟨_,rfl,_,rfl,_,rfl,q L2 en' hl2 hL2 hs2 P1⟩
end
def pk (f l:Nat->Nat) (pr:Int) (k:Nat):Pi:=⟨if k < 2 then f 0 else f k,if k=0 then f 2 else if k=1 then f 3 else f 1,l k,if k=3 then 0 else pr,.st 1000000000000⟩
structure Yd (n:Nat) (f l:Nat->Nat) (pr:Int) (ps:List Pi) (pos:Nat->Nat):Prop where
 sp:Sp n f
 n4:4<=n
 po:Pok n ps
 at_:∀ k,k < 4->ps[pos k]?=some (pk f l pr k)
 un:∀ m p,ps[m]?=some p->∃ k,k < 4/\m=pos k/\p=pk f l pr k
 pi:∀ i j,i < 4->j < 4->pos i=pos j->i=j
theorem zw71 {n:Nat} {f l:Nat->Nat} (sp:Sp n f) (n4:4<=n) (n12:n<=12) (hl:∀ k,k < 4->1<=l k) (pr:Int) {t:Nat} (ht:t < 4):Yd n f l pr ((P4 f l pr).drop t++(P4 f l pr).take t) (λ k=>(k+4 - t) % 4):=by
 have e:P4 f l pr=[pk f l pr 0,pk f l pr 1,pk f l pr 2,pk f l pr 3]:=rfl
 have ok:∀ k,k < 4->(pk f l pr k).u < n/\(pk f l pr k).v < n/\1<=(pk f l pr k).len/\(pk f l pr k).g.ok/\∀ t,0<=(pk f l pr k).g.at t:=λ k hk=>by
  have b:=λ i (hi:i < 4)=>sp.bd i (by lia)
  refine ⟨?_,?_,hl k hk,?_,λ t=>?_⟩
  ·show (if k < 2 then f 0 else f k) < n
   split
   ·exact b 0 (by lia)
   ·exact b k hk
  ·show (if k=0 then f 2 else if k=1 then f 3 else f 1) < n
   split
   ·exact b 2 (by lia)
   ·split
    ·exact b 3 (by lia)
    ·exact b 1 (by lia)
  ·trivial
  ·show (0:Int)<=1000000000000;lia
 rw [e]
 refine ⟨sp,n4,⟨?_,n12,?_⟩,λ k hk=>?_,λ m p hm=>?_,λ i j hi hj h=>?_⟩
 ·simp;lia
 ·intro p hp
  have:p∈[pk f l pr 0,pk f l pr 1,pk f l pr 2,pk f l pr 3]:=by
   rcases List.mem_append.mp hp with z|z
   ·exact List.mem_of_mem_drop z
   ·exact List.mem_of_mem_take z
  simp at this
  rcases this with rfl|rfl|rfl|rfl
  ·exact ok 0 (by lia)
  ·exact ok 1 (by lia)
  ·exact ok 2 (by lia)
  ·exact ok 3 (by lia)
 ·rcases (by lia:t=0 \/ t=1 \/ t=2 \/ t=3) with rfl|rfl|rfl|rfl <;> rcases (by lia:k=0 \/ k=1 \/ k=2 \/ k=3) with rfl|rfl|rfl|rfl <;> rfl
 ·have hm4:m < 4:=by
   have:=(List.getElem?_eq_some_iff.mp hm).1
   simp at this;lia
  refine ⟨(m+t) % 4,by lia,by lia,?_⟩
  rcases (by lia:t=0 \/ t=1 \/ t=2 \/ t=3) with rfl|rfl|rfl|rfl <;> rcases (by lia:m=0 \/ m=1 \/ m=2 \/ m=3) with rfl|rfl|rfl|rfl <;> exact (Option.some.inj hm).symm
 ·have h:(i+4 - t) % 4=(j+4 - t) % 4:=h
  lia
structure Bun (L:List Le) (t b:Nat) (c:Int):Prop where
 al:∀ l∈L,l.t=t/\l.at_=b
 sm:sL L (λ l=>l.am)=c
theorem Bun.nil (t b:Nat):Bun [] t b 0:=⟨λ l hl=>by simp at hl,rfl⟩
theorem Bun.con {ps:List Pi} {L:List Le} {t b:Nat} {c:Int} (h:Bun L t b c) (m x:Nat):sL L (λ l=>(if zv8 ps l.at_=x then -l.am else 0)+if l.t+pl ps l.at_<=m/\za9 ps l.at_=x then l.am else 0)=(if zv8 ps b=x then -c else 0)+if t+pl ps b<=m/\za9 ps b=x then c else 0:=by
 obtain ⟨h1,rfl⟩:=h
 induction L with
|nil=>simp [zni]
|cons a r ih =>
  obtain ⟨e1,e2⟩:=h1 a List.mem_cons_self
  rw [zx2,zx2,ih λ l hl=>h1 l (List.mem_cons_of_mem _ hl),e1,e2]
  split <;> split <;> lia
theorem Bun.by0 {L:List Le} {t b m i:Nat} {c:Int} (h:Bun L t b c) (hn:¬(t=m/\b=i)):byS L m i=0:=zls λ l hl=>by
 obtain ⟨e1,e2⟩:=h.al l hl
 rw [e1,e2,if_neg hn]
section
variable {n:Nat} {f l:Nat->Nat} {pr:Int} {ps:List Pi} {pos:Nat->Nat} {g:Nat->Va}
theorem Yd.ne (yd:Yd n f l pr ps pos) {i j:Nat} (hi:i < 4) (hj:j < 4) (h:i≠j):f i≠f j:=λ e=>h (yd.sp.inj i j (by have:=yd.n4;lia) (by have:=yd.n4;lia) e)
theorem Yd.st (yd:Yd n f l pr ps pos) {k:Nat} (h:k < 4):zv8 ps (pos k)=(pk f l pr k).u/\za9 ps (pos k)=(pk f l pr k).v/\pl ps (pos k)=l k/\(∀ m,zak ps (pos k) m=1000000000000)/\pos k < ps.length:=by
 have e:=yd.at_ k h
 refine ⟨?_,?_,?_,λ m=>?_,(List.getElem?_eq_some_iff.mp e).1⟩
 ·unfold zv8;rw [e];rfl
 ·unfold za9;rw [e];rfl
 ·unfold pl;rw [e];rfl
 ·unfold zak;rw [e];rfl
def more (f l:Nat->Nat) (len:Nat) (a0 a1 c2 c3:Int) (m x:Nat):Int :=
 if x=f 0 then -(a0+a1) else if x=f 2 then (if l 0<=m then a0 else 0) - c2 else if x=f 3 then (if l 1<=m then a1 else 0) - c3 else if x=f 1 then (if len+l 2<=m then c2 else 0)+(if len+l 3<=m then c3 else 0) else 0
theorem zlj (yd:Yd n f l pr ps pos) {L0 L1 L2 L3:List Le} {a0 a1 c2 c3:Int} {len:Nat} (b0:Bun L0 0 (pos 0) a0) (b1:Bun L1 0 (pos 1) a1) (b2:Bun L2 len (pos 2) c2) (b3:Bun L3 len (pos 3) c3) (m x:Nat) :
  (hold ps m (L0++L1++L2++L3) (zv0 n g)).getD x 0=(zv0 n g).getD x 0+more f l len a0 a1 c2 c3 m x:=by
 rw [zvd (yd.po.hp g) x _ _ rfl λ q hq=>?_]
 ·congr 1
  rw [zwa,zwa,zwa,b0.con,b1.con,b2.con,b3.con]
  obtain ⟨s0,g0,p0,_⟩:=yd.st (k:=0) (by lia)
  obtain ⟨s1,g1,p1,_⟩:=yd.st (k:=1) (by lia)
  obtain ⟨s2,g2,p2,_⟩:=yd.st (k:=2) (by lia)
  obtain ⟨s3,g3,p3,_⟩:=yd.st (k:=3) (by lia)
  rw [s0,g0,p0,s1,g1,p1,s2,g2,p2,s3,g3,p3,show (pk f l pr 0).u=f 0 from rfl,show (pk f l pr 0).v=f 2 from rfl,show (pk f l pr 1).u=f 0 from rfl,show (pk f l pr 1).v=f 3 from rfl,show (pk f l pr 2).u=f 2 from rfl,show (pk f l pr 2).v=f 1 from rfl,show (pk f l pr 3).u=f 3 from rfl,show (pk f l pr 3).v=f 1 from rfl,Nat.zero_add,Nat.zero_add]
  have n01:=yd.ne (i:=0) (j:=1) (by lia) (by lia) (by lia)
  have n02:=yd.ne (i:=0) (j:=2) (by lia) (by lia) (by lia)
  have n03:=yd.ne (i:=0) (j:=3) (by lia) (by lia) (by lia)
  have n12:=yd.ne (i:=1) (j:=2) (by lia) (by lia) (by lia)
  have n13:=yd.ne (i:=1) (j:=3) (by lia) (by lia) (by lia)
  have n23:=yd.ne (i:=2) (j:=3) (by lia) (by lia) (by lia)
  unfold more
  generalize f 0=x0 at *
  generalize f 1=x1 at *
  generalize f 2=x2 at *
  generalize f 3=x3 at *
  by_cases e0:x=x0
  ·subst e0
   simp only [if_pos,n01.symm,n02.symm,n03.symm,and_false,if_false]
   lia
  ·by_cases e2:x=x2
   ·subst e2
    simp only [if_pos,e0,n02,n12,n23.symm,Ne.symm e0,and_false,if_false,and_true]
    split <;> lia
   ·by_cases e3:x=x3
    ·subst e3
     simp only [if_pos,e0,n03,n13,n23,and_false,if_false,and_true,e2]
     split <;> lia
    ·by_cases e1:x=x1
     ·subst e1
      simp only [if_pos,e0,n01,Ne.symm e2,Ne.symm e3,and_false,if_false,and_true,e2,e3]
      lia
     ·simp only [e0,e1,e2,e3,Ne.symm e0,Ne.symm e1,Ne.symm e2,Ne.symm e3,and_false,if_false]
      lia
 ·have:=λ k hk=>(yd.st (k:=k) hk).2.2.2.2
  simp only [List.mem_append] at hq
  rcases hq with ((z|z)|z)|z
  ·rw [(b0.al q z).2];exact this 0 (by lia)
  ·rw [(b1.al q z).2];exact this 1 (by lia)
  ·rw [(b2.al q z).2];exact this 2 (by lia)
  ·rw [(b3.al q z).2];exact this 3 (by lia)
theorem zbh (g:Nat->Va) {x:Nat} (h:x < n):(zv0 n g).getD x 0=(g x).fill:=by
 unfold zv0
 rw [List.getD_eq_getElem?_getD,List.getElem?_map,List.getElem?_range h];rfl
def aF (g:Nat->Va) (f:Nat->Nat) (o:Nat->Int) (i k:Nat):Int:=if k < i then (g (f (2+k))).room - (g (f (2+k))).fill+o k else 0
structure Ph1 (n:Nat) (g:Nat->Va) (f:Nat->Nat) (ps:List Pi) (pos:Nat->Nat) (i:Nat) (o:Nat->Int) (ly en:List Int) (kvs:List (List Key×D)) (L0 L1:List Le):Prop where
 P:Pl (zv0 n g) ps 0 (L0++L1) ly en kvs
 b0:Bun L0 0 (pos 0) (aF g f o i 0)
 b1:Bun L1 0 (pos 1) (aF g f o i 1)
 e0:i < 1->L0=[]
 e1:i < 2->L1=[]
 n0:L0.length<=1
 n1:L1.length<=1
 o0:∀ k,k < 2->0<=o k/\o k<=100000000000/\(i<=k->o k=0)
def oUp (o:Nat->Int) (i:Nat) (v:Int):Nat->Int:=λ k=>if k=i then v else o k
theorem zks (vo:VOk f g 4) {o:Nat->Int} {i:Nat} (o0:∀ k,k < 2->0<=o k/\o k<=100000000000/\(i<=k->o k=0)) {k:Nat} (hk:k < 2):o k<=(g (f (2+k))).fill+aF g f o i k/\0<=aF g f o i k/\aF g f o i k<=300000000000/\(g (f (2+k))).fill+aF g f o i k - o k<=(g (f (2+k))).room:=by
 obtain ⟨h1,h2,h3⟩:=vo.vm (2+k) (by lia) (by lia)
 obtain ⟨h4,h5,h6⟩:=o0 k hk
 unfold aF
 split
 ·lia
 ·have:=h6 (by lia);lia
theorem zb91 (o:Nat->Int) (i:Nat) (v:Int) (k:Nat):aF g f (oUp o i v) (i+1) k=if k=i then (g (f (2+k))).room - (g (f (2+k))).fill+v else aF g f o i k:=by
 unfold aF oUp
 by_cases e:k=i
 ·rw [if_pos (by lia),if_pos e,if_pos e]
 ·rw [if_neg e,if_neg e]
  by_cases z:k < i
  ·rw [if_pos (by lia),if_pos z]
  ·rw [if_neg (by lia),if_neg z]
theorem zo41 {o:Nat->Int} {i:Nat} (o0:∀ k,k < 2->0<=o k/\o k<=100000000000/\(i<=k->o k=0)) {v:Int} (v0:0<=v) (v1:v<=100000000000):∀ k,k < 2->0<=oUp o i v k/\oUp o i v k<=100000000000/\(i+1<=k->oUp o i v k=0):=λ k hk=>by
 unfold oUp
 obtain ⟨h4,h5,h6⟩:=o0 k hk
 split
 ·exact ⟨v0,v1,λ z=>by lia⟩
 ·exact ⟨h4,h5,λ z=>h6 (by lia)⟩
theorem Ph1.ly0 (yd:Yd n f l pr ps pos) (vo:VOk f g 4) {i:Nat} {o:Nat->Int} {ly en:List Int} {kvs:List (List Key×D)} {L0 L1:List Le} (h:Ph1 n g f ps pos i o ly en kvs L0 L1):ly.getD (f 0) 0=700000000000 - (aF g f o i 0+aF g f o i 1):=by
 have e:=zlj (g:=g) yd h.b0 h.b1 (Bun.nil 0 _) (Bun.nil 0 _) 0 (f 0)
 rw [List.append_nil,List.append_nil,<- h.P.ly,zbh g (yd.sp.bd 0 (by have:=yd.n4;lia)),vo.v0.2] at e
 unfold more at e
 rw [if_pos rfl] at e
 lia
theorem Ph1.step (yd:Yd n f l pr ps pos) (vo:VOk f g 4) {C C1 C2 C3:Addr} {R:T->List T->Prop} {i:Nat} {o:Nat->Int} {ly en:List Int} {kvs:List (List Key×D)} {L0 L1:List Le} (h:Ph1 n g f ps pos i o ly en kvs L0 L1) (hi:i < 2) {v am:Int} (v0:0<=v) (v1:v<=100000000000) (ham:am=(g (f (2+i))).room - (g (f (2+i))).fill+v)
  (k:∀ ly' en' kvs' L0' L1',Ph1 n g f ps pos (i+1) (oUp o i v) ly' en' kvs' L0' L1'->R (.fz (.bool true)) [pS C C1 C2 C3 (zd1 n g) ly' ps 0 en' kvs',.fz .none,.li (ly'.map .int),.fz .none,.fz .none,.fz .none]) :
  zq2 C C1 C2 C3 [.o (pS C C1 C2 C3 (zd1 n g) ly ps 0 en kvs),.d (.list (dVs n g)),.o (.li (ly.map .int)),.d (.int (pos i:Nat)),.d (.int (f 0:Nat)),.d (.int am)] R:=by
 obtain ⟨m1,m2,m3⟩:=vo.vm (2+i) (by lia) (by lia)
 have hu:(pk f l pr i).u=f 0:=if_pos hi
 have n1:=h.n0
 have n2:=h.n1
 have hly:=h.ly0 yd vo
 have q0:=zks vo h.o0 (k:=0) (by lia)
 have q1:=zks vo h.o0 (k:=1) (by lia)
 have hb:byS (L0++L1) 0 (pos i)=0:=by
  unfold byS
  rw [zwa]
  show byS L0 0 (pos i)+byS L1 0 (pos i)=0
  rcases (by lia:i=0 \/ i=1) with rfl|rfl
  ·rw [h.e0 (by lia),h.e1 (by lia)];rfl
  ·rw [h.e1 (by lia),h.b0.by0 λ z=>by have:=yd.pi 0 1 (by lia) (by lia) z.2;lia];rfl
 have sum:aF g f o i 0+aF g f o i 1+am<=700000000000:=by
  rcases (by lia:i=0 \/ i=1) with rfl|rfl
  ·have e:∀ k,aF g f o 0 k=0:=λ k=>if_neg (by lia)
   rw [e,e];lia
  ·have e:aF g f o 1 1=0:=if_neg (by lia)
   rw [e];lia
 have hP:∀ {ly' en' kvs' M},(M=[]/\am=0 \/ M=[⟨0,pos i,am⟩])->Pl (zv0 n g) ps 0 (L0++L1++M) ly' en' kvs'->∃ L0' L1',Ph1 n g f ps pos (i+1) (oUp o i v) ly' en' kvs' L0' L1':=λ {ly' en' kvs' M} hM P=>by
  have bM:Bun M 0 (pos i) am/\M.length<=1:=by
   rcases hM with ⟨rfl,rfl⟩|rfl
   ·exact ⟨Bun.nil _ _,by simp⟩
   ·refine ⟨⟨λ l hl=>by simp at hl;subst hl;exact ⟨rfl,rfl⟩,?_⟩,by simp⟩
    rw [zx2,zni]
    show am+0=am
    lia
  have oo:=zo41 h.o0 v0 v1
  have au:=zb91 (g:=g) (f:=f) o i v
  rcases (by lia:i=0 \/ i=1) with rfl|rfl
  ·rw [h.e0 (by lia),h.e1 (by lia)] at P
   refine ⟨M,[],by simpa using P,by rw [au,if_pos rfl,<- ham];exact bM.1,by rw [au,if_neg (by lia),show aF g f o 0 1=0 from if_neg (by lia)];exact Bun.nil _ _,λ z=>by lia,λ _=>rfl,bM.2,by simp,oo⟩
  ·rw [h.e1 (by lia),List.append_nil] at P
   exact ⟨L0,M,P,by rw [au,if_neg (by lia)];exact h.b0,by rw [au,if_pos rfl,<- ham];exact bM.1,λ z=>by lia,λ z=>by lia,n1,bM.2,oo⟩
 refine ⟨n,g,ps,L0++L1,0,pos i,pk f l pr i,am,ly,en,kvs,by rw [hu],yd.po,yd.at_ i (by lia),h.P,by rw [List.length_append];lia,by lia,λ z=>?_,λ z=>?_⟩
 ·obtain ⟨L0',L1',hh⟩:=hP (M:=[]) (.inl ⟨rfl,z⟩) (by rw [List.append_nil];exact h.P)
  exact k _ _ _ _ _ hh
 ·have a2:am<=zak ps (pos i) 0 - byS (L0++L1) 0 (pos i):=by rw [hb,(yd.st (by lia)).2.2.2.1];lia
  have a3:am<=ly.getD (pk f l pr i).u 0:=by rw [hu];lia
  have P2:=h.P.let_ (yd.po.hp g) (yd.at_ i (by lia)) (by lia) a2 a3
  obtain ⟨L0',L1',hh⟩:=hP (.inr rfl) P2
  exact ⟨a2,a3,k _ _ _ _ _ hh⟩
structure Cm (n:Nat) (g:Nat->Va) (f:Nat->Nat) (o:Nat->Int) (i:Nat) (come:List Int):Prop where
 len:come.length=n
 at_:∀ x,come.getD x 0=(zv0 n g).getD x 0+(if x=f 2 then aF g f o i 0 else if x=f 3 then aF g f o i 1 else 0)
theorem Cm.init (o:Nat->Int):Cm n g f o 0 (zv0 n g):=⟨zx0 n g,λ x=>by
 have e:∀ k,aF g f o 0 k=0:=λ k=>if_neg (by lia)
 rw [e,e];split
 ·lia
 ·split <;> lia⟩
theorem Cm.step (yd:Yd n f l pr ps pos) {o:Nat->Int} {i:Nat} {come:List Int} (h:Cm n g f o i come) (hi:i < 2) {v am:Int} (ham:am=(g (f (2+i))).room - (g (f (2+i))).fill+v):Cm n g f (oUp o i v) (i+1) (come.set (f (2+i)) (come.getD (f (2+i)) 0+am)):=by
 have b:=yd.sp.bd (2+i) (by have:=yd.n4;lia)
 refine ⟨by rw [List.length_set,h.len],λ x=>?_⟩
 have au:=zb91 (g:=g) (f:=f) o i v
 have n23:=yd.ne (i:=2) (j:=3) (by lia) (by lia) (by lia)
 rw [zp1 _ _ _ (by rw [h.len];exact b),h.at_,h.at_,au,au]
 rcases (by lia:i=0 \/ i=1) with rfl|rfl
 ·have e:aF g f o 0 0=0:=if_neg (by lia)
  rw [if_pos rfl,if_neg (by lia:¬ (1:Nat)=0),<- ham]
  by_cases z:f (2+0)=x
  ·rw [if_pos z,if_pos rfl,if_pos z.symm,e]
   subst z;lia
  ·rw [if_neg z,if_neg (Ne.symm z),if_neg (Ne.symm z)]
 ·have e:aF g f o 1 1=0:=if_neg (by lia)
  rw [if_neg (by lia:¬ (0:Nat)=1),if_pos rfl,<- ham]
  by_cases z:f (2+1)=x
  ·rw [if_pos z,if_neg (λ y=>n23 y.symm),if_pos rfl,if_neg (λ y=>n23 (by rw [<- y,<- z])),if_pos z.symm,e]
   subst z;lia
  ·rw [if_neg z]
   by_cases y:x=f 2
   ·rw [if_pos y,if_pos y]
   ·rw [if_neg y,if_neg y,if_neg (Ne.symm z),if_neg (Ne.symm z)]
theorem Ph1.come (yd:Yd n f l pr ps pos) (vo:VOk f g 4) {i:Nat} {o:Nat->Int} {ly en:List Int} {kvs:List (List Key×D)} {L0 L1:List Le} (h:Ph1 n g f ps pos i o ly en kvs L0 L1) {come:List Int} (c:Cm n g f o i come) {len:Nat} (e0:l 0=len) (e1:l 1=len):come.set (f 0) (ly.getD (f 0) 0)=hold ps len (L0++L1) (zv0 n g):=by
 have b:=yd.sp.bd 0 (by have:=yd.n4;lia)
 refine zol (by rw [List.length_set,c.len,zj1,zx0]) λ x=>?_
 have e:=zlj (g:=g) yd h.b0 h.b1 (Bun.nil 0 _) (Bun.nil 0 _) len x
 rw [List.append_nil,List.append_nil] at e
 rw [zp1 _ _ _ (by rw [c.len];exact b),h.ly0 yd vo,e,c.at_]
 unfold more
 rw [e0,e1,if_pos (Nat.le_refl _),if_pos (Nat.le_refl _)]
 by_cases z:f 0=x
 ·subst z
  rw [if_pos rfl,if_pos rfl,zbh g b,vo.v0.2];lia
 ·rw [if_neg z,if_neg (Ne.symm z)]
  congr 1
  split
  ·lia
  ·split
   ·lia
   ·split <;> (try split) <;> (try split) <;> rfl
theorem zsz (yd:Yd n f l pr ps pos) {L:List Le} {m:Nat} (h:∀ x,x < n->(hold ps m L (zv0 n g)).getD x 0<=(g x).room):zgl (zd1 n g) (hold ps m L (zv0 n g)):=by
 refine ⟨by rw [zj4,zj1,zx0],by rw [zj4];exact yd.po.n12,λ i r y h1 h2=>?_⟩
 have hi:i < n:=by have:=(List.getElem?_eq_some_iff.mp h1).1;rwa [zj4] at this
 have:=h i hi
 rw [List.getD_eq_getElem?_getD,h2] at this
 unfold zd1 at h1
 rw [List.getElem?_map,List.getElem?_range hi] at h1
 cases h1
 exact this
theorem zns (yd:Yd n f l pr ps pos) (vo:VOk f g 4) {a0 a1 c2 c3:Int} {len m:Nat} (h0:0<=a0+a1) (h2:(g (f 2)).fill+((if l 0<=m then a0 else 0) - c2)<=(g (f 2)).room) (h3:(g (f 3)).fill+((if l 1<=m then a1 else 0) - c3)<=(g (f 3)).room) (k2:0<=c2/\c2<=100000000000) (k3:0<=c3/\c3<=100000000000) {x:Nat} (hx:x < n):(zv0 n g).getD x 0+more f l len a0 a1 c2 c3 m x<=(g x).room:=by
 rw [zbh g hx]
 unfold more
 split
 ·rename_i e;subst e;rw [vo.v0.1,vo.v0.2];lia
 ·split
  ·rename_i e;subst e;exact h2
  ·split
   ·rename_i e;subst e;exact h3
   ·split
    ·rename_i e;subst e;rw [vo.v1.1,vo.v1.2];split <;> split <;> lia
    ·rename_i e0 e2 e3 e1
     obtain ⟨k1,k2⟩:=vo.vo x λ k hk=>by
      rcases (by lia:k=0 \/ k=1 \/ k=2 \/ k=3) with rfl|rfl|rfl|rfl <;> assumption
     lia
theorem Ph1.nov (yd:Yd n f l pr ps pos) (vo:VOk f g 4) {i:Nat} {o:Nat->Int} {ly en:List Int} {kvs:List (List Key×D)} {L0 L1:List Le} (h:Ph1 n g f ps pos i o ly en kvs L0 L1) {m:Nat} (e0:m < l 0) (e1:m < l 1):zgl (zd1 n g) (hold ps m (L0++L1) (zv0 n g)):=by
 refine zsz yd λ x hx=>?_
 have e:=zlj (g:=g) yd h.b0 h.b1 (Bun.nil 0 _) (Bun.nil 0 _) m x
 rw [List.append_nil,List.append_nil] at e
 rw [e]
 have q0:=zks vo h.o0 (k:=0) (by lia)
 have q1:=zks vo h.o0 (k:=1) (by lia)
 have m2:=vo.vm 2 (by lia) (by lia)
 have m3:=vo.vm 3 (by lia) (by lia)
 refine zns yd vo (by lia) ?_ ?_ ⟨by lia,by lia⟩ ⟨by lia,by lia⟩ hx
 ·rw [if_neg (by lia)];have:=m2.2.1;lia
 ·rw [if_neg (by lia)];have:=m3.2.1;lia
theorem zxo {fills:List Int} {L:List Le} {now:Nat} {ly en:List Int} {kvs:List (List Key×D)} (P:Pl fills ps now L ly en kvs) (h:∀ q∈L,q.t+pl ps q.at_<=now):kvs=[]:=by
 cases kvs with
|nil=>rfl
|cons a r =>
  obtain ⟨q,hq,_,z⟩:=P.ks a.1 (by simp)
  have:=h q hq
  lia
end
structure Ph2 (n:Nat) (g:Nat->Va) (f:Nat->Nat) (ps:List Pi) (pos:Nat->Nat) (len A i:Nat) (o:Nat->Int) (ly en:List Int) (W:Ways) (L0 L1 L2 L3:List Le):Prop where
 P:Pl (zv0 n g) ps len (L0++L1++L2++L3) ly en (encW (gP ps len) W)
 b0:Bun L0 0 (pos 0) (aF g f o A 0)
 b1:Bun L1 0 (pos 1) (aF g f o A 1)
 b2:Bun L2 len (pos 2) (if 0 < i then o 0 else 0)
 b3:Bun L3 len (pos 3) (if 1 < i then o 1 else 0)
 e2:i < 1->L2=[]
 e3:i < 2->L3=[]
 nl:L0.length<=1/\L1.length<=1/\L2.length<=3/\L3.length<=3
 wl:W.length<=i
 ws:∀ b∈W.map (·.1),b=pos 2 \/ (b=pos 3/\1 < i)
 w0:i=0->W=[]
 o0:∀ k,k < 2->0<=o k/\o k<=100000000000/\(A<=k->o k=0)
section
variable {n:Nat} {f l:Nat->Nat} {pr:Int} {ps:List Pi} {pos:Nat->Nat} {g:Nat->Va}
theorem Ph2.init {A len:Nat} {o:Nat->Int} {ly en ly' en':List Int} {kvs kvs':List (List Key×D)} {L0 L1:List Le} (yd:Yd n f l pr ps pos) (h:Ph1 n g f ps pos A o ly en kvs L0 L1) (P:Pl (zv0 n g) ps len (L0++L1) ly' en' kvs') (e0:l 0=len) (e1:l 1=len):kvs'=[]/\Ph2 n g f ps pos len A 0 o ly' en' [] L0 L1 [] []:=by
 have e:kvs'=[]:=zxo P λ q hq=>by
  rcases List.mem_append.mp hq with z|z
  ·obtain ⟨a,b⟩:=h.b0.al q z
   rw [a,b,(yd.st (by lia)).2.2.1];lia
  ·obtain ⟨a,b⟩:=h.b1.al q z
   rw [a,b,(yd.st (by lia)).2.2.1];lia
 subst e
 exact ⟨rfl,by rw [List.append_nil,List.append_nil];exact P,h.b0,h.b1,Bun.nil _ _,Bun.nil _ _,λ _=>rfl,λ _=>rfl,⟨h.n0,h.n1,by simp,by simp⟩,by simp,λ b hb=>by simp at hb,λ _=>rfl,h.o0⟩
theorem Ph2.at_ (yd:Yd n f l pr ps pos) {len A i:Nat} {o:Nat->Int} {ly en:List Int} {W:Ways} {L0 L1 L2 L3:List Le} (h:Ph2 n g f ps pos len A i o ly en W L0 L1 L2 L3) (m x:Nat):(hold ps m (L0++L1++L2++L3) (zv0 n g)).getD x 0=(zv0 n g).getD x 0+more f l len (aF g f o A 0) (aF g f o A 1) (if 0 < i then o 0 else 0) (if 1 < i then o 1 else 0) m x:=zlj yd h.b0 h.b1 h.b2 h.b3 m x
theorem zuu {W:Ways} {b c:Nat} {s:Int} (h:c∈(wayW W b s).map (·.1)):c∈W.map (·.1) \/ c=b:=by
 unfold wayW at h
 split at h
 ·exact .inl h
 ·rw [List.map_append] at h
  rcases List.mem_append.mp h with z|z
  ·exact .inl z
  ·simp at z;exact .inr z
theorem Ph2.step (yd:Yd n f l pr ps pos) (vo:VOk f g 4) {C C1 C2 C3:Addr} {R:T->List T->Prop} {len A i:Nat} {o:Nat->Int} {ly en:List Int} {W:Ways} {L0 L1 L2 L3:List Le} (h:Ph2 n g f ps pos len A i o ly en W L0 L1 L2 L3) (hl:1<=len) (e0:l 0=len) (e1:l 1=len) (hi:i < 2) {x y:Int} (x0:0<=x) (y0:0<=y) (xy:x+y=o i)
  (k:∀ ly' en' W' L2' L3',Ph2 n g f ps pos len A (i+1) o ly' en' W' L0 L1 L2' L3'->R (.fz (.bool true)) [pS C C1 C2 C3 (zd1 n g) ly' ps len en' (encW (gP ps len) W'),.fz .none,.fz .none,.li (ly'.map .int),.fz .none,.fz .none,.fz .none,.li ((W'.map (rowW ps len)).map rowD)]) :
  ze4 C C1 C2 C3 [.o (pS C C1 C2 C3 (zd1 n g) ly ps len en (encW (gP ps len) W)),.d (.list (dVs n g)),.d (.list (ps.map Pi.d)),.o (.li (ly.map .int)),.d (.int (f (2+i):Nat)),.d (.list [.int 0,.int x,.int y]),.d (.int (len:Int)),.o (.li ((W.map (rowW ps len)).map rowD))] R:=by
 have hu:(pk f l pr (2+i)).u=f (2+i):=if_neg (by lia)
 have b:=yd.sp.bd (2+i) (by have:=yd.n4;lia)
 have q0:=zks vo h.o0 (k:=0) (by lia)
 have q1:=zks vo h.o0 (k:=1) (by lia)
 have oi:=h.o0 i hi
 have nl:=h.nl
 have n02:=yd.ne (i:=0) (j:=2) (by lia) (by lia) (by lia)
 have n03:=yd.ne (i:=0) (j:=3) (by lia) (by lia) (by lia)
 have n23:=yd.ne (i:=2) (j:=3) (by lia) (by lia) (by lia)
 have p23:pos 2≠pos 3:=λ z=>by have:=yd.pi 2 3 (by lia) (by lia) z;lia
 have hb:byS (L0++L1++L2++L3) len (pos (2+i))=0:=by
  unfold byS
  rw [zwa,zwa,zwa]
  show byS L0 len (pos (2+i))+byS L1 len (pos (2+i))+byS L2 len (pos (2+i))+byS L3 len (pos (2+i))=0
  rw [h.b0.by0 (by lia),h.b1.by0 (by lia)]
  rcases (by lia:i=0 \/ i=1) with rfl|rfl
  ·rw [h.e2 (by lia),h.e3 (by lia)];rfl
  ·rw [h.e3 (by lia),h.b2.by0 λ z=>p23 z.2];rfl
 have lyi:o i<=ly.getD (f (2+i)) 0:=by
  rw [h.P.ly,h.at_ yd,zbh g b]
  unfold more
  rcases (by lia:i=0 \/ i=1) with rfl|rfl
  ·rw [if_neg (Ne.symm n02),if_pos rfl,if_pos (by lia)];simp only [Nat.add_zero] at q0 ⊢;rw [if_neg (by lia)];lia
  ·rw [if_neg (Ne.symm n03),if_neg (Ne.symm n23),if_pos rfl,if_pos (by lia),if_neg (by lia)];lia
 have hbW:pos (2+i) ∉ W.map (·.1):=λ z=>by
  rcases (by lia:i=0 \/ i=1) with rfl|rfl
  ·rw [h.w0 rfl] at z;simp at z
  ·rcases h.ws _ z with y|y
   ·exact p23 y.symm
   ·lia
 refine ⟨n,g,ps,L0++L1++L2++L3,len,pos (2+i),pk f l pr (2+i),x,y,ly,en,W,by rw [hu],yd.po,yd.at_ _ (by lia),λ m p' hm hp e=>?_,h.P,by simp only [List.length_append];lia,by have:=h.wl;lia,hbW,x0,y0,by rw [hb,(yd.st (by lia)).2.2.2.1];lia,by rw [hu];lia,λ M en' m1 m2 m3 P=>?_⟩
 ·obtain ⟨k',hk,rfl,rfl⟩:=yd.un m p' hp
  rw [hu] at e
  have:k'=2+i:=by
   by_cases z:k' < 2
   ·have e:f 0=f (2+i):=by rw [<- e];exact (if_pos z).symm
    exact absurd e (yd.ne (by lia) (by lia) (by lia))
   ·have e:f k'=f (2+i):=by rw [<- e];exact (if_neg z).symm
    exact Classical.byContradiction λ y=>yd.ne hk (by lia) y e
  subst this
  lia
 ·have wsn:∀ b∈(wayW W (pos (2+i)) (x+y)).map (·.1),b=pos 2 \/ (b=pos 3/\1 < i+1):=λ b hb=>by
   rcases zuu hb with z|z
   ·rcases h.ws b z with y|y
    ·exact .inl y
    ·exact .inr ⟨y.1,by lia⟩
   ·subst z
    rcases (by lia:i=0 \/ i=1) with rfl|rfl
    ·exact .inl rfl
    ·exact .inr ⟨rfl,by lia⟩
  have wln:(wayW W (pos (2+i)) (x+y)).length<=i+1:=Nat.le_trans (zso _ _ _) (by have:=h.wl;lia)
  have bM:Bun M len (pos (2+i)) (o i):=⟨m2,by rw [m3,xy]⟩
  rcases (by lia:i=0 \/ i=1) with rfl|rfl
  ·rw [h.e2 (by lia),h.e3 (by lia),List.append_nil,List.append_nil] at P
   exact k _ _ _ M [] ⟨by rw [List.append_nil];exact P,h.b0,h.b1,by rw [if_pos (by lia)];exact bM,by rw [if_neg (by lia)];exact Bun.nil _ _,λ z=>by lia,λ _=>rfl,⟨nl.1,nl.2.1,m1,by simp⟩,wln,wsn,λ z=>by lia,h.o0⟩
  ·rw [h.e3 (by lia),List.append_nil] at P
   exact k _ _ _ L2 M ⟨P,h.b0,h.b1,by have:=h.b2;rwa [if_pos (by lia)] at this ⊢,by rw [if_pos (by lia)];exact bM,λ z=>by lia,λ z=>by lia,⟨nl.1,nl.2.1,nl.2.2.1,m1⟩,wln,wsn,λ z=>by lia,h.o0⟩
theorem Ph2.nov (yd:Yd n f l pr ps pos) (vo:VOk f g 4) {len A:Nat} {o:Nat->Int} {ly en:List Int} {W:Ways} {L0 L1 L2 L3:List Le} (h:Ph2 n g f ps pos len A 2 o ly en W L0 L1 L2 L3) (e0:l 0=len) (e1:l 1=len) {m:Nat} (hm:len<=m):zgl (zd1 n g) (hold ps m (L0++L1++L2++L3) (zv0 n g)):=by
 refine zsz yd λ x hx=>?_
 rw [h.at_ yd]
 have q0:=zks vo h.o0 (k:=0) (by lia)
 have q1:=zks vo h.o0 (k:=1) (by lia)
 have o1:=h.o0 0 (by lia)
 have o2:=h.o0 1 (by lia)
 rw [if_pos (by lia),if_pos (by lia)]
 refine zns yd vo (by lia) ?_ ?_ ⟨o1.1,o1.2.1⟩ ⟨o2.1,o2.2.1⟩ hx
 ·rw [if_pos (by lia)];simp only [Nat.add_zero] at q0;lia
 ·rw [show 2+1=3 from rfl] at q1;rw [if_pos (by lia)];lia
theorem Ph2.fin (yd:Yd n f l pr ps pos) (vo:VOk f g 4) {len A:Nat} {o:Nat->Int} {ly en:List Int} {W:Ways} {L0 L1 L2 L3:List Le} (h:Ph2 n g f ps pos len A 2 o ly en W L0 L1 L2 L3) (e0:l 0=len) (e1:l 1=len) (e2:l 2<=20) (e3:l 3<=20) (l1:∀ k,k < 4->1<=l k):ly.set (f 1) (o 0+o 1)=hold ps (len+21) (L0++L1++L2++L3) (zv0 n g):=by
 have b:=yd.sp.bd 1 (by have:=yd.n4;lia)
 have lyl:ly.length=n:=by rw [h.P.ly,zj1,zx0]
 refine zol (by rw [List.length_set,lyl,zj1,zx0]) λ x=>?_
 have n01:=yd.ne (i:=0) (j:=1) (by lia) (by lia) (by lia)
 have n12:=yd.ne (i:=1) (j:=2) (by lia) (by lia) (by lia)
 have n13:=yd.ne (i:=1) (j:=3) (by lia) (by lia) (by lia)
 have k2:=l1 2 (by lia)
 have k3:=l1 3 (by lia)
 rw [zp1 _ _ _ (by rw [lyl];exact b),h.at_ yd,h.P.ly,h.at_ yd]
 unfold more
 rw [if_pos (by lia:0 < 2),if_pos (by lia:1 < 2),if_pos (by lia:l 0<=len),if_pos (by lia:l 0<=len+21),if_pos (by lia:l 1<=len),if_pos (by lia:l 1<=len+21),if_pos (by lia:len+l 2<=len+21),if_pos (by lia:len+l 3<=len+21),if_neg (by lia:¬ len+l 2<=len),if_neg (by lia:¬ len+l 3<=len)]
 by_cases z:f 1=x
 ·subst z
  rw [if_pos rfl,if_neg (Ne.symm n01),if_neg n12,if_neg n13,if_pos rfl,zbh g b,vo.v1.2];lia
 ·rw [if_neg z,if_neg (Ne.symm z),if_neg (Ne.symm z)]
theorem Ph2.gone (yd:Yd n f l pr ps pos) {len A i:Nat} {o:Nat->Int} {ly en ly' en':List Int} {W:Ways} {kvs:List (List Key×D)} {L0 L1 L2 L3:List Le} (h:Ph2 n g f ps pos len A i o ly en W L0 L1 L2 L3) (e0:l 0=len) (e1:l 1=len) (e2:l 2<=20) (e3:l 3<=20) (P:Pl (zv0 n g) ps (len+21) (L0++L1++L2++L3) ly' en' kvs):kvs=[]:=zxo P λ q hq=>by
 simp only [List.mem_append] at hq
 rcases hq with ((z|z)|z)|z
 ·obtain ⟨a,b⟩:=h.b0.al q z
  rw [a,b,(yd.st (by lia)).2.2.1];lia
 ·obtain ⟨a,b⟩:=h.b1.al q z
  rw [a,b,(yd.st (by lia)).2.2.1];lia
 ·obtain ⟨a,b⟩:=h.b2.al q z
  rw [a,b,(yd.st (by lia)).2.2.1];lia
 ·obtain ⟨a,b⟩:=h.b3.al q z
  rw [a,b,(yd.st (by lia)).2.2.1];lia
end
theorem zwy {n:Nat} {f:Nat->Nat} {g:Nat->Va} (vo:VOk f g 4):∀ x∈zv0 n g,0<=x:=λ x hx=>by
 unfold zv0 at hx
 obtain ⟨j,_,rfl⟩:=List.mem_map.mp hx
 by_cases z:∀ k,k < 4->j≠f k
 ·rw [(vo.vo j z).2];lia
 ·obtain ⟨k,hk,e⟩:∃ k,k < 4/\j=f k:=Classical.byContradiction λ y=>z λ k hk e=>y ⟨k,hk,e⟩
  subst e
  rcases (by lia:k=0 \/ k=1 \/ 2<=k) with rfl|rfl|z
  ·rw [vo.v0.2];lia
  ·rw [vo.v1.2];lia
  ·exact (vo.vm k z hk).1
theorem zqt {n:Nat} {f l:Nat->Nat} {pr:Int} {g:Nat->Va} {ps:List Pi} {pos:Nat->Nat} (yd:Yd n f l pr ps pos) (vo:VOk f g 4):Ph1 n g f ps pos 0 (λ _=>0) (zv0 n g) (List.replicate ps.length 0) [] [] [] :=
 ⟨Pl.init (zwy vo) yd.po.hw,Bun.nil _ _,Bun.nil _ _,λ _=>rfl,λ _=>rfl,by simp,by simp,λ k _=>⟨by show (0:Int)<=0;lia,by show (0:Int)<=_;lia,λ _=>rfl⟩⟩
theorem zad1 (o:Nat->Int) {i:Nat} (hi:i < 2) (v:Int):[PyData.int (o 0),.int (o 1)].set i (.int v)=[.int (oUp o i v 0),.int (oUp o i v 1)]:=by
 rcases (by lia:i=0 \/ i=1) with rfl|rfl <;> rfl
theorem o_at (o:Nat->Int) {i:Nat} (hi:i < 2):atI [PyData.int (o 0),.int (o 1)] ((i:Nat):Int)=some (.int (o i)):=by
 rcases (by lia:i=0 \/ i=1) with rfl|rfl <;> rfl
theorem zx21 {n:Nat} (h12:n<=12) (g:Nat->Va) {k:Nat} (hk:k < n):atI (dVs n g) ((k:Nat):Int)=some (.tuple [.str (g k).nm,.int (g k).room,.int (g k).fill]):=zf5 (by lia) (by unfold dVs;rw [Int.toNat_natCast,List.getElem?_map,List.getElem?_range hk];rfl)
theorem zc91 {n:Nat} {h:List Int} (h12:n<=12) (hl:h.length=n) {v:Nat} (hv:v < n):atI (h.map PyData.int) ((v:Nat):Int)=some (.int (h.getD v 0)):=zf5 (by lia) (by rw [Int.toNat_natCast,List.getElem?_map,List.getD_eq_getElem?_getD,List.getElem?_eq_getElem (by lia)];rfl)
section
variable {P:Program} {w:World} {K:Fg} {mg:Str->Option Value} {base:Heap} {jB jD jC jA:Addr}
theorem zz01:FnScope ["script", "many", "spots", "vats", "length", "lengths", "pipes", "play", "held", "over", "come", "k", "goal", "number", "amount", "way", "some", "parts"] ["script"] (zf0 zms):=by walk_at "sc"
theorem ztw (vE:mg "int"=none) (kJ:mg "list"=none) (jN:mg "range"=none) (jM:Def P w K mg base "_law_draw" 1 ["script", "k"] (spD K zp4)) (kN:Def P w K mg base "_law_part" 1 ["number", "most"] (spD K zga)) (uJ:Def P w K mg base "_law_spots" 2 ["script", "many"] (spD K zuc)) (uR:Def P w K mg base "_law_vats" 2 ["script", "many", "spots"] (spD K zvf)) (uK:Def P w K mg base "_law_pipes" 2 ["script", "spots", "lengths"] (spD K zvc)) (kO:Def P w K mg base "_law_full" 3 ["play", "vats", "held"] (spT K (zy9 jA jB jD jC))) (qQ:Def P w K mg base "_law_on_to" 4 ["play", "now", "later"] (spT K (zpc jA jB jD jC))) (kK:Def P w K mg base "_law_let_on" 4 ["play", "vats", "held", "at", "start", "amount"] (spM K (zq2 jA jB jD jC))) (qW:Def P w K mg base "_law_emptied" 5 ["play", "vats", "pipes", "held", "start", "parts", "now", "way"] (spM K (ze4 jA jB jD jC))) (jE:Cls K jA) (jV:zh5 P w K mg base jA "under_way" 1 ["self"] (spT K (zq1 jA jB jD jC))) (vK:zzo P w K mg base "Play" jA 4 ["self", "yard"] (spT K (zm5 jA jB jD jC))) :
  ∀ (f:Addr) (cdv:Value) (A:Around) (outer:List Env) (s:Shared) (H:Hp) (E:XK),Room 5 (A.deeper (envOfC "law" (zf0 zms) s.heap.objs.size f cdv)) ->
   ∃ t d,PSs (cxOf CX0 P w K mg base ["script", "many", "spots", "vats", "length", "lengths", "pipes", "play", "held", "over", "come", "k", "goal", "number", "amount", "way", "some", "parts"] "law" (zf0 zms) f cdv A outer s H E).nox (zu1 zms) t/\RfS K t d/\∀ (ns:List Int) (Qd:D->Prop),ns.length<=63->Qd (.bool true)->d { nx:=λ _=>Qd .none,rt:=rD Qd } (zhd ["script", "many", "spots", "vats", "length", "lengths", "pipes", "play", "held", "over", "come", "k", "goal", "number", "amount", "way", "some", "parts"] [.list (ns.map .int)]):=by
 intro f cdv A outer s H E hr
 have nd:=zz01.nd
 refine ⟨_,_,(zd0 (pset 1 nd (zw0 (zs0 (K:=K) rfl) zg0 (zw0 zc4 (zp0 jM (rmn hr) rfl (za0 (pv 0) (za0 zg0 zh0))) zg0)))
   (zd0 (pset 2 nd (zp0 uJ (rmn hr) rfl (za0 (pv 0) (za0 (pv 1) zh0))))
   (zd0 (pset 3 nd (zp0 uR (rmn hr) rfl (za0 (pv 0) (za0 (pv 1) (za0 (pv 2) zh0)))))
   (zd0 (pset 4 nd (zw0 (zs0 (K:=K) rfl) zg0 (zw0 zc4 (zp0 jM (rmn hr) rfl (za0 (pv 0) (za0 zg0 zh0))) zg0)))
   (zd0 (pset 5 nd (zw0 (zs0 (K:=K) rfl) (zt1 (za0 (pv 4) (za0 (pv 4) zh0))) (zt6 (sc:=zf0 zms) (N:=["script", "many", "spots", "vats", "length", "lengths", "pipes", "play", "held", "over", "come", "k", "goal", "number", "amount", "way", "some", "parts"]) (own:=["k"]) (ix:=[0]) rfl rfl rfl (by walk_at "csc") (zz1 rfl jN (za0 zg0 zh0)) (λ _ _ _ _=>⟨(pgn 0 (nds ["k", "script"])),zl5,(zw0 (zs0 (K:=K) rfl) zg0 (zw0 zc4 (zp0 jM (rmn hr) rfl (za0 (pv 1) (za0 (zw0 (zs0 (K:=K) rfl) zg0 (pv 0)) zh0))) zg0))⟩))))
   (zd0 (pset 6 nd (zp0 uK (rmn hr) rfl (za0 (pv 0) (za0 (pv 2) (za0 (pv 5) zh0)))))
   (zd0 (pset 7 nd (zee vK (rmn hr) rfl (za0 (zh2 (za0 (zn3 (zi3 (K:=K) rfl) rfl kJ zja (za0 (pv 3) zh0)) (za0 (zn3 (zi3 (K:=K) rfl) rfl kJ zja (za0 (pv 6) zh0)) zh0))) zh0)))
   (zd0 (zw6 (i:=8) (sc:=zf0 zms) (N:=["script", "many", "spots", "vats", "length", "lengths", "pipes", "play", "held", "over", "come", "k", "goal", "number", "amount", "way", "some", "parts"]) (own:=["vat"]) (ix:=[]) rfl rfl rfl (by walk_at "csc") nd rfl rfl (pi_W (K:=K) rfl (pv 3)) (λ _ _ _ _=>⟨(pgn 0 (nds ["vat"])),zl5,(pix w K hr (pv 0) zg0)⟩))
   (zd0 (pset 9 nd (zt1 (za0 zg0 (za0 zg0 zh0))))
   (zd0 (pset 10 nd (zn3 (zi3 (K:=K) rfl) rfl kJ zja (za0 (pv 8) zh0)))
   (zd0 (zub PassesOwn.never rfl (zz1 rfl jN (za0 (zw0 (zs0 (K:=K) rfl) zg0 (zw0 zc4 (zp0 jM (rmn hr) rfl (za0 (pv 0) (za0 zg0 zh0))) zg0)) zh0)) (pgn 11 nd) (zd0 (pset 12 nd (pix w K hr (pv 2) (zw0 (zs0 (K:=K) rfl) zg0 (pv 11))))
   (zd0 (pset 13 nd (zp0 jM (rmn hr) rfl (za0 (pv 0) (za0 (zw0 (zs0 (K:=K) rfl) zg0 (pv 11)) zh0))))
   (zd0 (zbb (pix w K hr (zt1 (za0 zg0 (za0 (zw0 (zs0 (K:=K) rfl) zg0 (zp0 kN (rmn hr) rfl (za0 (zw0 zu9 (pv 13) zg0) (za0 (zw0 zin (zw0 zal zg0 zg0) zg0) zh0)))) zh0))) (zn3 zkq rfl vE zjy (za0 (zug zhp (zw0 zc4 (pv 13) zg0) zg0 (zr2 _)) zh0))) (zcb (pv 9) (pv 11) (zfi (Room.units hr))))
   (zd0 (pset 14 nd (zw0 (zs0 (K:=K) rfl) (zw0 zin (pix w K hr (pix w K hr (pv 3) (pv 12)) zg0) (pix w K hr (pix w K hr (pv 3) (pv 12)) zg0)) (pix w K hr (pv 9) (pv 11))))
   (zd0 (zdb (zo8 (ze3 (K:=K) rfl (zp0 kK (rmn hr) rfl (za0 (pv 7) (za0 (pv 3) (za0 (pv 8) (za0 (zpi (K:=K) rfl PySem.F.plainAttrs_list PySem.F.slot_list_index PySem.F.type_list_index zno (zt6 (sc:=zf0 zms) (N:=["script", "many", "spots", "vats", "length", "lengths", "pipes", "play", "held", "over", "come", "k", "goal", "number", "amount", "way", "some", "parts"]) (own:=["one"]) (ix:=[]) rfl rfl rfl (by walk_at "csc") (pi_W (K:=K) rfl (pv 6)) (λ _ _ _ _=>⟨(pgn 0 (nds ["one"])),zl5,(pix w K hr (pv 0) zg0)⟩)) (za0 (pv 12) zh0)) (za0 (pix w K hr (pv 2) zg0) (za0 (pv 14) zh0))))))) (λ _=>rfl))) (zk0 (zz0 zqk)) zg1)
   (zk0 (zbb (zw0 (zs0 (K:=K) rfl) (pix w K hr (pv 10) (pv 12)) (pv 14)) (zcb (pv 10) (pv 12) (zfi (Room.units hr)))))))))))
   (zd0 (zbb (pix w K hr (pv 8) (pix w K hr (pv 2) zg0)) (zcb (pv 10) (pix w K hr (pv 2) zg0) (zfi (Room.units hr))))
   (zd0 (zdb (PW.pt (zma1 (zo8 (ze3 (K:=K) rfl (zp0 qQ (rmn hr) rfl (za0 (pv 7) (za0 zg0 (za0 (pv 4) zh0)))) (λ _=>rfl))) (zmz (zo8 (ze3 (K:=K) rfl (zp0 kO (rmn hr) rfl (za0 (pv 7) (za0 (pv 3) (za0 (pv 10) zh0)))) (λ _=>rfl)))))) (zk0 (zz0 zqk)) zg1)
   (zd0 (pset 15 nd (zt1 zh0))
   (zd0 (zub PassesOwn.never rfl (zz1 rfl jN (za0 zg0 zh0)) (pgn 11 nd) (zd0 (pset 16 nd (zw0 zc4 (zp0 jM (rmn hr) rfl (za0 (pv 0) (za0 (zw0 (zs0 (K:=K) rfl) zg0 (pv 11)) zh0))) (zw0 (zs0 (K:=K) rfl) (pix w K hr (pv 9) (pv 11)) zg0)))
   (zd0 (pset 17 nd (zt1 (za0 zg0 (za0 (pv 16) (za0 (zw0 zin (pix w K hr (pv 9) (pv 11)) (pv 16)) zh0)))))
   (zk0 (zdb (zo8 (ze3 (K:=K) rfl (zp0 qW (rmn hr) rfl (za0 (pv 7) (za0 (pv 3) (za0 (pv 6) (za0 (pv 10) (za0 (pix w K hr (pv 2) (zw0 (zs0 (K:=K) rfl) zg0 (pv 11))) (za0 (pv 17) (za0 (pv 4) (za0 (pv 15) zh0))))))))) (λ _=>rfl))) (zk0 (zz0 zqk)) zg1)))))
   (zd0 (zdb (zo8 (ze3 (K:=K) rfl (zp0 qQ (rmn hr) rfl (za0 (pv 7) (za0 (pv 4) (za0 (zw0 (zs0 (K:=K) rfl) (pv 4) zg0) zh0)))) (λ _=>rfl))) (zk0 (zz0 zqk)) zg1)
   (zd0 (zbb (zw0 (zs0 (K:=K) rfl) (pix w K hr (pv 9) zg0) (pix w K hr (pv 9) zg0)) (zcb (pv 10) (pix w K hr (pv 2) zg0) (zfi (Room.units hr))))
   (zk0 (zz0 (zdl (zp0 kO (rmn hr) rfl (za0 (pv 7) (za0 (pv 3) (za0 (pv 10) zh0)))) (ztp (zug (zig (K:=K) rfl (Room.units hr)) (zs2 jV (rmn hr) (pv 7)) (zt1 zh0) (zr2 _))))))))))))))))))))))),(zn0 (ze1 (zo0 za4 rvi (RfE.v (zo0 zcf (RfE.v (zk1 (zc0 (zm0 0) (zc0 zi1 zq0)))) rvi))) (rgn 1))
   (zn0 (ze1 (zk1 (zc0 (zm0 0) (zc0 (zm0 1) zq0))) (rgn 2))
   (zn0 (ze1 (zk1 (zc0 (zm0 0) (zc0 (zm0 1) (zc0 (zm0 2) zq0)))) (rgn 3))
   (zn0 (ze1 (zo0 za4 rvi (RfE.v (zo0 zcf (RfE.v (zk1 (zc0 (zm0 0) (zc0 zi1 zq0)))) rvi))) (rgn 4))
   (zn0 (ze1 (zo0 za4 (RfE.v (RfF.e (zg5 (zc0 (zm0 4) (zc0 (zm0 4) zq0))))) (RfE.v (RfF.e (zy4 (RfI.j (zi5 (zc0 zi1 zq0))) (zv2 (i:=0) (n:=1) (by decide)) zg8 (zo0 za4 rvi (RfE.v (zo0 zcf (RfE.v (zk1 (zc0 (zm0 1) (zc0 (zo0 za4 rvi (zb0 0)) zq0)))) rvi))))))) (rgn 5))
   (zn0 (ze1 (zk1 (zc0 (zm0 0) (zc0 (zm0 2) (zc0 (zm0 5) zq0)))) (rgn 6))
   (zn0 (zma (RfN.c (zyj (at_d (zf6 (zc0 (RfF.e (zyr zcl (zy0 (zb0 3) zn2))) (zc0 (RfF.e (zyr zcl (zy0 (zb0 6) zn2))) zq0))) zx1))))
   (zn0 (zma (RfF.c (zy4 (zmx (zb0 3)) (zv2 (i:=0) (n:=1) (by decide)) zg8 (zo0 r_ix (zb0 0) rvi))))
   (zn0 (zma (RfF.c (zg5 (zc0 zi1 (zc0 zi1 zq0)))))
   (zn0 (zma (RfF.c (zyr zcl (zy0 (zb0 8) zn2))))
   (zn0 (zec (zi5 (zc0 (zo0 za4 rvi (RfE.v (zo0 zcf (RfE.v (zk1 (zc0 (zm0 0) (zc0 zi1 zq0)))) rvi))) zq0)) (rgn 11) (zn0 (ze1 (zo0 r_ix (zb0 2) (RfE.v (zo0 za4 rvi (zb0 11)))) (rgn 12))
   (zn0 (ze1 (zk1 (zc0 (zm0 0) (zc0 (zo0 za4 rvi (zb0 11)) zq0))) (rgn 13))
   (zn0 (zw9 (zo0 r_ix (RfE.v (RfF.e (zg5 (zc0 zi1 (zc0 (zo0 za4 rvi (RfE.v (zk1 (zc0 (zo0 zl11 (zb0 13) rvi) (zc0 (zo0 zt21 (RfE.v (zo0 zex rvi rvi)) rvi) zq0))))) zq0))))) (RfE.v (zkl zeb1 (zy0 (RfE.v (zo0 r_gt (RfE.v (zo0 zcf (zb0 13) rvi)) rvi)) zn2)))) (zl0 9) (zm0 11))
   (zn0 (ze1 (zo0 za4 (RfE.v (zo0 zt21 (RfE.v (zo0 r_ix (RfE.v (zo0 r_ix (zb0 3) (zb0 12))) rvi)) (RfE.v (zo0 r_ix (RfE.v (zo0 r_ix (zb0 3) (zb0 12))) rvi)))) (RfE.v (zo0 r_ix (zb0 9) (zb0 11)))) (rgn 14))
   (zn0 (zgf (zke (ru_c (zmh (at_o (zl0 7) (at_d (zm0 3) (at_o (zl0 8) (at_d (zbn (zy4 (zmx (zb0 6)) (zv2 (i:=0) (n:=1) (by decide)) zg8 (zo0 r_ix (zb0 0) rvi)) (zm0 12)) (at_d (zo0 r_ix (zb0 2) rvi) (at_d (zm0 14) zx1))))))))) (zc1 (RfE.c zz8)) zh1)
   (zw9 (zo0 za4 (RfE.v (zo0 r_ix (zb0 10) (zb0 12))) (zb0 14)) (zl0 10) (zm0 12))))))))
   (zn0 (zw9 (zo0 r_ix (zb0 8) (RfE.v (zo0 r_ix (zb0 2) rvi))) (zl0 10) (zo0 r_ix (zb0 2) rvi))
   (zn0 (zgf (zza1 (zke (ru_c (zvg (at_o (zl0 7) (at_d zi1 (at_d (zm0 4) zx1)))))) (zke (ru_t (zam (RfE.v (RfN.ex (zll (at_b (zl0 7) (at_d (zm0 3) (at_b (zl0 10) zx1)))))))))) (zc1 (RfE.c zz8)) zh1)
   (zn0 (zma (RfF.c (zg5 zq0)))
   (zn0 (zec (zi5 (zc0 zi1 zq0)) (rgn 11) (zn0 (ze1 (zo0 zcf (RfE.v (zk1 (zc0 (zm0 0) (zc0 (zo0 za4 rvi (zb0 11)) zq0)))) (RfE.v (zo0 za4 (RfE.v (zo0 r_ix (zb0 9) (zb0 11))) rvi))) (rgn 16))
   (zn0 (ze1 (RfF.e (zg5 (zc0 zi1 (zc0 (zm0 16) (zc0 (zo0 zt21 (RfE.v (zo0 r_ix (zb0 9) (zb0 11))) (zb0 16)) zq0))))) (rgn 17))
   (zgf (zke (ru_c (zmh (at_o (zl0 7) (at_d (zm0 3) (at_d (zm0 6) (at_o (zl0 10) (at_d (zo0 r_ix (zb0 2) (RfE.v (zo0 za4 rvi (zb0 11)))) (at_d (zm0 17) (at_d (zm0 4) (at_o (zl0 15) zx1))))))))))) (zc1 (RfE.c zz8)) zh1))))
   (zn0 (zgf (zke (ru_c (zvg (at_o (zl0 7) (at_d (zm0 4) (at_d (zo0 za4 (zb0 4) rvi) zx1)))))) (zc1 (RfE.c zz8)) zh1)
   (zn0 (zw9 (zo0 za4 (RfE.v (zo0 r_ix (zb0 9) rvi)) (RfE.v (zo0 r_ix (zb0 9) rvi))) (zl0 10) (zo0 r_ix (zb0 2) rvi))
   (zc1 (RfE.c (zqc (RfN.ex (zll (at_b (zl0 7) (at_d (zm0 3) (at_b (zl0 10) zx1))))) (zlb q_eq (RfV.h (RfE.v (RfN.ex (zkg (zl0 7) zx1)))) (zqz zf31)))))))))))))))))))))),?_⟩
 intro ns Qd hns q
 walk_at "ds"
 refine ze0 λ J hJ=>?_
 walk_at "dd"
 refine ⟨ns,0,rfl,by lia,λ m m0 m1=>?_⟩
 walk_at "dd"
 refine hJ _ ?_
 clear hJ
 obtain ⟨n,en,n4,n12⟩:∃ n:Nat,4+m % 9=(n:Int)/\4<=n/\n<=12:=by
  have h1:=Int.emod_nonneg m (b:=9) (by lia)
  have h2:=Int.emod_lt_of_pos m (b:=9) (by lia)
  exact ⟨(4+m % 9).toNat,by lia,by lia,by lia⟩
 rw [en]
 refine ze0 λ J hJ=>?_
 walk_at "dd"
 refine ⟨ns,n,rfl,n4,n12,λ f sp=>hJ _ ?_⟩
 clear hJ
 refine ze0 λ J hJ=>?_
 walk_at "dd"
 refine ⟨ns,n,f,rfl,n4,n12,sp,λ g vo=>hJ _ ?_⟩
 clear hJ
 refine ze0 λ J hJ=>?_
 walk_at "dd"
 refine ⟨ns,1,rfl,by lia,λ c c0 c1=>?_⟩
 walk_at "dd"
 refine hJ _ ?_
 clear hJ
 have ln:∀ c:Int,∃ x:Nat,1+c % 20=(x:Int)/\1<=x/\x<=20:=λ c=>by
  have h1:=Int.emod_nonneg c (b:=20) (by lia)
  have h2:=Int.emod_lt_of_pos c (b:=20) (by lia)
  exact ⟨(1+c % 20).toNat,by lia,by lia,by lia⟩
 obtain ⟨len,el,ln1,ln2⟩:=ln c
 rw [el]
 refine ze0 λ J hJ=>?_
 walk_at "dd"
 unfold rngD
 refine zx81 (λ x:Nat=>1<=x/\x<=20) (λ x=>.int ((x:Nat):Int)) (by decide) (λ k hk=>?_) λ bs hbs okb=>⟨by rw [List.length_map,hbs];decide,hJ _ ?_⟩
 ·have hk:=List.mem_range.mp hk
  rw [show (0:Int)+(k:Int)=(k:Int) by lia]
  walk_at "cs"
  walk_at "dd"
  refine ⟨ns,20+k,by simp,by lia,λ m m0 m1=>?_⟩
  walk_at "dd"
  obtain ⟨x,ex,h⟩:=ln m
  exact ⟨x,h,by rw [ex]⟩
 clear hJ
 obtain ⟨la,lb,rfl⟩:∃ a b,bs=[a,b]:=by
  rw [List.length_range] at hbs
  match bs,hbs with
 |[a,b],_=>exact ⟨a,b,rfl⟩
 have ka:=okb la (by simp)
 have kb:=okb lb (by simp)
 obtain ⟨l,k0,k1,k2,k3⟩:∃ l:Nat->Nat,l 0=len/\l 1=len/\l 2=la/\l 3=lb:=⟨λ k=>if k < 2 then len else if k=2 then la else lb,rfl,rfl,rfl,rfl⟩
 have hl1:∀ k,k < 4->1<=l k:=λ k hk=>by
  rcases (by lia:k=0 \/ k=1 \/ k=2 \/ k=3) with rfl|rfl|rfl|rfl <;> lia
 refine ze0 λ J hJ=>?_
 walk_at "dd"
 refine ⟨ns,n,f,l,by rw [k0,k1,k2,k3],n4,λ t pr ht=>hJ _ ?_⟩
 clear hJ
 have yd:=zw71 sp n4 n12 hl1 pr ht
 generalize (P4 f l pr).drop t++(P4 f l pr).take t=ps at yd
 generalize (λ k=>(k+4 - t) % 4)=pos at yd
 refine ze0 λ J hJ=>?_
 walk_at "dd"
 refine ⟨(List.range n).map g,ps,by unfold dVs;rw [List.map_map];rfl,by simp;lia,yd.po.p24,trivial,hJ _ ?_⟩
 clear hJ
 rw [show ((List.range n).map g).map Va.room=zd1 n g by unfold zd1;rw [List.map_map];rfl,show ((List.range n).map g).map Va.fill=zv0 n g by unfold zv0;rw [List.map_map];rfl]
 refine zwe (λ U=>U=[.sh (.list (ns.map .int)),.sh (.int (n:Int)),.sh (.list (dSp n f)),.sh (.list (dVs n g)),.sh (.int (len:Int)),.sh (.list [.int (len:Int),.int (len:Int),.int (la:Int),.int (lb:Int)]),.sh (.list (ps.map Pi.d)),.ow (pS jA jB jD jC (zd1 n g) (zv0 n g) ps 0 (List.replicate ps.length 0) []),.ow (.li ((zv0 n g).map .int)),.un,.un,.un,.un,.un,.un,.un,.un,.un]) ?_ ?_
 ·walk_at "dd"
  unfold dVs
  refine zjx (λ i=>.int (g i).fill) (by rw [sizeLine_eq,List.length_range];lia) (λ i hi=>?_) ?_
  ·unfold Va.d
   walk_at "cs"
   walk_at "dd"
   exact ⟨_,rfl,rfl⟩
  ·unfold zv0
   rw [List.map_map];rfl
 rintro U rfl
 refine ze0 λ J hJ=>?_
 walk_at "dd"
 refine hJ _ ?_
 clear hJ
 refine ze0 λ J hJ=>?_
 walk_at "dd"
 refine hJ _ ?_
 clear hJ
 refine ze0 λ J hJ=>?_
 refine zoi λ B hB=>?_
 walk_at "dd"
 refine ⟨ns,2,rfl,by lia,λ m2 m20 m21=>?_⟩
 walk_at "dd"
 obtain ⟨A,eA,hA1,hA2⟩:∃ A:Nat,1+m2 % 2=(A:Int)/\1<=A/\A<=2:=by
  have h1:=Int.emod_nonneg m2 (b:=2) (by lia)
  have h2:=Int.emod_lt_of_pos m2 (b:=2) (by lia)
  exact ⟨(1+m2 % 2).toNat,by lia,by lia,by lia⟩
 rw [eA,Int.toNat_natCast]
 unfold rngD
 refine ⟨by lia,by lia,zb6 (λ i U=>∃ (o:Nat->Int) (ly en come:List Int) (kvs:List (List Key×D)) (L0 L1:List Le) (s11 s12 s13 s14:Sl),Ph1 n g f ps pos i o ly en kvs L0 L1/\Cm n g f o i come/\U=[.sh (.list (ns.map .int)),.sh (.int (n:Int)),.sh (.list (dSp n f)),.sh (.list (dVs n g)),.sh (.int (len:Int)),.sh (.list [.int (len:Int),.int (len:Int),.int (la:Int),.int (lb:Int)]),.sh (.list (ps.map Pi.d)),.ow (pS jA jB jD jC (zd1 n g) ly ps 0 en kvs),.ow (.li (ly.map .int)),.ow (.li [.int (o 0),.int (o 1)]),.ow (.li (come.map .int)),s11,s12,s13,s14,.un,.un,.un])
  ⟨_,_,_,_,_,_,_,.un,.un,.un,.un,zqt yd vo,Cm.init _,rfl⟩ ?_ ?_⟩
 ·rintro i x U hx ⟨o,ly,en,come,kvs,L0,L1,s11,s12,s13,s14,h1,hc,rfl⟩
  obtain ⟨hi,hi2⟩:=List.getElem?_eq_some_iff.mp hx
  simp at hi hi2
  subst hi2
  rw [show (0:Int)+(i:Int)=(i:Int) by lia]
  have hi:i < 2:=by lia
  have ga:atI (dSp n f) (2+(i:Int))=some (.int ((f (2+i):Nat):Int)):=by
   have:=zu6 (n:=n) (f:=f) (k:=2+i) (by lia)
   simpa using this
  have gl:f (2+i) < n:=sp.bd _ (by lia)
  refine hB _ _ ?_
  clear hB
  refine ze0 λ J hJ=>?_
  walk_at "dd"
  refine ⟨_,ga,hJ _ ?_⟩
  clear hJ
  refine ze0 λ J hJ=>?_
  walk_at "dd"
  refine ⟨ns,24+i,by simp,by lia,λ r r0 r1=>hJ _ ?_⟩
  clear hJ
  refine ze0 λ J hJ=>?_
  walk_at "dd"
  refine ⟨by decide,r / 4,99999999999,rfl,by lia,by lia,by lia,by lia,λ p p0 p1=>?_⟩
  walk_at "dd"
  refine ⟨.int (if 0 < r % 4 then 1+p else 0),?_,i,zh6 hi,hJ _ ?_⟩
  ·by_cases z:0 < r % 4
   ·simp only [z,decide_true,if_true];rfl
   ·simp only [z,decide_false,if_false];rfl
  clear hJ
  obtain ⟨v,ev,v0,v1⟩:∃ v,(if 0 < r % 4 then 1+p else 0)=v/\0<=v/\v<=100000000000:=by
   refine ⟨_,rfl,?_,?_⟩ <;> split <;> lia
  rw [ev,zad1 o hi v]
  refine ze0 λ J hJ=>?_
  walk_at "dd"
  refine ⟨_,zx21 n12 g gl,?_⟩
  walk_at "dd"
  refine ⟨_,rfl,_,zx21 n12 g gl,?_⟩
  walk_at "dd"
  refine ⟨_,rfl,_,o_at (oUp o i v) hi,hJ _ ?_⟩
  clear hJ
  rw [show oUp o i v i=v from if_pos rfl]
  obtain ⟨am,ham⟩:∃ am,am=(g (f (2+i))).room - (g (f (2+i))).fill+v:=⟨_,rfl⟩
  rw [<- ham]
  refine ze0 λ J hJ=>?_
  walk_at "dd"
  refine zjx (λ p=>.int (p.v:Int)) (by rw [sizeLine_eq];have:=yd.po.p24;lia) (λ p' hp'=>?_) ?_
  ·unfold Pi.d
   walk_at "cs"
   walk_at "dd"
   exact ⟨_,rfl,rfl⟩
  refine ⟨ps.map λ p=>(p.v:Int),_,pos i,by rw [List.map_map];rfl,rfl,?_,λ m hm e=>?_,_,zu6 (k:=0) (by lia),?_⟩
  ·rw [List.getElem?_map,yd.at_ i (by lia)]
   rcases (by lia:i=0 \/ i=1) with rfl|rfl <;> rfl
  ·rw [List.getElem?_map] at e
   obtain ⟨p',hp',e2⟩:=Option.map_eq_some_iff.mp e
   obtain ⟨k',hk,rfl,rfl⟩:=yd.un m p' hp'
   have e2:(pk f l pr k').v=f (2+i):=by lia
   have:k'=i:=by
    have n12:=yd.ne (i:=1) (j:=2) (by lia) (by lia) (by lia)
    have n13:=yd.ne (i:=1) (j:=3) (by lia) (by lia) (by lia)
    have n23:=yd.ne (i:=2) (j:=3) (by lia) (by lia) (by lia)
    have e2:(if k'=0 then f 2 else if k'=1 then f 3 else f 1)=f (2+i):=e2
    rcases (by lia:i=0 \/ i=1) with rfl|rfl
    ·split at e2
     ·assumption
     ·split at e2
      ·exact absurd e2.symm n23
      ·exact absurd e2 n12
    ·split at e2
     ·exact absurd e2 n23
     ·split at e2
      ·assumption
      ·exact absurd e2 n13
   subst this
   lia
  refine ⟨⟨true,trivial,trivial,trivial⟩,by decide,h1.step yd vo hi v0 v1 ham λ ly' en' kvs' L0' L1' h2=>?_⟩
  walk_at "dd"
  refine ⟨true,rfl,?_⟩
  rw [if_neg (by decide)]
  refine hJ _ ?_
  clear hJ
  walk_at "dd"
  refine ⟨_,zc91 n12 hc.len gl,?_⟩
  walk_at "dd"
  refine ⟨f (2+i),by rw [List.length_map,hc.len];exact zh6 gl,?_⟩
  rw [<- List.map_set]
  exact ⟨_,_,_,_,_,_,_,_,_,_,_,h2,hc.step yd hi ham,rfl⟩
 rintro U ⟨o,ly,en,come,kvs,L0,L1,s11,s12,s13,s14,h1,hc,rfl⟩
 refine hJ _ ?_
 clear hJ
 rw [List.length_range] at h1 hc
 refine ze0 λ J hJ=>?_
 walk_at "dd"
 have d0:=zu6 (n:=n) (f:=f) (k:=0) (by lia)
 have f0:f 0 < n:=sp.bd 0 (by lia)
 have lyl:ly.length=n:=by rw [h1.P.ly,zj1,zx0]
 refine ⟨_,d0,?_⟩
 walk_at "dd"
 refine ⟨_,zc91 n12 lyl f0,_,d0,?_⟩
 walk_at "dd"
 refine ⟨f 0,by rw [List.length_map,hc.len];exact zh6 f0,hJ _ ?_⟩
 clear hJ
 rw [<- List.map_set,h1.come yd vo hc k0 k1]
 refine ze0 λ J hJ=>?_
 walk_at "dd"
 refine ⟨trivial,n,g,ps,L0++L1,0,len,ly,en,kvs,rfl,yd.po,h1.P,by lia,λ m _ hm=>h1.nov yd vo (by lia) (by lia),λ en2 kvs2 P2=>?_⟩
 obtain ⟨rfl,h2⟩:=Ph2.init yd h1 P2 k0 k1
 have lyl2:(hold ps len (L0++L1) (zv0 n g)).length=n:=by rw [zj1,zx0]
 refine ⟨true,rfl,?_⟩
 rw [if_neg (by decide)]
 refine ⟨n,g,_,ps,len,en2,[],rfl,n12,lyl2,hJ _ ?_⟩
 clear hJ
 refine ze0 λ J hJ=>?_
 walk_at "dd"
 refine hJ _ ?_
 clear hJ
 refine ze0 λ J hJ=>?_
 refine zoi λ B2 hB2=>?_
 walk_at "dd"
 unfold rngD
 refine zb6 (λ i U=>∃ (ly3 en:List Int) (W:Ways) (L2 L3:List Le) (s11 s16 s17:Sl),Ph2 n g f ps pos len A i o ly3 en W L0 L1 L2 L3/\U=[.sh (.list (ns.map .int)),.sh (.int (n:Int)),.sh (.list (dSp n f)),.sh (.list (dVs n g)),.sh (.int (len:Int)),.sh (.list [.int (len:Int),.int (len:Int),.int (la:Int),.int (lb:Int)]),.sh (.list (ps.map Pi.d)),.ow (pS jA jB jD jC (zd1 n g) ly3 ps len en (encW (gP ps len) W)),.ow (.li (ly.map .int)),.ow (.li [.int (o 0),.int (o 1)]),.ow (.li (ly3.map .int)),s11,s12,s13,s14,.ow (.li ((W.map (rowW ps len)).map rowD)),s16,s17])
  ⟨_,_,[],[],[],s11,.un,.un,h2,rfl⟩ ?_ ?_
 ·rintro i x U hx ⟨ly3,en3,W,L2,L3,s11,s16,s17,h3,rfl⟩
  obtain ⟨hi,hi2⟩:=List.getElem?_eq_some_iff.mp hx
  simp at hi hi2
  subst hi2
  rw [show (0:Int)+(i:Int)=(i:Int) by lia]
  have ga:atI (dSp n f) (2+(i:Int))=some (.int ((f (2+i):Nat):Int)):=by
   have:=zu6 (n:=n) (f:=f) (k:=2+i) (by lia)
   simpa using this
  refine hB2 _ _ ?_
  clear hB2
  refine ze0 λ J hJ=>?_
  walk_at "dd"
  refine ⟨ns,26+i,by simp,by lia,λ r r0 r1=>?_⟩
  walk_at "dd"
  refine ⟨_,o_at o hi,?_⟩
  walk_at "dd"
  have oi:=(h3.o0 i hi).1
  have x0:=Int.emod_nonneg r (b:=o i+1) (by lia)
  have x1:=Int.emod_lt_of_pos r (b:=o i+1) (by lia)
  refine ⟨by lia,hJ _ ?_⟩
  clear hJ
  generalize r % (o i+1)=x at x0 x1
  refine ze0 λ J hJ=>?_
  walk_at "dd"
  refine ⟨_,o_at o hi,?_⟩
  walk_at "dd"
  refine hJ _ ?_
  clear hJ
  walk_at "dd"
  refine ⟨_,ga,⟨true,trivial,trivial,trivial,trivial⟩,by decide,h3.step yd vo ln1 k0 k1 hi x0 (by lia) (by lia) λ ly' en' W' L2' L3' h4=>?_⟩
  walk_at "dd"
  exact ⟨true,rfl,by rw [if_neg (by decide)];exact ⟨_,_,_,_,_,_,_,_,h4,rfl⟩⟩
 rintro U ⟨ly3,en3,W,L2,L3,s11,s16,s17,h3,rfl⟩
 refine hJ _ ?_
 clear hJ
 rw [List.length_range] at h3
 refine ze0 λ J hJ=>?_
 walk_at "dd"
 refine ⟨trivial,n,g,ps,_,len,len+21,ly3,en3,_,by simp,yd.po,h3.P,by lia,λ m hm _=>h3.nov yd vo k0 k1 hm,λ en4 kvs4 P4=>⟨true,rfl,?_⟩⟩
 rw [if_neg (by decide)]
 refine hJ _ ?_
 clear hJ
 obtain rfl:=h3.gone yd k0 k1 (by lia) (by lia) P4
 have ly3l:ly3.length=n:=by rw [h3.P.ly,zj1,zx0]
 have f1:f 1 < n:=sp.bd 1 (by lia)
 refine ze0 λ J hJ=>?_
 walk_at "dd"
 refine ⟨_,o_at o (i:=0) (by lia),_,o_at o (i:=1) (by lia),?_⟩
 walk_at "dd"
 refine ⟨_,zu6 (k:=1) (by lia),?_⟩
 walk_at "dd"
 refine ⟨f 1,by rw [List.length_map,ly3l];exact zh6 f1,hJ _ ?_⟩
 clear hJ
 rw [<- List.map_set,h3.fin yd vo k0 k1 (by lia) (by lia) hl1]
 walk_at "dd"
 refine ⟨n,g,_,ps,len+21,en4,[],rfl,n12,by rw [zj1,zx0],?_⟩
 rw [show (zd1 n g)=zd1 n g from rfl]
 show (if true=true then _ else _)
 rw [if_pos rfl]
 refine ⟨rfl,by rfl,_,_,ps,len+21,en4,[],rfl,by simp,λ kv hkv=>by simp at hkv,rfl,λ W w1 _=>?_⟩
 obtain rfl:W=[]:=w1.eq_nil
 exact ⟨rfl,rfl,q⟩
end
theorem all_mk {l:PySem.W.OpenLaw} {w:World} {K:Fg} {h:Heap} {mg:Str->Option Value} {fa:Addr} {jA jB jD jC jF kS kQ jW kG jQ jX kU kR jR:Addr} (X:K.In h) (G:h.Ns mainGlobals mg) (hfa:mg "law"=some (.ref fa))
  (jE:TopCls K "Play" jA)
  (kL:TopCls K "Steady" jB)
  (qC:TopCls K "Late" jD)
  (kI:TopCls K "Tidal" jC)
  (kB:PySem.W.findIn K (.ref jA) "rooms"=some none)
  (jH:PySem.W.findIn K (.ref jA) "lying"=some none)
  (jG:PySem.W.findIn K (.ref jA) "moment"=some none)
  (jK:PySem.W.findIn K (.ref jA) "entered"=some none)
  (jI:PySem.W.findIn K (.ref jA) "pipes"=some none)
  (jL:PySem.W.findIn K (.ref jA) "coming"=some none)
  (jT:PySem.W.findIn K (.ref jB) "wide"=some none)
  (kH:PySem.W.findIn K (.ref jD) "wide"=some none)
  (jY:PySem.W.findIn K (.ref jD) "since"=some none)
  (jZ:PySem.W.findIn K (.ref jC) "wide"=some none)
  (jU:PySem.W.findIn K (.ref jC) "other"=some none)
  (kA:PySem.W.findIn K (.ref jC) "turn"=some none)
  (kC:PySem.W.findIn K (.ref jA) "gates"=some none)
  (uS:TopDef K "_law_draw" zm7)
  (uU:TopDef K "_law_part" zv7)
  (uL:TopDef K "_law_spots" zr3)
  (uV:TopDef K "_law_vats" ze5)
  (uM:TopDef K "_law_pipes" zo6)
  (uN:TopDef K "_law_whole" zj6)
  (uD:TopDef K "_law_wholes" zw4)
  (uW:TopMeth K jA "full" "Play.full" zb5)
  (uO:TopMeth K jA "holds" "Play.holds" ze6)
  (uX:TopDef K "_law_full" zc5)
  (qI:TopDef K "refuse_full" zu2)
  (qR:TopMeth K jA "go_on" "Play.go_on" zo3)
  (uP:TopDef K "_law_on_to" zn6)
  (qA:TopMeth K jB "width_at" "Steady.width_at" zd2)
  (qN:TopMeth K jD "width_at" "Late.width_at" zy2)
  (qE:TopMeth K jC "width_at" "Tidal.width_at" zp2)
  (qX:TopMeth K jA "room_in" "Play.room_in" zk3)
  (vA:TopMeth K jA "let" "Play.let" ze9)
  (uE:TopDef K "_law_let_on" zf4)
  (vB:TopMeth K jA "now" "Play.now" zsa)
  (qF:TopMeth K jA "under_way" "Play.under_way" zo1)
  (qY:TopDef K "_law_refused" zq3)
  (qZ:TopDef K "_law_emptied" zs1)
  (qG:TopMeth K jC "__init__" "Tidal.__init__" zm2)
  (qB:TopMeth K jB "__init__" "Steady.__init__" zf2)
  (qO:TopMeth K jD "__init__" "Late.__init__" za3)
  (vD:TopDef K "gate_of" zae)
  (qP:TopMeth K jA "__init__" "Play.__init__" za1)
  (vL:TopDef K "law" zms)
  (kM:XCls K "TooFull" jF)
  (kX:XCls K "YardError" kS)
  (uF:XCls K "NoPipe" kQ)
  (qK:XCls K "NoAmount" jW)
  (qU:XCls K "TooWide" kG)
  (kY:XCls K "TooLittle" jQ)
  (qL:XCls K "NoMoment" jX)
  (uQ:XCls K "NoRow" kU)
  (uG:XCls K "NoName" kR)
  (kZ:XCls K "NoMeasure" jR)
  (kx:KxT K [jF] [kQ,jW,kG,jQ,jX,kU,kR,jR,jF])
  (jS:PySem.W.exmOne K (.ref jF) (.ref kS)=some true)
  (kW:PySem.W.nsIn K mainGlobals "ValueError"=some none)
  (vG:PySem.W.nsIn K mainGlobals "bool"=some none)
  (jP:PySem.W.nsIn K mainGlobals "enumerate"=some none)
  (vE:PySem.W.nsIn K mainGlobals "int"=some none)
  (jJ:PySem.W.nsIn K mainGlobals "isinstance"=some none)
  (kF:PySem.W.nsIn K mainGlobals "len"=some none)
  (kJ:PySem.W.nsIn K mainGlobals "list"=some none)
  (vI:PySem.W.nsIn K mainGlobals "min"=some none)
  (jN:PySem.W.nsIn K mainGlobals "range"=some none)
  (qJ:PySem.W.nsIn K mainGlobals "sorted"=some none) (kt:Kit K)
 :∃ fd:FuncData,(∀ (s:Shared) (v:Value),BindsTo s fd ⟨[v],[]⟩ [("script",v)])/\∀ base:Heap,K.In base->base.Ns mainGlobals mg->FnOk l.prog w K mg base CX0 6 fa fd ["script"] (zh41 K):=by
 have M:Md K mg:=⟨⟨h,X,G⟩⟩
 refine zlb1 M vL hfa zz01 (λ _ _ _ _ _ _ us hl=>by obtain ⟨_,rfl⟩:=ar1 hl;rfl) λ base kb nb=>?_
 have jM:=zei (P:=l.prog) (w:=w) (K:=K) (mg:=mg) (base:=base) M uS (M.not kF)
 have kN:=zcj (P:=l.prog) (w:=w) (K:=K) (mg:=mg) (base:=base) M uU (M.not vI)
 have uJ:=zdg (P:=l.prog) (w:=w) (K:=K) (mg:=mg) (base:=base) M uL (M.not jN) jM
 have uR:=zdi (P:=l.prog) (w:=w) (K:=K) (mg:=mg) (base:=base) M uV (M.not jN) jM kN
 have uK:=zpg (P:=l.prog) (w:=w) (K:=K) (mg:=mg) (base:=base) M uM jM
 have jO:=zjg (P:=l.prog) (w:=w) (K:=K) (mg:=mg) (base:=base) M uN kt (M.not vG) (M.not vE) (M.not jJ)
 have qH:=zjd (P:=l.prog) (w:=w) (K:=K) (mg:=mg) (base:=base) M uD kt (M.not jJ) (M.not kF) (M.not kJ) (M.not jN) jO
 have kE:=zui (P:=l.prog) (w:=w) (K:=K) (mg:=mg) (base:=base) (jD:=jD) (jA:=jA) (jB:=jB) (jC:=jC) jE.cls uW (M.not jP) kB jH
 have uH:=zzf (P:=l.prog) (w:=w) (K:=K) (mg:=mg) (base:=base) (jD:=jD) (jA:=jA) (jB:=jB) (jC:=jC) jE.cls uO (M.not kJ) jH
 have kO:=zli (P:=l.prog) (w:=w) (K:=K) (mg:=mg) (base:=base) (jD:=jD) (jA:=jA) (jB:=jB) (jC:=jC) M uX (M.not kF) (M.not jN) qH jE.cls kE uH
 have uA:=zme (P:=l.prog) (w:=w) (K:=K) (mg:=mg) (base:=base) (jD:=jD) (jA:=jA) (jB:=jB) (jC:=jC) M qI jE.cls kE
 have qT:=zvb (P:=l.prog) (w:=w) (K:=K) (mg:=mg) (base:=base) (jD:=jD) (jA:=jA) (jB:=jB) (jC:=jC) (jF:=jF) M qI jE.cls kE kM
 have uI:=zfg (P:=l.prog) (w:=w) (K:=K) (mg:=mg) (base:=base) (jD:=jD) (jA:=jA) (jB:=jB) (jC:=jC) jE.cls qR (M.not jP) (M.not kF) uA jG jK jI jH jL
 have uB:=zud (P:=l.prog) (w:=w) (K:=K) (mg:=mg) (base:=base) (jD:=jD) (jA:=jA) (jB:=jB) (jC:=jC) (jF:=jF) jE.cls qR (M.not jP) (M.not kF) jG jK jI jH jL qT
 have qQ:=zqg (P:=l.prog) (w:=w) (K:=K) (mg:=mg) (base:=base) (jD:=jD) (jA:=jA) (jB:=jB) (jC:=jC) M uP jO jE.cls uI
 have kT:=zo7 (P:=l.prog) (w:=w) (K:=K) (mg:=mg) (base:=base) kL.cls qA jT
 have qM:=zba (P:=l.prog) (w:=w) (K:=K) (mg:=mg) (base:=base) qC.cls qN kH jY
 have qD:=zr8 (P:=l.prog) (w:=w) (K:=K) (mg:=mg) (base:=base) kI.cls qE jZ jU kA
 have qS:=zwb (P:=l.prog) (w:=w) (K:=K) (mg:=mg) (base:=base) (jD:=jD) (jA:=jA) (jB:=jB) (jC:=jC) jE.cls qX (M.not kF) qC.cls kL.cls kI.cls jG jK jI kC kT qM qD
 have uY:=zuk (P:=l.prog) (w:=w) (K:=K) (mg:=mg) (base:=base) (jD:=jD) (jA:=jA) (jB:=jB) (jC:=jC) jE.cls vA jK jH jL jI jG qS
 have kK:=zgd (P:=l.prog) (w:=w) (K:=K) (mg:=mg) (base:=base) (jD:=jD) (jA:=jA) (jB:=jB) (jC:=jC) M uE jO kO jE.cls uY
 have uZ:=zwk (P:=l.prog) (w:=w) (K:=K) (mg:=mg) (base:=base) (jD:=jD) (jA:=jA) (jB:=jB) (jC:=jC) jE.cls vB jG
 have jV:=zj8 (P:=l.prog) (w:=w) (K:=K) (mg:=mg) (base:=base) (jD:=jD) (jA:=jA) (jB:=jB) (jC:=jC) jE.cls qF (M.not qJ) jL
 have qV:=zrb (P:=l.prog) (w:=w) (K:=K) (mg:=mg) (base:=base) (jD:=jD) (jA:=jA) (jB:=jB) (jC:=jC) M qY kt (M.not kW) (M.not jJ) (M.not jN) (M.not qJ) jO jE.cls uZ jV uB kX uF qK qU kY qL uQ uG kZ kM jS kx
 have qW:=zmb (P:=l.prog) (w:=w) (K:=K) (mg:=mg) (base:=base) (jD:=jD) (jA:=jA) (jB:=jB) (jC:=jC) M qZ (M.not kF) (M.not kJ) (M.not jN) qV kK
 have vH:=zt8 (P:=l.prog) (w:=w) (K:=K) (mg:=mg) (base:=base) M kI qG jZ jU kA
 have vF:=zs7 (P:=l.prog) (w:=w) (K:=K) (mg:=mg) (base:=base) M kL qB jT
 have vJ:=zza (P:=l.prog) (w:=w) (K:=K) (mg:=mg) (base:=base) M qC qO kH jY
 have vC:=zuo (P:=l.prog) (w:=w) (K:=K) (mg:=mg) (base:=base) (jD:=jD) (jB:=jB) (jC:=jC) M vD vH vF vJ
 have vK:=zh9 (P:=l.prog) (w:=w) (K:=K) (mg:=mg) (base:=base) (jD:=jD) (jA:=jA) (jB:=jB) (jC:=jC) M jE qP (M.not kF) (M.not kJ) vC kB jH jI kC jG jK jL
 exact ztw (M.not vE) (M.not kJ) (M.not jN) jM kN uJ uR uK kO qQ kK qW jE.cls jV vK
end K15
local macro_rules|`(tactic| walk_at "top")=>`(tactic| (refine' zjp ?a ?l ?c ?k;(case a=>k_is);(case l=>k_is);(case c=>k_is);(case k=>k_is)))
local macro_rules|`(tactic| walk_at "topn")=>`(tactic| (refine' znl ?a ?l ?c ?k ?t ?d;(case a=>k_is);(case l=>k_is);(case c=>k_is);(case k=>k_is);(case t=>k_is);(case d=>rfl)))
local macro_rules|`(tactic| walk_at "meth")=>`(tactic| (refine' zhm ?a ?i ?l ?c ?k;(case a=>k_is);(case i=>k_is);(case l=>k_is);(case c=>k_is);(case k=>k_is)))
local macro_rules|`(tactic| walk_at "cls")=>`(tactic| (refine' zlr ?a ?pg ?hd ?po ?sa ?mk ?kc;(case a=>k_is);(case pg=>k_is);(case hd=>k_is);(case po=>k_is);(case sa=>k_is);(case mk=>k_is);(case kc=>k_is)))
local macro_rules|`(tactic| walk_at "xcl")=>`(tactic| (refine' ⟨?a,?b⟩;(case a=>k_is);(case b=>first|k_exc|k_is)))
local macro_rules|`(tactic| walk_at "exk")=>`(tactic| (refine' ⟨?a,?b,?c,?d,?e,?f,?g,?h⟩;(case a=>first|k_is|rfl);(case b=>k_is);(case c=>k_is);(case d=>k_is);(case e=>k_is);(case f=>k_is);(case g=>k_is);(case h=>k_is)))
local macro_rules|`(tactic| walk_at "kxt")=>`(tactic| (refine' Eq.trans (b:=some true) ?p ?q;(case p=>kit_is);(case q=>rfl)))
local macro_rules|`(tactic| walk_at "kxf")=>`(tactic| (refine' Eq.trans (b:=some false) ?p ?q;(case p=>kit_is);(case q=>rfl)))
namespace PySem.W.Fast
def tw3058228072937261972:=0
def tw15510145403896949051:=0
def tw17520601856447423014:=0
def tw9926991623208944935:=0
def tw13461727586142074135:=0
def tw18139651768776179862:=0
def tw6949070298799640744:=0
def tw16030857763826124378:=0
def tw10201151404299830288:=0
def tw7985390665058473584:=0
def tw11786918794364793874:=0
def tw18195250127174603139:=0
def tw12990918560617632728:=0
def tw535039509049377889:=0
def tw10700965186772705608:=0
def tw4344724959679847584:=0
def tw5485600421036721347:=0
def tw12447966757433040299:=0
def tw2413871659445363857:=0
def tw2438181694668454301:=0
def tw11501065046438196717:=0
def tw7036978637719606588:=0
def tw14069526891342004917:=0
def tw5681677569865000291:=0
def tw5455284113884699191:=0
def tw2467668212104760336:=0
def tw9767868993997779119:=0
def tw9567163872217322233:=0
def tw7408655533117159862:=0
def tw13451300074094534341:=0
def tw17759405420831912291:=0
def tw7653165019670995379:=0
def tw13456062986555508677:=0
def tw734161421922998368:=0
def tw6126502657220067519:=0
def tw15134353213814465765:=0
def tw17931446687488954408:=0
def tw6955553087161200217:=0
def tw7364293342565749624:=0
def tw6427647920259507119:=0
def tw8465094354032780184:=0
def tw1548662054007521630:=0
def tw14514888713803586985:=0
def tw4884042713190666611:=0
def tw15787865634304477578:=0
def tw16701083198157364327:=0
def tw1046229261714750674:=0
def tw6112464508482425246:=0
def tw18264702157781447402:=0
def tw11026050202934027439:=0
def tw13085439780214601892:=0
def tw8211853323479156368:=0
def tw6699862722490131238:=0
def tw4909590915446051753:=0
def tw1429739989857363454:=0
def tw9499789488466897179:=0
def tw5965907479718299103:=0
def tw17939287735278100809:=0
def tw17099840254809601516:=0
def tw15785657882868169038:=0
def tw10953571112727799416:=0
def tw3344847267844240742:=0
def tw12794165445966769700:=0
def tw3699779836045852818:=0
def tw6949904246168969527:=0
def tw6368373353451748452:=0
def tw4026138038485873938:=0
def tw1621346272427298686:=0
def tw13885507546385348850:=0
def tw10578844477390635514:=0
def tw1608220108712238455:=0
def tw18417006002331675078:=0
def tw13725910157864387256:=0
def tw5502749758577287175:=0
def tw16626339314914606392:=0
def tw17430143076423223254:=0
def tw5818752952762388765:=0
def tw7107960775747544656:=0
def tw2407179900992958008:=0
def tw13832287058682052925:=0
def tw11648162826500772302:=0
def tw15250640698754536301:=0
def tw17942666200093311159:=0
def tw11087876992075144850:=0
def tw3960651343537785128:=0
def tw9771521021128312304:=0
def tw9488470345573509478:=0
def tw18294636521716771721:=0
def tw2206623769820176612:=0
def tw15056678755985521068:=0
def tw16369333567497420253:=0
def tw15566985345344909572:=0
def tw2272684637942491526:=0
def tw15016899344386039377:=0
def tw3635138409172260685:=0
def tw15034928677434540753:=0
def tw10243845302424110908:=0
def tw12598265309737504207:=0
def tw2310295290557569420:=0
def tw14667863984195452248:=0
def tw4310055672095784664:=0
def tw5845237091315466534:=0
def tw10679484274726795272:=0
def tw16745335509407706406:=0
def tw15214591531212212249:=0
def tw10219536270807561933:=0
def tw11010528903847442100:=0
def tw7824498399395814236:=0
def tw16107338917900401460:=0
def tw13694940716842063663:=0
def tw12237339212139356244:=0
def tw5513449961066359486:=0
def tw6797062256414786919:=0
def tw7367114875042449292:=0
def tw902372489923349867:=0
def tw1226421726110142679:=0
def tw3911233595334959741:=0
def tw3536824418320629508:=0
def tw13609569187299217582:=0
def tw16601183884943080008:=0
def tw13652586642157105317:=0
def tw11747744551301507667:=0
def tw14715654480940694481:=0
def tw9937787545511071165:=0
def tw14036805253243533224:=0
def tw3803237007174588282:=0
def tw7695061288805597688:=0
def tw3416884979039907883:=0
def tw6043348268703445944:=0
def tw15138701479611758828:=0
def tw12751979707091334591:=0
def tw5058553340959368193:=0
def tw4417916773393756697:=0
def tw13982409035372381439:=0
def tw10094480403427638644:=0
def tw12848367430273618310:=0
def tw18345196908682397422:=0
def tw16735437339504200396:=0
def tw17150021664018133176:=0
def tw2699596037573961181:=0
def tw6779016471572054973:=0
def tw15214690407874092586:=0
def tw11041809356413950817:=0
def tw127117231357453475:=0
def tw17629867621112928011:=0
def tw9666363243312581690:=0
def tw15840112631133129557:=0
def tw5834536481684631686:=0
def tw4974005889736973462:=0
def tw4576286423090874614:=0
def tw6723707541607915094:=0
def tw4647548248224614470:=0
def tw5269244509494500040:=0
def tw17938586609595125503:=0
def tw17688973101335150696:=0
def tw16509713860314372002:=0
def tw12755925456955519751:=0
def tw13247815162907526167:=0
def tw13570153677084844959:=0
def tw14072609387657265012:=0
def tw16890252868037913762:=0
def tw10402446839877664491:=0
def tw6876316059088479956:=0
def tw9857139727405565180:=0
def tw10719497853679907294:=0
def tw16511974049256883588:=0
def tw11490976047143552274:=0
def tw723302568155975625:=0
def tw9678036717311818567:=0
def tw862085894599318357:=0
def tw14717182547486701970:=0
def tw12529042970859798610:=0
def tw16557677953072961774:=0
def tw2784086674650798798:=0
def tw13855306689740409384:=0
def tw14688862147952435095:=0
def tw7110109404540183754:=0
def tw669040337526248101:=0
def tw1906227352097369149:=0
def tw2465449010674441185:=0
def tw12204227762717499653:=0
def tw9641020994266699142:=0
def tw16809303873307407008:=0
def tw4406354045987174340:=0
def tw9624948126503593129:=0
def tw8725475242803103105:=0
def tw18361790642938724256:=0
def tw17441458472962878030:=0
def tw12093118791193498982:=0
def tw3563858171194420518:=0
def tw2597476738158105793:=0
def tw6424285606365535839:=0
def tw6026763056351093060:=0
def tw5520294957713542819:=0
def tw13377121062335061316:=0
def tw6381470756266427395:=0
def tw17599855518311511496:=0
def tw1684458936376125611:=0
def tw13731654708335516555:=0
def tw6561960899559768949:=0
def tw10345461048870496052:=0
def tw10931657082392235133:=0
def tw976977809220222318:=0
def tw11756431602261025451:=0
def tw7090565482861332199:=0
def tw9096417055509328597:=0
def tw10851416131919406537:=0
def tw3203639329400329303:=0
def tw8499699283444823718:=0
def tw17877871169430286610:=0
def tw12975340319491570531:=0
def tw17573847937992432454:=0
def tw402946332809790589:=0
def tw2217326153514384967:=0
def tw7388187797892929616:=0
def tw8601123441354983296:=0
def tw2220481427057740164:=0
def tw16311997231625579811:=0
def tw12245528568790248056:=0
def tw7739634391520619793:=0
def tw16330267201756303088:=0
def tw1685502972296461400:=0
def tw1876950977900893626:=0
def tw1613810808886778254:=0
def tw14681227422389118773:=0
def tw6369815641401113592:=0
def tw5805093736388973750:=0
def tw1072886981475176753:=0
def tw1585438824277935168:=0
def tw4100877674445706987:=0
def tw11512862066729414990:=0
def tw5326386085254683990:=0
def tw14509253372996648065:=0
def tw2932132081525907881:=0
def tw12805721818708022758:=0
def tw13544442110038740173:=0
def tw12833386070979824376:=0
def tw11072556751860355093:=0
def tw15190614458353701587:=0
def tw13598130683087093518:=0
def tw18144541682225874319:=0
def tw10526260785176156368:=0
def tw12710439419014359232:=0
def tw6330532039096085744:=0
def tw14963900780211294877:=0
def tw17848852995824050843:=0
def tw15988817280881591005:=0
def tw682825323102583549:=0
def tw2998693127703250088:=0
def tw9795406295854592763:=0
def tw5926345526442340111:=0
def tw15098223919310361723:=0
def tw534280163221432030:=0
def tw896682367125094319:=0
def tw2720308533116222039:=0
def tw4619186032095463687:=0
def tw8180038336061080578:=0
def tw12999384691968258037:=0
def tw6161795554823847263:=0
def tw1842166868069516344:=0
def tw10267776554689217819:=0
def tw5776550099812883259:=0
def tw13994856069039753073:=0
def tw5962580652229221982:=0
def tw741372551034690207:=0
def tw13379640351046316731:=0
def tw12982676099387398156:=0
def tw8845887919504339668:=0
def tw12322174492576396981:=0
def tw17735826691492761296:=0
def tw10143226123813775430:=0
def tw7805315486935587628:=0
def tw2878253736498529429:=0
def tw8837212732341764169:=0
def tw11410876151814871954:=0
def tw14406575983443188447:=0
def tw7274614558212786029:=0
def tw5693195078709177974:=0
def tw10162132120530228455:=0
def tw11778532797702594738:=0
def tw16784036753638416327:=0
def tw3359133782248102007:=0
def tw10628809875556122509:=0
def tw1865697715668359471:=0
def tw16429413616291223751:=0
def tw11280160034012164602:=0
def tw5778016880616835848:=0
def tw610221283241501883:=0
def tw3267913037012544641:=0
def tw423854222211374534:=0
def tw6319093407090068924:=0
def tw2655521523765769304:=0
def tw5699948938802526910:=0
def tw7947987202801779673:=0
def tw14688723597362173762:=0
def tw10716871308884762320:=0
def tw16089393517495837729:=0
def tw5996911279671300414:=0
def tw3485226436280443397:=0
def tw3413267475467785523:=0
def tw17100740175941454663:=0
def tw12354053894799742862:=0
def tw1089018342431324721:=0
def tw2741948933962895166:=0
def tw2462700402595106730:=0
def tw1200964426238336320:=0
def tw10817922071562252744:=0
def tw14924126869327639859:=0
def tw5955901780309127288:=0
def tw4131530980135184917:=0
def tw2876456218372824467:=0
def tw17091953813081974674:=0
def tw14370285004343372993:=0
def tw5925712068178055342:=0
def tw1665486830537713059:=0
def tw12137836257129479599:=0
def tw60944830618079068:=0
def tw10884627708651363437:=0
def tw8198418915472973341:=0
def tw8459689164288106825:=0
def tw8731677560995472995:=0
def tw1540879767441875197:=0
end PySem.W.Fast
open PySem PySem.W PyProof.Rows L3 L4
set_option maxRecDepth 100000 in
set_option maxHeartbeats 0 in
theorem PySem.Challenge.cw_vatyard_k15_too_full_holds : PySem.Challenge.rw_vatyard_k15_too_full.Holds := by
  w_on; o_law; k_head; (case hw => w_witness2)
  k_fill
  refine L3.law_walk (k := 6) (l := PySem.Challenge.rw_vatyard_k15_too_full) ⟨rfl, by decide, rfl, by decide⟩ rfl rfl (fun w h Yv => PySem.W.kIn_of Yv) ?F
  case F =>
    intro w mg fa h KX G hmg
    refine' K15.all_mk KX G hmg ?jE ?kL ?qC ?kI ?kB ?jH ?jG ?jK ?jI ?jL ?jT ?kH ?jY ?jZ ?jU ?kA ?kC ?uS ?uU ?uL ?uV ?uM ?uN ?uD ?uW ?uO ?uX ?qI ?qR ?uP ?qA ?qN ?qE ?qX ?vA ?uE ?vB ?qF ?qY ?qZ ?qG ?qB ?qO ?vD ?qP ?vL ?kM ?kX ?uF ?qK ?qU ?kY ?qL ?uQ ?uG ?kZ ?kx ?jS ?kW ?vG ?jP ?vE ?jJ ?kF ?kJ ?vI ?jN ?qJ ?kt
    (case jE => walk_at "cls")
    (case kL => walk_at "cls")
    (case qC => walk_at "cls")
    (case kI => walk_at "cls")
    (case kB => k_is)
    (case jH => k_is)
    (case jG => k_is)
    (case jK => k_is)
    (case jI => k_is)
    (case jL => k_is)
    (case jT => k_is)
    (case kH => k_is)
    (case jY => k_is)
    (case jZ => k_is)
    (case jU => k_is)
    (case kA => k_is)
    (case kC => k_is)
    (case uS => walk_at "top")
    (case uU => walk_at "top")
    (case uL => walk_at "top")
    (case uV => walk_at "top")
    (case uM => walk_at "top")
    (case uN => walk_at "top")
    (case uD => walk_at "top")
    (case uW => walk_at "meth")
    (case uO => walk_at "meth")
    (case uX => walk_at "top")
    (case qI => walk_at "top")
    (case qR => walk_at "meth")
    (case uP => walk_at "top")
    (case qA => walk_at "meth")
    (case qN => walk_at "meth")
    (case qE => walk_at "meth")
    (case qX => walk_at "meth")
    (case vA => walk_at "meth")
    (case uE => walk_at "top")
    (case vB => walk_at "meth")
    (case qF => walk_at "meth")
    (case qY => walk_at "top")
    (case qZ => walk_at "top")
    (case qG => walk_at "meth")
    (case qB => walk_at "meth")
    (case qO => walk_at "meth")
    (case vD => walk_at "top")
    (case qP => walk_at "meth")
    (case vL => walk_at "top")
    (case kM => walk_at "xcl")
    (case kX => walk_at "xcl")
    (case uF => walk_at "xcl")
    (case qK => walk_at "xcl")
    (case qU => walk_at "xcl")
    (case kY => walk_at "xcl")
    (case qL => walk_at "xcl")
    (case uQ => walk_at "xcl")
    (case uG => walk_at "xcl")
    (case kZ => walk_at "xcl")
    (case jS => first | kts_exm | k_is)
    (case kx => exact ⟨(zu3 (by walk_at "exk") zyq), (zu3 (zu3 (by walk_at "kxf") (zu3 (by walk_at "kxf") (zu3 (by walk_at "kxf") (zu3 (by walk_at "kxf") (zu3 (by walk_at "kxf") (zu3 (by walk_at "kxf") (zu3 (by walk_at "kxf") (zu3 (by walk_at "kxf") (zu3 (by walk_at "kxt") zyq))))))))) zyq), (zu3 (by kit_is) zyq), by decide⟩)
    (case kW => k_is)
    (case vG => k_is)
    (case jP => k_is)
    (case vE => k_is)
    (case jJ => k_is)
    (case kF => k_is)
    (case kJ => k_is)
    (case vI => k_is)
    (case jN => k_is)
    (case qJ => k_is)
    (case kt => exact ⟨fun t ht T hT => by simp only [List.mem_cons, List.not_mem_nil, or_false] at ht hT; rcases ht with rfl | rfl | rfl | rfl | rfl | rfl <;> rcases hT with rfl | rfl | rfl | rfl | rfl <;> rfl⟩)
