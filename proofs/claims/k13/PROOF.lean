import PyProof.Rows.All
import Wide.All
import OpenK.AllK
import Wide.FinOn
import Lean
import PyProof.EqAt
import PyProof.EqKinds
import PyProof.TupleCall
import PyProof.StrLawsIn
import PyProof.StrLawsJoin
import PyProof.ZipIter
import PyProof.EnumFor
import PyProof.EnumMake
import PyProof.EnumStmt
import PyProof.DictItems
import KE.KPairComp
import KE.KSortTup
import PyProof.DictWalks
import PyProof.Rows.SortWalk
import PyProof.ReprRoads
import PyProof.ReprLen
import PyProof.NsDelKeeps
import PyProof.RulesAs
import PySem.Challenge.RW_vatyard_k13_played_refused
set_option Elab.async false
set_option genSizeOf false
set_option linter.all false
set_option maxRecDepth 100000
set_option maxHeartbeats 4000000
abbrev Fg:=PySem.W.Frag
namespace L2
open PySem PySem.Spec PyProof.Rows
abbrev Key:=Sum Int Str
def zzv:Key->Value->Bool
|.inl k,v=>Value.isInt k v
|.inr x,v=>Value.isStrOf x v
def keyH (w:World):Key->Int
|.inl k=>hashInt k
|.inr x=>hashStr w x
theorem zv1:∀ {k:Key} {v:Value},zzv k v=true->(∃ i t,k=Sum.inl i/\v=Value.int i t) \/ (∃ x t,k=Sum.inr x/\v=Value.str x t)
|.inl i,v,h=>by
  obtain ⟨t,e⟩:=Value.isInt_shape (k:=i) (v:=v) h
  exact .inl ⟨i,t,rfl,e⟩
|.inr x,v,h=>by
  obtain ⟨t,e⟩:=Value.isStrOf_shape (x:=x) (v:=v) h
  exact .inr ⟨x,t,rfl,e⟩
theorem zxo (i:Int) (t:Tok):zzv (.inl i) (.int i t)=true:=by simp [zzv,Value.isInt]
theorem zuo (x:Str) (t:Tok):zzv (.inr x) (.str x t)=true:=by simp [zzv,Value.isStrOf]
theorem za41 (a b:Int):decide ((Sum.inl a:Key)=Sum.inl b)=(a == b):=by
 by_cases e:a=b
 ·subst e;simp
 ·have h:¬ (Sum.inl a:Key)=Sum.inl b:=λ q=>e (Sum.inl.inj q)
  rw [decide_eq_false h]
  exact (beq_eq_false_iff_ne.mpr e).symm
theorem zp31 (a b:Str):decide ((Sum.inr a:Key)=Sum.inr b)=decide (a=b):=by
 by_cases e:a=b
 ·subst e;simp
 ·have h:¬ (Sum.inr a:Key)=Sum.inr b:=λ q=>e (Sum.inr.inj q)
  rw [decide_eq_false h,decide_eq_false e]
theorem ze51 (a:Int) (b:Str):decide ((Sum.inl a:Key)=Sum.inr b)=false:=decide_eq_false (λ q=>nomatch q)
theorem zu61 (a:Str) (b:Int):decide ((Sum.inr a:Key)=Sum.inl b)=false:=decide_eq_false (λ q=>nomatch q)
def za3 (prog:Program) (w:World):PySem.KeyKind prog w Key where
 is:=zzv
 hash:=keyH w
 inj:=λ v a b ha hb=>by
  rcases zv1 ha with ⟨i,t,rfl,rfl⟩|⟨x,t,rfl,rfl⟩
  ·rcases zv1 hb with ⟨j,u,rfl,e⟩|⟨y,u,rfl,e⟩
   ·injection e with e1 _;rw [e1]
   ·exact nomatch e
  ·rcases zv1 hb with ⟨j,u,rfl,e⟩|⟨y,u,rfl,e⟩
   ·exact nomatch e
   ·injection e with e1 _;rw [e1]
 byValue:=λ k v h=>by
  rcases zv1 h with ⟨i,t,rfl,rfl⟩|⟨x,t,rfl,rfl⟩ <;> rfl
 pyHash:=λ hv h=>by
  rcases zv1 hv with ⟨i,t,rfl,rfl⟩|⟨x,t,rfl,rfl⟩
  ·exact wpAny_pyHash_int h
  ·exact wpAny_pyHash_str h
 eqBool:=λ hu hv h=>by
  rcases zv1 hu with ⟨i,t,rfl,rfl⟩|⟨x,t,rfl,rfl⟩
  ·rcases zv1 hv with ⟨j,u,rfl,rfl⟩|⟨y,u,rfl,rfl⟩
   ·rw [za41] at h;exact wpAny_eqBool_int h
   ·rw [ze51] at h;exact SeqAt.EqAt.int_str i t y u _ _ _ _ h
  ·rcases zv1 hv with ⟨j,u,rfl,rfl⟩|⟨y,u,rfl,rfl⟩
   ·rw [zu61] at h;exact SeqAt.EqAt.str_int x t j u _ _ _ _ h
   ·rw [zp31] at h;exact wpAny_eqBool_str h
 «strs»:=λ k x t v h=>by
  rcases zv1 h with ⟨i,u,rfl,e⟩|⟨y,u,rfl,e⟩
  ·exact nomatch e
  ·injection e with e1 _
   subst e1
   cases v <;> rfl
theorem zil (prog:Program) (w:World) (i:Int) (t:Tok):(za3 prog w).is (.inl i) (.int i t)=true:=zxo i t
theorem zxk (prog:Program) (w:World) (x:Str) (t:Tok):(za3 prog w).is (.inr x) (.str x t)=true:=zuo x t
inductive V where
|non|bl (b:Bool)|int (i:Int)|str (x:Str)|byt (b:Array UInt8)|flt (b:UInt64)|ref (a:Addr)|ty (n:String)
 deriving DecidableEq
def RelV:V->Value->Prop
|.non,u=>u=Value.none
|.bl b,u=>u=Value.bool b
|.int i,u=>∃ t,u=Value.int i t
|.str x,u=>∃ t,u=Value.str x t
|.byt b,u=>∃ t,u=Value.bytes b t
|.flt b,u=>∃ t,u=Value.float b t
|.ref a,u=>u=Value.ref a
|.ty n,u=>u=Value.type n
abbrev Vals:List V->List Value->Prop:=Paired RelV
theorem Vals.length {xs:List V} {us:List Value} (r:Vals xs us):xs.length=us.length:=Paired.length r
theorem Vals.get:∀ {xs:List V} {us:List Value} {i:Nat} {x:V},Vals xs us->xs[i]?=some x->∃ u,us[i]?=some u/\RelV x u
|_,_,_,_,.nil,e=>by simp at e
|_,_,0,_,.cons r _,e=>by simp at e;subst e;exact ⟨_,rfl,r⟩
|_,_,i+1,x,.cons _ t,e=>by
  obtain ⟨u,h1,h2⟩:=Vals.get (i:=i) (x:=x) t (by simpa using e)
  exact ⟨u,by simpa using h1,h2⟩
theorem Vals.set {x:V} {u:Value} (r:RelV x u):∀ {xs:List V} {us:List Value} (i:Nat),Vals xs us->Vals (xs.set i x) (us.set i u)
|_,_,_,.nil=>.nil
|_,_,0,.cons _ t=>.cons r t
|_,_,i+1,.cons q t=>.cons q (Vals.set r i t)
theorem Vals.append:∀ {xs ys:List V} {us ws:List Value},Vals xs us->Vals ys ws->Vals (xs++ys) (us++ws)
|_,_,_,_,.nil,s=>s
|_,_,_,_,.cons r t,s=>.cons r (Vals.append t s)
theorem Vals.take:∀ {xs:List V} {us:List Value} (n:Nat),Vals xs us->Vals (xs.take n) (us.take n)
|_,_,0,_=>.nil
|_,_,_+1,.nil=>.nil
|_,_,n+1,.cons r t=>.cons r (Vals.take n t)
theorem Vals.drop:∀ {xs:List V} {us:List Value} (n:Nat),Vals xs us->Vals (xs.drop n) (us.drop n)
|_,_,0,r=>r
|_,_,_+1,.nil=>.nil
|_,_,n+1,.cons _ t=>Vals.drop n t
theorem Vals.none_of:∀ {xs:List V} {us:List Value} {i:Nat},Vals xs us->xs[i]?=none->us[i]?=none:=λ {xs us i} r e=>by
 have h1:=r.length
 have h2:xs.length<=i:=List.getElem?_eq_none_iff.mp e
 exact List.getElem?_eq_none_iff.mpr (by lia)
def RelO:Option V->Option Value->Prop
|some v,some u=>RelV v u
|none,none=>True
|_,_=>False
def KV {κ:Type}:List (κ×V)->List (κ×Value)->Prop:=Paired λ (p:κ×V) (q:κ×Value)=>p.1=q.1/\RelV p.2 q.2
def kV:Key->V
|.inl i=>.int i
|.inr x=>.str x
inductive HO where
 /-- a list -/
|lst (xs:List V)
 /-- a tuple (never changes) -/
|tup (xs:List V)
 /-- a dict whose keys are ints and texts;one whose keys are tuples of ints and texts (the empty one is both) -/
|dK (kvs:List (Key×V))|dT (kvs:List (List Key×V))
 /-- a set of ints: its members,its size -/
|set (S:Int->Bool) (n:Nat)
 /-- an instance of the class at C,its dict at dx,its attributes -/
|ins (C dx:Addr) (fs:List (Str×V))
 /-- the dict of the instance at x -/
|own (x:Addr)
 /-- the dict of an exception -/
|xd (fs:List (Str×V))
 /-- a bound method,f of x -/
|met (f x:Addr)
 /-- a range object lo,lo+1,.. below hi -/
|rng (lo hi:Int)
 /-- a thing that is known to the object (the script;a dict while a loop walks it): read,never written while it is so -/
|frz (o:Obj) (u:HO)
 /-- a code object's table -/
|tbl (ps:Array Value)
 /-- any other thing,by what is true of its one object (a def of one's own: SetO a S n:=HO.ext λ h=>..) -/
|ext (φ:Heap->Prop)
abbrev Hp:=Addr->Option HO
def upd (H:Hp) (a:Addr) (o:HO):Hp:=λ b=>if b=a then some o else H b
theorem zp0 {H:Hp} {a:Addr} {o:HO}:upd H a o a=some o:=by unfold upd;rw [if_pos rfl]
theorem zw0 {H:Hp} {a b:Addr} {o:HO} (h:b≠a):upd H a o b=H b:=by unfold upd;rw [if_neg h]
theorem zl61 {H:Hp} {a b:Addr} {o u:HO} (h:H a=some o) (h':H b=some u) (d:o≠u):a≠b:=by
 intro e;subst e;rw [h] at h';exact d (Option.some.inj h')
theorem zz3 {H:Hp} {a b:Addr} {o:HO} (h:H a=some o) (h':H b=none):a≠b:=by
 intro e;subst e;rw [h] at h';cases h'
section
variable (P:Program) (w:World)
def zm8 (H:Hp) (h:Heap) (a:Addr):HO->Prop
|.lst xs=>xs.length<=sizeLine/\∃ (its:List Value) (n:Nat),Vals xs its/\h.get? a=some { cls:=.type "list",data:=.seq its.toArray n }
|.tup xs=>xs.length<=sizeLine/\∃ its:List Value,Vals xs its/\IsTup h a its.toArray
|.dK kvs=>kvs.length<=sizeLine/\(a == sysModules)=false/\∃ vs,KV kvs vs/\h.DictOf (za3 P w) a vs
|.dT kvs=>kvs.length<=sizeLine/\(a == sysModules)=false/\∃ xs:List (List Key×Addr×Value),
   Paired (λ (p:List Key×V) (q:List Key×Addr×Value)=>p.1=q.1/\H q.2.1=some (.tup (p.1.map kV))/\RelV p.2 q.2.2) kvs xs /\
   ∃ o es ep,h.get? a=some o/\o.ExactDict/\o.data=.dict es ep/\es.toList=xs.map (entryOfKey (tupleKind (za3 P w)))/\(xs.map (·.1)).Nodup
|.set S n=>h.SetOf (intKind P w) a S n
|.ins C dx fs=>H dx=some (.own a)/\fs.length<=1000/\dx≠a/\h.get? a=some (PySem.W.instObj C dx) /\
   ∃ mA,h.Ns1 dx mA/\(∀ f,RelO (fs.lookup f) (mA f))/\PySem.Within mA (fs.map (·.1))
|.own _=>∃ o,h.get? a=some o
|.xd fs=>∃ mA,h.Ns1 a mA/\∀ f,RelO (fs.lookup f) (mA f)
|.rng lo hi=>∃ t u v,h.get? a=some { cls:=.type "range",data:=.fields #[.int lo t,.int hi u,.int 1 v] }
|.frz o u=>h.get? a=some o/\zm8 H h a u
|.tbl ps=>h.get? a=some { cls:=.none,data:=.fields ps }
|.met f x=>h.get? a=some (PySem.W.methodObj (.ref f) (.ref x))
|.ext φ=>φ h/\(∃ o,h.get? a=some o)/\∀ h1 h2:Heap,φ h1->(∀ o,h1.get? a=some o->h2.get? a=some o)->φ h2
def HOk (H:Hp) (h:Heap):Prop:=∀ a o,H a=some o->zm8 P w H h a o
end
section
variable {P:Program} {w:World} {H H':Hp} {h h':Heap} {a:Addr} {o:HO}
theorem zm8.lt (x:zm8 P w H h a o):a < h.objs.size:=by
 cases o with
|lst xs=>obtain ⟨_,_,_,_,e⟩:=x;exact Heap.lt_size e
|tup xs=>obtain ⟨_,_,_,p⟩:=x;exact p.lt
|dK kvs=>obtain ⟨_,_,_,_,o,_,_,e,_⟩:=x;exact Heap.lt_size e
|dT kvs=>obtain ⟨_,_,_,_,o,_,_,e,_⟩:=x;exact Heap.lt_size e
|set S n=>obtain ⟨o,_,_,_,e,_⟩:=x;exact Heap.lt_size e
|ins C dx fs=>obtain ⟨_,_,_,e,_⟩:=x;exact Heap.lt_size e
|own y=>obtain ⟨_,e⟩:=x;exact Heap.lt_size e
|xd fs=>obtain ⟨_,⟨_,_,_,e,_⟩,_⟩:=x;exact Heap.lt_size e
|rng lo hi=>obtain ⟨_,_,_,e⟩:=x;exact Heap.lt_size e
|frz ob u=>obtain ⟨e,_⟩:=x;exact Heap.lt_size e
|tbl ps=>exact Heap.lt_size (show h.get? a=some _ from x)
|met f y=>exact Heap.lt_size (show h.get? a=some _ from x)
|ext φ=>obtain ⟨_,⟨_,e⟩,_⟩:=x;exact Heap.lt_size e
theorem Paired.mapP {α β:Type} {F G:α->β->Prop}:∀ {l₁:List α} {l₂:List β},Paired F l₁ l₂->(∀ a b,F a b->G a b)->Paired G l₁ l₂
|_,_,.nil,_=>.nil
|_,_,.cons r t,f=>.cons (f _ _ r) (Paired.mapP t f)
theorem zm8.stay (x:zm8 P w H h a o) (k:∀ b u,(b=a \/ H b=some (.own a))->h.get? b=some u->h'.get? b=some u)
  (ho:∀ b,H b=some (.own a)->H' b=some (.own a)) (ht:∀ b xs,H b=some (.tup xs)->H' b=some (.tup xs)):zm8 P w H' h' a o:=by
 induction o with
|lst xs=>obtain ⟨z,its,n,r,e⟩:=x;exact ⟨z,its,n,r,k _ _ (.inl rfl) e⟩
|tup xs=>obtain ⟨z,its,r,ob,e,c⟩:=x;exact ⟨z,its,r,ob,k _ _ (.inl rfl) e,c⟩
|dK kvs=>obtain ⟨z,y,vs,r,ob,es,ep,e,c⟩:=x;exact ⟨z,y,vs,r,ob,es,ep,k _ _ (.inl rfl) e,c⟩
|dT kvs =>
  obtain ⟨z,y,xs,r,ob,es,ep,e,c⟩:=x
  exact ⟨z,y,xs,Paired.mapP r λ p q z=>⟨z.1,ht _ _ z.2.1,z.2.2⟩,ob,es,ep,k _ _ (.inl rfl) e,c⟩
|set S n=>obtain ⟨ob,es,ep,t,e,c⟩:=x;exact ⟨ob,es,ep,t,k _ _ (.inl rfl) e,c⟩
|ins C dx fs =>
  obtain ⟨d,z,ne,e,mA,⟨od,es,ep,e2,c⟩,r⟩:=x
  exact ⟨ho _ d,z,ne,k _ _ (.inl rfl) e,mA,⟨od,es,ep,k _ _ (.inr d) e2,c⟩,r⟩
|own y=>obtain ⟨ob,e⟩:=x;exact ⟨ob,k _ _ (.inl rfl) e⟩
|xd fs=>obtain ⟨mA,⟨od,es,ep,e,c⟩,r⟩:=x;exact ⟨mA,⟨od,es,ep,k _ _ (.inl rfl) e,c⟩,r⟩
|rng lo hi=>obtain ⟨t,u,v,e⟩:=x;exact ⟨t,u,v,k _ _ (.inl rfl) e⟩
|frz ob u ih=>obtain ⟨e,q⟩:=x;exact ⟨k _ _ (.inl rfl) e,ih q⟩
|tbl ps =>
  have e:h.get? a=some { cls:=.none,data:=.fields ps }:=x
  show h'.get? a=some { cls:=.none,data:=.fields ps }
  exact k a _ (.inl rfl) e
|met f y =>
  have e:h.get? a=some (PySem.W.methodObj (.ref f) (.ref y)):=x
  show h'.get? a=some (PySem.W.methodObj (.ref f) (.ref y))
  exact k a _ (.inl rfl) e
|ext φ=>obtain ⟨p,⟨o,e⟩,st⟩:=x;exact ⟨st _ _ p λ o q=>k _ _ (.inl rfl) q,⟨o,k _ _ (.inl rfl) e⟩,st⟩
theorem HOk.lt (x:HOk P w H h) (e:H a=some o):a < h.objs.size:=(x a o e).lt
theorem HOk.fresh (x:HOk P w H h) (e:h.objs.size<=a):H a=none:=by
 cases q:H a with
|none=>rfl
|some u=>exact absurd (Nat.lt_of_lt_of_le (x.lt q) e) (Nat.lt_irrefl _)
theorem HOk.kept (x:HOk P w H h) (k:∀ b u,h.get? b=some u->h'.get? b=some u):HOk P w H h':=λ a o e =>
 (x a o e).stay (λ b u _ q=>k b u q) (λ _ q=>q) λ _ _ q=>q
theorem HOk.laid (x:HOk P w H h) (k:∀ b u,h.get? b=some u->h'.get? b=some u) (hp:h.objs.size<=a) (new:zm8 P w (upd H a o) h' a o):HOk P w (upd H a o) h':=λ b u e=>by
 have hn:=x.fresh hp
 by_cases hb:b=a
 ·subst hb;rw [zp0] at e;cases e;exact new
 ·rw [zw0 hb] at e
  exact (x b u e).stay (λ c v _ q=>k c v q) (λ c q=>by rw [zw0 (zz3 q hn)];exact q) λ c xs q=>by rw [zw0 (zz3 q hn)];exact q
end
def Rd (H:Hp) (a:Addr) (u:HO):Prop:=H a=some u \/ ∃ o,H a=some (.frz o u)
theorem Rd.ok {P:Program} {w:World} {H:Hp} {h:Heap} {a:Addr} {u:HO} (r:Rd H a u) (x:HOk P w H h):zm8 P w H h a u:=by
 rcases r with r|⟨o,r⟩
 ·exact x a u r
 ·obtain ⟨_,q⟩:=x a _ r
  exact q
def Mut:Option HO->Prop
|some (.lst _)=>True
|some (.dK _)=>True
|some (.dT _)=>True
|some (.set _ _)=>True
|some (.ins _ _ _)=>True
|some (.ext _)=>True
|_=>False
section
variable {P:Program} {w:World} {H:Hp} {h h':Heap} {x e:Addr} {o':HO}
theorem HOk.write (ok:HOk P w H h) (mu:Mut (H x)) (he:e=x \/ H e=some (.own x)) (k:∀ b u,b≠e->h.get? b=some u->h'.get? b=some u) (heo:∃ u,h'.get? e=some u)
  (new:zm8 P w (upd H x o') h' x o'):HOk P w (upd H x o') h':=λ b u q=>by
 have nown:∀ c y,H c=some (.own y)->c≠x:=λ c y r z=>by subst z;rw [r] at mu;exact mu
 have ntup:∀ c xs,H c=some (.tup xs)->c≠x:=λ c xs r z=>by subst z;rw [r] at mu;exact mu
 by_cases hb:b=x
 ·subst hb;rw [zp0] at q;cases q;exact new
 ·rw [zw0 hb] at q
  by_cases hbe:b=e
  ·have q':H b=some (.own x):=by
    rcases he with z|z
    ·exact absurd (hbe.trans z) hb
    ·rw [hbe];exact z
   rw [q] at q';cases q'
   obtain ⟨v,hv⟩:=heo
   exact ⟨v,by rw [hbe];exact hv⟩
  ·refine (ok b u q).stay (λ c v hc r=>k c v ?_ r) (λ c r=>by rw [zw0 (nown c b r)];exact r) λ c xs r=>by rw [zw0 (ntup c xs r)];exact r
   rcases hc with rfl|hc
   ·exact hbe
   ·rintro rfl
    rcases he with z|z
    ·exact nown c b hc z
    ·rw [hc] at z;cases z;exact hb rfl
end
structure Un (fs ex:List Addr) (H H':Hp) (h h':Heap):Prop where
 keep:∀ b o,h.get? b=some o->H b=none->b ∉ fs->b ∉ ex->h'.get? b=some o
 slot:∀ b o,h.get? b=some o->H b=none->b∈fs->b ∉ ex->∃ sl,h'.get? b=some { o with slots:=sl }
 free:∀ b o,h.get? b=some o->H b=none->b ∉ ex->H' b=none
 there:∀ b o,h.get? b=some o->b ∉ ex->∃ o',h'.get? b=some o'
 tups:∀ b xs,H b=some (.tup xs)->H' b=some (.tup xs)
 frzs:∀ b o u,H b=some (.frz o u)->H' b=some (.frz o u)
 tbls:∀ b ps,H b=some (.tbl ps)->∃ more,H' b=some (.tbl (ps++more))
section
variable {fs fs' ex ex':List Addr} {H H1 H2:Hp} {h h1 h2 h':Heap} {a x e:Addr} {o:HO}
theorem Un.any (u:Un fs ex H H1 h h1) {b:Addr} {ob:Obj} (q:h.get? b=some ob) (n:H b=none) (hx:b ∉ ex):∃ sl,h1.get? b=some { ob with slots:=sl }:=by
 by_cases hb:b∈fs
 ·exact u.slot b ob q n hb hx
 ·exact ⟨ob.slots,u.keep b ob q n hb hx⟩
theorem Un.trans (a:Un fs ex H H1 h h1) (b:Un fs ex H1 H2 h1 h2):Un fs ex H H2 h h2 where
 keep:=λ c ob q n hc hx=>b.keep c ob (a.keep c ob q n hc hx) (a.free c ob q n hx) hc hx
 slot:=λ c ob q n hc hx=>by
  obtain ⟨sl,e1⟩:=a.slot c ob q n hc hx
  obtain ⟨sl',e2⟩:=b.slot c _ e1 (a.free c ob q n hx) hc hx
  exact ⟨sl',e2⟩
 free:=λ c ob q n hx=>by
  obtain ⟨o',e1⟩:=a.there c ob q hx
  exact b.free c o' e1 (a.free c ob q n hx) hx
 there:=λ c ob q hx=>by
  obtain ⟨o',e1⟩:=a.there c ob q hx
  exact b.there c o' e1 hx
 tups:=λ c xs q=>b.tups c xs (a.tups c xs q)
 frzs:=λ c ob xs q=>b.frzs c ob xs (a.frzs c ob xs q)
 tbls:=λ c ps q=>by
  obtain ⟨m1,e1⟩:=a.tbls c ps q
  obtain ⟨m2,e2⟩:=b.tbls c _ e1
  exact ⟨m1++m2,by rw [e2,Array.append_assoc]⟩
theorem Un.kept (k:∀ b u,h.get? b=some u->h'.get? b=some u):Un fs ex H H h h' :=
 ⟨λ b ob q _ _ _=>k b ob q,λ b ob q _ _ _=>⟨ob.slots,k b ob q⟩,λ _ _ _ n _=>n,λ b ob q _=>⟨ob,k b ob q⟩,λ _ _ q=>q,λ _ _ _ q=>q,λ _ ps q=>⟨#[],by rw [q];simp⟩⟩
theorem Un.refl:Un fs ex H H h h:=Un.kept λ _ _ q=>q
theorem Un.laid (k:∀ b u,h.get? b=some u->h'.get? b=some u) (hp:h.objs.size<=a) (hn:H a=none):Un fs ex H (upd H a o) h h' where
 keep:=λ b u q _ _ _=>k b u q
 slot:=λ b u q _ _ _=>⟨u.slots,k b u q⟩
 free:=λ b u q n _=>by rw [zw0 (Nat.ne_of_lt (Nat.lt_of_lt_of_le (Heap.lt_size q) hp))];exact n
 there:=λ b u q _=>⟨u,k b u q⟩
 tups:=λ b xs q=>by rw [zw0 (zz3 q hn)];exact q
 frzs:=λ b u xs q=>by rw [zw0 (zz3 q hn)];exact q
 tbls:=λ b ps q=>⟨#[],by rw [zw0 (zz3 q hn),q];simp⟩
theorem Un.write (mu:Mut (H x)) (he:e=x \/ H e=some (.own x)) (k:∀ b u,b≠e->h.get? b=some u->h'.get? b=some u) (heo:∃ u,h'.get? e=some u):Un fs ex H (upd H x o) h h':=by
 have hx:∀ b,H b=none->b≠x:=λ b n z=>by subst z;rw [n] at mu;exact mu
 have hb:∀ b,H b=none->b≠e:=λ b n z=>by
  subst z
  rcases he with r|r
  ·exact hx b n r
  ·rw [n] at r;cases r
 have hm:∀ b u,H b=some u->¬ Mut (some u)->b≠x:=λ b u q nm z=>by subst z;rw [q] at mu;exact nm mu
 refine ⟨λ b u q n _ _=>k b u (hb b n) q,λ b u q n _ _=>⟨u.slots,k b u (hb b n) q⟩,λ b u q n _=>by rw [zw0 (hx b n)];exact n,λ b u q _=>?_,
  λ b xs q=>by rw [zw0 (hm b _ q λ z=>z)];exact q,λ b u xs q=>by rw [zw0 (hm b _ q λ z=>z)];exact q,λ b ps q=>⟨#[],by rw [zw0 (hm b _ q λ z=>z),q];simp⟩⟩
 by_cases hbe:b=e
 ·subst hbe;exact heo
 ·exact ⟨u,k b u hbe q⟩
theorem Un.mono (u:Un fs ex H H1 h h1) (hs:∀ b∈fs,b∈fs') (hx:∀ b∈ex,b∈ex'):Un fs' ex' H H1 h h1 :=
 ⟨λ b ob q n hb he=>u.keep b ob q n (λ z=>hb (hs b z)) λ z=>he (hx b z),λ _ _ q n _ he=>u.any q n λ z=>he (hx _ z),λ b ob q n he=>u.free b ob q n λ z=>he (hx b z),λ b ob q he=>u.there b ob q λ z=>he (hx b z),u.tups,u.frzs,u.tbls⟩
end
def trk (h:Heap) (H:Hp):List Addr:=(List.range h.objs.size).filter λ a=>(H a).isSome
def hidT (h:Heap) (H:Hp):Heap:=PySem.W.hideAll h (trk h H)
theorem zbp (h:Heap) (H:Hp):(hidT h H).objs.size=h.objs.size:=PySem.W.hideAll_size _ _
theorem zqv {h:Heap} {H:Hp} {b:Addr} {o:Obj} (e:h.get? b=some o) (n:H b=none):(hidT h H).get? b=some o :=
 PySem.W.hideAll_get _ e λ hm=>by
  have q:(H b).isSome=true:=(List.mem_filter.mp hm).2
  rw [n] at q;simp at q
theorem zn11 {h:Heap} {H:Hp} {b:Addr} {o:Obj} (e:(hidT h H).get? b=some o):h.get? b=some o/\H b=none:=by
 have e':h.get? b=some o:=PySem.W.of_hideAll (trk h H) e
 refine ⟨e',?_⟩
 cases q:H b with
|none=>rfl
|some x =>
  have hm:b∈trk h H:=List.mem_filter.mpr ⟨List.mem_range.mpr (Heap.lt_size e'),by simp [q]⟩
  have z:(hidT h H).get? b=none:=PySem.W.hideAll_none (trk h H) hm
  rw [z] at e;cases e
def zb11 (g h:Heap) (L:Addr):List (Addr×Obj):=(List.range h.objs.size).filterMap λ a=>if a=L \/ (g.get? a).isSome=true then none else (h.get? a).map λ o=>(a,o)
def rest (g h:Heap) (L d:Addr):List (Addr×Obj):=(zb11 g h L).filter λ p=>decide (p.1≠d)
structure Mod (K:Fg) (mg:Str->Option Value) (base:Heap):Prop where
 kin:K.In base
 glob:base.Ns mainGlobals mg
 blt:∃ mb,base.Ns builtinsNs mb/\∀ x:Str,x ≠ "__name__"->mb x=bootBuiltins x
 nolimit:base.NoLimit
structure Cx where
 prog:Program
 w:World
 K:Fg
 mg:Str->Option Value
 base:Heap
 A:Around
 N:List Str
 s₀:Shared
 H₀:Hp
 env:Env
 outer:List Env
 stack:List Env
 ex:List Addr
 fn:Str->Bool
 calm:Bool
 pn:List (Addr×Obj)
 xe:Value->Shared->Prop
def frs (l:List Env):List Addr:=l.filterMap (·.frame)
abbrev Cx.fs (X:Cx):List Addr:=frs X.outer
def Vis (sc:Scope) (x:Str):Prop:=sc.names.lookup x=some .local \/ sc.names.lookup x=some .cell \/ sc.names.lookup x=some .free
def Loc (sc:Scope) (x:Str):Prop:=sc.names.lookup x=some .local \/ sc.names.lookup x=some .cell
def Look (env:Env) (h:Heap) (m:Str->Option Value) (x:Str) (u:Value):Prop :=
 (env.kindOf x=some .local/\m x=some u) \/ ((env.kindOf x=some .cell \/ env.kindOf x=some .free)/\∃ c,env.cells.lookup x=some c/\h.IsCell c (some u))
structure Cx.Ok (X:Cx):Prop where
 mod:Mod X.K X.mg X.base
 kind:X.env.scope.kind=.function
 glob:X.env.globals=mainGlobals
 blt:X.env.builtins=builtinsNs
 above:X.s₀.heap.objs.size<=X.env.locals
 inj:∀ x y c,X.env.cells.lookup x=some c->X.env.cells.lookup y=some c->x=y
 has:∀ x,(X.env.kindOf x=some .cell \/ X.env.kindOf x=some .free)->∃ c,X.env.cells.lookup x=some c
 cab:∀ x c,X.fn x=true->X.env.cells.lookup x=some c->X.s₀.heap.objs.size<=c
 hd:X.calm=true->X.A.handled=none
 frames:X.A.frames=some X.stack
 stk:X.stack=X.outer \/ (X.stack=X.env :: X.outer/\X.env.frame=some X.env.locals)
 exf:∀ b∈X.ex,b≠X.env.locals/\∀ x c,X.env.cells.lookup x=some c->c≠b
 bs:∀ b o,X.base.get? b=some o->X.s₀.heap.get? b=some o/\X.H₀ b=none
 bsz:X.base.objs.size<=X.s₀.heap.objs.size
 noex:∀ b o,X.base.get? b=some o->b ∉ X.ex
 exfs:∀ b∈X.ex,b ∉ X.fs
 funs:X.s₀.heap.FunFrames X.base X.outer
 frf:∀ b∈X.fs,X.H₀ b=none
structure Inv (X:Cx) (pins:List (Addr×Obj)) (σ:List (Option V)) (H:Hp) (s:Shared):Prop where
 ok:X.Ok
 os:s.os=X.s₀.os
 bare:AllBare s.gens
 base:Un X.fs X.ex X.H₀ H X.s₀.heap s.heap
 loc:∃ m,s.heap.Ns X.env.locals m/\∀ (i:Nat) (x:Str) (v:V),X.N[i]?=some x->σ[i]?=some (some v)->Vis X.env.scope x->∃ u,RelV v u/\Look X.env s.heap m x u
 cell:∀ x c,X.env.cells.lookup x=some c->∃ v,s.heap.IsCell c v
 free:H X.env.locals=none
 freeC:∀ x c,X.env.cells.lookup x=some c->H c=none
 pin:∀ p∈X.pn++pins,s.heap.get? p.1=some p.2/\H p.1=none/\p.1≠X.env.locals/\p.1 ∉ X.fs/\∀ v,p.2.data≠.cell v
 hok:HOk X.prog X.w H s.heap
 len:σ.length=X.N.length
section
variable {X:Cx} {pins:List (Addr×Obj)} {σ:List (Option V)} {H H':Hp} {s:Shared} {h':Heap}
theorem Cx.Ok.nofr (ok:X.Ok) {b:Addr} {o:Obj} (e:X.base.get? b=some o):b ∉ X.fs:=λ hb=>by
 have:=(ok.funs.mem hb).1
 rw [e] at this;cases this
theorem Inv.bs (I:Inv X pins σ H s):∀ b o,X.base.get? b=some o->s.heap.get? b=some o/\H b=none:=λ b o e =>
 ⟨I.base.keep b o (I.ok.bs b o e).1 (I.ok.bs b o e).2 (I.ok.nofr e) (I.ok.noex b o e),I.base.free b o (I.ok.bs b o e).1 (I.ok.bs b o e).2 (I.ok.noex b o e)⟩
theorem Inv.bk (I:Inv X pins σ H s):∀ b o,X.base.get? b=some o->s.heap.get? b=some o:=λ b o e=>(I.bs b o e).1
theorem Inv.mod (I:Inv X pins σ H s):Mod X.K X.mg X.base:=I.ok.mod
theorem Inv.kIn (I:Inv X pins σ H s):X.K.In s.heap:=I.ok.mod.kin.keeps I.bk
theorem Inv.lt (I:Inv X pins σ H s):X.env.locals < s.heap.objs.size:=let ⟨_,hn,_⟩:=I.loc;hn.lt
theorem Inv.sz (I:Inv X pins σ H s):X.s₀.heap.objs.size<=s.heap.objs.size:=Nat.le_trans I.ok.above (Nat.le_of_lt I.lt)
theorem Inv.nofs (I:Inv X pins σ H s) {a:Addr} (h:s.heap.objs.size<=a):a ∉ X.fs:=λ hb=>by
 obtain ⟨_,o,ho,_⟩:=I.ok.funs.mem hb
 exact absurd (Nat.lt_of_lt_of_le (Heap.lt_size ho) (Nat.le_trans I.sz h)) (Nat.lt_irrefl _)
theorem Inv.cne (I:Inv X pins σ H s):∀ x c,X.env.cells.lookup x=some c->c≠X.env.locals:=λ x c e z=>by
 obtain ⟨v,o,ho,hd⟩:=I.cell x c e
 obtain ⟨m,⟨o',es,ep,ho',hd',_⟩,_⟩:=I.loc
 rw [z,ho'] at ho;cases ho;rw [hd'] at hd;cases hd
theorem Inv.funs (I:Inv X pins σ H s):s.heap.FunFrames X.base X.outer:=by
 have all:∀ (l:List Env),(∀ b∈frs l,b∈X.fs)->X.s₀.heap.FunFrames X.base l->s.heap.FunFrames X.base l:=by
  intro l
  induction l with
 |nil=>intro _ _;trivial
 |cons env r ih =>
   intro hs hl
   obtain ⟨hk,⟨L,o,hf,hn,ho,hd⟩,hr⟩:=hl
   have hL:L∈X.fs:=hs L (by unfold frs;rw [List.filterMap_cons,hf];exact List.mem_cons_self)
   obtain ⟨sl,e⟩:=I.base.slot L o ho (I.ok.frf L hL) hL λ z=>I.ok.exfs L z hL
   exact ⟨hk,⟨L,_,hf,hn,e,hd⟩,ih (λ b hb=>hs b (by unfold frs;rw [List.filterMap_cons,hf];exact List.mem_cons_of_mem _ hb)) hr⟩
 exact all X.outer (λ _ hb=>hb) I.ok.funs
theorem Inv.stack (I:Inv X pins σ H s):s.heap.FunFrames X.base X.stack:=by
 rcases I.ok.stk with e|⟨e,hf⟩
 ·rw [e];exact I.funs
 ·rw [e]
  obtain ⟨m,hn,_⟩:=I.loc
  refine .cons (by rw [I.ok.kind];decide) hf hn ?_ I.funs
  exact Heap.get?_none_of_le (Nat.le_trans I.ok.bsz I.ok.above)
theorem Inv.stkSub (I:Inv X pins σ H s):∀ b∈frs X.stack,b∈X.env.locals :: X.fs:=λ b hb=>by
 rcases I.ok.stk with e|⟨e,hf⟩
 ·rw [e] at hb;exact List.mem_cons_of_mem _ hb
 ·rw [e] at hb
  unfold frs at hb
  rw [List.filterMap_cons,hf] at hb
  exact hb
theorem Inv.stkFree (I:Inv X pins σ H s):∀ b∈frs X.stack,H b=none:=λ b hb=>by
 rcases List.mem_cons.mp (I.stkSub b hb) with e|hb
 ·rw [e];exact I.free
 ·obtain ⟨_,o,ho,_⟩:=I.ok.funs.mem hb
  exact I.base.free b o ho (I.ok.frf b hb) λ z=>I.ok.exfs b z hb
theorem Inv.step {g':Array GenState} {t':Nat} {d':Drawn} {ch:List Addr} (I:Inv X pins σ H s)
  (hch:∀ b∈ch,(b∈X.ex \/ X.s₀.heap.objs.size<=b)/\b≠X.env.locals/\(∀ x c,X.env.cells.lookup x=some c->c≠b)/\∀ p∈X.pn++pins,p.1≠b)
  (keep:∀ b o,b≠X.env.locals->b ∉ X.fs->b ∉ ch->s.heap.get? b=some o->H b=none->h'.get? b=some o)
  (slot:∀ b o,b≠X.env.locals->b∈X.fs->b ∉ ch->s.heap.get? b=some o->H b=none->∃ sl,h'.get? b=some { o with slots:=sl }) (free:∀ b o,b ∉ ch->s.heap.get? b=some o->H b=none->H' b=none)
  (there:∀ b o,b ∉ ch->s.heap.get? b=some o->∃ o',h'.get? b=some o')
  (tups:∀ b xs,H b=some (.tup xs)->H' b=some (.tup xs)) (frzs:∀ b o u,H b=some (.frz o u)->H' b=some (.frz o u)) (tbls:∀ b ps,H b=some (.tbl ps)->∃ more,H' b=some (.tbl (ps++more)))
  (ns:∀ m,s.heap.Ns X.env.locals m->h'.Ns X.env.locals m) (hok:HOk X.prog X.w H' h') (hg:AllBare g') :
  Inv X pins σ H' { s with heap:=h',gens:=g',drawn:=d',toks:=t' }:=by
 have neL:∀ b o,X.s₀.heap.get? b=some o->b≠X.env.locals:=λ b o e=>Nat.ne_of_lt (Nat.lt_of_lt_of_le (Heap.lt_size e) I.ok.above)
 have neC:∀ b o,X.s₀.heap.get? b=some o->b ∉ X.ex->b ∉ ch:=λ b o e hx hb=>by
  rcases (hch b hb).1 with z|z
  ·exact hx z
  ·exact absurd (Nat.lt_of_lt_of_le (Heap.lt_size e) z) (Nat.lt_irrefl _)
 have cellK:∀ x c,X.env.cells.lookup x=some c->∀ v,s.heap.IsCell c v->h'.IsCell c v:=λ x c e v ⟨o,ho,hd⟩=>by
  have nch:c ∉ ch:=λ z=>(hch c z).2.2.1 x c e rfl
  by_cases hc:c∈X.fs
  ·obtain ⟨sl,q⟩:=slot c o (I.cne x c e) hc nch ho (I.freeC x c e)
   exact ⟨_,q,hd⟩
  ·exact ⟨o,keep c o (I.cne x c e) hc nch ho (I.freeC x c e),hd⟩
 refine ⟨I.ok,I.os,hg,⟨λ b o e n hb hx=>?_,λ b o e n hb hx=>?_,λ b o e n hx=>?_,λ b o e hx=>?_,λ b xs e=>tups b xs (I.base.tups b xs e),λ b o xs e=>frzs b o xs (I.base.frzs b o xs e),λ b ps e=>?_⟩,?_,λ x c e=>?_,?_,λ x c e=>?_,λ p hp=>?_,hok,I.len⟩
 ·exact keep b o (neL b o e) hb (neC b o e hx) (I.base.keep b o e n hb hx) (I.base.free b o e n hx)
 ·obtain ⟨sl,e1⟩:=I.base.slot b o e n hb hx
  obtain ⟨sl',e2⟩:=slot b _ (neL b o e) hb (neC b o e hx) e1 (I.base.free b o e n hx)
  exact ⟨sl',e2⟩
 ·obtain ⟨o',e1⟩:=I.base.there b o e hx
  exact free b o' (neC b o e hx) e1 (I.base.free b o e n hx)
 ·obtain ⟨o',e1⟩:=I.base.there b o e hx
  exact there b o' (neC b o e hx) e1
 ·obtain ⟨m1,e1⟩:=I.base.tbls b ps e
  obtain ⟨m2,e2⟩:=tbls b _ e1
  exact ⟨m1++m2,by rw [e2,Array.append_assoc]⟩
 ·obtain ⟨m,hn,hl⟩:=I.loc
  refine ⟨m,ns m hn,λ i x v e1 e2 e3=>?_⟩
  obtain ⟨u,r,l⟩:=hl i x v e1 e2 e3
  refine ⟨u,r,?_⟩
  rcases l with l|⟨k,c,e,z⟩
  ·exact .inl l
  ·exact .inr ⟨k,c,e,cellK x c e _ z⟩
 ·obtain ⟨v,z⟩:=I.cell x c e
  exact ⟨v,cellK x c e v z⟩
 ·obtain ⟨m,⟨o,_,_,ho,_⟩,_⟩:=I.loc
  exact free _ o (λ z=>(hch _ z).2.1 rfl) ho I.free
 ·obtain ⟨v,o,ho,hd⟩:=I.cell x c e
  exact free c o (λ z=>(hch c z).2.2.1 x c e rfl) ho (I.freeC x c e)
 ·obtain ⟨e,n,ne,nf,d⟩:=I.pin p hp
  have nch:p.1 ∉ ch:=λ z=>(hch p.1 z).2.2.2 p hp rfl
  exact ⟨keep p.1 p.2 ne nf nch e n,free p.1 p.2 nch e n,ne,nf,d⟩
theorem Inv.un {t':Nat} (I:Inv X pins σ H s) (u:Un X.fs [] H H' s.heap h') (hok:HOk X.prog X.w H' h'):Inv X pins σ H' { s with heap:=h',toks:=t' }:=by
 obtain ⟨m,⟨o,es,ep,ho,r⟩,_⟩:=id I.loc
 obtain ⟨sl,hL⟩:=u.any ho I.free (by simp)
 exact I.step (g':=s.gens) (d':=s.drawn) (ch:=[]) (λ _ z=>nomatch z) (λ b o _ hb _ e n=>u.keep b o e n hb (by simp)) (λ b o _ hb _ e n=>u.slot b o e n hb (by simp)) (λ b o _ e n=>u.free b o e n (by simp)) (λ b o _ e=>u.there b o e (by simp)) u.tups u.frzs u.tbls (λ m' hm=>by
  obtain ⟨o',es',ep',ho',r'⟩:=hm
  rw [ho] at ho';cases ho'
  exact ⟨_,es',ep',hL,r'⟩) hok I.bare
theorem Inv.call {g':Array GenState} {t':Nat} {d':Drawn} {ch:List Addr} (I:Inv X pins σ H s) (u:Un (frs X.stack) ch H H' s.heap h') (hok:HOk X.prog X.w H' h') (hg:AllBare g')
  (hch:∀ b∈ch,(b∈X.ex \/ X.s₀.heap.objs.size<=b)/\b≠X.env.locals/\(∀ x c,X.env.cells.lookup x=some c->c≠b)/\∀ p∈X.pn++pins,p.1≠b) :
  Inv X pins σ H' { s with heap:=h',gens:=g',drawn:=d',toks:=t' }:=by
 obtain ⟨m,⟨o,es,ep,ho,r⟩,_⟩:=id I.loc
 obtain ⟨sl,hL⟩:=u.any ho I.free λ z=>(hch _ z).2.1 rfl
 exact I.step (ch:=ch) hch (λ b o hL hb hc e n=>u.keep b o e n (λ z=>(List.mem_cons.mp (I.stkSub b z)).elim hL hb) hc) (λ b o _ _ hc e n=>u.any e n hc) (λ b o hc e n=>u.free b o e n hc) (λ b o hc e=>u.there b o e hc) u.tups u.frzs u.tbls (λ m' hm=>by
  obtain ⟨o',es',ep',ho',r'⟩:=hm
  rw [ho] at ho';cases ho'
  exact ⟨_,es',ep',hL,r'⟩) hok hg
theorem Inv.turned {t':Nat} {it:Addr} (I:Inv X pins σ H s) (k:∀ b o,b≠it->s.heap.get? b=some o->h'.get? b=some o) (hn:H it=none) (hL:it≠X.env.locals)
  (h1:it∈X.ex \/ X.s₀.heap.objs.size<=it) (h2:∀ x c,X.env.cells.lookup x=some c->c≠it) (h3:∀ p∈X.pn++pins,p.1≠it):Inv X pins σ H { s with heap:=h',toks:=t' }:=by
 have nit:∀ b u,H b=some u->b≠it:=λ b u e z=>by rw [z,hn] at e;cases e
 refine I.step (g':=s.gens) (d':=s.drawn) (ch:=[it]) (λ b hb=>?_) (λ b o _ _ hc e _=>k b o (λ z=>hc (by simp [z])) e) (λ b o _ _ hc e _=>⟨o.slots,k b o (λ z=>hc (by simp [z])) e⟩) (λ _ _ _ _ n=>n)
  (λ b o hc e=>⟨o,k b o (λ z=>hc (by simp [z])) e⟩) (λ _ _ e=>e) (λ _ _ _ e=>e) (λ b ps e=>⟨#[],by rw [e];simp⟩) (λ m hm=>?_) (λ b u e=>?_) I.bare
 ·have e:b=it:=by simpa using hb
  subst e
  exact ⟨h1,hL,h2,h3⟩
 ·obtain ⟨o,es,ep,ho,r⟩:=hm
  exact ⟨o,es,ep,k _ o (Ne.symm hL) ho,r⟩
 ·refine (I.hok b u e).stay (λ c v hc q=>k c v ?_ q) (λ _ q=>q) λ _ _ q=>q
  rcases hc with z|z
  ·rw [z];exact nit b u e
  ·exact nit c _ z
theorem Inv.tok (I:Inv X pins σ H s) (t:Nat):Inv X pins σ H { s with toks:=t }:=I.un (h':=s.heap) (t':=t) Un.refl I.hok
theorem Inv.kept {t':Nat} (I:Inv X pins σ H s) (k:∀ b u,s.heap.get? b=some u->h'.get? b=some u):Inv X pins σ H { s with heap:=h',toks:=t' }:=I.un (Un.kept k) (I.hok.kept k)
theorem Inv.laid {a:Addr} {o:HO} {t':Nat} (I:Inv X pins σ H s) (k:∀ b u,s.heap.get? b=some u->h'.get? b=some u) (hp:s.heap.objs.size<=a) (new:zm8 X.prog X.w (upd H a o) h' a o) :
  Inv X pins σ (upd H a o) { s with heap:=h',toks:=t' }:=I.un (Un.laid k hp (I.hok.fresh hp)) (I.hok.laid k hp new)
theorem Inv.write {x e:Addr} {o:HO} {t':Nat} (I:Inv X pins σ H s) (mu:Mut (H x)) (he:e=x \/ H e=some (.own x)) (k:∀ b u,b≠e->s.heap.get? b=some u->h'.get? b=some u) (heo:∃ u,h'.get? e=some u)
  (new:zm8 X.prog X.w (upd H x o) h' x o):Inv X pins σ (upd H x o) { s with heap:=h',toks:=t' }:=I.un (Un.write mu he k heo) (I.hok.write mu he k heo new)
theorem Inv.pins_of {pins':List (Addr×Obj)} (I:Inv X pins σ H s) (h:∀ p∈pins',s.heap.get? p.1=some p.2/\H p.1=none/\p.1≠X.env.locals/\p.1 ∉ X.fs/\∀ v,p.2.data≠.cell v):Inv X pins' σ H s :=
 ⟨I.ok,I.os,I.bare,I.base,I.loc,I.cell,I.free,I.freeC,λ p hp=>(List.mem_append.mp hp).elim (λ z=>I.pin p (List.mem_append_left _ z)) (h p),I.hok,I.len⟩
theorem zdi {N:List Str} (hN:N.Nodup) {i j:Nat} {x:Str} (a:N[i]?=some x) (b:N[j]?=some x):i=j:=by
 obtain ⟨h1,e1⟩:=List.getElem?_eq_some_iff.mp a
 obtain ⟨h2,e2⟩:=List.getElem?_eq_some_iff.mp b
 exact (List.getElem_inj hN).mp (e1.trans e2.symm)
theorem zdk {M:Model} {A:Around} {E:Value->Shared->Prop} {i:Nat} {x:Str} {v:V} {u:Value} {Q:Unit->Shared->Prop} (I:Inv X pins σ H s) (hN:X.N.Nodup) (hi:X.N[i]?=some x) (hx:Loc X.env.scope x) (r:RelV v u)
  (h:∀ s',Inv X pins (σ.set i (some v)) H s'->(∃ a,Heap.SameBut a s.heap s'.heap/\(a=X.env.locals \/ X.env.cells.lookup x=some a))->Q () s') (hf:X.fn x=true \/ X.env.scope.names.lookup x=some .local:=by first|exact .inl rfl|exact .inr rfl|assumption):wpAny M A (storeName X.env x u) Q E s:=by
 obtain ⟨m,hn,hl⟩:=id I.loc
 have hcls:(X.env.scope.kind == .class || (X.env.scope.kind == .module && X.env.locals != X.env.globals))=false:=by rw [I.ok.kind];rfl
 have hiσ:i < σ.length:=by rw [I.len];exact (List.getElem?_eq_some_iff.mp hi).1
 have cne:=I.cne
 have tracked:∀ {a:Addr} {h':Heap},(∃ o,s.heap.get? a=some o/\H a=none)->Heap.SameBut a s.heap h'->HOk X.prog X.w H h':=λ {a h'} ha hs b ob e=>by
  obtain ⟨_,_,hfree⟩:=ha
  refine (I.hok b ob e).stay (λ c w' hc q=>(hs.2 c ?_).trans q) (λ _ q=>q) λ _ _ q=>q
  rintro rfl
  rcases hc with rfl|hc
  ·rw [hfree] at e;cases e
  ·rw [hfree] at hc;cases hc
 rcases hx with hk|hk
 ·refine wpAny_storeName_local hk hn (λ h' hn' hs=>?_) hcls
  obtain ⟨oL,_,_,hoL,_⟩:=id hn
  refine h _ ⟨I.ok,I.os,I.bare,⟨λ b o e n hb hx=>?_,λ b o e n hb hx=>?_,I.base.free,λ b o e hx=>?_,I.base.tups,I.base.frzs,I.base.tbls⟩,⟨_,hn',λ j y v' e1 e2 e3=>?_⟩,λ y c e=>?_,I.free,I.freeC,λ p hp=>?_,tracked ⟨oL,hoL,I.free⟩ hs,by simpa using I.len⟩ ⟨_,hs,.inl rfl⟩
  ·exact (hs.2 b (Nat.ne_of_lt (Nat.lt_of_lt_of_le (Heap.lt_size e) I.ok.above))).trans (I.base.keep b o e n hb hx)
  ·obtain ⟨sl,e1⟩:=I.base.slot b o e n hb hx
   exact ⟨sl,(hs.2 b (Nat.ne_of_lt (Nat.lt_of_lt_of_le (Heap.lt_size e) I.ok.above))).trans e1⟩
  ·obtain ⟨o',e1⟩:=I.base.there b o e hx
   exact ⟨o',(hs.2 b (Nat.ne_of_lt (Nat.lt_of_lt_of_le (Heap.lt_size e) I.ok.above))).trans e1⟩
  ·by_cases hj:j=i
   ·subst hj
    rw [hi] at e1;cases e1
    rw [List.getElem?_set_self hiσ] at e2
    cases e2
    exact ⟨u,r,.inl ⟨hk,by simp⟩⟩
   ·rw [List.getElem?_set_ne (Ne.symm hj)] at e2
    obtain ⟨u',r',q⟩:=hl j y v' e1 e2 e3
    refine ⟨u',r',?_⟩
    rcases q with ⟨k,e⟩|⟨k,c,e,z⟩
    ·refine .inl ⟨k,?_⟩
     have:y≠x:=λ e=>hj (zdi hN e1 (e ▸ hi))
     simp [this,e]
    ·exact .inr ⟨k,c,e,z.sameBut hs (cne y c e)⟩
  ·obtain ⟨w',z⟩:=I.cell y c e
   exact ⟨w',z.sameBut hs (cne y c e)⟩
  ·obtain ⟨e,n,ne,nf,d⟩:=I.pin p hp
   exact ⟨(hs.2 p.1 ne).trans e,n,ne,nf,d⟩
 ·have hfn:X.fn x=true:=by
   rcases hf with z|z
   ·exact z
   ·rw [z] at hk;cases hk
  obtain ⟨c,hc⟩:=I.ok.has x (.inl hk)
  obtain ⟨w',z⟩:=I.cell x c hc
  refine wpAny_storeName_cell I.ok.kind hk hc z (λ h' hc' hs=>?_)
  obtain ⟨oc,hoc,hocd⟩:=id z
  refine h { s with heap:=h' } ⟨I.ok,I.os,I.bare,⟨λ b o e n hb hx=>?_,λ b o e n hb hx=>?_,I.base.free,λ b o e hx=>?_,I.base.tups,I.base.frzs,I.base.tbls⟩,⟨m,hn.sameBut hs (Ne.symm (cne x c hc)),λ j y v' e1 e2 e3=>?_⟩,λ y c' e=>?_,I.free,I.freeC,λ p hp=>?_,tracked ⟨oc,hoc,I.freeC x c hc⟩ hs,by simpa using I.len⟩ ⟨c,hs,.inr hc⟩
  ·exact (hs.2 b (Nat.ne_of_lt (Nat.lt_of_lt_of_le (Heap.lt_size e) (I.ok.cab x c hfn hc)))).trans (I.base.keep b o e n hb hx)
  ·obtain ⟨sl,e1⟩:=I.base.slot b o e n hb hx
   exact ⟨sl,(hs.2 b (Nat.ne_of_lt (Nat.lt_of_lt_of_le (Heap.lt_size e) (I.ok.cab x c hfn hc)))).trans e1⟩
  ·obtain ⟨o',e1⟩:=I.base.there b o e hx
   exact ⟨o',(hs.2 b (Nat.ne_of_lt (Nat.lt_of_lt_of_le (Heap.lt_size e) (I.ok.cab x c hfn hc)))).trans e1⟩
  ·by_cases hj:j=i
   ·subst hj
    rw [hi] at e1;cases e1
    rw [List.getElem?_set_self hiσ] at e2
    cases e2
    exact ⟨u,r,.inr ⟨.inl hk,c,hc,hc'⟩⟩
   ·rw [List.getElem?_set_ne (Ne.symm hj)] at e2
    obtain ⟨u',r',q⟩:=hl j y v' e1 e2 e3
    refine ⟨u',r',?_⟩
    rcases q with q|⟨k,c',e,z'⟩
    ·exact .inl q
    ·refine .inr ⟨k,c',e,z'.sameBut hs ?_⟩
     rintro rfl
     exact hj (zdi hN e1 (I.ok.inj _ _ _ e hc ▸ hi))
  ·by_cases hcc:c'=c
   ·subst hcc;exact ⟨_,hc'⟩
   ·obtain ⟨w2,z2⟩:=I.cell y c' e
    exact ⟨w2,z2.sameBut hs hcc⟩
  ·obtain ⟨e,n,ne,nf,d⟩:=I.pin p hp
   refine ⟨(hs.2 p.1 ?_).trans e,n,ne,nf,d⟩
   intro q
   rw [q,hoc] at e
   have q':oc=p.2:=Option.some.inj e
   exact d w' (by rw [<- q'];exact hocd)
theorem zde {M:Model} {A:Around} {E:Value->Shared->Prop} {i:Nat} {x:Str} {v:V} {u:Value} {Q:Unit->Shared->Prop} (I:Inv X pins σ H s) (hN:X.N.Nodup) (hi:X.N[i]?=some x) (hx:Loc X.env.scope x) (r:RelV v u)
  (h:∀ s',Inv X pins (σ.set i (some v)) H s'->Q () s') (hf:X.fn x=true \/ X.env.scope.names.lookup x=some .local:=by first|exact .inl rfl|exact .inr rfl|assumption):wpAny M A (storeName X.env x u) Q E s :=
 zdk I hN hi hx r (λ s' I' _=>h s' I') hf
theorem Inv.call' {s':Shared} {ch:List Addr} (I:Inv X pins σ H s) (ho:s'.os=s.os) (u:Un (frs X.stack) ch H H' s.heap s'.heap) (hok:HOk X.prog X.w H' s'.heap) (hg:AllBare s'.gens)
  (hch:∀ b∈ch,(b∈X.ex \/ X.s₀.heap.objs.size<=b)/\b≠X.env.locals/\(∀ x c,X.env.cells.lookup x=some c->c≠b)/\∀ p∈X.pn++pins,p.1≠b):Inv X pins σ H' s':=by
 obtain ⟨h',g',d',t',o'⟩:=s'
 have e:o'=s.os:=ho
 subst e
 exact I.call (g':=g') (t':=t') (d':=d') u hok hg hch
end
abbrev XK:=Value->Option Addr->Hp->Prop
abbrev St:=List (Option V)
abbrev VK:=V->Hp->Prop
abbrev TE:=St->Hp->VK->Prop
abbrev TT:=St->Hp->(Bool->Hp->Prop)->Prop
abbrev TA:=St->Hp->(List V->Hp->Prop)->Prop
structure Ends where
 nx:St->Hp->Prop
 rt:VK
 bk:St->Hp->Prop:=λ _ _=>False
 ct:St->Hp->Prop:=λ _ _=>False
abbrev TS:=Ends->St->Hp->Prop
def EP (X:Cx) (pins:List (Addr×Obj)) (σ:St) (Q:VK) (u:Value) (s':Shared):Prop:=∃ v H',Inv X pins σ H' s'/\RelV v u/\Q v H'
def TP (X:Cx) (pins:List (Addr×Obj)) (σ:St) (Q:Bool->Hp->Prop) (b:Bool) (s':Shared):Prop:=∃ H',Inv X pins σ H' s'/\Q b H'
def AP (X:Cx) (pins:List (Addr×Obj)) (σ:St) (Q:List V->Hp->Prop) (us:List Value) (s':Shared):Prop:=∃ vs H',Inv X pins σ H' s'/\Vals vs us/\Q vs H'
def SP (X:Cx) (pins:List (Addr×Obj)) (D:Ends) (f:Flow) (s':Shared):Prop :=
 match f with
|.next=>∃ σ' H',Inv X pins σ' H' s'/\D.nx σ' H'
|.brk=>∃ σ' H',Inv X pins σ' H' s'/\D.bk σ' H'
|.cont=>∃ σ' H',Inv X pins σ' H' s'/\D.ct σ' H'
|.ret u=>∃ v σ' H',Inv X pins σ' H' s'/\RelV v u/\D.rt v H'
def PE (X:Cx) (e:Expr) (t:TE):Prop :=
 ∀ (pins:List (Addr×Obj)) (s:Shared) (σ:St) (H:Hp) (Q:VK),Inv X pins σ H s->t σ H Q->wpAny (model X.prog X.w) X.A (eval e X.env) (EP X pins σ Q) X.xe s
def PT (X:Cx) (e:Expr) (t:TT):Prop :=
 ∀ (pins:List (Addr×Obj)) (s:Shared) (σ:St) (H:Hp) (Q:Bool->Hp->Prop),Inv X pins σ H s->t σ H Q->wpAny (model X.prog X.w) X.A (isTrue e X.env (eval e X.env)) (TP X pins σ Q) X.xe s
def PW (X:Cx) (e:Expr) (t:TT):Prop :=
 ∀ (whole:Sem Value) (pins:List (Addr×Obj)) (s:Shared) (σ:St) (H:Hp) (Q:Bool->Hp->Prop),Inv X pins σ H s->t σ H Q->wpAny (model X.prog X.w) X.A (isTrue e X.env whole) (TP X pins σ Q) X.xe s
theorem PW.pt {X:Cx} {e:Expr} {t:TT} (h:PW X e t):PT X e t:=h _
def PA (X:Cx) (es:List Expr) (t:TA):Prop :=
 ∀ (pos:Pos) (pins:List (Addr×Obj)) (s:Shared) (σ:St) (H:Hp) (Q:List V->Hp->Prop),Inv X pins σ H s->t σ H Q->wpAny (model X.prog X.w) X.A (spliced (backTo pos (starEach es X.env))) (AP X pins σ Q) X.xe s
def PS (X:Cx) (st:Stmt) (t:TS):Prop :=
 ∀ (pins:List (Addr×Obj)) (s:Shared) (σ:St) (H:Hp) (D:Ends),Inv X pins σ H s->t D σ H->wpAny (model X.prog X.w) X.A (exec st X.env) (SP X pins D) X.xe s
def PSs (X:Cx) (st:List Stmt) (t:TS):Prop :=
 ∀ (pins:List (Addr×Obj)) (s:Shared) (σ:St) (H:Hp) (D:Ends),Inv X pins σ H s->t D σ H->wpAny (model X.prog X.w) X.A (execs st X.env) (SP X pins D) X.xe s
theorem thn {α:Type} {t:Sem α} {Q Q':α->Shared->Prop} {M:Model} {A:Around} {E:Value->Shared->Prop} {s:Shared} (h:wpAny M A t Q E s) (hQ:∀ a s,Q a s->Q' a s):wpAny M A t Q' E s:=wpAny_mono h hQ λ _ _ x=>x
section
variable {X:Cx}
theorem bin {a b:Expr} {ta tb:TE} (ha:PE X a ta) (hb:PE X b tb) {pins:List (Addr×Obj)} {s:Shared} {σ:St} {H:Hp} {R:V->V->Hp->Prop} (I:Inv X pins σ H s) (h:ta σ H λ x H1=>tb σ H1 λ y H2=>R x y H2)
  {α:Type} {Q:α->Shared->Prop} {f:Value->Value->Sem α}
  (hf:∀ v u s2 x y H2,Inv X pins σ H2 s2->RelV x v->RelV y u->R x y H2->wpAny (model X.prog X.w) X.A (f v u) Q X.xe s2) :
  wpAny (model X.prog X.w) X.A (eval a X.env) (λ v s₁=>wpAny (model X.prog X.w) X.A (eval b X.env) (λ u s₂=>wpAny (model X.prog X.w) X.A (f v u) Q X.xe s₂) X.xe s₁) X.xe s:=by
 refine thn (ha pins s σ H _ I h) λ v s1 ⟨x,H1,I1,r1,q1⟩=>?_
 refine thn (hb pins s1 σ H1 _ I1 q1) λ u s2 ⟨y,H2,I2,r2,q2⟩=>?_
 exact hf v u s2 x y H2 I2 r1 r2 q2
def tVar (i:Nat):TE:=λ σ H Q=>∃ v,σ[i]?=some (some v)/\Q v H
def tC (v:V):TE:=λ _ H Q=>Q v H
theorem zr41 {i:Nat} {x:Str} {pos:Pos} (hN:X.N[i]?=some x) (hv:Vis X.env.scope x) (hd:(x == ("__debug__":Str))=false:=by decide) (hcd:(x == ("__classdict__":Str))=false:=by decide):PE X (.Name x pos) (tVar i):=by
 intro pins s σ H Q I h
 obtain ⟨v,e,h⟩:=h
 obtain ⟨m,hn,hl⟩:=I.loc
 obtain ⟨u,r,l⟩:=hl i x v hN e hv
 have fin:EP X pins σ Q u s:=⟨v,H,I,r,h⟩
 rcases l with ⟨hk,hm⟩|⟨hk,c,hc,hcell⟩
 ·exact wpAny_Name (wpAny_loadName_local I.ok.kind hk hn hm fin) hd
 ·rcases hk with hk|hk
  ·exact wpAny_Name (wpAny_loadName_cell I.ok.kind hk hc hcell fin) hd
  ·exact wpAny_Name (wpAny_loadName_free I.ok.kind hk hc hcell fin hcd) hd
theorem zf0 {i j pos}:PE X (.Constant (.int i) j pos) (tC (.int i)):=λ _ _ _ H _ I h=>wpAny_Constant_int ⟨.int i,H,I.tok _,⟨_,rfl⟩,h⟩
theorem zv81 {b j pos}:PE X (.Constant (.bool b) j pos) (tC (.bl b)):=λ _ _ _ H _ I h=>Constant_bool ⟨.bl b,H,I,rfl,h⟩
theorem zo61 {j pos}:PE X (.Constant .none j pos) (tC .non):=λ _ _ _ H _ I h=>Constant_none ⟨.non,H,I,rfl,h⟩
theorem zih {x j pos}:PE X (.Constant (.str x) j pos) (tC (.str x)):=λ _ _ _ H _ I h=>Calls.Constant_str ⟨.str x,H,I.tok _,⟨_,rfl⟩,h⟩
def Gl (X:Cx) (x:Str):Prop:=X.env.kindOf x=some .globalImplicit
theorem zod {E:Value->Shared->Prop} {pins:List (Addr×Obj)} {s:Shared} {σ:St} {H:Hp} {x:Str} {u:Value} {pos:Pos} {Q:Value->Shared->Prop} (I:Inv X pins σ H s) (hg:Gl X x) (hm:X.mg x=some u) (h:Q u s)
  (hd:(x == ("__debug__":Str))=false:=by decide):wpAny (model X.prog X.w) X.A (eval (.Name x pos) X.env) Q E s :=
 Calls.Name_function_global I.ok.kind hg (Calls.loadGlobal_global (by rw [I.ok.glob];exact I.mod.glob.keeps I.bk) hm h) hd
theorem zbl {E:Value->Shared->Prop} {pins:List (Addr×Obj)} {s:Shared} {σ:St} {H:Hp} {x:Str} {u:Value} {pos:Pos} {Q:Value->Shared->Prop} (I:Inv X pins σ H s) (hg:Gl X x) (hm:X.mg x=none) (hv:bootBuiltins x=some u) (h:Q u s)
  (hn:x ≠ "__name__":=by decide) (hd:(x == ("__debug__":Str))=false:=by decide):wpAny (model X.prog X.w) X.A (eval (.Name x pos) X.env) Q E s:=by
 obtain ⟨mb,h1,h2⟩:=I.mod.blt
 exact Calls.Name_function_global I.ok.kind hg (Calls.loadGlobal_builtin (by rw [I.ok.glob];exact I.mod.glob.keeps I.bk) hm (by rw [I.ok.blt];exact h1.keeps I.bk) ((h2 x hn).trans hv) h) hd
theorem zs7 {x:Str} {v:V} {u:Value} {pos:Pos} (hg:Gl X x) (hm:X.mg x=some u) (r:RelV v u) (hd:(x == ("__debug__":Str))=false:=by decide):PE X (.Name x pos) (tC v) :=
 λ _ _ _ H _ I h=>zod I hg hm ⟨v,H,I,r,h⟩ hd
theorem zms {x:Str} {v:V} {u:Value} {pos:Pos} (hg:Gl X x) (hm:X.mg x=none) (hv:bootBuiltins x=some u) (r:RelV v u) (hn:x ≠ "__name__":=by decide) (hd:(x == ("__debug__":Str))=false:=by decide):PE X (.Name x pos) (tC v) :=
 λ _ _ _ H _ I h=>zbl I hg hm hv ⟨v,H,I,r,h⟩ hn hd
variable {a b:Expr} {ta tb:TE} {pos:Pos}
variable {tA tB':TT} {rest:List Expr}
def tAnd (t u:TT):TT:=λ σ H Q=>t σ H λ c H1=>if c=true then u σ H1 Q else Q false H1
def tOr (t u:TT):TT:=λ σ H Q=>t σ H λ c H1=>if c=true then Q true H1 else u σ H1 Q
def tNot (t:TT):TT:=λ σ H Q=>t σ H λ c H1=>Q (!c) H1
theorem zjk (ha:PT X a tA):PW X (.BoolOp .And [a] pos) tA:=by
 intro wh pins s σ H Q I h
 refine isTrue_and (thn (ha pins s σ H Q I h) λ c s1 e=>?_)
 cases c with
|true=>exact isTrue_and_nil e
|false=>exact e
theorem zrp (ha:PT X a tA):PW X (.BoolOp .Or [a] pos) tA:=by
 intro wh pins s σ H Q I h
 refine isTrue_or (thn (ha pins s σ H Q I h) λ c s1 e=>?_)
 cases c with
|false=>exact isTrue_or_nil e
|true=>exact e
theorem zcp (ha:PT X a tA) (hb:PW X (.BoolOp .And (b :: rest) pos) tB'):PW X (.BoolOp .And (a :: b :: rest) pos) (tAnd tA tB'):=by
 intro wh pins s σ H Q I h
 refine isTrue_and (thn (ha pins s σ H _ I h) λ c s1 ⟨H1,I1,q1⟩=>?_)
 cases c with
|true=>exact hb wh pins s1 σ H1 Q I1 q1
|false=>exact ⟨H1,I1,q1⟩
theorem zxz (ha:PT X a tA) (hb:PW X (.BoolOp .Or (b :: rest) pos) tB'):PW X (.BoolOp .Or (a :: b :: rest) pos) (tOr tA tB'):=by
 intro wh pins s σ H Q I h
 refine isTrue_or (thn (ha pins s σ H _ I h) λ c s1 ⟨H1,I1,q1⟩=>?_)
 cases c with
|true=>exact ⟨H1,I1,q1⟩
|false=>exact hb wh pins s1 σ H1 Q I1 q1
theorem zp11 (ha:PT X a tA):PT X (.UnaryOp .Not a pos) (tNot tA):=by
 intro pins s σ H Q I h
 exact isTrue_not (ha pins s σ H (λ c H1=>Q (!c) H1) I h)
def za81 (ta tb:TE):TE:=λ σ H Q=>ta σ H λ x H1=>∃ c,x=.bl c/\if c=true then tb σ H1 Q else Q (.bl false) H1
def tOrV (ta tb:TE):TE:=λ σ H Q=>ta σ H λ x H1=>∃ c,x=.bl c/\if c=true then Q (.bl true) H1 else tb σ H1 Q
def zfy (ta:TE):TE:=λ σ H Q=>ta σ H λ x H1=>∃ c,x=.bl c/\Q (.bl (!c)) H1
theorem zr11 {op} {t:TE} (h:PE X a t):PE X (.BoolOp op [a] pos) t:=λ pins s σ H Q I hw=>BoolOp_one (h pins s σ H Q I hw)
theorem zg51 (ha:PE X a ta) (hb:PE X (.BoolOp .And (b :: rest) pos) tb):PE X (.BoolOp .And (a :: b :: rest) pos) (za81 ta tb):=by
 intro pins s σ H Q I h
 refine BoolOp_and (thn (ha pins s σ H _ I h) λ v s1 ⟨x,H1,I1,r1,q1⟩=>?_)
 obtain ⟨c,rfl,q1⟩:=q1
 cases r1
 refine wpAny_truthy_bool ?_
 cases c with
|true=>exact hb pins s1 σ H1 Q I1 q1
|false=>exact ⟨.bl false,H1,I1,rfl,q1⟩
theorem zba1 (ha:PE X a ta) (hb:PE X (.BoolOp .Or (b :: rest) pos) tb):PE X (.BoolOp .Or (a :: b :: rest) pos) (tOrV ta tb):=by
 intro pins s σ H Q I h
 refine BoolOp_or (thn (ha pins s σ H _ I h) λ v s1 ⟨x,H1,I1,r1,q1⟩=>?_)
 obtain ⟨c,rfl,q1⟩:=q1
 cases r1
 refine wpAny_truthy_bool ?_
 cases c with
|false=>exact hb pins s1 σ H1 Q I1 q1
|true=>exact ⟨.bl true,H1,I1,rfl,q1⟩
theorem zh31 (ha:PE X a ta):PE X (.UnaryOp .Not a pos) (zfy ta):=by
 intro pins s σ H Q I h
 refine UnaryOp_ (thn (ha pins s σ H _ I h) λ v s1 ⟨x,H1,I1,r1,q1⟩=>?_)
 obtain ⟨c,rfl,q1⟩:=q1
 cases r1
 exact not_of (wpAny_truthy_bool ⟨.bl (!c),H1,I1,rfl,q1⟩)
def tIf (t:TT) (ta tb:TE):TE:=λ σ H Q=>t σ H λ c H1=>if c=true then ta σ H1 Q else tb σ H1 Q
theorem zfm {c:Expr} (hc:PT X c tA) (ha:PE X a ta) (hb:PE X b tb):PE X (.IfExp c a b pos) (tIf tA ta tb):=by
 intro pins s σ H Q I h
 refine wpAny_IfExp (thn (hc pins s σ H _ I h) λ d s1 ⟨H1,I1,q1⟩=>?_)
 cases d with
|true=>exact ha pins s1 σ H1 Q I1 q1
|false=>exact hb pins s1 σ H1 Q I1 q1
end
def SqL (K:Fg) (H:Hp) (a:Addr) (xs:List V):Prop :=
 Rd H a (.lst xs) \/
  ∃ (o:Obj) (its:Array Value) (n:Nat),K.lookup a=some o/\o.cls=.type "list"/\o.dict=none/\o.data=.seq its n/\its.size<=sizeLine/\Vals xs its.toList
def SqT (K:Fg) (H:Hp) (a:Addr) (xs:List V):Prop :=
 Rd H a (.tup xs) \/
  ∃ (o:Obj) (its:Array Value) (n:Nat),K.lookup a=some o/\o.cls=.type "tuple"/\o.data=.seq its n/\its.size<=sizeLine/\Vals xs its.toList
def absV:Value->Option V
|.none=>some .non
|.bool b=>some (.bl b)
|.int i _=>some (.int i)
|.str x _=>some (.str x)
|.bytes b _=>some (.byt b)
|.float b _=>some (.flt b)
|.ref a=>some (.ref a)
|.type n=>some (.ty n)
|_=>none
theorem RelV.abs {x:V} {u:Value} (r:RelV x u):absV u=some x:=by
 cases x with
|non=>cases r;rfl
|bl _=>cases r;rfl
|int _=>obtain ⟨t,rfl⟩:=r;rfl
|str _=>obtain ⟨t,rfl⟩:=r;rfl
|byt _=>obtain ⟨t,rfl⟩:=r;rfl
|flt _=>obtain ⟨t,rfl⟩:=r;rfl
|ref _=>cases r;rfl
|ty _=>cases r;rfl
theorem RelV.inj {x y:V} {u:Value} (r:RelV x u) (q:RelV y u):x=y:=Option.some.inj (r.abs.symm.trans q.abs)
theorem Vals.inj:∀ {xs ys:List V} {us:List Value},Vals xs us->Vals ys us->xs=ys
|_,_,_,.nil,.nil=>rfl
|_,_,_,.cons r t,.cons r' t'=>by rw [r.inj r',Vals.inj t t']
section
variable {X:Cx} {pins:List (Addr×Obj)} {σ:St} {H:Hp} {s:Shared} {a:Addr} {xs ys:List V}
theorem SqL.of {K:Fg} (h:H a=some (.lst xs)):SqL K H a xs:=.inl (.inl h)
theorem SqT.of {K:Fg} (h:H a=some (.tup xs)):SqT K H a xs:=.inl (.inl h)
theorem Inv.list (I:Inv X pins σ H s) (h:SqL X.K H a xs):∃ its:List Value,Vals xs its/\PlainL s.heap a its.toArray/\xs.length<=sizeLine:=by
 rcases h with h|⟨o,its,n,hk,hc,hd,hs,hz,r⟩
 ·obtain ⟨z,its,n,r,e⟩:=h.ok I.hok
  exact ⟨its,r,⟨_,n,e,rfl,rfl,rfl⟩,z⟩
 ·refine ⟨its.toList,r,⟨o,n,I.kIn a o hk,hc,hd,by simpa using hs⟩,?_⟩
  have e:=r.length
  simp only [Array.length_toList] at e
  lia
theorem Inv.tuple (I:Inv X pins σ H s) (h:SqT X.K H a xs):∃ its:List Value,Vals xs its/\IsTup s.heap a its.toArray/\xs.length<=sizeLine:=by
 rcases h with h|⟨o,its,n,hk,hc,hs,hz,r⟩
 ·obtain ⟨z,its,r,p⟩:=h.ok I.hok
  exact ⟨its,r,p,z⟩
 ·refine ⟨its.toList,r,⟨o,I.kIn a o hk,hc,n,by simpa using hs⟩,?_⟩
  have e:=r.length
  simp only [Array.length_toList] at e
  lia
theorem Inv.list_inj (I:Inv X pins σ H s) (h:SqL X.K H a xs) (h':SqL X.K H a ys):xs=ys:=by
 obtain ⟨its,r,⟨o,n,e,_,_,d⟩,_⟩:=I.list h
 obtain ⟨its',r',⟨o',n',e',_,_,d'⟩,_⟩:=I.list h'
 rw [e] at e';cases e'
 rw [d] at d'
 injection d' with d1 _
 have:its=its':=by simpa using congrArg Array.toList d1
 subst this
 exact r.inj r'
theorem Inv.tuple_inj (I:Inv X pins σ H s) (h:SqT X.K H a xs) (h':SqT X.K H a ys):xs=ys:=by
 obtain ⟨its,r,⟨o,e,_,n,d⟩,_⟩:=I.tuple h
 obtain ⟨its',r',⟨o',e',_,n',d'⟩,_⟩:=I.tuple h'
 rw [e] at e';cases e'
 rw [d] at d'
 injection d' with d1 _
 have:its=its':=by simpa using congrArg Array.toList d1
 subst this
 exact r.inj r'
end
abbrev Cx.wish (X:Cx) (E:Value->Shared->Prop):Cx:={ X with xe:=E }
abbrev Cx.nox (X:Cx):Cx:=X.wish λ _ _=>False
theorem Cx.Ok.wish {X:Cx} (ok:X.Ok) (E:Value->Shared->Prop):(X.wish E).Ok :=
 ⟨ok.mod,ok.kind,ok.glob,ok.blt,ok.above,ok.inj,ok.has,ok.cab,ok.hd,ok.frames,ok.stk,ok.exf,ok.bs,ok.bsz,ok.noex,ok.exfs,ok.funs,ok.frf⟩
theorem Cx.Ok.unwish {X:Cx} {E:Value->Shared->Prop} (ok:(X.wish E).Ok):X.Ok :=
 ⟨ok.mod,ok.kind,ok.glob,ok.blt,ok.above,ok.inj,ok.has,ok.cab,ok.hd,ok.frames,ok.stk,ok.exf,ok.bs,ok.bsz,ok.noex,ok.exfs,ok.funs,ok.frf⟩
section
variable {X:Cx} {pins:List (Addr×Obj)} {σ:St} {H:Hp} {s:Shared} {E:Value->Shared->Prop}
theorem Inv.wish (I:Inv X pins σ H s) (E:Value->Shared->Prop):Inv (X.wish E) pins σ H s:=⟨I.ok.wish E,I.os,I.bare,I.base,I.loc,I.cell,I.free,I.freeC,I.pin,I.hok,I.len⟩
theorem Inv.unwish (I:Inv (X.wish E) pins σ H s):Inv X pins σ H s:=⟨I.ok.unwish,I.os,I.bare,I.base,I.loc,I.cell,I.free,I.freeC,I.pin,I.hok,I.len⟩
theorem SP.unwish {D:Ends} {f:Flow} {s':Shared} (h:SP (X.wish E) pins D f s'):SP X pins D f s':=by
 cases f with
|next=>obtain ⟨σ',H',I,q⟩:=h;exact ⟨σ',H',I.unwish,q⟩
|brk=>obtain ⟨σ',H',I,q⟩:=h;exact ⟨σ',H',I.unwish,q⟩
|cont=>obtain ⟨σ',H',I,q⟩:=h;exact ⟨σ',H',I.unwish,q⟩
|ret u=>obtain ⟨v,σ',H',I,r,q⟩:=h;exact ⟨v,σ',H',I.unwish,r,q⟩
theorem PE.nox {e:Expr} {t:TE} (h:PE X.nox e t):PE X e t:=λ pins s σ H Q I hw =>
 wpAny_mono (h pins s σ H Q (I.wish _) hw) (λ _ _ ⟨v,H',I',r,q⟩=>⟨v,H',I'.unwish,r,q⟩) λ _ _ z=>False.elim z
theorem PT.nox {e:Expr} {t:TT} (h:PT X.nox e t):PT X e t:=λ pins s σ H Q I hw =>
 wpAny_mono (h pins s σ H Q (I.wish _) hw) (λ _ _ ⟨H',I',q⟩=>⟨H',I'.unwish,q⟩) λ _ _ z=>False.elim z
theorem PSs.nox {st:List Stmt} {t:TS} (h:PSs X.nox st t):PSs X st t:=λ pins s σ H D I hw =>
 wpAny_mono (h pins s σ H D (I.wish _) hw) (λ _ _ q=>q.unwish) λ _ _ z=>False.elim z
end
section
variable {X:Cx} {st:Stmt} {rest:List Stmt} {t u:TS} {e:Expr} {te:TE} {pos:Pos}
def zc81:TS:=λ D σ H=>D.nx σ H
def tSeq (t u:TS):TS:=λ D σ H=>t { D with nx:=u D } σ H
theorem zc1:PSs X [] zc81:=λ _ _ σ H _ I h=>wpAny_execs_nil ⟨σ,H,I,h⟩
theorem zd0 (h1:PS X st t) (h2:PSs X rest u):PSs X (st :: rest) (tSeq t u):=by
 intro pins s σ H D I h
 refine wpAny_execs_cons (thn (h1 pins s σ H { D with nx:=u D } I h) λ f s1 q=>?_)
 cases f with
|next =>
  obtain ⟨σ',H',I',q⟩:=q
  exact h2 pins s1 σ' H' D I' q
|ret v=>exact q
|brk=>exact q
|cont=>exact q
theorem zk0 (h1:PS X st t):PSs X [st] t:=by
 intro pins s σ H D I h
 refine wpAny_execs_cons (thn (h1 pins s σ H D I h) λ f s1 q=>?_)
 cases f with
|next=>exact wpAny_execs_nil q
|ret v=>exact q
|brk=>exact q
|cont=>exact q
theorem Inv.quiet {pins:List (Addr×Obj)} {σ:St} {H:Hp} {s:Shared} (I:Inv X pins σ H s):interactive X.env=false:=by simp [interactive,I.ok.kind]
def zh21 (te:TE):TS:=λ D σ H=>te σ H λ _ H1=>D.nx σ H1
theorem za5 (he:PE X e te) (hs:swapsWith e none pos.line X.env=pure false:=by rfl):PS X (.Expr e pos) (zh21 te):=by
 intro pins s σ H D I h
 exact wpAny_Expr_any (thn (he pins s σ H _ I h) λ v s1 ⟨x,H1,I1,r1,q1⟩=>⟨σ,H1,I1,q1⟩) I.quiet hs
def tRet (te:TE):TS:=λ D σ H=>te σ H D.rt
theorem zi1 (he:PE X e te):PS X (.Return (some e) pos) (tRet te):=by
 intro pins s σ H D I h
 exact wpAny_Return_some (thn (he pins s σ H _ I h) λ v s1 ⟨x,H1,I1,r1,q1⟩=>⟨x,σ,H1,I1,r1,q1⟩)
def tIfS (c:TT) (t u:TS):TS:=λ D σ H=>c σ H λ b H1=>if b=true then t D σ H1 else u D σ H1
theorem zn4 {c:Expr} {a b:List Stmt} {tc:TT} (hc:PT X c tc) (ha:PSs X a t) (hb:PSs X b u):PS X (.If c a b pos) (tIfS tc t u):=by
 intro pins s σ H D I h
 refine wpAny_If (thn (hc pins s σ H _ I h) λ d s1 ⟨H1,I1,q1⟩=>?_)
 cases d with
|true=>exact ha pins s1 σ H1 D I1 q1
|false=>exact hb pins s1 σ H1 D I1 q1
end
abbrev TG:=V->St->Hp->(St->Hp->Prop)->Prop
abbrev TGs:=List V->St->Hp->(St->Hp->Prop)->Prop
def PG (X:Cx) (target:Expr) (t:TG):Prop :=
 ∀ (pins:List (Addr×Obj)) (s:Shared) (σ:St) (H:Hp) (v:V) (u:Value) (Q:St->Hp->Prop),Inv X pins σ H s->RelV v u->t v σ H Q ->
  wpAny (model X.prog X.w) X.A (assign target X.env u) (λ _ s'=>∃ σ' H',Inv X pins σ' H' s'/\Q σ' H') X.xe s
def PGs (X:Cx) (ts:List Expr) (t:TGs):Prop :=
 ∀ (pins:List (Addr×Obj)) (s:Shared) (σ:St) (H:Hp) (vs:List V) (us:List Value) (Q:St->Hp->Prop),Inv X pins σ H s->Vals vs us->t vs σ H Q ->
  wpAny (model X.prog X.w) X.A (assignInOrder ((assignEach ts X.env).map (·.2)) us) (λ _ s'=>∃ σ' H',Inv X pins σ' H' s'/\Q σ' H') X.xe s
abbrev TSet:=V->V->V->Hp->(Hp->Prop)->Prop
def PSet (X:Cx) (t:TSet):Prop :=
 ∀ (pins:List (Addr×Obj)) (s:Shared) (σ:St) (H:Hp) (o i v:V) (ov iv u:Value) (Q:Hp->Prop),Inv X pins σ H s->RelV o ov->RelV i iv->RelV v u->t o i v H Q ->
  wpAny (model X.prog X.w) X.A (setItem ov iv u) (λ _ s'=>∃ H',Inv X pins σ H' s'/\Q H') X.xe s
abbrev TIp:=V->V->Hp->VK->Prop
def PIp (X:Cx) (op:Operator) (t:TIp):Prop :=
 ∀ (pins:List (Addr×Obj)) (s:Shared) (σ:St) (H:Hp) (x y:V) (v u:Value) (Q:VK),Inv X pins σ H s->RelV x v->RelV y u->t x y H Q ->
  wpAny (model X.prog X.w) X.A (inplaceOp op v u) (EP X pins σ Q) X.xe s
section
variable {X:Cx} {pos:Pos}
def znd (i:Nat):TG:=λ v σ H Q=>Q (σ.set i (some v)) H
theorem zoz {i:Nat} {x:Str} (hN:X.N.Nodup) (hi:X.N[i]?=some x) (hx:Loc X.env.scope x) (hf:X.fn x=true \/ X.env.scope.names.lookup x=some .local:=by first|exact .inl rfl|exact .inr rfl|assumption):PG X (.Name x pos) (znd i):=by
 intro pins s σ H v u Q I r h
 exact wpAny_assign_Name (zde I hN hi hx r (λ s' I'=>⟨_,H,I',h⟩) hf)
def gNil:TGs:=λ vs σ H Q=>vs=[]/\Q σ H
def zu21 (t:TG) (u:TGs):TGs:=λ vs σ H Q=>∃ v r,vs=v :: r/\t v σ H λ σ' H'=>u r σ' H' Q
theorem zva:PGs X [] gNil:=by
 intro pins s σ H vs us Q I r h
 obtain ⟨e,h⟩:=h
 subst e
 cases r
 exact assignInOrder_nil ⟨σ,H,I,h⟩
theorem zr1 {e:Expr} {es:List Expr} {t:TG} {u:TGs} (h1:PG X e t) (h2:PGs X es u)
  (hs:(assignEach (e :: es) X.env).map (·.2)=assign e X.env :: (assignEach es X.env).map (·.2):=by rfl):PGs X (e :: es) (zu21 t u):=by
 intro pins s σ H vs us Q I r h
 obtain ⟨v,vr,e1,h⟩:=h
 subst e1
 cases r with
|cons r rr =>
  rw [hs]
  refine assignInOrder_cons (thn (h1 pins s σ H _ _ _ I r h) λ _ s1 ⟨σ1,H1,I1,q1⟩=>?_)
  exact h2 pins s1 σ1 H1 _ _ Q I1 rr q1
def gTup (K:Fg) (n:Nat) (t:TGs):TG:=λ v σ H Q=>∃ a xs,v=.ref a/\SqT K H a xs/\xs.length=n/\t xs σ H Q
theorem zw51 {es:List Expr} {k:Nat} {t:TGs} {n:Nat} (hc:X.calm=true) (h:PGs X es t)
  (hn:(assignEach es X.env).length=n:=by rfl) (hst:(assignEach es X.env).findIdx? (·.1)=none:=by rfl):PG X (.Tuple es k pos) (gTup X.K n t):=by
 intro pins s σ H v u Q I r hw
 obtain ⟨a,xs,e1,hq,hl,hw⟩:=hw
 subst e1
 cases r
 obtain ⟨its,rv,ht,hz⟩:=I.tuple hq
 refine assign_Tuple_tuple (I.ok.hd hc) ht (by simp [hn,<- hl,rv.length]) hst λ h' hx=>?_
 have I1:Inv X pins σ H { s with heap:=h' }:=I.kept (t':=s.toks) λ b o e=>hx b o (Nat.ne_of_lt (Heap.lt_size e)) e
 exact h pins _ σ H xs _ Q I1 (by simpa using rv) hw
def gSub (to ti:TE) (t:TSet):TG:=λ v σ H Q=>to σ H λ o H1=>ti σ H1 λ i H2=>t o i v H2 λ H3=>Q σ H3
theorem ztc {o i:Expr} {to ti:TE} {t:TSet} (ho:PE X o to) (hi:PE X i ti) (hs:PSet X t)
  (ha:∀ v,assign (.Subscript o i pos) X.env v=(do
   let ov <- holding [v] (eval o X.env)
   let iv <- holding [v,ov] (eval i X.env)
   standAt pos
   holding [v,ov,iv] (setItem ov iv v)
   release [v,ov,iv] []):=by intro _;rfl):PG X (.Subscript o i pos) (gSub to ti t):=by
 intro pins s σ H v u Q I r h
 rw [ha]
 refine wpAny_bind (wpAny_holding (thn (ho pins s σ H _ I h) λ ov s1 ⟨x,H1,I1,r1,q1⟩=>?_))
 refine wpAny_bind (wpAny_holding (thn (hi pins s1 σ H1 _ I1 q1) λ iv s2 ⟨y,H2,I2,r2,q2⟩=>?_))
 refine wpAny_bind (wpAny_standAt (wpAny_bind (wpAny_holding (thn (hs pins s2 σ H2 x y v ov iv u _ I2 r1 r2 r q2) λ _ s3 ⟨H3,I3,q3⟩=>?_))))
 exact wpAny_release ⟨σ,H3,I3,q3⟩
def tAsg (te:TE) (g:TG):TS:=λ D σ H=>te σ H λ x H1=>g x σ H1 D.nx
theorem zp9 {tg e:Expr} {te:TE} {g:TG} (he:PE X e te) (hg:PG X tg g) (hs:swapsWithSole [tg] e pos.line X.env=pure false:=by rfl) (hw:swappedStores [tg] e X.env=pure none:=by rfl)
  (h1:(assignEach [tg] X.env).map (·.2)=[assign tg X.env]:=by rfl):PS X (.Assign [tg] e pos) (tAsg te g):=by
 intro pins s σ H D I h
 refine wpAny_Assign_stores (thn (he pins s σ H _ I h) λ v s1 ⟨x,H1,I1,r1,q1⟩=>?_) hs hw
 rw [h1]
 exact thn (hg pins s1 σ H1 x v _ I1 r1 q1) λ _ s2 q=>q
theorem zt31 {i:Nat} {x:Str} {e:Expr} {te:TE} {pos':Pos} (hN:X.N.Nodup) (hi:X.N[i]?=some x) (hx:Loc X.env.scope x) (he:PE X e te) (hs:swapsWith e (some (.Name x pos')) pos.line X.env=pure false:=by rfl) (hf:X.fn x=true \/ X.env.scope.names.lookup x=some .local:=by first|exact .inl rfl|exact .inr rfl|assumption) :
  PS X (.Assign [.Name x pos'] e pos) (tAsg te (znd i)):=by
 intro pins s σ H D I h
 refine wpAny_Assign_Name (thn (he pins s σ H _ I h) λ v s1 ⟨y,H1,I1,r1,q1⟩=>?_) hs
 exact zde I1 hN hi hx r1 (λ s2 I2=>⟨_,H1,I2,q1⟩) hf
def zh51 (to ti te:TE) (tget:V->V->Hp->VK->Prop) (tip:TIp) (tset:TSet):TS:=λ D σ H=>to σ H λ o H1=>ti σ H1 λ i H2=>tget o i H2 λ x H3=>te σ H3 λ y H4=>tip x y H4 λ z H5=>tset o i z H5 λ H6=>D.nx σ H6
def PGet (X:Cx) (t:V->V->Hp->VK->Prop):Prop :=
 ∀ (pins:List (Addr×Obj)) (s:Shared) (σ:St) (H:Hp) (o i:V) (ov iv:Value) (Q:VK),Inv X pins σ H s->RelV o ov->RelV i iv->t o i H Q ->
  wpAny (model X.prog X.w) X.A (getItem ov iv) (EP X pins σ Q) X.xe s
theorem zeo {o i e:Expr} {to ti te:TE} {tget:V->V->Hp->VK->Prop} {tip:TIp} {tset:TSet} {op:Operator} {tpos:Pos} (ho:PE X o to) (hi:PE X i ti) (hg:PGet X tget) (he:PE X e te) (hp:PIp X op tip) (hs:PSet X tset)
  (ha:∀ ov iv new,augStore i ov iv new=(do holding [new,ov,iv] (setItem ov iv new);release [new,ov,iv] [];pure .next):=by intros;rfl):PS X (.AugAssign (.Subscript o i tpos) op e pos) (zh51 to ti te tget tip tset):=by
 intro pins s σ H D I h
 refine wpAny_AugAssign_SubscriptAny (thn (ho pins s σ H _ I h) λ ov s1 ⟨x1,H1,I1,r1,q1⟩=>?_) ha
 refine thn (hi pins s1 σ H1 _ I1 q1) λ iv s2 ⟨x2,H2,I2,r2,q2⟩=>?_
 refine thn (hg pins s2 σ H2 x1 x2 ov iv _ I2 r1 r2 q2) λ old s3 ⟨x3,H3,I3,r3,q3⟩=>?_
 refine thn (he pins s3 σ H3 _ I3 q3) λ v s4 ⟨x4,H4,I4,r4,q4⟩=>?_
 refine thn (hp pins s4 σ H4 x3 x4 old v _ I4 r3 r4 q4) λ new s5 ⟨x5,H5,I5,r5,q5⟩=>?_
 exact thn (hs pins s5 σ H5 x1 x2 x5 ov iv new _ I5 r1 r2 r5 q5) λ _ s6 ⟨H6,I6,q6⟩=>⟨σ,H6,I6,q6⟩
def ipI (f:Int->Int->Int):TIp:=λ x y H Q=>∃ i j,x=.int i/\y=.int j/\Q (.int (f i j)) H
theorem zo11:PIp X .Add (ipI λ i j=>i+j):=by
 intro pins s σ H x y v u Q I r1 r2 h
 obtain ⟨i,j,e1,e2,q⟩:=h
 subst e1;subst e2
 obtain ⟨t,rfl⟩:=r1
 obtain ⟨t',rfl⟩:=r2
 exact iadd_int ⟨.int _,H,I.tok _,⟨_,rfl⟩,q⟩
theorem zq71:PIp X .Sub (ipI λ i j=>i - j):=by
 intro pins s σ H x y v u Q I r1 r2 h
 obtain ⟨i,j,e1,e2,q⟩:=h
 subst e1;subst e2
 obtain ⟨t,rfl⟩:=r1
 obtain ⟨t',rfl⟩:=r2
 exact isub_int ⟨.int _,H,I.tok _,⟨_,rfl⟩,q⟩
end
section
variable {X:Cx} {pos:Pos}
end
structure It where
 go:Nat->Hp->Prop
 yld:Nat->Hp->V->Hp->Prop
 stop:Nat->Hp->Prop
def FpOk (X:Cx) (pins:List (Addr×Obj)) (H:Hp) (b:Addr):Prop :=
 H b=none/\b≠X.env.locals/\b ∉ X.fs/\(b∈X.ex \/ X.s₀.heap.objs.size<=b)/\(∀ x c,X.env.cells.lookup x=some c->c≠b)/\∀ p∈X.pn++pins,p.1≠b
theorem Inv.fpOk {X:Cx} {pins:List (Addr×Obj)} {σ:St} {H H':Hp} {s:Shared} {b:Addr} (I:Inv X pins σ H s) (hb:s.heap.objs.size<=b) (hn:H' b=none):FpOk X pins H' b:=by
 refine ⟨hn,Nat.ne_of_gt (Nat.lt_of_lt_of_le I.lt hb),I.nofs hb,.inr (Nat.le_trans I.sz hb),λ x c e z=>?_,λ p hp z=>?_⟩
 ·obtain ⟨v,q⟩:=I.cell x c e
  exact absurd (Nat.lt_of_lt_of_le q.lt (by rw [z];exact hb)) (Nat.lt_irrefl _)
 ·exact absurd (Nat.lt_of_lt_of_le (Heap.lt_size (I.pin p hp).1) (by rw [z];exact hb)) (Nat.lt_irrefl _)
structure Turn (P:Program) (w:World) (K:Fg) (tg:Expr) (J:It) (fp:List Addr) (it:Addr) (tn:Nat->Heap->Prop):Prop where
 mem:it∈fp
 obj:∀ i h,tn i h->∀ b∈fp,∃ o,h.get? b=some o/\∀ v,o.data≠.cell v
 keep:∀ i h h',tn i h->(∀ b∈fp,∀ o,h.get? b=some o->h'.get? b=some o)->tn i h'
 item:∀ (X:Cx),X.prog=P->X.w=w->X.K=K->X.calm=true->∀ (i:Nat) (pins:List (Addr×Obj)) (s:Shared) (σ:St) (H:Hp) (E:Value->Shared->Prop),Inv X pins σ H s->(∀ b∈fp,FpOk X pins H b)->tn i s.heap->J.go i H ->
  wpAny (model P w) X.A (pyNext (.ref it)) (λ r s1=>∃ u,r=some u /\
   wpAny (model P w) X.A (letOwnedTupleGo tg (.ref it) u) (λ _ s2=>∃ x H',Inv X pins σ H' s2/\RelV x u/\J.yld i H x H'/\tn (i+1) s2.heap/\∀ b∈fp,H' b=none) E s1) E s
 done:∀ (X:Cx),X.prog=P->X.w=w->X.K=K->X.calm=true->∀ (i:Nat) (pins:List (Addr×Obj)) (s:Shared) (σ:St) (H:Hp) (E:Value->Shared->Prop),Inv X pins σ H s->(∀ b∈fp,FpOk X pins H b)->tn i s.heap->J.stop i H ->
  wpAny (model P w) X.A (pyNext (.ref it)) (λ r s1=>r=none/\Inv X pins σ H s1) E s
 self:∀ (A:Around) (i:Nat) (s:Shared) (Q:Value->Shared->Prop) (E:Value->Shared->Prop),tn i s.heap->Q (.ref it) s->wpAny (model P w) A (pyIter (.ref it)) Q E s
abbrev TI:=St->Hp->(It->Hp->Prop)->Prop
def PIE (X:Cx) (pins:List (Addr×Obj)) (σ:St) (tg:Expr) (R:It->Hp->Prop) (itv:Value) (s2:Shared):Prop :=
 ∃ (it:Addr) (fp:List Addr) (tn:Nat->Heap->Prop) (J:It) (H':Hp),itv=.ref it/\Inv X pins σ H' s2/\Turn X.prog X.w X.K tg J fp it tn/\tn 0 s2.heap/\(∀ b∈fp,FpOk X pins H' b)/\R J H'
def PI (X:Cx) (tg iter:Expr) (wi:TI):Prop :=
 ∀ (pins:List (Addr×Obj)) (s:Shared) (σ:St) (H:Hp) (R:It->Hp->Prop),Inv X pins σ H s->wi σ H R ->
  wpAny (model X.prog X.w) X.A (eval iter X.env) (λ v s1=>wpAny (model X.prog X.w) X.A (pyIter v) (PIE X pins σ tg R) X.xe s1) X.xe s
theorem zy11 {M : Model} {A : Around} {E : Value → Shared → Prop} {s : Shared} {tg : Expr} {it : Addr} {u : Value} {o : Obj} {n : String} {vs : Array Value} {Q : Unit → Shared → Prop} (ho : s.heap.get? it = some o) (hc : o.cls = .type n) (hd : o.data = .fields vs)
    (hn : ["enumerate", "zip", "dict_itemiterator", "dict_reverseitemiterator", "odict_iterator", "itertools.zip_longest", "itertools.pairwise"].contains n = false) (hQ : Q () s) : wpAny M A (letOwnedTupleGo tg (.ref it) u) Q E s := by
  unfold letOwnedTupleGo
  cases tg <;> first
    | exact wpAny_pure hQ
    | (cases u <;> first
        | exact wpAny_pure hQ
        | (refine wpAny_bind (wpAny_load ho ?_)
           rw [hc, hd]
           show wpAny M A (if (["enumerate", "zip", "dict_itemiterator", "dict_reverseitemiterator", "odict_iterator", "itertools.zip_longest", "itertools.pairwise"].contains n && vs[0]? == some (rawInt _)) = true then _ else _) Q E s
           rw [if_neg (by intro h; rw [hn, Bool.false_and] at h; cases h)]
           exact wpAny_pure hQ))
def Itl (K:Fg) (a:Addr):It :=
 ⟨λ i H=>∃ xs x,SqL K H a xs/\xs[i]?=some x,λ i H x H'=>H'=H/\∀ xs,SqL K H a xs->xs[i]?=some x,λ i H=>∃ xs,SqL K H a xs/\xs.length<=i⟩
def Itt (K:Fg) (a:Addr):It :=
 ⟨λ i H=>∃ xs x,SqT K H a xs/\xs[i]?=some x,λ i H x H'=>H'=H/\∀ xs,SqT K H a xs->xs[i]?=some x,λ i H=>∃ xs,SqT K H a xs/\xs.length<=i⟩
def Itr (lo:Int) (n:Nat):It:=⟨λ i _=>i < n,λ i H x H'=>H'=H/\x=.int (lo+i),λ i _=>n<=i⟩
theorem zmp {P:Program} {w:World} {K:Fg} {tg:Expr} (a it:Addr):Turn P w K tg (Itl K a) [it] it (λ i h=>h.IsListIter it a i) where
 mem:=by simp
 obj:=λ i h st b hb=>by
  have e:b=it:=by simpa using hb
  subst e
  obtain ⟨o,e,c,d⟩:=st
  exact ⟨o,e,λ v z=>by rw [d] at z;cases z⟩
 keep:=λ i h h' st k=>st.at λ o e=>k it (by simp) o e
 item:=by
  intro X hP hw hK hc i pins s σ H E I hf st hg
  subst hP hw hK
  obtain ⟨xs,x,hq,hx⟩:=hg
  obtain ⟨its,rv,p,hz⟩:=I.list hq
  obtain ⟨u,hu,ru⟩:=rv.get hx
  obtain ⟨f0,f1,f2,f3,f4,f5⟩:=hf it (by simp)
  refine wpAny_pyNext_list_item st p.isList (x:=u) (by simpa using hu) λ h' st' sb=>?_
  have I1:Inv X pins σ H { s with heap:=h' }:=I.turned (t':=s.toks) (λ b o hb e=>(sb.2 b hb).trans e) f0 f1 f3 f4 f5
  obtain ⟨o,e,c,d⟩:=id st'
  exact ⟨u,rfl,zy11 (s:={ s with heap:=h' }) e c d (by decide) ⟨x,H,I1,ru,⟨rfl,λ ys hy=>by rw [I.list_inj hy hq];exact hx⟩,st',λ b hb=>(hf b hb).1⟩⟩
 done:=by
  intro X hP hw hK hc i pins s σ H E I hf st hg
  subst hP hw hK
  obtain ⟨xs,hq,hx⟩:=hg
  obtain ⟨its,rv,p,hz⟩:=I.list hq
  obtain ⟨f0,f1,f2,f3,f4,f5⟩:=hf it (by simp)
  have hl:=rv.length
  exact wpAny_pyNext_list_end (I.ok.hd hc) st p.isList (by simp;lia) λ h' eb=>⟨rfl,I.turned (t':=s.toks) (λ b o hb e=>eb b o hb e) f0 f1 f3 f4 f5⟩
 self:=λ _ _ _ _ _ st h=>wpAny_pyIter_listiter st h
theorem zom {P:Program} {w:World} {K:Fg} {tg:Expr} (a it:Addr):Turn P w K tg (Itt K a) [it] it (λ i h=>h.IsTupleIter it a i) where
 mem:=by simp
 obj:=λ i h st b hb=>by
  have e:b=it:=by simpa using hb
  subst e
  obtain ⟨o,e,c,d⟩:=st
  exact ⟨o,e,λ v z=>by rw [d] at z;cases z⟩
 keep:=λ i h h' st k=>st.at λ o e=>k it (by simp) o e
 item:=by
  intro X hP hw hK hc i pins s σ H E I hf st hg
  subst hP hw hK
  obtain ⟨xs,x,hq,hx⟩:=hg
  obtain ⟨its,rv,p,hz⟩:=I.tuple hq
  obtain ⟨u,hu,ru⟩:=rv.get hx
  obtain ⟨f0,f1,f2,f3,f4,f5⟩:=hf it (by simp)
  refine wpAny_pyNext_tuple_item st (show s.heap.IsTuple a its.toArray from p) (x:=u) (by simpa using hu) λ h' st' sb=>?_
  have I1:Inv X pins σ H { s with heap:=h' }:=I.turned (t':=s.toks) (λ b o hb e=>(sb.2 b hb).trans e) f0 f1 f3 f4 f5
  obtain ⟨o,e,c,d⟩:=id st'
  exact ⟨u,rfl,zy11 (s:={ s with heap:=h' }) e c d (by decide) ⟨x,H,I1,ru,⟨rfl,λ ys hy=>by rw [I.tuple_inj hy hq];exact hx⟩,st',λ b hb=>(hf b hb).1⟩⟩
 done:=by
  intro X hP hw hK hc i pins s σ H E I hf st hg
  subst hP hw hK
  obtain ⟨xs,hq,hx⟩:=hg
  obtain ⟨its,rv,p,hz⟩:=I.tuple hq
  obtain ⟨f0,f1,f2,f3,f4,f5⟩:=hf it (by simp)
  have hl:=rv.length
  exact wpAny_pyNext_tuple_end (I.ok.hd hc) st (show s.heap.IsTuple a its.toArray from p) (by simp;lia) λ h' eb=>⟨rfl,I.turned (t':=s.toks) (λ b o hb e=>eb b o hb e) f0 f1 f3 f4 f5⟩
 self:=λ _ _ _ _ _ st h=>wpAny_pyIter_tupleiter st h
theorem znm {P:Program} {w:World} {K:Fg} {tg:Expr} (it:Addr) (lo:Int) (n:Nat):Turn P w K tg (Itr lo n) [it] it (λ i h=>IsRangeIter h it (lo+(i:Nat) * 1) ((n:Int) - (i:Nat)) 1) where
 mem:=by simp
 obj:=λ i h st b hb=>by
  have e:b=it:=by simpa using hb
  subst e
  exact ⟨_,st,λ v z=>by
   have z':Data.fields _=Data.cell v:=z
   cases z'⟩
 keep:=λ i h h' st k=>k it (by simp) _ st
 item:=by
  intro X hP hw hK hc i pins s σ H E I hf st hg
  subst hP hw hK
  obtain ⟨f0,f1,f2,f3,f4,f5⟩:=hf it (by simp)
  have W:=Walks.range (prog:=X.prog) (w:=X.w) (I.ok.hd hc) it lo 1 n
  refine W.item i s _ _ hg st λ v h' tk hv st' kk=>?_
  obtain ⟨t,rfl⟩:=hv
  have I1:Inv X pins σ H { s with heap:=h',toks:=tk }:=I.turned (λ b o hb e=>kk b o (by simpa using hb) e) f0 f1 f3 f4 f5
  refine ⟨_,rfl,zy11 (s:={ s with heap:=h',toks:=tk }) (n := "range_iterator") st' rfl rfl (by decide) ⟨.int (lo+i),H,I1,⟨t,?_⟩,⟨rfl,rfl⟩,st',λ b hb=>(hf b hb).1⟩⟩
  rw [Int.mul_one]
 done:=by
  intro X hP hw hK hc i pins s σ H E I hf st hg
  subst hP hw hK
  obtain ⟨f0,f1,f2,f3,f4,f5⟩:=hf it (by simp)
  exact wpAny_pyNext_range_end (I.ok.hd hc) st (by have:n<=i:=hg;lia) λ h' eb=>⟨rfl,I.turned (t':=s.toks) (λ b o hb e=>eb b o hb e) f0 f1 f3 f4 f5⟩
 self:=λ _ _ _ _ _ st h=>wpAny_pyIter_rangeiter st h
section
variable {X:Cx} {tg:Expr}
theorem zss {pins:List (Addr×Obj)} {σ:St} {H:Hp} {s:Shared} {R:It->Hp->Prop} {E:Value->Shared->Prop} {lo hi:Int} {t u v:Tok} {tk:Nat} (I:Inv X pins σ H s) (h1:-(2 ^ 62)<=lo) (h2:lo < 2 ^ 62) (h3:-(2 ^ 62)<=hi) (h4:hi < 2 ^ 62)
  (q:R (Itr lo (hi - lo).toNat) H):wpAny (model X.prog X.w) X.A (pyIter (.ref s.heap.objs.size)) (PIE X pins σ tg R) E { s with heap:=s.heap.push { cls:=.type "range",data:=.fields #[.int lo t,.int hi u,.int 1 v] },toks:=tk }:=by
 refine wpAny_pyIter_range (IsRange.new ..) (small_one h1 h2 h3 h4) ?_
 have I1:Inv X pins σ H { s with heap:=s.heap.push { cls:=.type "range",data:=.fields #[.int lo t,.int hi u,.int 1 v] },toks:=tk }:=I.kept λ b o e=>Heap.get?_push_of_some _ e
 refine ⟨(s.heap.push { cls:=.type "range",data:=.fields #[.int lo t,.int hi u,.int 1 v] }).objs.size,[(s.heap.push { cls:=.type "range",data:=.fields #[.int lo t,.int hi u,.int 1 v] }).objs.size],_,_,H,rfl,
  I1.kept (t':=tk) λ b o e=>Heap.get?_push_of_some _ e,znm _ lo (hi - lo).toNat,?_,λ b hb=>?_,q⟩
 ·have e1:lo+((0:Nat):Int) * 1=lo:=by simp
  have e2:(((hi - lo).toNat:Nat):Int) - ((0:Nat):Int)=Builtin.Range.rangeSize lo hi 1:=by rw [rangeSize_one];split <;> lia
  show IsRangeIter _ _ (lo+((0:Nat):Int) * 1) ((((hi - lo).toNat:Nat):Int) - ((0:Nat):Int)) 1
  rw [e1,e2]
  exact Heap.get?_push_size _ rfl
 ·have e:b=(s.heap.push { cls:=.type "range",data:=.fields #[.int lo t,.int hi u,.int 1 v] }).objs.size:=by simpa using hb
  subst e
  exact I1.fpOk (Nat.le_refl _) (I1.hok.fresh (Nat.le_refl _))
def zy81 (ta:TA):TI:=λ σ H R=>ta σ H λ vs H1=>∃ j:Int,vs=[.int j]/\-(2 ^ 62)<=j/\j < 2 ^ 62/\R (Itr 0 j.toNat) H1
theorem zz1 {a:Expr} {ta:TA} {p pos:Pos} (hg:Gl X "range") (hm:X.mg "range"=none) (ha:PA X [a] ta) (hs:starEach [a] X.env=[(false,eval a X.env)]:=by rfl):PI X tg (.Call (.Name "range" p) [a] [] pos) (zy81 ta):=by
 intro pins s σ H R I h
 refine Call_ (zbl I hg hm boot_range (PyProof.Rows.callWith_type1 (thn (ha pos pins s σ H _ I h) λ us s1 ⟨vs,H1,I1,r1,q1⟩=>?_) hs rfl))
 obtain ⟨j,e,q1,q2,q⟩:=q1
 subst e
 cases r1 with
|cons r rr =>
  cases rr
  obtain ⟨t,rfl⟩:=r
  exact call_range_1 (zss I1 (by lia) (by lia) q1 q2 (by simpa using q))
def tFor (wi:TI) (g:TG) (tb:TS):TS:=λ D σ H=>wi σ H λ J H1=>∃ W:Nat->Nat->St->Hp->Prop,(∃ m,W 0 m σ H1)/\∀ i m σ H,W i m σ H ->
 (J.stop i H/\D.nx σ H) \/ (J.go i H/\∃ N:St->Hp->Prop,(∀ σ' H',N σ' H'->∃ m',m' < m/\W (i+1) m' σ' H')/\∀ x H',J.yld i H x H'->g x σ H' λ σ2 H2=>tb { D with nx:=N,ct:=N,bk:=D.nx } σ2 H2)
def zam (fp:List Addr) (h:Heap):List (Addr×Obj):=fp.filterMap λ b=>(h.get? b).map λ o=>(b,o)
theorem zv7 {fp:List Addr} {h:Heap} {b:Addr} {o:Obj} (hb:b∈fp) (e:h.get? b=some o):(b,o)∈zam fp h:=List.mem_filterMap.mpr ⟨b,hb,by rw [e];rfl⟩
theorem zzp {fp:List Addr} {h:Heap} {p:Addr×Obj} (hp:p∈zam fp h):p.1∈fp/\h.get? p.1=some p.2:=by
 obtain ⟨b,hb,e⟩:=List.mem_filterMap.mp hp
 cases q:h.get? b with
|none=>rw [q] at e;cases e
|some o =>
  rw [q] at e
  have e':(b,o)=p:=Option.some.inj e
  subst e'
  exact ⟨hb,q⟩
theorem Inv.pinned {pins:List (Addr×Obj)} {σ:St} {H:Hp} {s:Shared} {fp:List Addr} (I:Inv X pins σ H s) (hf:∀ b∈fp,FpOk X pins H b) (ho:∀ b∈fp,∃ o,s.heap.get? b=some o/\∀ v,o.data≠.cell v):Inv X (pins++zam fp s.heap) σ H s :=
 I.pins_of λ p hp=>(List.mem_append.mp hp).elim (λ z=>I.pin p (List.mem_append_right _ z)) λ z=>by
  obtain ⟨hb,e⟩:=zzp z
  obtain ⟨f0,f1,f2,_⟩:=hf p.1 hb
  obtain ⟨o,e',d⟩:=ho p.1 hb
  rw [e] at e';cases e'
  exact ⟨e,f0,f1,f2,d⟩
theorem Inv.unpinned {pins pl:List (Addr×Obj)} {σ:St} {H:Hp} {s:Shared} (I:Inv X (pins++pl) σ H s):Inv X pins σ H s:=I.pins_of λ p hp=>I.pin p (List.mem_append_right _ (List.mem_append_left _ hp))
theorem zs9 {iter:Expr} {body:List Stmt} {wi:TI} {g:TG} {tb:TS} {pos:Pos} (hp:PassesOwn (model X.prog X.w) X.A X.env X.xe) (hc:X.calm=true) (hi:PI X tg iter wi) (hg:PG X tg g) (hb:PSs X body tb)
  (hs:∀ x,foldedSetIterable iter X.env x=pure x:=by intro _;rfl):PS X (.For tg iter body [] pos) (tFor wi g tb):=by
 intro pins s σ H D I h
 refine wpAny_For (thn (hi pins s σ H _ I h) λ v s1 h1=>thn h1 λ itv s2 h2=>?_) hs
 obtain ⟨it,fp,tn,J,H2,e,I2,T,st2,f2,W,⟨m0,w0⟩,turn⟩:=h2
 subst e
 -- what stays true of the iterator's objects through the loop
 have stat:∀ {H':Hp},(∀ b∈fp,H' b=none)->∀ b∈fp,FpOk X pins H' b:=λ hn b hb=>⟨hn b hb,(f2 b hb).2⟩
 refine codeAny_forLoop_any (λ n s'=>∃ i σ' H',Inv X pins σ' H' s'/\tn i s'.heap/\(∀ b∈fp,H' b=none)/\W i n σ' H') ?_ m0 ⟨0,σ,H2,I2,st2,λ b hb=>(f2 b hb).1,w0⟩
 rintro n s3 ⟨i,σ3,H3,I3,st3,fr3,w3⟩
 rcases turn i n σ3 H3 w3 with ⟨stop,qn⟩|⟨go,N,hN,step⟩
 ·refine wpAny_passesOwn hp (thn (T.done X rfl rfl rfl hc i pins s3 σ3 H3 X.xe I3 (stat fr3) st3 stop) λ r s4 ⟨hr,I4⟩=>?_)
  subst hr
  exact wpAny_execs_nil ⟨σ3,H3,I4,qn⟩
 ·refine wpAny_passesOwn hp (thn (T.item X rfl rfl rfl hc i pins s3 σ3 H3 X.xe I3 (stat fr3) st3 go) λ r s4 ⟨u,hr,h4⟩=>?_)
  subst hr
  refine wpAny_passesOwn hp (thn h4 λ _ s5 ⟨x,H5,I5,r5,y5,st5,fr5⟩=>?_)
  have I5':=I5.pinned (stat fr5) (T.obj _ _ st5)
  refine wpAny_passesOwn hp (thn (hg _ s5 σ3 H5 x u _ I5' r5 (step x H5 y5)) λ _ s6 ⟨σ6,H6,I6,q6⟩=>?_)
  refine wpAny_passesOwn hp (thn (hb _ s6 σ6 H6 _ I6 q6) λ f s7 q7=>?_)
  have again:∀ {σ7:St} {H7:Hp},Inv X (pins++zam fp s5.heap) σ7 H7 s7->N σ7 H7->∃ m,m < n/\∃ i σ' H',Inv X pins σ' H' s7/\tn i s7.heap/\(∀ b∈fp,H' b=none)/\W i m σ' H':=λ {σ7 H7} I7 n7=>by
   obtain ⟨m',hm,w7⟩:=hN σ7 H7 n7
   refine ⟨m',hm,i+1,σ7,H7,I7.unpinned,T.keep _ _ _ st5 λ b hb o e=>(I7.pin (b,o) (List.mem_append_right _ (List.mem_append_right _ (zv7 hb e)))).1,λ b hb=>?_,w7⟩
   obtain ⟨o,e,d⟩:=T.obj _ _ st5 b hb
   exact (I7.pin (b,o) (List.mem_append_right _ (List.mem_append_right _ (zv7 hb e)))).2.1
  cases f with
 |next=>obtain ⟨σ7,H7,I7,n7⟩:=q7;exact again I7 n7
 |cont=>obtain ⟨σ7,H7,I7,n7⟩:=q7;exact again I7 n7
 |brk=>obtain ⟨σ7,H7,I7,q7⟩:=q7;exact ⟨σ7,H7,I7.unpinned,q7⟩
 |ret v=>obtain ⟨x7,σ7,H7,I7,r7,q7⟩:=q7;exact ⟨x7,σ7,H7,I7.unpinned,r7,q7⟩
end
abbrev R2:=V->V->Hp->VK->Prop
def OpR (X:Cx) (f:Value->Value->Sem Value) (r:R2):Prop :=
 ∀ (pins:List (Addr×Obj)) (s:Shared) (σ:St) (H:Hp) (x y:V) (v u:Value) (Q:VK),Inv X pins σ H s->RelV x v->RelV y u->r x y H Q ->
  wpAny (model X.prog X.w) X.A (f v u) (EP X pins σ Q) X.xe s
def UnR (X:Cx) (f:Value->Sem Value) (r:V->Hp->VK->Prop):Prop :=
 ∀ (pins:List (Addr×Obj)) (s:Shared) (σ:St) (H:Hp) (x:V) (v:Value) (Q:VK),Inv X pins σ H s->RelV x v->r x H Q ->
  wpAny (model X.prog X.w) X.A (f v) (EP X pins σ Q) X.xe s
def zg9 (X:Cx) (f:Value) (r:List V->Hp->VK->Prop):Prop :=
 ∀ (pins:List (Addr×Obj)) (s:Shared) (σ:St) (H:Hp) (xs:List V) (us:List Value) (Q:VK),Inv X pins σ H s->Vals xs us->r xs H Q ->
  wpAny (model X.prog X.w) X.A (call f us) (EP X pins σ Q) X.xe s
def TruR (X:Cx) (r:V->Hp->(Bool->Hp->Prop)->Prop):Prop :=
 ∀ (pins:List (Addr×Obj)) (s:Shared) (σ:St) (H:Hp) (x:V) (v:Value) (Q:Bool->Hp->Prop),Inv X pins σ H s->RelV x v->r x H Q ->
  wpAny (model X.prog X.w) X.A (truthy v) (TP X pins σ Q) X.xe s
def tOp (r:R2) (ta tb:TE):TE:=λ σ H Q=>ta σ H λ x H1=>tb σ H1 λ y H2=>r x y H2 Q
def tUn (r:V->Hp->VK->Prop) (ta:TE):TE:=λ σ H Q=>ta σ H λ x H1=>r x H1 Q
def rI (C:Int->Int->Prop) (g:Int->Int->V):R2:=λ x y H Q=>∃ i j,x=.int i/\y=.int j/\C i j/\Q (g i j) H
def rI0 (g:Int->Int->V):R2:=λ x y H Q=>∃ i j,x=.int i/\y=.int j/\Q (g i j) H
def rU (g:Int->V):V->Hp->VK->Prop:=λ x H Q=>∃ i,x=.int i/\Q (g i) H
section
variable {X:Cx} {a b c:Expr} {ta tb tc:TE} {pos:Pos}
theorem binT (ha:PE X a ta) (hb:PE X b tb) {pins:List (Addr×Obj)} {s:Shared} {σ:St} {H:Hp} {R:V->V->Hp->Prop} (I:Inv X pins σ H s)
  (h:ta σ H λ x H1=>tb σ H1 λ y H2=>R x y H2) {Q:Value->Shared->Prop} {f:Value->Value->Sem Value}
  (hf:∀ v u s2 x y H2,Inv X pins σ H2 s2->RelV x v->RelV y u->R x y H2->wpAny (model X.prog X.w) X.A (f v u) Q X.xe s2) :
  wpAny (model X.prog X.w) X.A (eval a X.env) (λ v s₁=>wpAny (model X.prog X.w) X.A (eval b X.env) (λ u s₂=>wpAny (model X.prog X.w) X.A (f v u) Q X.xe s₂) X.xe s₁) X.xe s:=by
 refine thn (ha pins s σ H _ I h) λ v s1 ⟨x,H1,I1,r1,q1⟩=>?_
 refine thn (hb pins s1 σ H1 _ I1 q1) λ u s2 ⟨y,H2,I2,r2,q2⟩=>?_
 exact hf v u s2 x y H2 I2 r1 r2 q2
theorem zq0 {op:Operator} {r:R2} (ho:OpR X (binaryOp op) r) (ha:PE X a ta) (hb:PE X b tb):PE X (.BinOp a op b pos) (tOp r ta tb):=by
 intro pins s σ H Q I h
 exact wpAny_BinOp (binT ha hb I h λ v u s2 x y H2 I2 rx ry q=>ho pins s2 σ H2 x y v u Q I2 rx ry q)
theorem za21 {op:UnaryOp} {r:V->Hp->VK->Prop} (ho:UnR X (unaryOp op) r) (ha:PE X a ta):PE X (.UnaryOp op a pos) (tUn r ta):=by
 intro pins s σ H Q I h
 exact UnaryOp_ (thn (ha pins s σ H _ I h) λ v s1 ⟨x,H1,I1,r1,q1⟩=>ho pins s1 σ H1 x v Q I1 r1 q1)
theorem opI {f:Value->Value->Sem Value} {C:Int->Int->Prop} {g:Int->Int->Int}
  (rule:∀ (i j:Int) (t u:Tok) (s:Shared) (Q:Value->Shared->Prop) (E:Value->Shared->Prop),C i j->Q (.int (g i j) s.toks) { s with toks:=s.toks+1 }->wpAny (model X.prog X.w) X.A (f (.int i t) (.int j u)) Q E s) :
  OpR X f (rI C λ i j=>.int (g i j)):=by
 intro pins s σ H x y v u Q I rx ry h
 obtain ⟨i,j,rfl,rfl,hc,q⟩:=h
 obtain ⟨t,rfl⟩:=rx
 obtain ⟨t',rfl⟩:=ry
 exact rule i j t t' s _ _ hc ⟨.int (g i j),H,I.tok _,⟨_,rfl⟩,q⟩
theorem opI0 {f:Value->Value->Sem Value} {g:Int->Int->Int}
  (rule:∀ (i j:Int) (t u:Tok) (s:Shared) (Q:Value->Shared->Prop) (E:Value->Shared->Prop),Q (.int (g i j) s.toks) { s with toks:=s.toks+1 }->wpAny (model X.prog X.w) X.A (f (.int i t) (.int j u)) Q E s) :
  OpR X f (rI0 λ i j=>.int (g i j)):=by
 intro pins s σ H x y v u Q I rx ry h
 obtain ⟨i,j,rfl,rfl,q⟩:=h
 obtain ⟨t,rfl⟩:=rx
 obtain ⟨t',rfl⟩:=ry
 exact rule i j t t' s _ _ ⟨.int (g i j),H,I.tok _,⟨_,rfl⟩,q⟩
theorem opB0 {f:Value->Value->Sem Value} {g:Int->Int->Bool}
  (rule:∀ (i j:Int) (t u:Tok) (s:Shared) (Q:Value->Shared->Prop) (E:Value->Shared->Prop),Q (.bool (g i j)) s->wpAny (model X.prog X.w) X.A (f (.int i t) (.int j u)) Q E s) :
  OpR X f (rI0 λ i j=>.bl (g i j)):=by
 intro pins s σ H x y v u Q I rx ry h
 obtain ⟨i,j,rfl,rfl,q⟩:=h
 obtain ⟨t,rfl⟩:=rx
 obtain ⟨t',rfl⟩:=ry
 exact rule i j t t' s _ _ ⟨.bl (g i j),H,I,rfl,q⟩
def CPow (i j:Int):Prop:=0<=j/\j<=1000000/\i.natAbs < 2 ^ 64
def CMul (i j:Int):Prop:=(-(2 ^ 64) < i/\i < 2 ^ 64) \/ (-(2 ^ 64) < j/\j < 2 ^ 64)
theorem CMul.ok {i j:Int} (h:CMul i j):IntMulOk i j:=by
 rcases h with ⟨h1,h2⟩|⟨h1,h2⟩
 ·exact .of_left (intBits_le_64 h1 h2)
 ·exact .of_right (intBits_le_64 h1 h2)
theorem zm31:OpR X (binaryOp .Add) (rI0 λ i j=>.int (i+j)):=opI0 λ _ _ _ _ _ _ _ q=>add_int q
theorem zib:OpR X (binaryOp .Sub) (rI0 λ i j=>.int (i - j)):=opI0 λ _ _ _ _ _ _ _ q=>sub_int q
theorem zv41:OpR X (binaryOp .Mult) (rI CMul λ i j=>.int (i * j)):=opI λ _ _ _ _ _ _ _ hc q=>mul_int q hc.ok
theorem ze1:OpR X (binaryOp .Mod) (rI (λ _ j=>0 < j) λ i j=>.int (i % j)):=opI λ i j _ _ _ _ _ hc q=>by
 have h1:(0:Int) < j:=hc
 exact mod_int' (by lia) (by rw [Int.fmod_eq_emod_of_nonneg i (by lia)];exact q)
theorem zbe:OpR X (binaryOp .Pow) (rI CPow λ i j=>.int (i ^ j.toNat)):=opI λ _ _ _ _ _ _ _ hc q=>pow_int_small hc.1 hc.2.1 hc.2.2 q
theorem unI {f:Value->Sem Value} {g:Int->Int}
  (rule:∀ (i:Int) (t:Tok) (s:Shared) (Q:Value->Shared->Prop) (E:Value->Shared->Prop),Q (.int (g i) s.toks) { s with toks:=s.toks+1 }->wpAny (model X.prog X.w) X.A (f (.int i t)) Q E s) :
  UnR X f (rU λ i=>.int (g i)):=by
 intro pins s σ H x v Q I rx h
 obtain ⟨i,rfl,q⟩:=h
 obtain ⟨t,rfl⟩:=rx
 exact rule i t s _ _ ⟨.int (g i),H,I.tok _,⟨_,rfl⟩,q⟩
theorem zaq:UnR X (unaryOp .USub) (rU λ i=>.int (-i)):=unI λ _ _ _ _ _ q=>neg_int q
end
def scal:V->V->Bool
|.non,.non=>true|.non,.int _=>true|.int _,.non=>true|.non,.bl _=>true|.bl _,.non=>true|.non,.str _=>true|.str _,.non=>true
|.int _,.int _=>true|.bl _,.bl _=>true|.str _,.str _=>true|.byt _,.byt _=>true
|.int _,.str _=>true|.str _,.int _=>true|.bl _,.str _=>true|.str _,.bl _=>true
|_,_=>false
def rEq:R2:=λ x y H Q=>scal x y=true/\Q (.bl (decide (x=y))) H
def rNe:R2:=λ x y H Q=>scal x y=true/\Q (.bl (!decide (x=y))) H
theorem zvg {i j:Int}:decide (V.int i=V.int j)=(i == j):=by
 rw [Bool.eq_iff_iff]
 simp
theorem zqn {i j:Bool}:decide (V.bl i=V.bl j)=(i == j):=by
 rw [Bool.eq_iff_iff]
 simp
theorem zzf {i j:Str}:decide (V.str i=V.str j)=(i == j):=by
 rw [Bool.eq_iff_iff]
 simp
theorem zcr {i j:Array UInt8}:decide (V.byt i=V.byt j)=(i.toList == j.toList):=by
 rw [Bool.eq_iff_iff]
 cases i
 cases j
 simp
section
variable {X:Cx} {a b c:Expr} {ta tb tc:TE} {pos:Pos}
theorem zb2 {pins:List (Addr×Obj)} {σ:St} {H:Hp} {s:Shared} {Q:VK} {k k':Bool} (I:Inv X pins σ H s) (q:Q (.bl k) H) (e:k=k'):EP X pins σ Q (.bool k') s:=by
 subst e
 exact ⟨.bl k,H,I,rfl,q⟩
theorem zi91:OpR X (compareOp .Eq) rEq:=by
 intro pins s σ H x y v u Q I rx ry h
 obtain ⟨hs,q⟩:=h
 cases x with
|non =>
  cases rx
  cases y with
 |non=>cases ry;exact PySem.EqNone.eq_none_none (zb2 I q (by simp))
 |bl j=>cases ry;exact PySem.EqNone.eq_none_bool (zb2 I q (by simp))
 |int j=>obtain ⟨t',rfl⟩:=ry;exact PySem.EqNone.eq_none_int (zb2 I q (by simp))
 |str j=>obtain ⟨t',rfl⟩:=ry;exact PySem.EqNone.eq_none_str (zb2 I q (by simp))
 |_=>exact absurd (show false=true from hs) Bool.false_ne_true
|bl i =>
  cases rx
  cases y with
 |non=>cases ry;exact PySem.EqNone.eq_bool_none (zb2 I q (by simp))
 |bl j=>cases ry;exact eq_bool (zb2 I q zqn)
 |str j=>obtain ⟨t',rfl⟩:=ry;exact PySem.EqMixed.eq_bool_str (zb2 I q (by simp))
 |_=>exact absurd (show false=true from hs) Bool.false_ne_true
|int i =>
  obtain ⟨t,rfl⟩:=rx
  cases y with
 |non=>cases ry;exact PySem.EqNone.eq_int_none (zb2 I q (by simp))
 |int j=>obtain ⟨t',rfl⟩:=ry;exact eq_int (zb2 I q zvg)
 |str j=>obtain ⟨t',rfl⟩:=ry;exact PySem.EqMixed.eq_int_str (zb2 I q (by simp))
 |_=>exact absurd (show false=true from hs) Bool.false_ne_true
|str i =>
  obtain ⟨t,rfl⟩:=rx
  cases y with
 |non=>cases ry;exact PySem.EqNone.eq_str_none (zb2 I q (by simp))
 |bl j=>cases ry;exact PySem.EqMixed.eq_str_bool (zb2 I q (by simp))
 |int j=>obtain ⟨t',rfl⟩:=ry;exact PySem.EqMixed.eq_str_int (zb2 I q (by simp))
 |str j=>obtain ⟨t',rfl⟩:=ry;exact eq_str (zb2 I q zzf)
 |_=>exact absurd (show false=true from hs) Bool.false_ne_true
|byt i =>
  obtain ⟨t,rfl⟩:=rx
  cases y with
 |byt j=>obtain ⟨t',rfl⟩:=ry;exact PySem.W.eq_bytes (zb2 I q zcr)
 |_=>exact absurd (show false=true from hs) Bool.false_ne_true
|_=>cases y <;> exact absurd (show false=true from hs) Bool.false_ne_true
theorem zma1:OpR X (compareOp .NotEq) rNe:=by
 intro pins s σ H x y v u Q I rx ry h
 obtain ⟨hs,q⟩:=h
 cases x with
|non =>
  cases rx
  cases y with
 |non=>cases ry;exact PySem.EqNone.ne_none_none (zb2 I q (by simp))
 |bl j=>cases ry;exact PySem.EqNone.ne_none_bool (zb2 I q (by simp))
 |int j=>obtain ⟨t',rfl⟩:=ry;exact PySem.EqNone.ne_none_int (zb2 I q (by simp))
 |str j=>obtain ⟨t',rfl⟩:=ry;exact PySem.EqNone.ne_none_str (zb2 I q (by simp))
 |_=>exact absurd (show false=true from hs) Bool.false_ne_true
|bl i =>
  cases rx
  cases y with
 |non=>cases ry;exact PySem.EqNone.ne_bool_none (zb2 I q (by simp))
 |bl j=>cases ry;exact ne_bool (zb2 I q (congrArg not zqn))
 |str j=>obtain ⟨t',rfl⟩:=ry;exact PySem.EqMixed.ne_bool_str (zb2 I q (by simp))
 |_=>exact absurd (show false=true from hs) Bool.false_ne_true
|int i =>
  obtain ⟨t,rfl⟩:=rx
  cases y with
 |non=>cases ry;exact PySem.EqNone.ne_int_none (zb2 I q (by simp))
 |int j=>obtain ⟨t',rfl⟩:=ry;exact ne_int (zb2 I q (congrArg not zvg))
 |str j=>obtain ⟨t',rfl⟩:=ry;exact PySem.EqMixed.ne_int_str (zb2 I q (by simp))
 |_=>exact absurd (show false=true from hs) Bool.false_ne_true
|str i =>
  obtain ⟨t,rfl⟩:=rx
  cases y with
 |non=>cases ry;exact PySem.EqNone.ne_str_none (zb2 I q (by simp))
 |bl j=>cases ry;exact PySem.EqMixed.ne_str_bool (zb2 I q (by simp))
 |int j=>obtain ⟨t',rfl⟩:=ry;exact PySem.EqMixed.ne_str_int (zb2 I q (by simp))
 |str j=>obtain ⟨t',rfl⟩:=ry;exact ne_str (zb2 I q (congrArg not zzf))
 |_=>exact absurd (show false=true from hs) Bool.false_ne_true
|byt i =>
  obtain ⟨t,rfl⟩:=rx
  cases y with
 |byt j=>obtain ⟨t',rfl⟩:=ry;exact PySem.W.ne_bytes (zb2 I q (congrArg not zcr))
 |_=>exact absurd (show false=true from hs) Bool.false_ne_true
|_=>cases y <;> exact absurd (show false=true from hs) Bool.false_ne_true
theorem ztt:OpR X (compareOp .Lt) (rI0 λ i j=>.bl (decide (i < j))):=opB0 λ _ _ _ _ _ _ _ q=>lt_int q
theorem zt61:OpR X (compareOp .LtE) (rI0 λ i j=>.bl (decide (i<=j))):=opB0 λ _ _ _ _ _ _ _ q=>le_int q
theorem zoo:OpR X (compareOp .Gt) (rI0 λ i j=>.bl (decide (j < i))):=opB0 λ _ _ _ _ _ _ _ q=>gt_int q
theorem zg01:OpR X (compareOp .GtE) (rI0 λ i j=>.bl (decide (j<=i))):=opB0 λ _ _ _ _ _ _ _ q=>ge_int q
theorem OpR.or {f:Value->Value->Sem Value} {r r':R2} (h:OpR X f r) (h':OpR X f r'):OpR X f (λ x y H Q=>r x y H Q \/ r' x y H Q):=by
 intro pins s σ H x y v u Q I rx ry q
 rcases q with q|q
 ·exact h pins s σ H x y v u Q I rx ry q
 ·exact h' pins s σ H x y v u Q I rx ry q
theorem zf1 (b:Expr) {op:CmpOp} (h:op≠.In:=by decide) (h2:op≠.NotIn:=by decide):behindInMarks op b=false:=by
 have e1:(op == CmpOp.In)=false:=by cases op <;> first|rfl|exact absurd rfl h
 have e2:(op == CmpOp.NotIn)=false:=by cases op <;> first|rfl|exact absurd rfl h2
 cases b <;> simp [behindInMarks,e1,e2]
theorem zjd {op:CmpOp} {r:R2} (ho:OpR X (compareOp op) r) (ha:PE X a ta) (hb:PE X b tb) (hm:behindInMarks op b=false):PE X (.Compare a [op] [b] pos) (tOp r ta tb):=by
 intro pins s σ H Q I h
 exact wpAny_Compare1 (binT ha hb I h λ v u s2 x y H2 I2 rx ry q=>ho pins s2 σ H2 x y v u Q I2 rx ry q) hm
def zk81 (t:TE):TT:=λ σ H Q=>t σ H λ x H'=>∃ k,x=.bl k/\Q k H'
theorem zmy {op:CmpOp} {r:R2} (ho:OpR X (compareOp op) r) (ha:PE X a ta) (hb:PE X b tb) (hm:behindInMarks op b=false):PT X (.Compare a [op] [b] pos) (zk81 (tOp r ta tb)):=by
 intro pins s σ H Q I h
 refine wpAny_isTrue_Compare1 (thn (ha pins s σ H _ I h) λ v s1 ⟨x,H1,I1,r1,q1⟩=>thn (hb pins s1 σ H1 _ I1 q1) λ u s2 ⟨y,H2,I2,r2,q2⟩ =>
  thn (ho pins s2 σ H2 x y v u _ I2 r1 r2 q2) λ c s3 ⟨z,H3,I3,r3,k,e,q3⟩=>?_) hm
 subst e
 cases r3
 exact wpAny_truthy_bool ⟨H3,I3,q3⟩
def zlt (r r':R2) (ta tb tc:TE):TE:=λ σ H Q=>ta σ H λ x H1=>tb σ H1 λ y H2=>r x y H2 λ z H3=>∃ k,z=.bl k /\
 (if k=true then tc σ H3 λ w' H4=>r' y w' H4 Q else Q (.bl false) H3)
theorem zys {op op':CmpOp} {r r':R2} (ho:OpR X (compareOp op) r) (ho':OpR X (compareOp op') r') (ha:PE X a ta) (hb:PE X b tb) (hc:PE X c tc)
  (hm:lastMarks [op,op'] [b,c]=false:=by with_unfolding_all rfl):PT X (.Compare a [op,op'] [b,c] pos) (zk81 (zlt r r' ta tb tc)):=by
 intro pins s σ H Q I h
 refine isTrue_chain (thn (ha pins s σ H _ I h) λ v s1 ⟨x,H1,I1,r1,q1⟩=>test_link (thn (hb pins s1 σ H1 _ I1 q1) λ u s2 ⟨y,H2,I2,r2,q2⟩ =>
  thn (ho pins s2 σ H2 x y v u _ I2 r1 r2 q2) λ d s3 ⟨z,H3,I3,r3,k,e,q3⟩=>?_)) hm
 subst e
 cases r3
 refine wpAny_truthy_bool ?_
 cases k with
|false =>
  obtain ⟨k',e',q'⟩:=q3
  cases e'
  exact ite_ff ⟨H3,I3,q'⟩
|true =>
  refine ite_tt (test_last (thn (hc pins s3 σ H3 _ I3 q3) λ w' s4 ⟨z',H4,I4,r4,q4⟩=>thn (ho' pins s4 σ H4 y z' u w' _ I4 r2 r4 q4) λ d' s5 ⟨z2,H5,I5,r5,k2,e2,q5⟩=>?_))
  subst e2
  cases r5
  exact wpAny_truthy_bool ⟨H5,I5,q5⟩
def TruV (K:Fg) (x:V) (H:Hp) (k:Bool):Prop :=
 match x with
|.non=>k=false
|.bl b=>k=b
|.int i=>k=(i != 0)
|.str y=>y.length<=sizeLine/\k=((y.length:Int) != 0)
|.byt y=>y.size<=sizeLine/\k=((y.size:Int) != 0)
|.ref p=>(∃ xs,SqL K H p xs/\k=!xs.isEmpty) \/ (∃ xs,SqT K H p xs/\k=!xs.isEmpty) \/ ∃ kvs,H p=some (.dK kvs)/\k=!kvs.isEmpty
|_=>False
theorem zym {κ:Type} {kvs:List (κ×V)} {vs:List (κ×Value)} (r:KV kvs vs):(!vs.isEmpty)=!kvs.isEmpty:=by
 cases r <;> rfl
theorem zhh {xs:List V} {its:List Value} (r:Vals xs its):(!its.toArray.isEmpty)=!xs.isEmpty:=by
 cases r <;> simp
theorem zri:(sizeLine:Nat) < 2 ^ 63:=by rw [sizeLine_eq];decide
theorem zf51:TruR X (λ x H Q=>∃ k,TruV X.K x H k/\Q k H):=by
 intro pins s σ H x v Q I rx h
 obtain ⟨k,e,q⟩:=h
 have hl:=zri
 have hs:sizeLine=16777216:=sizeLine_eq
 cases x with
|non =>
  cases rx
  have e':k=false:=e
  subst e'
  exact truthy_none ⟨H,I,q⟩
|bl b =>
  cases rx
  have e':k=b:=e
  subst e'
  exact wpAny_truthy_bool ⟨H,I,q⟩
|int i =>
  obtain ⟨t,rfl⟩:=rx
  have e':k=(i != 0):=e
  subst e'
  exact PySem.P.truthy_int ⟨H,I,q⟩
|str y =>
  obtain ⟨t,rfl⟩:=rx
  obtain ⟨hy,e'⟩:y.length<=sizeLine/\k=((y.length:Int) != 0):=e
  subst e'
  exact PySem.P.truthy_str (by lia) ⟨H,I.tok _,q⟩
|byt y =>
  obtain ⟨t,rfl⟩:=rx
  obtain ⟨hy,e'⟩:y.size<=sizeLine/\k=((y.size:Int) != 0):=e
  subst e'
  exact PySem.W.truthy_bytes (by lia) ⟨H,I.tok _,q⟩
|ref p =>
  cases rx
  have e':(∃ xs,SqL X.K H p xs/\k=!xs.isEmpty) \/ (∃ xs,SqT X.K H p xs/\k=!xs.isEmpty) \/ ∃ kvs,H p=some (.dK kvs)/\k=!kvs.isEmpty:=e
  rcases e' with ⟨xs,hx,e'⟩|⟨xs,hx,e'⟩|⟨kvs,hx,e'⟩
  ·subst e'
   obtain ⟨its,r,pl,hz⟩:=I.list hx
   have hlen:=r.length
   exact wpAny_truthy_list pl.isList (by simp only [List.size_toArray];lia) ⟨H,I.tok _,by rw [zhh r];exact q⟩
  ·subst e'
   obtain ⟨its,r,pl,hz⟩:=I.tuple hx
   have hlen:=r.length
   exact truthy_tuple pl (by simp only [List.size_toArray];lia) ⟨H,I.tok _,by rw [zhh r];exact q⟩
  ·subst e'
   obtain ⟨hz,hS,vs,r,m⟩:kvs.length<=sizeLine/\(p == sysModules)=false/\∃ vs,KV kvs vs/\s.heap.DictOf (za3 X.prog X.w) p vs:=I.hok p _ hx
   have hlen:kvs.length=vs.length:=Paired.length r
   exact wpAny_truthy_dict hS m (by lia) ⟨H,I.tok _,by rw [zym r];exact q⟩
|_=>exact (show False from e).elim
theorem zyu (ha:PE X a ta) (he:∀ whole,isTrue a X.env whole=(do let v <- whole;standAt a.pos;holding [v] (truthy v))) :
  PT X a (λ σ H Q=>ta σ H λ x H'=>∃ k,TruV X.K x H' k/\Q k H'):=by
 intro pins s σ H Q I h
 exact isTrue_plain (thn (ha pins s σ H _ I h) λ v s1 ⟨x,H1,I1,r1,q1⟩=>zf51 pins s1 σ H1 x v Q I1 r1 q1) (he _)
theorem zkn:OpR X (binaryOp .Add) (λ x y H Q=>∃ i j,x=.str i/\y=.str j/\i.length+j.length<=sizeLine/\Q (.str (i++j)) H):=by
 intro pins s σ H x y v u Q I rx ry h
 obtain ⟨i,j,rfl,rfl,hz,q⟩:=h
 obtain ⟨t,rfl⟩:=rx
 obtain ⟨t',rfl⟩:=ry
 exact add_str (λ t' tk=>⟨.str (i++j),H,I.tok _,⟨_,rfl⟩,q⟩) hz
theorem zmr {x:V} {us:List Value} (r:Vals [x] us):∃ u,us=[u]/\RelV x u:=by
 cases r with
|cons r1 r2=>cases r2;exact ⟨_,rfl,r1⟩
theorem zz11 {x y:V} {us:List Value} (r:Vals [x,y] us):∃ u w',us=[u,w']/\RelV x u/\RelV y w':=by
 cases r with
|cons r1 r2 =>
  cases r2 with
 |cons r3 r4=>cases r4;exact ⟨_,_,rfl,r1,r3⟩
theorem zpu:zg9 X (.builtin "abs") (λ xs H Q=>∃ i,xs=[.int i]/\Q (.int (if i < 0 then -i else i)) H):=by
 intro pins s σ H xs us Q I r h
 obtain ⟨i,rfl,q⟩:=h
 obtain ⟨u,rfl,t,rfl⟩:=zmr r
 exact call_abs_int λ u tk=>⟨.int (if i < 0 then -i else i),H,I.tok _,⟨_,rfl⟩,q⟩
theorem zyp (hc:X.calm=true):zg9 X (.builtin "max") (λ xs H Q=>∃ i j,xs=[.int i,.int j]/\Q (.int (if j > i then j else i)) H):=by
 intro pins s σ H xs us Q I r h
 obtain ⟨i,j,rfl,q⟩:=h
 obtain ⟨u,w',rfl,⟨t,rfl⟩,⟨t',rfl⟩⟩:=zz11 r
 refine max_two_ints (I.ok.hd hc) λ h' tk k=>⟨_,H,I.kept k,?_,q⟩
 by_cases hj:j > i
 ·rw [if_pos hj,if_pos hj];exact ⟨_,rfl⟩
 ·rw [if_neg hj,if_neg hj];exact ⟨_,rfl⟩
theorem zto (hc:X.calm=true):zg9 X (.builtin "min") (λ xs H Q=>∃ i j,xs=[.int i,.int j]/\Q (.int (if j < i then j else i)) H):=by
 intro pins s σ H xs us Q I r h
 obtain ⟨i,j,rfl,q⟩:=h
 obtain ⟨u,w',rfl,⟨t,rfl⟩,⟨t',rfl⟩⟩:=zz11 r
 refine min_two_ints (I.ok.hd hc) λ h' tk k=>⟨_,H,I.kept k,?_,q⟩
 by_cases hj:j < i
 ·rw [if_pos hj,if_pos hj];exact ⟨_,rfl⟩
 ·rw [if_neg hj,if_neg hj];exact ⟨_,rfl⟩
theorem zup:zg9 X (.type "int") (λ xs H Q=>(∃ i,xs=[.int i]/\Q (.int i) H) \/ ∃ k,xs=[.bl k]/\Q (.int (if k then 1 else 0)) H):=by
 intro pins s σ H xs us Q I r h
 rcases h with ⟨i,rfl,q⟩|⟨k,rfl,q⟩
 ·obtain ⟨u,rfl,t,rfl⟩:=zmr r
  exact call_int_int ⟨.int i,H,I,⟨_,rfl⟩,q⟩
 ·obtain ⟨u,rfl,r1⟩:=zmr r
  cases r1
  exact call_int_bool ⟨.int (if k then 1 else 0),H,I.tok _,⟨_,rfl⟩,q⟩
def LenV (K:Fg) (x:V) (H:Hp) (n:Nat):Prop :=
 match x with
|.str y=>y.length<=sizeLine/\n=y.length
|.byt y=>y.size<=sizeLine/\n=y.size
|.ref p=>(∃ xs,SqL K H p xs/\n=xs.length) \/ ∃ xs,SqT K H p xs/\n=xs.length
|_=>False
theorem zws:zg9 X (.builtin "len") (λ xs H Q=>∃ x n,xs=[x]/\LenV X.K x H n/\Q (.int n) H):=by
 intro pins s σ H xs us Q I r h
 obtain ⟨x,n,rfl,e,q⟩:=h
 obtain ⟨u,rfl,rx⟩:=zmr r
 have hl:=zri
 have hs:sizeLine=16777216:=sizeLine_eq
 cases x with
|str y =>
  obtain ⟨t,rfl⟩:=rx
  obtain ⟨hy,e'⟩:y.length<=sizeLine/\n=y.length:=e
  subst e'
  exact len_str (by lia) ⟨.int _,H,I.tok _,⟨_,rfl⟩,q⟩
|byt y =>
  obtain ⟨t,rfl⟩:=rx
  obtain ⟨hy,e'⟩:y.size<=sizeLine/\n=y.size:=e
  subst e'
  exact PySem.W.len_bytes (by lia) ⟨.int _,H,I.tok _,⟨_,rfl⟩,q⟩
|ref p =>
  cases rx
  have e':(∃ xs,SqL X.K H p xs/\n=xs.length) \/ ∃ xs,SqT X.K H p xs/\n=xs.length:=e
  rcases e' with ⟨xs,hx,e'⟩|⟨xs,hx,e'⟩
  ·subst e'
   obtain ⟨its,r',pl,hz⟩:=I.list hx
   have hlen:=r'.length
   exact Calls.call_len_list pl.isList (by simp only [List.size_toArray];lia) ⟨.int xs.length,H,I.tok _,⟨_,by simp only [List.size_toArray];rw [hlen]⟩,q⟩
  ·subst e'
   obtain ⟨its,r',pl,hz⟩:=I.tuple hx
   have hlen:=r'.length
   exact len_tuple pl (by simp only [List.size_toArray];lia) ⟨.int xs.length,H,I.tok _,⟨_,by simp only [List.size_toArray];rw [hlen]⟩,q⟩
|_=>exact (show False from e).elim
end
structure ObjM (h:Heap) (x dx C:Addr) (mA:Str->Option Value):Prop where
 obj:h.get? x=some (PySem.W.instObj C dx)
 ns:h.Ns1 dx mA
 ne:dx≠x
theorem zwq {h:Heap} {dx:Addr} {mA:Str->Option Value} (n:h.Ns1 dx mA):∃ od,h.get? dx=some od/\∀ name,PySem.W.lookIn name od=some (mA name):=by
 obtain ⟨o,es,ep,ho,hd,hk,_,hm⟩:=n
 refine ⟨o,ho,λ name=>?_⟩
 have e:=hm name
 unfold nsFind findBy at e
 rw [<- Array.find?_toList] at e
 unfold PySem.W.lookIn
 rw [hd]
 dsimp only
 split
 ·rename_i y q
  rw [q] at e
  exact congrArg some e
 ·rename_i q
  rw [q] at e
  have a:es.toList.any (·.refKey)=false:=by
   rw [List.any_eq_false]
   intro y hy
   obtain ⟨z,t,hkey⟩:=hk y (Array.mem_toList_iff.mp hy)
   simp [DictEntry.refKey,hkey]
  have a':¬ es.toList.any (·.refKey)=true:=by rw [a];exact Bool.false_ne_true
  rw [if_neg a']
  exact congrArg some e
theorem ObjM.look {h:Heap} {x dx C:Addr} {mA:Str->Option Value} (I:ObjM h x dx C mA):∃ od,PySem.W.InstAt h x (PySem.W.instObj C dx) C (some od)/\∀ name,PySem.W.lookIn name od=some (mA name) :=
 let ⟨od,ho,hl⟩:=zwq I.ns
 ⟨od,⟨I.obj,rfl,rfl,ho⟩,hl⟩
section
variable {prog:Program} {w:World} {A:Around} {E:Value->Shared->Prop} {s:Shared} {K:Fg} {x dx C f:Addr} {mA:Str->Option Value} {name:Str} {v:Value}
theorem zzy {expr:Bool} {Q:Value->Shared->Prop} (X:K.In s.heap) (I:ObjM s.heap x dx C mA) (hg:PySem.W.plainGet K C name=true) (hh:PySem.W.hasDictIn K C=true)
  (ha:PySem.W.findIn K (.ref C) name=some none) (hv:mA name=some v) (hv':PySem.W.handedIn v=true) (h:Q v { s with toks:=s.toks+1 }) :
  wpAny (model prog w) A (getAttr (.ref x) name expr) Q E s:=by
 obtain ⟨od,J,hl⟩:=I.look
 exact PySem.W.get_value X J (PySem.W.plainGet_of hg).1 (PySem.W.findObj_own hh ha rfl (by rw [hl,hv])) hv' h
theorem zlu {pl:Sem Bool} {Q:Value×List Value->Shared->Prop} (X:K.In s.heap) (I:ObjM s.heap x dx C mA) (hg:PySem.W.plainGet K C name=true)
  (hf:PySem.W.findIn K (.ref C) name=some (some (.ref f))) (ht:PySem.W.isFn K (.ref f)=true) (hv:mA name=none) (h:Q (.ref f,[.ref x]) s) :
  wpAny (model prog w) A (getMethod (.ref x) name pl) Q E s:=by
 obtain ⟨od,J,hl⟩:=I.look
 exact PySem.W.method_fn X J (PySem.W.plainGet_of hg).1 (PySem.W.plainGet_of hg).2 hf (beq_iff_eq.mp ht) (by show (PySem.W.lookIn name od).map (·.isSome)=some false;rw [hl,hv];rfl) h
theorem zpw {ns:List Str} {Q:Unit->Shared->Prop} (X:K.In s.heap) (I:ObjM s.heap x dx C mA)
  (hs:PySem.W.findIn K (.ref C) "__setattr__"=some (some (.builtin "object.__setattr__"))) (hp:PySem.W.plainOver K C=true) (ht:PySem.W.takerIn K C name=some none) (hh:PySem.W.hasDictIn K C=true)
  (hw:PySem.Within mA ns) (hsz:ns.length<=sizeLine)
  (h:∀ h',ObjM h' x dx C (λ y=>if y=name then some v else mA y)->Heap.SameBut dx s.heap h'->Q () { s with heap:=h',toks:=s.toks+2 }) :
  wpAny (model prog w) A (setAttr (.ref x) name v) Q E s:=by
 obtain ⟨od,J,hl⟩:=I.look
 refine PySem.W.set_plain X J hs (PySem.W.osa_open (s:={ s with toks:=s.toks+1 }) (r:=none) X J hp ht λ b=>?_)
 obtain ⟨cd,hc,hd'⟩:=PySem.W.any_some hh
 have hx:s.heap.get? x=some ⟨.ref C,some dx,.plain,#[]⟩:=I.obj
 refine wpAny_bind (wpAny_pure (wpAny_bind (wpAny_bind (wpAny_loadPart hx (wpAny_bind (PySem.W.Looks.here (s:={ s with toks:=s.toks+1 }) (PySem.W.looks_clsIn X hc) ?_))))))
 rw [hd']
 refine wpAny_pure (a:=some dx) (wpAny_bind (wpAny_pure (wpAny_bind ?_)))
 refine wpAny_nsSet1 (s:={ s with toks:=s.toks+1 }) I.ns λ h' hn2 hs2=>?_
 obtain ⟨oD,esD,epD,hoD,hdD,hcD⟩:=hn2.count (PySem.Within.cons name v hw)
 refine wpAny_bind (wpAny_lookBehind hoD (by rw [hdD];exact pastItsLine_dict (Nat.le_trans hcD (by rw [List.length_cons];lia))) ?_)
 exact wpAny_pure (h _ ⟨(hs2.2 _ (Ne.symm I.ne)).trans I.obj,hn2,I.ne⟩ hs2)
theorem zzu {R:Result->Shared->Prop} {vs:List Value} {kw:List (Str×Value)} (X:K.In s.heap) (hm:PySem.W.makesIn K C=true)
  (hi:PySem.W.findIn K (.ref C) "__init__"=some (some (.ref f))) (hf:PySem.W.typeIn K (.ref f)=some (.type "function"))
  (h:codeAny (model prog w) (A.under (.builtin "type.__call__" ⟨.ref C :: vs,kw⟩)) (.call (.ref f) ⟨.ref (s.heap.objs.size+1) :: vs,kw⟩) (PySem.W.InitBack (s.heap.objs.size+1) R)
   { s with heap:=(s.heap.push PySem.W.emptyDict).push (PySem.W.instObj C s.heap.objs.size) }) :
  codeAny (model prog w) A (.call (.ref C) ⟨vs,kw⟩) R s:=by
 obtain ⟨hh,g,d,t,os⟩:=s
 exact PySem.W.make_core (PySem.W.makes_of X hm) (PySem.W.looks_findIn X hi) (λ self=>PySem.W.bind_fn X self hf) (.inl rfl) h
end
def putF (f:Str) (v:V):List (Str×V)->List (Str×V)
|[]=>[(f,v)]
|(g,x) :: r=>if g=f then (g,v) :: r else (g,x) :: putF f v r
theorem zld (f g:Str) (v:V):∀ fs:List (Str×V),(putF f v fs).lookup g=if g=f then some v else fs.lookup g
|[]=>by
  show List.lookup g [(f,v)]=_
  by_cases h:g=f
  ·have hb:(g == f)=true:=beq_iff_eq.mpr h
   simp only [List.lookup,hb,if_pos h]
  ·have hb:(g == f)=false:=beq_eq_false_iff_ne.mpr h
   simp only [List.lookup,hb,if_neg h]
|(k,x) :: r=>by
  have ih:=zld f g v r
  rw [show putF f v ((k,x) :: r)=(if k=f then (k,v) :: r else (k,x) :: putF f v r) from rfl]
  by_cases hk:k=f
  ·rw [if_pos hk]
   by_cases h:g=k
   ·have hb:(g == k)=true:=beq_iff_eq.mpr h
    simp only [List.lookup,hb,if_pos (h.trans hk)]
   ·have hb:(g == k)=false:=beq_eq_false_iff_ne.mpr h
    simp only [List.lookup,hb,if_neg (λ e:g=f=>h (e.trans hk.symm))]
  ·rw [if_neg hk]
   by_cases h:g=k
   ·have hb:(g == k)=true:=beq_iff_eq.mpr h
    simp only [List.lookup,hb,if_neg (λ e:g=f=>hk (h.symm.trans e))]
   ·have hb:(g == k)=false:=beq_eq_false_iff_ne.mpr h
    simp only [List.lookup,hb]
    exact ih
theorem zrf (f:Str) (v:V):∀ fs:List (Str×V),f∈(putF f v fs).map (·.1)/\∀ g,g∈fs.map (·.1)->g∈(putF f v fs).map (·.1)
|[]=>⟨by simp [putF],λ g h=>by simp at h⟩
|(k,x) :: r=>by
  obtain ⟨i1,i2⟩:=zrf f v r
  rw [show putF f v ((k,x) :: r)=(if k=f then (k,v) :: r else (k,x) :: putF f v r) from rfl]
  by_cases hk:k=f
  ·rw [if_pos hk]
   subst hk
   exact ⟨by simp,λ g h=>by simpa using h⟩
  ·rw [if_neg hk]
   refine ⟨?_,λ g h=>?_⟩
   ·rw [List.map_cons]
    exact List.mem_cons_of_mem _ i1
   ·rw [List.map_cons] at h ⊢
    rcases List.mem_cons.mp h with e|e
    ·exact List.mem_cons.mpr (.inl e)
    ·exact List.mem_cons_of_mem _ (i2 g e)
theorem zrd (f:Str) (v:V):∀ fs:List (Str×V),(putF f v fs).length<=fs.length+1
|[]=>by simp [putF]
|(k,x) :: r=>by
  have ih:=zrd f v r
  rw [show putF f v ((k,x) :: r)=(if k=f then (k,v) :: r else (k,x) :: putF f v r) from rfl]
  by_cases hk:k=f
  ·rw [if_pos hk,List.length_cons,List.length_cons];lia
  ·rw [if_neg hk,List.length_cons,List.length_cons];lia
theorem RelO.some_of {v:V} {o:Option Value} (r:RelO (some v) o):∃ u,o=some u/\RelV v u:=by
 cases o with
|none=>exact (show False from r).elim
|some u=>exact ⟨u,rfl,r⟩
theorem RelO.none_of {o:Option Value} (r:RelO none o):o=none:=by
 cases o with
|none=>rfl
|some u=>exact (show False from r).elim
theorem zzo {v:V} {u:Value} (r:RelV v u):PySem.W.handedIn u=true:=by
 cases v with
|non=>cases (show u=Value.none from r);rfl
|bl b=>cases (show u=Value.bool b from r);rfl
|int i=>obtain ⟨t,e⟩:=(show ∃ t,u=Value.int i t from r);cases e;rfl
|str x=>obtain ⟨t,e⟩:=(show ∃ t,u=Value.str x t from r);cases e;rfl
|byt b=>obtain ⟨t,e⟩:=(show ∃ t,u=Value.bytes b t from r);cases e;rfl
|flt b=>obtain ⟨t,e⟩:=(show ∃ t,u=Value.float b t from r);cases e;rfl
|ref a=>cases (show u=Value.ref a from r);rfl
|ty n=>cases (show u=Value.type n from r);rfl
section
variable {P:Program} {w:World} {H H':Hp} {h h':Heap} {a C dx:Addr} {fs fs':List (Str×V)}
theorem zlk (hok:HOk P w H h) (e:H a=some (.ins C dx fs)):∃ mA,ObjM h a dx C mA/\(∀ f,RelO (fs.lookup f) (mA f))/\PySem.Within mA (fs.map (·.1))/\fs.length<=1000/\H dx=some (.own a):=by
 obtain ⟨d,z,ne,ob,mA,n,r,q⟩:=(show zm8 P w H h a (.ins C dx fs) from hok a _ e)
 exact ⟨mA,⟨ob,n,ne⟩,r,q,z,d⟩
end
structure Cls (K:Fg) (C:Addr):Prop where
 pg:PySem.W.plainGet K C Str.empty=true
 hd:PySem.W.hasDictIn K C=true
 po:PySem.W.plainOver K C=true
 sa:PySem.W.findIn K (.ref C) "__setattr__"=some (some (.builtin "object.__setattr__"))
theorem Cls.get {K:Fg} {C:Addr} (c:Cls K C) (f:Str):PySem.W.plainGet K C f=true:=c.pg
def zk1 (K:Fg) (C:Addr) (f:Str):Prop:=PySem.W.findIn K (.ref C) f=some none
theorem zk1.taker {K:Fg} {C:Addr} {f:Str} (n:zk1 K C f):PySem.W.takerIn K C f=some none:=by
 unfold PySem.W.takerIn
 rw [show PySem.W.findIn K (.ref C) f=some none from n]
 rfl
structure Con (K:Fg) (C:Addr) (f:Str) (v:V) (u:Value):Prop where
 at_:PySem.W.findIn K (.ref C) f=some (some u)
 rel:RelV v u
 get:PySem.W.specialIn K u "__get__"=some none
 cp:PySem.W.copiedNames.contains f=false
structure Meth (K:Fg) (C:Addr) (m:Str) (f:Addr):Prop where
 at_:PySem.W.findIn K (.ref C) m=some (some (.ref f))
 fn:PySem.W.isFn K (.ref f)=true
 kp:PySem.W.keepIn K (.ref f)=true
section
variable {X:Cx} {pins:List (Addr×Obj)} {σ:St} {H:Hp} {s:Shared} {a C dx:Addr} {fs:List (Str×V)} {f:Str} {v:V} {A:Around} {E:Value->Shared->Prop}
theorem zeh {b:Bool} {Q:Value->Shared->Prop} (I:Inv X pins σ H s) (e:H a=some (.ins C dx fs)) (c:Cls X.K C) (n:zk1 X.K C f) (l:fs.lookup f=some v)
  (h:∀ u s',Inv X pins σ H s'->RelV v u->Q u s'):wpAny (model X.prog X.w) A (getAttr (.ref a) f b) Q E s:=by
 obtain ⟨mA,O,r,_,_,_⟩:=zlk I.hok e
 obtain ⟨u,hu,ru⟩:=RelO.some_of (v:=v) (o:=mA f) (by rw [<- l];exact r f)
 exact zzy I.kIn O (c.get f) c.hd n hu (zzo ru) (h u _ (I.tok _) ru)
theorem zf5 {m:Str} {g:Addr} {pl:Sem Bool} {Q:Value×List Value->Shared->Prop} (I:Inv X pins σ H s) (e:H a=some (.ins C dx fs)) (c:Cls X.K C) (k:Meth X.K C m g) (l:fs.lookup m=none)
  (h:Q (.ref g,[.ref a]) s):wpAny (model X.prog X.w) A (getMethod (.ref a) m pl) Q E s:=by
 obtain ⟨mA,O,r,_,_,_⟩:=zlk I.hok e
 have hn:mA m=none:=RelO.none_of (by rw [<- l];exact r m)
 exact zlu I.kIn O (c.get m) k.at_ k.fn hn h
theorem zsg {y:V} {u:Value} {Q:Unit->Shared->Prop} (I:Inv X pins σ H s) (e:H a=some (.ins C dx fs)) (c:Cls X.K C) (n:zk1 X.K C f) (hl:fs.length < 1000) (ry:RelV y u)
  (h:∀ s',Inv X pins σ (upd H a (.ins C dx (putF f y fs))) s'->Q () s'):wpAny (model X.prog X.w) A (setAttr (.ref a) f u) Q E s:=by
 obtain ⟨mA,O,r,wi,_,ho⟩:=zlk I.hok e
 have hz:(fs.map (·.1)).length<=sizeLine:=by rw [List.length_map,sizeLine_eq];lia
 refine zpw I.kIn O c.sa c.po n.taker c.hd wi hz λ h' O' sb=>h _ ?_
 have hd:∃ o,h'.get? dx=some o:=let ⟨o,_,_,e',_⟩:=O'.ns;⟨o,e'⟩
 refine I.write (x:=a) (e:=dx) (by rw [e];exact True.intro) (.inr ho) (λ b q hb z=>(sb.2 b hb).trans z) hd ?_
 refine ⟨by rw [zw0 O.ne];exact ho,?_,O.ne,O'.obj,_,O'.ns,λ g=>?_,λ g hg=>?_⟩
 ·have:=zrd f y fs;lia
 ·show RelO ((putF f y fs).lookup g) (if g=f then some u else mA g)
  rw [zld]
  by_cases q:g=f
  ·rw [if_pos q,if_pos q];exact ry
  ·rw [if_neg q,if_neg q];exact r g
 ·by_cases q:g=f
  ·rw [q];exact (zrf f y fs).1
  ·refine (zrf f y fs).2 g (wi g λ z=>hg ?_)
   show (if g=f then some u else mA g)=none
   rw [if_neg q];exact z
theorem Inv.made (I:Inv X pins σ H s):Inv X pins σ (upd (upd H s.heap.objs.size (.own (s.heap.objs.size+1))) (s.heap.objs.size+1) (.ins C s.heap.objs.size []))
  { s with heap:=(s.heap.push PySem.W.emptyDict).push (PySem.W.instObj C s.heap.objs.size) }:=by
 have e1:(s.heap.push PySem.W.emptyDict).get? s.heap.objs.size=some PySem.W.emptyDict:=Heap.get?_push_size s.heap rfl
 have e2:((s.heap.push PySem.W.emptyDict).push (PySem.W.instObj C s.heap.objs.size)).get? (s.heap.objs.size+1)=some (PySem.W.instObj C s.heap.objs.size):=by
  have:=Heap.get?_push_size (s.heap.push PySem.W.emptyDict) (o:=PySem.W.instObj C s.heap.objs.size) rfl
  rwa [Heap.size_push] at this
 have e3:(s.heap.push PySem.W.emptyDict).Ns s.heap.objs.size (λ _=>none):=⟨PySem.W.emptyDict,#[],_,e1,rfl,(λ e he=>absurd he (by simp)),λ _=>rfl⟩
 have I1:=I.laid (a:=s.heap.objs.size) (o:=.own (s.heap.objs.size+1)) (h':=s.heap.push PySem.W.emptyDict) (t':=s.toks) (λ b u q=>Heap.get?_push_of_some _ q) (Nat.le_refl _) ⟨_,e1⟩
 refine I1.laid (a:=s.heap.objs.size+1) (o:=.ins C s.heap.objs.size []) (t':=s.toks) (λ b u q=>Heap.get?_push_of_some _ q) (Nat.le_of_eq (Heap.size_push _ _)) ?_
 have ne:s.heap.objs.size≠s.heap.objs.size+1:=Nat.ne_of_lt (Nat.lt_succ_self _)
 refine ⟨by rw [zw0 ne,zp0],Nat.zero_le _,ne,e2,λ _=>none,(Heap.Ns1.of_empty e3).at λ o q=>Heap.get?_push_of_some _ q,λ _=>True.intro,λ y hy=>absurd rfl hy⟩
theorem zsx {prog:Program} {w:World} {env:Env} {e:Expr} {f:Str} {pos:Pos} {s:Shared} {Q:Value->Shared->Prop} (hb:attributeBase e f env (eval e env)=eval e env)
  (h:wpAny (model prog w) A (eval e env) (λ o s₁=>wpAny (model prog w) A (getAttr o f true) Q E s₁) E s):wpAny (model prog w) A (eval (.Attribute e f pos) env) Q E s :=
 Attribute_any_ h (by rw [arm_eval_Attribute,hb])
end
def tFld (K:Fg) (ta:TE) (f:Str):TE:=λ σ H Q=>ta σ H λ x H1=>∃ a C dx fs v,x=.ref a/\H1 a=some (.ins C dx fs)/\Cls K C/\zk1 K C f/\fs.lookup f=some v/\Q v H1
def sFld (K:Fg) (ta tv:TE) (f:Str):TS:=λ D σ H=>tv σ H λ y H1=>ta σ H1 λ x H2=>∃ a C dx fs,x=.ref a/\H2 a=some (.ins C dx fs)/\Cls K C/\zk1 K C f/\fs.length < 1000 /\
 D.nx σ (upd H2 a (.ins C dx (putF f y fs)))
def InOp (X:Cx) (op:Operator) (rd:V->V->Hp->VK->Prop):Prop :=
 ∀ (pins:List (Addr×Obj)) (s:Shared) (σ:St) (H:Hp) (x y:V) (u v:Value) (Q:VK),Inv X pins σ H s->RelV x u->RelV y v->rd x y H Q->wpAny (model X.prog X.w) X.A (inplaceOp op u v) (EP X pins σ Q) X.xe s
def zlr (K:Fg) (ta tv:TE) (rd:V->V->Hp->VK->Prop) (f:Str):TS:=λ D σ H=>ta σ H λ x H1=>∃ a C dx fs v,x=.ref a/\H1 a=some (.ins C dx fs)/\Cls K C/\zk1 K C f/\fs.lookup f=some v /\
 tv σ H1 λ y H2=>rd v y H2 λ z H3=>∃ dx' fs',H3 a=some (.ins C dx' fs')/\fs'.length < 1000/\D.nx σ (upd H3 a (.ins C dx' (putF f z fs')))
section
variable {X:Cx} {o e value:Expr} {f:Str} {pos pos' tpos:Pos} {ta tv:TE}
theorem zr31 (he:PE X e ta) (hb:attributeBase e f X.env (eval e X.env)=eval e X.env):PE X (.Attribute e f pos) (tFld X.K ta f):=by
 intro pins s σ H Q I h
 refine zsx hb (thn (he pins s σ H _ I h) λ u s1 ⟨x,H1,I1,rx,a,C,dx,fs,v,ex,ea,c,n,l,q⟩=>?_)
 subst ex
 obtain rfl:u=Value.ref a:=rx
 exact zeh I1 ea c n l λ u' s2 I2 ru=>⟨v,H1,I2,ru,q⟩
theorem zq7 (ha:PE X o ta) (hv:PE X value tv) (hs:swapsWith value (some (.Attribute o f pos')) pos.line X.env=pure false):PS X (.Assign [.Attribute o f pos'] value pos) (sFld X.K ta tv f):=by
 intro pins s σ H D I h
 refine plainObj_wpAny_Assign_Attribute (thn (hv pins s σ H _ I h) λ u s1 ⟨y,H1,I1,ry,q⟩=>thn (ha pins s1 σ H1 _ I1 q) λ ov s2 ⟨x,H2,I2,rx,a,C,dx,fs,ex,ea,c,n,l,q2⟩=>?_) hs
 subst ex
 obtain rfl:ov=Value.ref a:=rx
 exact zsg I2 ea c n l ry λ s3 I3=>⟨σ,_,I3,q2⟩
theorem zdp {op:Operator} {rd:V->V->Hp->VK->Prop} (ha:PE X o ta) (hv:PE X value tv) (hop:InOp X op rd):PS X (.AugAssign (.Attribute o f tpos) op value pos) (zlr X.K ta tv rd f):=by
 intro pins s σ H D I h
 refine wpAny_AugAssign_AttributeAny (thn (ha pins s σ H _ I h) λ ov s1 ⟨x,H1,I1,rx,a,C,dx,fs,v,ex,ea,c,n,l,q⟩=>?_)
 subst ex
 obtain rfl:ov=Value.ref a:=rx
 refine zeh I1 ea c n l λ u s2 I2 ru=>thn (hv pins s2 σ H1 _ I2 q) λ w3 s3 ⟨y,H2,I3,ry,q3⟩=>thn (hop pins s3 σ H2 v y u w3 _ I3 ru ry q3) λ w4 s4 ⟨z,H3,I4,rz,dx',fs',ea',l',q4⟩=>?_
 exact zsg I4 ea' c n l' rz λ s5 I5=>⟨σ,_,I5,q4⟩
def rAdd:V->V->Hp->VK->Prop:=λ x y H Q=>∃ i j,x=.int i/\y=.int j/\Q (.int (i+j)) H
theorem za31:InOp X .Add rAdd:=by
 rintro pins s σ H x y u v Q I rx ry ⟨i,j,rfl,rfl,q⟩
 obtain ⟨t,rfl⟩:=(show ∃ t,u=Value.int i t from rx)
 obtain ⟨t',rfl⟩:=(show ∃ t',v=Value.int j t' from ry)
 exact PyProof.Rows.iadd_int ⟨.int (i+j),H,I.tok _,⟨_,rfl⟩,q⟩
theorem zvv {pl:Sem Bool} {m:Str} {apos:Pos} {args:List Expr} {pins:List (Addr×Obj)} {s:Shared} {σ:St} {H:Hp} {Q:Value->Shared->Prop} {te:TE} (he:PE X e te) (I:Inv X pins σ H s)
  (h:te σ H λ x H1=>∃ a C dx fs g,x=.ref a/\H1 a=some (.ins C dx fs)/\Cls X.K C/\Meth X.K C m g/\fs.lookup m=none /\
   ∀ s1,Inv X pins σ H1 s1->wpAny (model X.prog X.w) X.A (callWith pos (.ref g) [.ref a] (backTo pos (starEach args X.env)) (backToKw pos (keywordEach [] X.env))) Q X.xe s1)
  (ht:eval (.Call (.Attribute e m apos) args [] pos) X.env=(do
   let ov <- eval e X.env
   standAt apos.atName
   let (f,first) <- holding [ov] (getMethod ov m pl)
   callWith pos f first (backTo pos (starEach args X.env)) (backToKw pos (keywordEach [] X.env)))) :
  wpAny (model X.prog X.w) X.A (eval (.Call (.Attribute e m apos) args [] pos) X.env) Q X.xe s:=by
 refine PySem.W.methodCall_KW (pl:=pl) (thn (he pins s σ H _ I h) λ u s1 ⟨x,H1,I1,rx,a,C,dx,fs,g,ex,ea,c,k,l,q⟩=>?_) ht
 subst ex
 obtain rfl:u=Value.ref a:=rx
 exact zf5 I1 ea c k l (q s1 I1)
end
section
variable {X:Cx} {pins:List (Addr×Obj)} {σ:St} {H:Hp} {s:Shared} {A:Around} {E:Value->Shared->Prop} {Q:Value->Shared->Prop} {c:Value} {b:Bool}
inductive TyOf (K:Fg) (H:Hp):V->Value->Prop where
|non:TyOf K H .non (.type "NoneType")
|bl (x:Bool):TyOf K H (.bl x) (.type "bool")
|int (i:Int):TyOf K H (.int i) (.type "int")
|str (x:Str):TyOf K H (.str x) (.type "str")
|flt (x:UInt64):TyOf K H (.flt x) (.type "float")
|lst {a:Addr} {xs:List V} (e:H a=some (.lst xs)):TyOf K H (.ref a) (.type "list")
|frz {a:Addr} {o:Obj} {xs:List V} (e:H a=some (.frz o (.lst xs))):TyOf K H (.ref a) (.type "list")
|tup {a:Addr} {xs:List V} (e:H a=some (.tup xs)):TyOf K H (.ref a) (.type "tuple")
|dK {a:Addr} {kvs:List (Key×V)} (e:H a=some (.dK kvs)):TyOf K H (.ref a) (.type "dict")
|dT {a:Addr} {kvs:List (List Key×V)} (e:H a=some (.dT kvs)):TyOf K H (.ref a) (.type "dict")
|ins {a C dx:Addr} {fs:List (Str×V)} (e:H a=some (.ins C dx fs)) (cl:Cls K C) (ha:PySem.W.findIn K (.ref C) "__class__"=some (some (.builtin "object.__class__")))
   (hn:PySem.W.specialIn K (.builtin "object.__class__") "__get__"=some (some (.builtin "getset_descriptor.__get__"))) (htk:PySem.W.takesIn K (.builtin "object.__class__")=some true)
   (hm:PySem.W.mroIn K C (.type "object")=some true):TyOf K H (.ref a) (.ref C)
theorem zyq {x:V} {u t:Value} (I:Inv X pins σ H s) (rx:RelV x u) (ty:TyOf X.K H x t) (e:PySem.W.kitOne X.K t c=some b) (h:∀ tk,Q (.bool b) { s with toks:=tk }) :
  wpAny (model X.prog X.w) A (call (.builtin "isinstance") [u,c]) Q E s:=by
 cases ty with
|non=>cases (show u=Value.none from rx);exact PySem.W.kia_one PySem.W.kitx_none I.kIn True.intro e (λ z=>nomatch z) h
|bl y=>cases (show u=Value.bool y from rx);exact PySem.W.kia_one PySem.W.kitx_bool I.kIn True.intro e (λ z=>nomatch z) h
|int i=>obtain ⟨t,q⟩:=(show ∃ t,u=Value.int i t from rx);cases q;exact PySem.W.kia_one PySem.W.kitx_int I.kIn True.intro e (λ z=>nomatch z) h
|str y=>obtain ⟨t,q⟩:=(show ∃ t,u=Value.str y t from rx);cases q;exact PySem.W.kia_one PySem.W.kitx_str I.kIn True.intro e (λ z=>nomatch z) h
|flt y=>obtain ⟨t,q⟩:=(show ∃ t,u=Value.float y t from rx);cases q;exact PySem.W.kia_one PySem.W.kitx_float I.kIn True.intro e (λ z=>nomatch z) h
|@lst a xs ea =>
  cases (show u=Value.ref a from rx)
  obtain ⟨_,_,n,_,h1⟩:=(show zm8 X.prog X.w H s.heap a (.lst xs) from I.hok a _ ea)
  exact PySem.W.kia_one PySem.W.kitx_list I.kIn ⟨_,h1,rfl⟩ e (λ z=>nomatch z) h
|@frz a ob xs ea =>
  cases (show u=Value.ref a from rx)
  obtain ⟨_,_,_,n,_,h1⟩:=(show zm8 X.prog X.w H s.heap a (.frz ob (.lst xs)) from I.hok a _ ea)
  exact PySem.W.kia_one PySem.W.kitx_list I.kIn ⟨_,h1,rfl⟩ e (λ z=>nomatch z) h
|@tup a xs ea =>
  cases (show u=Value.ref a from rx)
  obtain ⟨_,_,_,p⟩:=(show zm8 X.prog X.w H s.heap a (.tup xs) from I.hok a _ ea)
  obtain ⟨o,h1,h2,_⟩:=p
  exact PySem.W.kia_one PySem.W.kitx_tuple I.kIn ⟨o,h1,h2⟩ e (λ z=>nomatch z) h
|@dK a kvs ea =>
  cases (show u=Value.ref a from rx)
  obtain ⟨_,_,vs,_,p⟩:=(show zm8 X.prog X.w H s.heap a (.dK kvs) from I.hok a _ ea)
  obtain ⟨o,es,ep,h1,h2,_⟩:=p
  exact PySem.W.kia_one PySem.W.kitx_dict I.kIn ⟨o,h1,h2.1⟩ e (λ z=>nomatch z) h
|@dT a kvs ea =>
  cases (show u=Value.ref a from rx)
  obtain ⟨_,_,xs,_,o,es,ep,h1,h2,_⟩:=(show zm8 X.prog X.w H s.heap a (.dT kvs) from I.hok a _ ea)
  exact PySem.W.kia_one PySem.W.kitx_dict I.kIn ⟨o,h1,h2.1⟩ e (λ z=>nomatch z) h
|@ins a C dx fs ea cl ha hn htk hm =>
  cases (show u=Value.ref a from rx)
  obtain ⟨mA,O,_⟩:=zlk I.hok ea
  obtain ⟨od,J,_⟩:=O.look
  exact PySem.W.kia_one (PySem.W.kitx_own (cl.get _) cl.hd ha hn htk hm) I.kIn J e (λ z=>nomatch z) h
end
structure Room (k:Nat) (A:Around):Prop where
 hd:A.handled=none
 dp:A.depth+3 * k+5 < recursionLimit
 gd:A.guards=some []
 un:A.units+16 * k+200 < cLine
theorem Room.mono {j k:Nat} {A:Around} (r:Room k A) (h:j<=k):Room j A:=⟨r.hd,by have:=r.dp;lia,r.gd,by have:=r.un;lia⟩
theorem Room.deeper {k:Nat} {A:Around} (r:Room (k+1) A) (env:Env):Room k (A.deeper env) :=
 ⟨r.hd,by have:=r.dp;show A.depth+1+3 * k+5 < _;lia,r.gd,by have:=r.un;show A.units+3+16 * k+200 < _;lia⟩
theorem zjm {A:Around} {C:Addr} {us:List Value} {kw:List (Str×Value)}:(A.under (.builtin "type.__call__" ⟨.ref C :: us,kw⟩)).depth=A.depth+1:=by
 first|rfl|simp [Around.under,Code.weight,Code.isCreation,Code.isGuard,Code.isCaller,Code.frames,Code.isFrame,guardIds]
theorem zen {A:Around} {C:Addr} {us:List Value} {kw:List (Str×Value)}:(A.under (.builtin "type.__call__" ⟨.ref C :: us,kw⟩)).units=A.units+1:=by
 first|rfl|simp [Around.under,Code.cUnits,Code.frames,Code.isFrame]
theorem Room.make {k:Nat} {A:Around} (r:Room (k+1) A) (C:Addr) (us:List Value) (kw:List (Str×Value)):Room k (A.under (.builtin "type.__call__" ⟨.ref C :: us,kw⟩)) :=
 ⟨r.hd,by have:=r.dp;rw [zjm];lia,r.gd,by have:=r.un;rw [zen];lia⟩
theorem Room.depth {k:Nat} {A:Around} (r:Room k A):A.depth < recursionLimit:=by have:=r.dp;lia
theorem Room.units {k:Nat} {A:Around} (r:Room k A):A.units+64 < cLine:=by have:=r.un;lia
def tNil:TA:=λ _ H Q=>Q [] H
def zw2 (ta:TE) (tr:TA):TA:=λ σ H Q=>ta σ H λ x H1=>tr σ H1 λ xs H2=>Q (x :: xs) H2
section
variable {X:Cx} {e:Expr} {es:List Expr} {te:TE} {t:TA} {pos:Pos}
theorem zg0:PA X [] tNil:=λ _ _ _ _ H Q I h=>Calls.spliced_nil ⟨[],H,I,.nil,h⟩
theorem za0 (ha:PE X e te) (hr:PA X es t) (hs:starEach (e :: es) X.env=(false,eval e X.env) :: starEach es X.env:=by rfl):PA X (e :: es) (zw2 te t):=by
 intro pos pins s σ H Q I h
 rw [hs]
 show wpAny _ _ (spliced ((false,eval e X.env) :: backTo pos (starEach es X.env))) _ _ s
 refine Calls.spliced_cons (thn (ha pins s σ H _ I h) λ u s1 ⟨x,H1,I1,r1,q1⟩=>?_)
 exact thn (hr pos pins s1 σ H1 _ I1 q1) λ us s2 ⟨xs,H2,I2,r2,q2⟩=>⟨x :: xs,H2,I2,.cons r1 r2,q2⟩
def tTup (t:TA):TE:=λ σ H Q=>t σ H λ xs H1=>xs.length<=sizeLine/\∀ p,H1 p=none->Q (.ref p) (upd H1 p (.tup xs))
def tLst (t:TA):TE:=λ σ H Q=>t σ H λ xs H1=>xs.length<=sizeLine/\∀ p,H1 p=none->Q (.ref p) (upd H1 p (.lst xs))
theorem zy51 {x1} (h:PA X es t):PE X (.Tuple es x1 pos) (tTup t):=by
 intro pins s σ H Q I hq
 refine wpAny_Tuple_spliced (thn (h pos pins s σ H _ I hq) λ us s1 ⟨xs,H1,I1,r,z,q⟩=>⟨by rw [<- r.length];exact z,?_⟩)
 have hf:H1 s1.heap.objs.size=none:=I1.hok.fresh (Nat.le_refl _)
 refine ⟨.ref s1.heap.objs.size,upd H1 s1.heap.objs.size (.tup xs),I1.laid (t':=s1.toks) (λ b u e=>Heap.get?_push_of_some _ e) (Nat.le_refl _) ?_,rfl,q _ hf⟩
 exact ⟨z,us,r,⟨_,Heap.get?_push_size _ rfl,rfl,_,rfl⟩⟩
theorem zz61 (h:PA X es t):PE X (.List es pos) (tLst t):=by
 intro pins s σ H Q I hq
 refine wpAny_List_spliced (thn (h pos pins s σ H _ I hq) λ us s1 ⟨xs,H1,I1,r,z,q⟩=>⟨by rw [<- r.length];exact z,?_⟩)
 have hf:H1 s1.heap.objs.size=none:=I1.hok.fresh (Nat.le_refl _)
 refine ⟨.ref s1.heap.objs.size,upd H1 s1.heap.objs.size (.lst xs),I1.laid (t':=s1.toks) (λ b u e=>Heap.get?_push_of_some _ e) (Nat.le_refl _) ?_,rfl,q _ hf⟩
 exact ⟨z,us,0,r,Heap.get?_push_size _ rfl⟩
end
abbrev Sp:=List V->Hp->VK->XK->Prop
abbrev CXT:=List Env->Hp->Shared->XK->Value->Shared->Prop
structure Env0 (P:Program) (w:World) (K:Fg) (mg:Str->Option Value) (base:Heap) (A:Around) (outer:List Env) (s:Shared) (H:Hp):Prop where
 frames:A.frames=some outer
 mod:Mod K mg base
 bs:∀ b o,base.get? b=some o->s.heap.get? b=some o/\H b=none
 bsz:base.objs.size<=s.heap.objs.size
 funs:s.heap.FunFrames base outer
 frf:∀ b∈frs outer,H b=none
 hok:HOk P w H s.heap
 bare:AllBare s.gens
def CE (outer:List Env) (P:Program) (w:World) (H:Hp) (s:Shared) (Q:VK) (u:Value) (s':Shared):Prop :=
 ∃ v H',s'.os=s.os/\AllBare s'.gens/\Un (frs outer) [] H H' s.heap s'.heap/\HOk P w H' s'.heap/\RelV v u/\Q v H'
def CR (CX:CXT) (outer:List Env) (P:Program) (w:World) (H:Hp) (s:Shared) (Q:VK) (E:XK) (r:Result) (s':Shared):Prop :=
 match r with
|.ok (.ret u)=>CE outer P w H s Q u s'
|.ok _=>False
|.error e=>CX outer H s E e s'
structure FnOk (P:Program) (w:World) (K:Fg) (mg:Str->Option Value) (base:Heap) (CX:CXT) (k:Nat) (f:Addr) (fd:FuncData) (ps:List Str) (sp:Sp):Prop where
 len:∀ vs H Q E,sp vs H Q E->vs.length=ps.length
 run:∀ (A:Around) (outer:List Env) (s:Shared) (H:Hp) (args:Args) (us:List Value) (vs:List V) (Q:VK) (E:XK),Room k A->Env0 P w K mg base A outer s H->BindsTo s fd args (ps.zip us)->Vals vs us->sp vs H Q E ->
  codeAny (model P w) A (.call (.ref f) args) (CR CX outer P w H s Q E) s
theorem FnOk.mono {P:Program} {w:World} {K:Fg} {mg:Str->Option Value} {base:Heap} {CX:CXT} {j k:Nat} {f:Addr} {fd:FuncData} {ps:List Str} {sp:Sp} (F:FnOk P w K mg base CX j f fd ps sp) (h:j<=k) :
  FnOk P w K mg base CX k f fd ps sp:=⟨F.len,λ A outer s H args us vs Q E hr=>F.run A outer s H args us vs Q E (hr.mono h)⟩
theorem Env0.make {P:Program} {w:World} {K:Fg} {mg:Str->Option Value} {base:Heap} {A:Around} {outer:List Env} {s:Shared} {H:Hp} (e:Env0 P w K mg base A outer s H) (C:Addr) (us:List Value) (kw:List (Str×Value)) :
  Env0 P w K mg base (A.under (.builtin "type.__call__" ⟨.ref C :: us,kw⟩)) outer s H:=⟨by first|exact e.frames|(simpa [Around.under,Code.envs,Code.isFrame,pushEnvs] using e.frames),e.mod,e.bs,e.bsz,e.funs,e.frf,e.hok,e.bare⟩
section
variable {X:Cx} {pins:List (Addr×Obj)} {σ:St} {H:Hp} {s s':Shared}
theorem Inv.env0 (I:Inv X pins σ H s):Env0 X.prog X.w X.K X.mg X.base X.A X.stack s H :=
 ⟨I.ok.frames,I.ok.mod,I.bs,Nat.le_trans I.ok.bsz I.sz,I.stack,I.stkFree,I.hok,I.bare⟩
theorem Inv.after {Q:VK} {u:Value} (I:Inv X pins σ H s) (h:CE X.stack X.prog X.w H s Q u s'):EP X pins σ Q u s':=by
 obtain ⟨v,H',os,bare,un,hok,r,q⟩:=h
 obtain ⟨hh,g,d,t,os'⟩:=s'
 obtain rfl:os'=s.os:=os
 exact ⟨v,H',I.call (h':=hh) (g':=g) (d':=d) (t':=t) (ch:=[]) un hok bare (λ b z=>absurd z (by simp)),r,q⟩
end
def zet (sp:Sp) (dvs:List V) (E:XK) (t:TA):TE:=λ σ H Q=>t σ H λ vs H1=>sp (vs++dvs) H1 Q E
def zs51 (C:Addr) (m:Str) (sp:Sp) (dvs:List V) (E:XK) (ta:TE) (t:TA):TE:=λ σ H Q=>ta σ H λ x H1=>∃ a dx fs,x=.ref a/\H1 a=some (.ins C dx fs)/\fs.lookup m=none /\
 t σ H1 λ vs H2=>sp (x :: (vs++dvs)) H2 Q E
def zq41 (C:Addr) (sp:Sp) (dvs:List V) (E:XK) (t:TA):TE:=λ σ H Q=>t σ H λ vs H1=>∀ x dx,H1 x=none->H1 dx=none->dx≠x ->
 sp (.ref x :: (vs++dvs)) (upd (upd H1 dx (.own x)) x (.ins C dx [])) (λ v H2=>v=.non/\Q (.ref x) H2) E
def zvh (K:Fg) (fd:FuncData) (ps:List Str) (ds:List Value):Prop :=
 ∀ (s:Shared) (us:List Value),K.In s.heap->(us++ds).length=ps.length->BindsTo s fd ⟨us,[]⟩ (ps.zip (us++ds))
theorem zvh.all {K:Fg} {fd:FuncData} {ps:List Str} (h:∀ us:List Value,us.length=ps.length->bindArgs fd ⟨us,[]⟩=pure (ps.zip us)):zvh K fd ps []:=λ s us _ hl=>by
 rw [List.append_nil] at hl ⊢
 exact .of_eq (h us hl)
def zxi (CX:CXT) (X:Cx) (E:XK):Prop:=∀ (pins:List (Addr×Obj)) (σ:St) (H:Hp) (s:Shared) (e:Value) (s':Shared),Inv X pins σ H s->CX X.stack H s E e s'->X.xe e s'
section
variable {X:Cx} {CX:CXT} {k:Nat} {f C:Addr} {fd:FuncData} {ps:List Str} {sp:Sp} {dvs:List V} {ds:List Value} {E:XK} {x m:Str} {p pos apos:Pos} {e o:Expr} {es:List Expr} {ta:TE} {t:TA}
theorem zot {pins:List (Addr×Obj)} {σ:St} {H:Hp} {s:Shared} {Q:VK} {us:List Value} {vs:List V} (F:FnOk X.prog X.w X.K X.mg X.base CX k f fd ps sp) (hr:Room k X.A) (hb:zvh X.K fd ps ds) (hd:Vals dvs ds) (hx:zxi CX X E)
  (I:Inv X pins σ H s) (r:Vals vs us) (h:sp (vs++dvs) H Q E):wpAny (model X.prog X.w) X.A (call (.ref f) us) (EP X pins σ Q) X.xe s:=by
 have r2:Vals (vs++dvs) (us++ds):=r.append hd
 have hl:(us++ds).length=ps.length:=by rw [<- r2.length];exact F.len _ _ _ _ h
 refine wpAny_call (codeAny_mono (F.run X.A X.stack s H ⟨us,[]⟩ (us++ds) (vs++dvs) Q E hr I.env0 (hb s us I.kIn hl) r2 h) λ r s' hq=>?_)
 cases r with
|error e=>exact hx pins σ H s e s' I hq
|ok fl =>
  cases fl with
 |ret u=>exact I.after hq
 |next=>exact False.elim hq
 |brk=>exact False.elim hq
 |cont=>exact False.elim hq
theorem zh11 (F:FnOk X.prog X.w X.K X.mg X.base CX k f fd ps sp) (hr:Room k X.A) (hg:Gl X x) (hm:X.mg x=some (.ref f)) (hk:PySem.W.keepIn X.K (.ref f)=true) (hb:zvh X.K fd ps ds) (hd:Vals dvs ds) (hx:zxi CX X E)
  (ha:PA X (e :: es) t) (hdb:(x == ("__debug__":Str))=false:=by decide) (he:starEach (e :: es) X.env=(false,eval e X.env) :: starEach es X.env:=by rfl) (hpl:(backTo pos (starEach es X.env)).any (·.1)=false:=by rfl) :
  PE X (.Call (.Name x p) (e :: es) [] pos) (zet sp dvs E t):=by
 intro pins s σ H Q I h
 refine wpAny_Call_Name_kw (zod I hg hm ?_ hdb)
 refine PySem.W.callWith_K (h₀:=X.base) I.ok.mod.kin hk (thn (ha pos pins s σ H _ I h) λ us s1 ⟨vs,H1,I1,r,q⟩=>⟨I1.kIn,?_⟩) he hpl
 exact zot F hr hb hd hx I1 r q
theorem zyt {pl:Sem Bool} (he:PE X o ta) (c:Cls X.K C) (hm:Meth X.K C m f) (F:FnOk X.prog X.w X.K X.mg X.base CX k f fd ps sp) (hr:Room k X.A) (hb:zvh X.K fd ps ds) (hd:Vals dvs ds) (hx:zxi CX X E)
  (ht:eval (.Call (.Attribute o m apos) [] [] pos) X.env=(do
   let ov <- eval o X.env
   standAt apos.atName
   let (f,first) <- holding [ov] (getMethod ov m pl)
   callWith pos f first (backTo pos (starEach [] X.env)) (backToKw pos (keywordEach [] X.env))):=by rfl) :
  PE X (.Call (.Attribute o m apos) [] [] pos) (zs51 C m sp dvs E ta tNil):=by
 intro pins s σ H Q I h
 refine PySem.W.methodCall_KW (pl:=pl) (thn (he pins s σ H _ I h) λ u s1 ⟨x,H1,I1,rx,a,dx,fs,ex,ea,l,q⟩=>?_) ht
 subst ex
 obtain rfl:u=Value.ref a:=rx
 refine zf5 I1 ea c hm l ?_
 exact PySem.W.callWith_K0 (first:=[.ref a]) I1.kIn hm.kp (zot (us:=[.ref a]) (vs:=[.ref a]) F hr hb hd hx I1 (.cons rfl .nil) q)
structure Mk (K:Fg) (C f:Addr):Prop where
 makes:PySem.W.makesIn K C=true
 init:PySem.W.findIn K (.ref C) "__init__"=some (some (.ref f))
 fn:PySem.W.isFn K (.ref f)=true
 kp:PySem.W.keepIn K (.ref C)=true
theorem zgu {pins:List (Addr×Obj)} {σ:St} {H:Hp} {s:Shared} {Q:VK} {us:List Value} {vs:List V} (M:Mk X.K C f) (F:FnOk X.prog X.w X.K X.mg X.base CX k f fd ps sp) (hr:Room (k+1) X.A) (hb:zvh X.K fd ps ds) (hd:Vals dvs ds)
  (hx:zxi CX X E) (I:Inv X pins σ H s) (r:Vals vs us)
  (h:∀ x dx,H x=none->H dx=none->dx≠x->sp (.ref x :: (vs++dvs)) (upd (upd H dx (.own x)) x (.ins C dx [])) (λ v H2=>v=.non/\Q (.ref x) H2) E) :
  wpAny (model X.prog X.w) X.A (call (.ref C) us) (EP X pins σ Q) X.xe s:=by
 have hq:=h (s.heap.objs.size+1) s.heap.objs.size (I.hok.fresh (Nat.le_succ _)) (I.hok.fresh (Nat.le_refl _)) (Nat.ne_of_lt (Nat.lt_succ_self _))
 have I2:=Inv.made (C:=C) I
 have r2:Vals (V.ref (s.heap.objs.size+1) :: (vs++dvs)) (Value.ref (s.heap.objs.size+1) :: (us++ds)):=.cons rfl (r.append hd)
 have hl:(Value.ref (s.heap.objs.size+1) :: us++ds).length=ps.length:=by
  have e:=r2.length
  rw [F.len _ _ _ _ hq] at e
  exact e.symm
 refine wpAny_call (zzu (f:=f) I.kIn M.makes M.init (beq_iff_eq.mp M.fn) (codeAny_mono (F.run _ X.stack _ _ ⟨Value.ref (s.heap.objs.size+1) :: us,[]⟩ (Value.ref (s.heap.objs.size+1) :: (us++ds)) _ _ E (hr.make C us [])
  (I2.env0.make C us []) (hb _ (Value.ref (s.heap.objs.size+1) :: us) I2.kIn hl) r2 hq) λ r s' hq'=>?_))
 cases r with
|error e=>exact hx pins σ _ _ e s' I2 hq'
|ok fl =>
  cases fl with
 |ret u =>
   obtain ⟨v,H',I3,rv,ev,q3⟩:=I2.after hq'
   subst ev
   exact ⟨rv,⟨V.ref (s.heap.objs.size+1),H',I3,rfl,q3⟩⟩
 |next=>exact False.elim hq'
 |brk=>exact False.elim hq'
 |cont=>exact False.elim hq'
theorem zly (M:Mk X.K C f) (F:FnOk X.prog X.w X.K X.mg X.base CX k f fd ps sp) (hr:Room (k+1) X.A) (hg:Gl X x) (hm:X.mg x=some (.ref C)) (hb:zvh X.K fd ps ds) (hd:Vals dvs ds) (hx:zxi CX X E)
  (ha:PA X (e :: es) t) (hdb:(x == ("__debug__":Str))=false:=by decide) (he:starEach (e :: es) X.env=(false,eval e X.env) :: starEach es X.env:=by rfl) (hpl:(backTo pos (starEach es X.env)).any (·.1)=false:=by rfl) :
  PE X (.Call (.Name x p) (e :: es) [] pos) (zq41 C sp dvs E t):=by
 intro pins s σ H Q I h
 refine wpAny_Call_Name_kw (zod I hg hm ?_ hdb)
 refine PySem.W.callWith_K (h₀:=X.base) I.ok.mod.kin M.kp (thn (ha pos pins s σ H _ I h) λ us s1 ⟨vs,H1,I1,r,q⟩=>⟨I1.kIn,?_⟩) he hpl
 exact zgu M F hr hb hd hx I1 r q
end
section
variable {X:Cx} {CX:CXT} {k:Nat} {f C:Addr} {fd:FuncData} {ps ks:List Str} {sp:Sp} {E:XK} {x m:Str} {p pos apos kpos:Pos} {e o:Expr} {es:List Expr} {kws:List Keyword} {te ta:TE} {t tk:TA} {nm:Option Str}
variable {g:List Value->List Value->List Value} {gV:List V->List V->List V}
end
structure FnScope (N P:List Str) (sc:Scope):Prop where
 kind:sc.kind=.function
 co:sc.isCoroutine=false
 gen:sc.isGenerator=false
 nd:N.Nodup
 pre:N.take P.length=P
 par:∀ x∈P,sc.names.lookup x=some .local \/ sc.names.lookup x=some .cell
 nofree:∀ y∈sc.names,y.2≠.free
theorem zpj {kindOf:Str->Option NameKind} {x:Str}:∀ {binds:List (Str×Value)} {m:Str->Option Value},(∀ v,(x,v) ∉ binds)->bindL kindOf binds m x=m x
|[],_,_=>rfl
|(n,v) :: r,m,h=>by
  unfold bindL
  rw [zpj λ w hw=>h w (List.mem_cons_of_mem _ hw)]
  split
  ·have:x≠n:=by rintro rfl;exact h v List.mem_cons_self
   simp [this]
  ·rfl
theorem zxj {kindOf:Str->Option NameKind} {x:Str}:∀ {binds:List (Str×Value)} {m:Str->Option Value},(∀ v,(x,v) ∉ binds)->bindC kindOf binds m x=m x
|[],_,_=>rfl
|(n,v) :: r,m,h=>by
  unfold bindC
  rw [zxj λ w hw=>h w (List.mem_cons_of_mem _ hw)]
  split
  ·rfl
  ·have:x≠n:=by rintro rfl;exact h v List.mem_cons_self
   simp [this]
theorem ztj {kindOf:Str->Option NameKind} {x:Str} {v:Value}:∀ {P:List Str} {vs:List Value} {i:Nat} {m:Str->Option Value},P.Nodup->P[i]?=some x->vs[i]?=some v->kindOf x=some .local ->
  bindL kindOf (P.zip vs) m x=some v
|[],_,_,_,_,h,_,_=>by simp at h
|_ :: _,[],_,_,_,_,h,_=>by simp at h
|p :: P,w :: vs,0,m,nd,h1,h2,hk=>by
  simp at h1 h2;subst h1;subst h2
  show bindL kindOf ((p,w) :: P.zip vs) m p=_
  unfold bindL
  rw [zpj λ v hv=>(List.nodup_cons.mp nd).1 (List.of_mem_zip hv).1,if_pos hk]
  simp
|p :: P,w :: vs,i+1,m,nd,h1,h2,hk=>by
  show bindL kindOf ((p,w) :: P.zip vs) m x=_
  unfold bindL
  exact ztj (i:=i) (List.nodup_cons.mp nd).2 (by simpa using h1) (by simpa using h2) hk
theorem zpk {kindOf:Str->Option NameKind} {x:Str} {v:Value}:∀ {P:List Str} {vs:List Value} {i:Nat} {m:Str->Option Value},P.Nodup->P[i]?=some x->vs[i]?=some v->kindOf x≠some .local ->
  bindC kindOf (P.zip vs) m x=some v
|[],_,_,_,_,h,_,_=>by simp at h
|_ :: _,[],_,_,_,_,h,_=>by simp at h
|p :: P,w :: vs,0,m,nd,h1,h2,hk=>by
  simp at h1 h2;subst h1;subst h2
  show bindC kindOf ((p,w) :: P.zip vs) m p=_
  unfold bindC
  rw [zxj λ v hv=>(List.nodup_cons.mp nd).1 (List.of_mem_zip hv).1,if_neg hk]
  simp
|p :: P,w :: vs,i+1,m,nd,h1,h2,hk=>by
  show bindC kindOf ((p,w) :: P.zip vs) m x=_
  unfold bindC
  exact zpk (i:=i) (List.nodup_cons.mp nd).2 (by simpa using h1) (by simpa using h2) hk
def start (N:List Str) (vs:List V):St:=vs.map some++List.replicate (N.length - vs.length) none
def cxOf (CX:CXT) (P:Program) (w:World) (K:Fg) (mg:Str->Option Value) (base:Heap) (N:List Str) (qual:Str) (scope:Scope) (f:Addr) (cd:Value) (A:Around) (outer:List Env) (s:Shared) (H:Hp) (E:XK):Cx where
 prog:=P
 w:=w
 K:=K
 mg:=mg
 base:=base
 A:=A.deeper (envOfC qual scope s.heap.objs.size f cd)
 N:=N
 s₀:=s
 H₀:=H
 env:=envOfC qual scope s.heap.objs.size f cd
 outer:=outer
 stack:=envOfC qual scope s.heap.objs.size f cd :: outer
 ex:=[]
 calm:=true
 fn:=λ _=>true
 pn:=[]
 xe:=λ e s'=>wpAny (model P w) (A.deeper (envOfC qual scope s.heap.objs.size f cd)) (leaving (envOfC qual scope s.heap.objs.size f cd) e) (λ _ s''=>CX outer H s E e s'') (λ e' s''=>CX outer H s E e' s'') s'
theorem zrm {sc:Scope} {n:Nat} {x:Str} (h:sc.names.lookup x=some .cell):∃ c,(cellsFrom n sc.names []).lookup x=some c:=by
 have q:=PySem.W.cellsFrom_some sc.names n [] (.inl h)
 exact Option.isSome_iff_exists.mp q
theorem zgq {CX:CXT} {P:Program} {w:World} {K:Fg} {mg:Str->Option Value} {base:Heap} {N ps:List Str} {qual:Str} {scope:Scope} {f:Addr} {cd:Value} {A:Around} {outer:List Env} {s s1:Shared} {H:Hp} {E:XK} {us:List Value} {vs:List V}
  (S:FnScope N ps scope) (hd:A.handled=none) (e0:Env0 P w K mg base A outer s H) (hl:vs.length=ps.length) (r:Vals vs us)
  (x:InCallC s s.heap.objs.size (bindL (envOfC qual scope s.heap.objs.size f cd).kindOf (ps.zip us) λ _=>none) (cellsFrom (s.heap.objs.size+1) scope.names []) (bindC (envOfC qual scope s.heap.objs.size f cd).kindOf (ps.zip us) λ _=>none) s1) :
  Inv (cxOf CX P w K mg base N qual scope f cd A outer s H E) [] (start N vs) H s1:=by
 have hpl:ps.length<=N.length:=by have:=congrArg List.length S.pre;rw [List.length_take] at this;lia
 obtain ⟨h1,tk,rfl,hk⟩:=x.done
 have noA:∀ b:Addr,b ∉ (cxOf CX P w K mg base N qual scope f cd A outer s H E).ex:=λ b z=>absurd (show b∈([]:List Addr) from z) (by simp)
 refine ⟨⟨e0.mod,S.kind,rfl,rfl,Nat.le_refl _,λ y z c h1 h2=>?_,λ y hy=>?_,λ y c _ h=>?_,λ _=>hd,Around.frames_deeper e0.frames,.inr ⟨rfl,rfl⟩,λ b z=>absurd z (noA b),e0.bs,e0.bsz,λ b _ _=>noA b,λ b z=>absurd z (noA b),e0.funs,e0.frf⟩,
  rfl,e0.bare,Un.kept hk,⟨_,x.toInCall.ns,λ i y v h1 h2 h3=>?_⟩,λ y c h=>⟨_,x.cell y c h⟩,e0.hok.fresh (Nat.le_refl _),λ y c h=>?_,λ p hp=>absurd (show p∈([]:List (Addr×Obj)) from hp) (by simp),e0.hok.kept hk,?_⟩
 ·exact name_of_addr x.apart (PySem.mem_of_lookup h1) (PySem.mem_of_lookup h2)
 ·have hy:scope.names.lookup y=some .cell \/ scope.names.lookup y=some .free:=hy
  rcases hy with hy|hy
  ·exact zrm hy
  ·exact absurd rfl (S.nofree _ (PySem.mem_of_lookup hy))
 ·exact Nat.le_of_lt (x.above y c (PySem.mem_of_lookup h))
 ·have hi:i < vs.length:=by
   unfold start at h2
   by_cases hi:i < vs.length
   ·exact hi
   ·rw [List.getElem?_append_right (by simpa using hi)] at h2
    rw [List.getElem?_replicate] at h2
    split at h2 <;> cases h2
  have ha:vs[i]?=some v:=by
   unfold start at h2
   rw [List.getElem?_append_left (by simpa using hi),List.getElem?_map] at h2
   cases e:vs[i]? with
  |none=>rw [e] at h2;cases h2
  |some a=>rw [e] at h2;cases h2;rfl
  obtain ⟨u,hu,rv⟩:=r.get ha
  have hp:ps[i]?=some y:=by
   rw [<- S.pre,List.getElem?_take_of_lt (by lia)];exact h1
  have ndP:ps.Nodup:=by rw [<- S.pre];exact S.nd.sublist (List.take_sublist _ _)
  refine ⟨u,rv,?_⟩
  rcases S.par y (List.mem_of_getElem? hp) with k|k
  ·exact .inl ⟨k,ztj ndP hp hu k⟩
  ·obtain ⟨c,e⟩:=zrm (n:=s.heap.objs.size+1) k
   refine .inr ⟨.inl k,c,e,?_⟩
   have q:=x.cell y c e
   rw [zpk ndP hp hu (by show scope.names.lookup y≠_;rw [k];decide)] at q
   exact q
 ·exact e0.hok.fresh (Nat.le_of_lt (x.above y c (PySem.mem_of_lookup h)))
 ·unfold start
  show _=N.length
  rw [List.length_append,List.length_map,List.length_replicate]
  lia
theorem zf81 {CX:CXT} {P:Program} {w:World} {K:Fg} {mg:Str->Option Value} {base:Heap} {k:Nat} {f:Addr} {name qual:Str} {params:Arguments} {body:List Stmt} {scope:Scope} {dV kV doc pm cdv ct oc:Value} {an od:Option Addr}
  {osl:Array (Option Value)} {N ps:List Str} {sp:Sp} (lk:K.lookup f=some ⟨oc,od,.func (PySem.W.fnOf name qual params body scope dV kV doc pm an cdv ct),osl⟩) (hcd:PySem.W.codeIn K cdv qual=true) (S:FnScope N ps scope)
  (len:∀ vs H Q E,sp vs H Q E->vs.length=ps.length)
  (hbody:∀ (A:Around) (outer:List Env) (s:Shared) (H:Hp) (vs:List V) (Q:VK) (E:XK),Room k (A.deeper (envOfC qual scope s.heap.objs.size f cdv))->sp vs H Q E ->
   ∃ t,PSs (cxOf CX P w K mg base N qual scope f cdv A outer s H E) body t/\t { nx:=λ _ H'=>Q .non H',rt:=Q } (start N vs) H) :
  FnOk P w K mg base CX (k+1) f (PySem.W.fnOf name qual params body scope dV kV doc pm an cdv ct) ps sp:=by
 refine ⟨len,λ A outer s H args us vs Q E hr e0 hb r hsp=>?_⟩
 have hl:=len _ _ _ _ hsp
 have KX:K.In s.heap:=e0.mod.kin.keeps λ b o e=>(e0.bs b o e).1
 have lim:s.heap.NoLimit:=e0.mod.nolimit.keeps λ b o e=>(e0.bs b o e).1
 have hkind:∀ y∈ps.zip us,scope.names.lookup y.1=some .local \/ (scope.names.lookup y.1=some .cell/\((cellsFrom (s.heap.objs.size+1) scope.names []).lookup y.1).isSome=true):=λ ⟨n,v⟩ hy=>by
  rcases S.par n (List.of_mem_zip hy).1 with q|q
  ·exact .inl q
  ·exact .inr ⟨q,PySem.W.cellsFrom_some _ _ _ (.inl q)⟩
 refine codeAny_call_function hr.depth (KX _ _ lk) rfl S.co S.gen rfl (PySem.W.codeRec_of KX hcd) (hb _ _ _ _ ?_)
 refine wpAny_newFunctionEnv_cells S.kind hkind λ env he s1 x=>?_
 subst he
 refine ⟨lim.keeps x.toInCall.keep,codeAny_func ?_⟩
 obtain ⟨t,ht,hq⟩:=hbody A outer s H vs Q E (hr.deeper _) hsp
 have I:Inv (cxOf CX P w K mg base N qual scope f cdv A outer s H E) [] (start N vs) H s1:=zgq S hr.hd e0 hl r x
 refine wpAny_mono (ht [] s1 (start N vs) H _ I hq) (λ fl s' hs=>?_) λ e s' hs=>hs
 have fin:∀ {σ':St} {H':Hp} {v:V} {u:Value},Inv (cxOf CX P w K mg base N qual scope f cdv A outer s H E) [] σ' H' s'->RelV v u->Q v H'->CE outer P w H s Q u s' :=
  λ {σ' H' v u} J rv q=>⟨v,H',J.os,J.bare,J.base,J.hok,rv,q⟩
 cases fl with
|ret u =>
  obtain ⟨v,σ',H',J,rv,q⟩:=hs
  exact fin J rv q
|next =>
  obtain ⟨σ',H',J,q⟩:=hs
  exact fin (v:=V.non) (u:=Value.none) J rfl q
|brk =>
  obtain ⟨_,_,_,q⟩:=hs
  exact False.elim q
|cont =>
  obtain ⟨_,_,_,q⟩:=hs
  exact False.elim q
section
variable {X:Cx} {x:Str} {p pos:Pos} {e:Expr} {es:List Expr} {t:TA} {id T:String} {r:List V->Hp->VK->Prop}
def tCB (r:List V->Hp->VK->Prop) (t:TA):TE:=λ σ H Q=>t σ H λ vs H1=>r vs H1 Q
theorem zv0 (hc:zg9 X (.builtin id) r) (hg:Gl X x) (hm:X.mg x=none) (hv:bootBuiltins x=some (.builtin id)) (ha:PA X (e :: es) t) (hn:x ≠ "__name__":=by decide) (hdb:(x == ("__debug__":Str))=false:=by decide)
  (he:starEach (e :: es) X.env=(false,eval e X.env) :: starEach es X.env:=by rfl) (hpl:(backTo pos (starEach es X.env)).any (·.1)=false:=by rfl):PE X (.Call (.Name x p) (e :: es) [] pos) (tCB r t):=by
 intro pins s σ H Q I h
 refine wpAny_Call_Name_kw (zbl I hg hm hv ?_ hn hdb)
 exact PyProof.Rows.callWith_builtin1 (thn (ha pos pins s σ H _ I h) λ us s1 ⟨vs,H1,I1,r1,q1⟩=>hc pins s1 σ H1 vs us Q I1 r1 q1) he hpl
theorem zq2 (hc:zg9 X (.type T) r) (hg:Gl X x) (hm:X.mg x=none) (hv:bootBuiltins x=some (.type T)) (ha:PA X (e :: es) t) (hn:x ≠ "__name__":=by decide) (hdb:(x == ("__debug__":Str))=false:=by decide)
  (he:starEach (e :: es) X.env=(false,eval e X.env) :: starEach es X.env:=by rfl) (hpl:(backTo pos (starEach es X.env)).any (·.1)=false:=by rfl):PE X (.Call (.Name x p) (e :: es) [] pos) (tCB r t):=by
 intro pins s σ H Q I h
 refine wpAny_Call_Name_kw (zbl I hg hm hv ?_ hn hdb)
 exact PyProof.Rows.callWith_type1 (thn (ha pos pins s σ H _ I h) λ us s1 ⟨vs,H1,I1,r1,q1⟩=>hc pins s1 σ H1 vs us Q I1 r1 q1) he hpl
end
end L2
namespace HT
open PySem PyProof.Rows
section
open PySem.SeqAt
open PySem.AutoSeq1 (wpAny_loadPart')
open PySem.MeetsSeq PySem.MeetsSeq2 PySem.MeetsSeq3
end
section
variable {prog:Program} {w:World} {A:Around} {E:Value->Shared->Prop} {s:Shared}
theorem cat_tup {t b:Addr} {vs ws:List Value} {Q:Value->Shared->Prop} (ht:IsTup s.heap t vs.toArray) (hb:IsTup s.heap b ws.toArray) (hv:vs≠[])
  (h1:ws=[]->Q (.ref t) s) (h2:ws≠[]->Q (.ref s.heap.objs.size) { s with heap:=s.heap.push { cls:=.type "tuple",data:=.seq (vs++ws).toArray } })
  (hsz:vs.length+ws.length<=sizeLine):wpAny (model prog w) A (binaryOp .Add (.ref t) (.ref b)) Q E s:=by
 obtain ⟨⟨cls,dd,data,sl⟩,ho,hc,n,hd⟩:=id ht
 obtain ⟨⟨cls2,dd2,data2,sl2⟩,ho2,hc2,n2,hd2⟩:=id hb
 simp only at hc hd hc2 hd2
 subst hc hd hc2 hd2
 have e:vs.toArray++ws.toArray=(vs++ws).toArray:=by simp
 by_cases hw:ws=[]
 ·exact concat_meets ⟨_,ho,rfl⟩ ⟨_,ho2,rfl⟩ noFill_tuple_add seq_tuple_add PySem.F.slot_tuple_add PySem.F.entry_tuple_add (PySem.F.args_tuple_add_2 _ _)
   (tuple_addW1 t b vs.toArray ws.toArray n n2 dd dd2 sl sl2 (by simpa using hv) (by simp [hw])) ⟨ho,ho2,h1 hw⟩
 ·refine concat_meets ⟨_,ho,rfl⟩ ⟨_,ho2,rfl⟩ noFill_tuple_add seq_tuple_add PySem.F.slot_tuple_add PySem.F.entry_tuple_add (PySem.F.args_tuple_add_2 _ _)
   (tuple_addW2 t b vs.toArray ws.toArray n n2 dd dd2 sl sl2 (by simpa using hv) (by simpa using hw) (by rw [List.size_toArray,List.size_toArray];exact hsz)) ⟨ho,ho2,?_⟩
  rw [e]
  exact h2 hw
def sIx (n d:Nat):Option Int->Nat
|none=>d
|some v=>if v < 0 then (v+(n:Int)).toNat else min v.toNat n
theorem sIx_none (n d:Nat):sIx n d none=d:=rfl
theorem sIx_nat (n d k:Nat):sIx n d (some (k:Int))=min k n:=by
 show (if (k:Int) < 0 then ((k:Int)+(n:Int)).toNat else min (k:Int).toNat n)=min k n
 rw [if_neg (by lia),Int.toNat_natCast]
theorem zc71 (n d:Nat) (hd:d<=n) (o:Option Int):sIx n d o<=n:=by
 cases o with
|none=>exact hd
|some v =>
  show (if v < 0 then (v+(n:Int)).toNat else min v.toNat n)<=n
  by_cases hv:v < 0
  ·rw [if_pos hv];lia
  ·rw [if_neg hv];exact Nat.min_le_right _ _
theorem znr (v:Int) (n d:Nat):(if v < 0 then max (v+(n:Int)) 0 else min v (n:Int))=((sIx n d (some v):Nat):Int):=by
 show (if v < 0 then max (v+(n:Int)) 0 else min v (n:Int))=(((if v < 0 then (v+(n:Int)).toNat else min v.toNat n):Nat):Int)
 by_cases hv:v < 0
 ·simp only [if_pos hv];lia
 ·simp only [if_neg hv];lia
theorem zwl (lo hi:Option Int) (n:Nat):Builtin.Slice.sliceAdjust lo hi 1 (n:Int)=(((sIx n 0 lo:Nat):Int),((sIx n n hi:Nat):Int)):=by
 have h1:¬ ((1:Int) < 0):=by lia
 unfold Builtin.Slice.sliceAdjust
 simp only [h1,if_false]
 refine Prod.ext ?_ ?_
 ·cases lo with
 |none=>rfl
 |some v=>exact znr v n 0
 ·cases hi with
 |none=>rfl
 |some v=>exact znr v n n
theorem ztn (i j:Nat):Builtin.Slice.slicePlaces (i:Int) (j:Int) 1=j - i:=by
 unfold Builtin.Slice.slicePlaces
 have h1:(1:Int) > 0:=by lia
 simp only [h1,if_true,Int.ediv_one]
 split <;> lia
theorem zig {v:Value} {o:Option Int} {Q:Option Int->Shared->Prop} (p:IsPart v o) (h:Q o s):wpAny (model prog w) A (Builtin.Slice.slicePartIndex v) Q E s:=by
 cases p with
|none=>exact slicePart_none h
|int i t=>exact slicePart_int h
theorem zma {sl:Addr} {vl vu:Value} {lo hi:Option Int} {n:Nat} {Q:Int×Int×Nat->Shared->Prop} (hs:s.heap.IsSliceOf sl vl vu .none) (pl:IsPart vl lo) (pu:IsPart vu hi)
  (h:Q (((sIx n 0 lo:Nat):Int),1,sIx n n hi - sIx n 0 lo) s):wpAny (model prog w) A (Builtin.Slice.sliceApplied (.ref sl) (pure (n:Int))) Q E s:=by
 obtain ⟨os,hos,hcs,hds⟩:=id hs
 unfold Builtin.Slice.sliceApplied Builtin.Slice.sliceFields
 refine wpAny_bind (wpAny_bind (wpAny_field hos hds (x:=vl) rfl (wpAny_bind (wpAny_field hos hds (x:=vu) rfl (wpAny_bind (wpAny_field hos hds (x:=.none) rfl (wpAny_pure ?_)))))))
 refine wpAny_bind (slicePart_none ?_)
 show wpAny _ _ (if ((1:Int) == 0)=true then _ else _) _ _ s
 rw [if_neg (by decide)]
 refine wpAny_bind (zig pl (wpAny_bind (zig pu (wpAny_bind (wpAny_pure ?_)))))
 show wpAny _ _ (match Builtin.Slice.sliceAdjust lo hi 1 (n:Int) with|(lo,hi)=>pure (lo,(1:Int),Builtin.Slice.slicePlaces lo hi 1)) _ _ s
 rw [zwl lo hi n]
 show wpAny _ _ (pure (((sIx n 0 lo:Nat):Int),(1:Int),Builtin.Slice.slicePlaces ((sIx n 0 lo:Nat):Int) ((sIx n n hi:Nat):Int) 1)) _ _ s
 rw [ztn]
 exact wpAny_pure h
theorem zvs (xs:Array Value) (i k:Nat):((List.range k).filterMap λ (m:Nat)=>xs[((i:Int)+(m:Int) * 1).toNat]?).toArray=((xs.toList.drop i).take k).toArray:=by
 have e:(λ (m:Nat)=>xs[((i:Int)+(m:Int) * 1).toNat]?)=λ m=>xs[i+m]?:=by
  funext m
  have:((i:Int)+(m:Int) * 1).toNat=i+m:=by lia
  rw [this]
 rw [e]
 have:=pick_run xs i k
 rw [List.filterMap_map] at this
 have e2:((λ x=>xs[x]?) ∘ λ x=>i+x)=λ m=>xs[i+m]?:=rfl
 rw [e2] at this
 rw [this]
theorem getItem_tuple_cut {t sl:Addr} {items:Array Value} {vl vu:Value} {lo hi:Option Int} {Q:Value->Shared->Prop} (ht:IsTup s.heap t items) (hs:s.heap.IsSliceOf sl vl vu .none) (pl:IsPart vl lo) (pu:IsPart vu hi)
  (hw:¬ (sIx items.size 0 lo=0/\sIx items.size items.size hi=items.size))
  (h:Q (.ref s.heap.objs.size) { s with heap:=s.heap.push { cls:=.type "tuple",data:=.seq ((items.toList.drop (sIx items.size 0 lo)).take (sIx items.size items.size hi - sIx items.size 0 lo)).toArray } })
  (hsz:items.size<=sizeLine):wpAny (model prog w) A (getItem (.ref t) (.ref sl)) Q E s:=by
 have htake:sizeOk (.seq ((items.toList.drop (sIx items.size 0 lo)).take (sIx items.size items.size hi - sIx items.size 0 lo)).toArray):=by
  show ((items.toList.drop (sIx items.size 0 lo)).take (sIx items.size items.size hi - sIx items.size 0 lo)).toArray.size<=sizeLine
  rw [List.size_toArray,List.length_take,List.length_drop,Array.length_toList]
  lia
 have hj:sIx items.size items.size hi<=items.size:=zc71 _ _ (Nat.le_refl _) hi
 obtain ⟨os,hos,hcs,hds⟩:=id hs
 have hTs:s.TypeIs (.ref sl) "slice":=⟨os,hos,hcs⟩
 unfold getItem
 try with_reducible refine wpAny_holding ?_
 first|refine wpAny_bind (wpAny_pure ?_)|skip
 refine wpAny_bind (wpAny_sequenceKey ht.typeIs (by decide) ?_)
 refine wpAny_bind (wpAny_callSpecial?_slot (name:=Str.ofString "__getitem__") ht.typeIs PyProof.Rows.slot_tuple_getitem
  (wpAny_call_entry PyProof.Rows.slot_tuple_getitem ht.typeIs entry_tuple_getitem ?_ (args_tuple_getitem _ _)))
 show wpAny _ _ (Builtin.Tuple.tupleItemsOf (.ref t) >>= _) _ _ s
 refine wpAny_bind (tupleItemsOf_ ht ?_)
 refine wpAny_bind (wpAny_typeOf hTs ?_)
 rw [if_pos (by decide)]
 refine wpAny_bind (zma hs pl pu ?_)
 have hno:¬ ((((sIx items.size 0 lo:Nat):Int) == 0 && (1:Int) == 1 && (sIx items.size items.size hi - sIx items.size 0 lo) == items.size)=true):=by
  intro q
  rw [Bool.and_eq_true,Bool.and_eq_true] at q
  have q1:((sIx items.size 0 lo:Nat):Int)=0:=eq_of_beq q.1.1
  have q2:sIx items.size items.size hi - sIx items.size 0 lo=items.size:=eq_of_beq q.2
  exact hw ⟨by lia,by lia⟩
 show wpAny _ _ (if (((sIx items.size 0 lo:Nat):Int) == 0 && (1:Int) == 1 && (sIx items.size items.size hi - sIx items.size 0 lo) == items.size)=true then _ else _) _ _ s
 rw [if_neg hno,zvs]
 first
 |exact wpAny_bind (m:=Builtin.Tuple.tupleExact _) (wpAny_newObj_type (wpAny_pure ⟨_,rfl,wpAny_pure h⟩) htake)
 |exact wpAny_bind (m:=Builtin.Tuple.tupleExact _) (wpAny_newObj_type (wpAny_bind (wpAny_pure (wpAny_pure ⟨_,rfl,wpAny_pure h⟩))) htake)
 |exact wpAny_bind (wpAny_bind (m:=Builtin.Tuple.tupleExact _) (wpAny_newObj_type (wpAny_pure (wpAny_pure ⟨_,rfl,wpAny_pure h⟩)) htake))
 |exact wpAny_bind (wpAny_bind (m:=Builtin.Tuple.tupleExact _) (wpAny_newObj_type (wpAny_pure ⟨_,rfl,wpAny_pure h⟩) htake))
end
end HT
namespace L2
open PySem PySem.Spec PyProof.Rows
abbrev TO:=St->Hp->(Option Int->Hp->Prop)->Prop
def PO (X:Cx) (e:Option Expr) (t:TO):Prop :=
 ∀ (pins:List (Addr×Obj)) (s:Shared) (σ:St) (H:Hp) (Q:Option Int->Hp->Prop),Inv X pins σ H s->t σ H Q ->
  wpAny (model X.prog X.w) X.A (evalPart e X.env) (λ u s'=>∃ o H',Inv X pins σ H' s'/\IsPart u o/\Q o H') X.xe s
def zps:TO:=λ _ H Q=>Q none H
def zxa1 (t:TE):TO:=λ σ H Q=>t σ H λ x H1=>∃ i,x=.int i/\Q (some i) H1
theorem zfh {ns:List Int}:∀ {us:List Value},Vals (ns.map V.int) us->IntsAre us ns:=by
 induction ns with
|nil=>intro us r;rw [List.map_nil] at r;cases r;exact .nil
|cons n ns ih =>
  intro us r
  rw [List.map_cons] at r
  cases r with
 |cons r1 r2 =>
   obtain ⟨t,e⟩:=r1
   subst e
   exact .cons n t (ih r2)
section
variable {X:Cx} {e:Expr} {te:TE} {lo hi:Option Expr} {tl th:TO} {pos p2:Pos}
theorem zbk:PO X none zps:=by
 intro pins s σ H Q I h
 rw [evalPart_none]
 exact wpAny_pure ⟨none,H,I,.none,h⟩
theorem zhy (h:PE X e te):PO X (some e) (zxa1 te):=by
 intro pins s σ H Q I hw
 rw [evalPart_some]
 refine thn (h pins s σ H _ I hw) λ u s1 ⟨x,H1,I1,r1,q1⟩=>?_
 obtain ⟨i,rfl,q⟩:=q1
 obtain ⟨t,rfl⟩:=r1
 exact ⟨some i,H1,I1,.int i t,q⟩
def SlR (X:Cx) (r:V->Option Int->Option Int->Hp->VK->Prop):Prop :=
 ∀ (pins:List (Addr×Obj)) (s:Shared) (σ:St) (H:Hp) (x:V) (v vl vu:Value) (lo hi:Option Int) (sl:Addr) (Q:VK),Inv X pins σ H s->RelV x v->s.heap.IsSliceOf sl vl vu .none->IsPart vl lo->IsPart vu hi->r x lo hi H Q ->
  ∃ T id,typeLookup (.type T) "__getitem__"=pure (some (.builtin id))/\s.TypeIs v T/\wpAny (model X.prog X.w) X.A (getItem v (.ref sl)) (EP X pins σ Q) X.xe s
theorem SlR.or {r r':V->Option Int->Option Int->Hp->VK->Prop} (h:SlR X r) (h':SlR X r'):SlR X (λ x lo hi H Q=>r x lo hi H Q \/ r' x lo hi H Q):=by
 intro pins s σ H x v vl vu lo hi sl Q I rx hs pl pu q
 rcases q with q|q
 ·exact h pins s σ H x v vl vu lo hi sl Q I rx hs pl pu q
 ·exact h' pins s σ H x v vl vu lo hi sl Q I rx hs pl pu q
def tSl (r:V->Option Int->Option Int->Hp->VK->Prop) (te:TE) (tl th:TO):TE:=λ σ H Q=>te σ H λ x H1=>tl σ H1 λ l H2=>th σ H2 λ u H3=>r x l u H3 Q
theorem zli {r:V->Option Int->Option Int->Hp->VK->Prop} (hr:SlR X r) (he:PE X e te) (hl:PO X lo tl) (hu:PO X hi th):PE X (.Subscript e (.Slice lo hi none p2) pos) (tSl r te tl th):=by
 intro pins s σ H Q I h
 refine Subscript_ (thn (he pins s σ H _ I h) λ v s1 ⟨x,H1,I1,r1,q1⟩=>?_)
 refine wpAny_Slice (thn (hl pins s1 σ H1 _ I1 q1) λ vl s2 ⟨l,H2,I2,pl,q2⟩=>thn (hu pins s2 σ H2 _ I2 q2) λ vu s3 ⟨u,H3,I3,pu,q3⟩=>?_)
 rw [evalPart_none]
 refine wpAny_pure ?_
 have I4:Inv X pins σ H3 { s3 with heap:=s3.heap.push { cls:=.type "slice",data:=.fields #[vl,vu,.none] } }:=I3.kept (t':=s3.toks) λ b ob q=>Heap.get?_push_of_some _ q
 obtain ⟨T,id,hT,ht,hg⟩:=hr pins { s3 with heap:=s3.heap.push { cls:=.type "slice",data:=.fields #[vl,vu,.none] } } σ H3 x v vl vu l u s3.heap.objs.size Q I4 r1 (Heap.IsSliceOf.new ..) pl pu q3
 show wpAny (model X.prog X.w) X.A (subscriptTail e (.Slice lo hi none p2) v (.ref s3.heap.objs.size)) (EP X pins σ Q) X.xe { s3 with heap:=s3.heap.push { cls:=.type "slice",data:=.fields #[vl,vu,.none] } }
 exact tail_any (ops:=[.ref s3.heap.objs.size,v]) ht hT hg (by with_unfolding_all rfl)
def cutV (xs:List V) (lo hi:Option Int):List V:=(xs.drop (HT.sIx xs.length 0 lo)).take (HT.sIx xs.length xs.length hi - HT.sIx xs.length 0 lo)
theorem zed (xs:List V) (lo hi:Option Int):(cutV xs lo hi).length<=xs.length:=by
 unfold cutV
 rw [List.length_take,List.length_drop]
 lia
def rSlT (K:Fg):V->Option Int->Option Int->Hp->VK->Prop:=λ x lo hi H Q=>∃ a xs,x=.ref a/\SqT K H a xs /\
 ¬ (HT.sIx xs.length 0 lo=0/\HT.sIx xs.length xs.length hi=xs.length)/\∀ p,H p=none->Q (.ref p) (upd H p (.tup (cutV xs lo hi)))
theorem zi71:SlR X (rSlT X.K):=by
 intro pins s σ H x v vl vu lo hi sl Q I rx hs pl pu h
 obtain ⟨a,xs,rfl,hx,hw,q⟩:=h
 cases rx
 obtain ⟨its,r,ht,hz⟩:=I.tuple hx
 have hlen:its.toArray.size=xs.length:=by rw [List.size_toArray];exact r.length.symm
 refine ⟨"tuple",_,PyProof.Rows.slot_tuple_getitem.lookup,ht.typeIs,?_⟩
 refine HT.getItem_tuple_cut ht hs pl pu (by rw [hlen];exact hw) ?_ (by rw [hlen];exact hz)
 rw [hlen]
 refine ⟨.ref s.heap.objs.size,_,I.laid (t':=s.toks) (o:=.tup (cutV xs lo hi)) (λ b ob q=>Heap.get?_push_of_some _ q) (Nat.le_refl _) ?_,rfl,q _ (I.hok.fresh (Nat.le_refl _))⟩
 exact ⟨Nat.le_trans (zed xs lo hi) hz,_,(r.drop (HT.sIx xs.length 0 lo)).take (HT.sIx xs.length xs.length hi - HT.sIx xs.length 0 lo),IsTup.new _ _⟩
def zr81 (K:Fg):R2:=λ x y H Q=>∃ a b xs ys,x=.ref a/\y=.ref b/\SqT K H a xs/\SqT K H b ys/\xs≠[]/\xs.length+ys.length<=sizeLine /\
 (ys=[]->Q (.ref a) H)/\(ys≠[]->∀ p,H p=none->Q (.ref p) (upd H p (.tup (xs++ys))))
theorem Vals.nil_iff {xs:List V} {us:List Value} (r:Vals xs us):us=[] ↔ xs=[]:=by
 cases r with
|nil=>simp
|cons _ _=>simp
theorem ziy:OpR X (binaryOp .Add) (zr81 X.K):=by
 intro pins s σ H x y v u Q I rx ry h
 obtain ⟨a,b,xs,ys,rfl,rfl,ha,hb,hx,hz,q1,q2⟩:=h
 cases rx
 cases ry
 obtain ⟨its,r1,p1,_⟩:=I.tuple ha
 obtain ⟨its2,r2,p2,_⟩:=I.tuple hb
 refine HT.cat_tup p1 p2 (λ z=>hx (r1.nil_iff.mp z)) (λ z=>⟨.ref a,H,I,rfl,q1 (r2.nil_iff.mp z)⟩) (λ z=>?_) (by rw [<- r1.length,<- r2.length];exact hz)
 refine ⟨.ref s.heap.objs.size,_,I.laid (t':=s.toks) (o:=.tup (xs++ys)) (λ b ob q=>Heap.get?_push_of_some _ q) (Nat.le_refl _) ?_,rfl,q2 (λ w=>z (r2.nil_iff.mpr w)) _ (I.hok.fresh (Nat.le_refl _))⟩
 exact ⟨by rw [List.length_append];exact hz,_,r1.append r2,IsTup.new _ _⟩
end
def ixN (n:Nat) (i:Int):Option Nat:=if 0<=i then (if i < n then some i.toNat else none) else if -(n:Int)<=i then some (i+n).toNat else none
def atI {α:Type} (xs:List α) (i:Int):Option α:=(ixN xs.length i).bind λ j=>xs[j]?
theorem zbr {n:Nat} {i:Int} {j:Nat} (h:ixN n i=some j):seqIndex? i n=some j/\j < n/\-(n:Int)<=i/\i < n:=by
 unfold ixN at h
 by_cases h0:0<=i
 ·rw [if_pos h0] at h
  by_cases h1:i < n
  ·rw [if_pos h1] at h
   have e:i.toNat=j:=Option.some.inj h
   exact ⟨by rw [seqIndex_of h0 h1,e],by lia,by lia,h1⟩
  ·rw [if_neg h1] at h;cases h
 ·rw [if_neg h0] at h
  by_cases h1:-(n:Int)<=i
  ·rw [if_pos h1] at h
   have e:(i+n).toNat=j:=Option.some.inj h
   exact ⟨by rw [seqIndex_neg (by lia) h1,e],by lia,h1,by lia⟩
  ·rw [if_neg h1] at h;cases h
theorem zln {α:Type} {xs:List α} {i:Int} {v:α} (h:atI xs i=some v):∃ j,seqIndex? i xs.length=some j/\xs[j]?=some v/\j < xs.length/\-(xs.length:Int)<=i/\i < xs.length:=by
 unfold atI at h
 cases e:ixN xs.length i with
|none=>rw [e] at h;cases h
|some j =>
  rw [e] at h
  obtain ⟨h1,h2,h3,h4⟩:=zbr e
  exact ⟨j,h1,h,h2,h3,h4⟩
theorem zu01 {α:Type} {xs:List α} {j:Nat} {v:α} (h:xs[j]?=some v):atI xs (j:Int)=some v:=by
 have hj:j < xs.length:=(List.getElem?_eq_some_iff.mp h).1
 have e:ixN xs.length (j:Int)=some j:=by
  unfold ixN
  rw [if_pos (by lia),if_pos (by lia)];simp
 unfold atI;rw [e];exact h
def zgs (b:Expr):Prop:=∀ o i,subscripted b false o i=operate [o,i] (getItem o i)
def IxR (X:Cx) (r:R2):Prop :=
 ∀ (value slice:Expr) (pins:List (Addr×Obj)) (s:Shared) (σ:St) (H:Hp) (x y:V) (v u:Value) (Q:VK),Inv X pins σ H s->RelV x v->RelV y u->r x y H Q ->
  subscripted slice false v u=operate [v,u] (getItem v u)->wpAny (model X.prog X.w) X.A (subscriptTail value slice v u) (EP X pins σ Q) X.xe s
def MtR (X:Cx) (id:String) (r:V->List V->Hp->VK->Prop):Prop :=
 ∀ (pins:List (Addr×Obj)) (s:Shared) (σ:St) (H:Hp) (x:V) (xs:List V) (v:Value) (us:List Value) (Q:VK),Inv X pins σ H s->RelV x v->Vals xs us->r x xs H Q ->
  wpAny (model X.prog X.w) X.A (call (.builtin id) (v :: us)) (EP X pins σ Q) X.xe s
section
variable {X:Cx} {a b:Expr} {ta tb:TE} {pos:Pos}
theorem IxR.or {r r':R2} (h:IxR X r) (h':IxR X r'):IxR X (λ x y H Q=>r x y H Q \/ r' x y H Q):=by
 intro value slice pins s σ H x y v u Q I rx ry q hs
 rcases q with q|q
 ·exact h value slice pins s σ H x y v u Q I rx ry q hs
 ·exact h' value slice pins s σ H x y v u Q I rx ry q hs
theorem zfb1 {r:R2} (hr:IxR X r) (ha:PE X a ta) (hb:PE X b tb) (hs:zgs b):PE X (.Subscript a b pos) (tOp r ta tb):=by
 intro pins s σ H Q I h
 exact Subscript_ (binT ha hb I h λ v u s2 x y H2 I2 rx ry q=>hr a b pins s2 σ H2 x y v u Q I2 rx ry q (hs _ _))
def rIxL (K:Fg):R2:=λ x y H Q=>∃ p xs i v,x=.ref p/\y=.int i/\SqL K H p xs/\atI xs i=some v/\Q v H
def rIxT (K:Fg):R2:=λ x y H Q=>∃ p xs i v,x=.ref p/\y=.int i/\SqT K H p xs/\atI xs i=some v/\Q v H
def rIxS:R2:=λ x y H Q=>∃ z i c,x=.str z/\y=.int i/\z.length<=sizeLine/\atI z.cps.toList i=some c/\Q (.str ⟨#[c]⟩) H
theorem zcy:IxR X (rIxL X.K):=by
 intro value slice pins s σ H x y v u Q I rx ry h hs
 obtain ⟨p,xs,i,z,rfl,rfl,hq,he,q⟩:=h
 cases rx
 obtain ⟨t,rfl⟩:=ry
 obtain ⟨its,r,pl,hz⟩:=I.list hq
 obtain ⟨j,h1,h2,h3,h4,h5⟩:=zln he
 obtain ⟨w,ew,rw'⟩:=r.get h2
 have hl:=r.length
 have hn:=zri
 have fin:EP X pins σ Q w s:=⟨z,H,I,rw',q⟩
 by_cases h0:0<=i
 ·have hj:i.toNat=j:=by
   rw [seqIndex_of h0 h5] at h1
   exact Option.some.inj h1
  exact item_listR pl.isList h0 (by lia) (by rw [hj];simpa using ew) fin hs
 ·have hj:(i+(its.toArray.size:Int)).toNat=j:=by
   rw [seqIndex_neg (by lia) h4] at h1
   rw [List.size_toArray,<- hl]
   exact Option.some.inj h1
  exact subscriptTail_builtinR (x:=w) pl.isList.typeIs slot_list_getitem.lookup
   (wpAny_getItem_list_neg (Q:=λ r s'=>r=w/\EP X pins σ Q r s') pl.isList (by lia) (by rw [List.size_toArray] <;> lia) (by lia) (by rw [hj];simpa using ew) ⟨rfl,fin⟩) hs
theorem zg61:IxR X (rIxT X.K):=by
 intro value slice pins s σ H x y v u Q I rx ry h hs
 obtain ⟨p,xs,i,z,rfl,rfl,hq,he,q⟩:=h
 cases rx
 obtain ⟨t,rfl⟩:=ry
 obtain ⟨its,r,pl,hz⟩:=I.tuple hq
 obtain ⟨j,h1,h2,h3,h4,h5⟩:=zln he
 obtain ⟨w,ew,rw'⟩:=r.get h2
 have hl:=r.length
 have hn:=zri
 have fin:EP X pins σ Q w s:=⟨z,H,I,rw',q⟩
 exact subscriptTail_builtinR (x:=w) pl.typeIs slot_tuple_getitem.lookup
  (getItem_tuple (j:=j) (Q:=λ r s'=>r=w/\EP X pins σ Q r s') pl (by lia) (by lia) (by rw [List.size_toArray,<- hl];exact h1) (by simpa using ew) ⟨rfl,fin⟩) hs
theorem zv51:IxR X rIxS:=by
 intro value slice pins s σ H x y v u Q I rx ry h hs
 obtain ⟨z,i,c,rfl,rfl,hz,he,q⟩:=h
 obtain ⟨t,rfl⟩:=rx
 obtain ⟨t',rfl⟩:=ry
 obtain ⟨j,h1,h2,h3,h4,h5⟩:=zln he
 have hl:z.cps.toList.length=z.length:=by simp [Str.length]
 rw [hl] at h1 h4 h5
 have hn:=zri
 exact tail_any (typeIs_str s z t) slot_str_getitem.lookup (getItem_str (c:=c) (by
  have e1:decide (i < -(2 ^ 63:Int))=false:=decide_eq_false (by lia)
  have e2:decide (i ≥ 2 ^ 63)=false:=decide_eq_false (by lia)
  rw [e1,e2,Bool.or_false]) (by rw [h1];simpa using h2) ⟨.str ⟨#[c]⟩,H,I.tok _,⟨_,rfl⟩,q⟩) hs
def rIx (K:Fg):R2:=λ x y H Q=>rIxL K x y H Q \/ rIxT K x y H Q \/ rIxS x y H Q
theorem zl71:IxR X (rIx X.K):=zcy.or (zg61.or zv51)
theorem zqm (its:List Value) (n j:Nat) (u:Value):Obj.mapSeq (·.setIfInBounds j u) { cls:=.type "list",data:=.seq its.toArray n }={ cls:=.type "list",data:=.seq (its.set j u).toArray n }:=by
 simp [Obj.mapSeq]
theorem Inv.lst {pins:List (Addr×Obj)} {σ:St} {H:Hp} {s:Shared} {p:Addr} {xs:List V} (I:Inv X pins σ H s) (h:H p=some (.lst xs)) :
  ∃ (its:List Value) (n:Nat),Vals xs its/\s.heap.get? p=some { cls:=.type "list",data:=.seq its.toArray n }/\xs.length<=sizeLine:=by
 obtain ⟨z,its,n,r,e⟩:=I.hok p _ h
 exact ⟨its,n,r,e,z⟩
theorem Inv.lstUpd {pins:List (Addr×Obj)} {σ:St} {H:Hp} {s:Shared} {p:Addr} {xs ys:List V} {its its':List Value} {n n':Nat} {f:Obj->Obj} (I:Inv X pins σ H s) (h:H p=some (.lst xs))
  (ho:s.heap.get? p=some { cls:=.type "list",data:=.seq its.toArray n }) (hf:f { cls:=.type "list",data:=.seq its.toArray n }={ cls:=.type "list",data:=.seq its'.toArray n' }) (r:Vals ys its') (hz:ys.length<=sizeLine) (t:Nat) :
  Inv X pins σ (upd H p (.lst ys)) { s with heap:=s.heap.update p f,toks:=t }:=by
 have e:(s.heap.update p f).get? p=some { cls:=.type "list",data:=.seq its'.toArray n' }:=by
  rw [Heap.get?_update_self f ho (by rw [hf] <;> rfl),hf]
 refine I.write (x:=p) (e:=p) (by rw [h];trivial) (.inl rfl) (λ b u hb q=>(Heap.get?_update_other _ _ (Ne.symm hb)).trans q) ⟨_,e⟩ ?_
 exact ⟨hz,its',n',r,e⟩
def zq81:V->V->V->Hp->(Hp->Prop)->Prop:=λ o i v H Q=>∃ p xs k j,o=.ref p/\i=.int k/\H p=some (.lst xs)/\ixN xs.length k=some j/\Q (upd H p (.lst (xs.set j v)))
theorem zus:PSet X zq81:=by
 intro pins s σ H o i v ov iv u Q I ro ri rv h
 obtain ⟨p,xs,k,j,rfl,rfl,hp,hj,q⟩:=h
 cases ro
 obtain ⟨t,rfl⟩:=ri
 obtain ⟨its,n,r,ho,hz⟩:=I.lst hp
 obtain ⟨h1,h2,h3,h4⟩:=zbr hj
 have hl:=r.length
 have hn:=zri
 have I':Inv X pins σ (upd H p (.lst (xs.set j v))) { s with heap:=s.heap.update p (Obj.mapSeq (·.setIfInBounds j u)) } :=
  I.lstUpd hp ho (zqm its n j u) (r.set rv j) (by rw [List.length_set];exact hz) s.toks
 by_cases h0:0<=k
 ·have hk:k.toNat=j:=by
   rw [seqIndex_of h0 h4] at h1
   exact Option.some.inj h1
  exact PySem.W.ki_setAt ho h0 (by lia) (by rw [List.size_toArray,<- hl];exact h4) (by rw [hk];exact ⟨_,I',q⟩)
 ·have hk:(k+(its.toArray.size:Int)).toNat=j:=by
   rw [seqIndex_neg (by lia) h3] at h1
   rw [List.size_toArray,<- hl]
   exact Option.some.inj h1
  exact PySem.W.ki_setBack ho (by lia) (by rw [List.size_toArray,<- hl];exact h3) (by lia) (by rw [hk];exact ⟨_,I',q⟩)
theorem zyi (lo hi:Option Int) (n:Nat):(sliceBounds lo hi none n).1=((HT.sIx n 0 lo:Nat):Int)/\(sliceBounds lo hi none n).2.1=((HT.sIx n n hi:Nat):Int)/\(sliceBounds lo hi none n).2.2=1:=by
 refine ⟨?_,?_,rfl⟩
 ·cases lo with
 |none=>simp [sliceBounds,HT.sIx]
 |some i =>
   simp only [sliceBounds,HT.sIx,Option.getD_none,show (1:Int) > 0 by decide,if_true]
   by_cases h:i < 0
   ·simp only [h,if_true] <;> lia
   ·simp only [h,if_false] <;> lia
 ·cases hi with
 |none=>simp [sliceBounds,HT.sIx]
 |some i =>
   simp only [sliceBounds,HT.sIx,Option.getD_none,show (1:Int) > 0 by decide,if_true]
   by_cases h:i < 0
   ·simp only [h,if_true] <;> lia
   ·simp only [h,if_false] <;> lia
theorem zvf (its:List Value) (lo hi:Option Int):slicePick its.toArray lo hi none=((its.drop (HT.sIx its.length 0 lo)).take (HT.sIx its.length its.length hi - HT.sIx its.length 0 lo)).toArray:=by
 obtain ⟨h1,h2,h3⟩:=zyi lo hi its.toArray.size
 unfold slicePick
 rw [h1,h2,h3]
 simp only [sliceRange_one,pick_run,List.size_toArray] <;> rfl
def rSlL (K:Fg):V->Option Int->Option Int->Hp->VK->Prop:=λ x lo hi H Q=>∃ a xs,x=.ref a/\SqL K H a xs/\∀ p,H p=none->Q (.ref p) (upd H p (.lst (cutV xs lo hi)))
theorem zs01:SlR X (rSlL X.K):=by
 intro pins s σ H x v vl vu lo hi sl Q I rx hs pl pu h
 obtain ⟨a,xs,rfl,hx,q⟩:=h
 cases rx
 obtain ⟨its,r,ht,hz⟩:=I.list hx
 have hlen:=r.length
 refine ⟨"list",_,slot_list_getitem.lookup,ht.isList.typeIs,?_⟩
 refine wpAny_getItem_list_slice ht.isList hs pl pu .none (by simp) ?_ (by rw [List.size_toArray] <;> lia)
 rw [zvf,<- hlen]
 refine ⟨.ref s.heap.objs.size,_,I.laid (t':=s.toks) (o:=.lst (cutV xs lo hi)) (λ b ob q=>Heap.get?_push_of_some _ q) (Nat.le_refl _) ?_,rfl,q _ (I.hok.fresh (Nat.le_refl _))⟩
 exact ⟨Nat.le_trans (zed xs lo hi) hz,_,0,(r.drop (HT.sIx xs.length 0 lo)).take (HT.sIx xs.length xs.length hi - HT.sIx xs.length 0 lo),Heap.get?_push_size _ rfl⟩
theorem zg9.or {f:Value} {r r':List V->Hp->VK->Prop} (h:zg9 X f r) (h':zg9 X f r'):zg9 X f (λ xs H Q=>r xs H Q \/ r' xs H Q):=by
 intro pins s σ H xs us Q I rs q
 rcases q with q|q
 ·exact h pins s σ H xs us Q I rs q
 ·exact h' pins s σ H xs us Q I rs q
theorem zfi:zg9 X (.type "list") (λ xs H Q=>∃ p ys,xs=[.ref p]/\(SqL X.K H p ys \/ SqT X.K H p ys)/\∀ l,H l=none->Q (.ref l) (upd H l (.lst ys))):=by
 intro pins s σ H xs us Q I r h
 obtain ⟨p,ys,rfl,hq,q⟩:=h
 obtain ⟨u,rfl,rx⟩:=zmr r
 cases rx
 have fin:∀ (its:List Value),Vals ys its->ys.length<=sizeLine->∀ (h':Heap) (c':Nat),(∀ b o',s.heap.get? b=some o'->h'.get? b=some o') ->
   h'.get? s.heap.objs.size=some { cls:=.type "list",dict:=none,data:=.seq its.toArray c',slots:=#[] }->EP X pins σ Q (.ref s.heap.objs.size) { s with heap:=h' }:=λ its r' hz h' c' kp e =>
  ⟨.ref s.heap.objs.size,_,I.laid (t':=s.toks) kp (Nat.le_refl _) (show zm8 X.prog X.w _ h' _ (.lst ys) from ⟨hz,its,c',r',e⟩),rfl,q _ (I.hok.fresh (Nat.le_refl _))⟩
 rcases hq with hq|hq
 ·obtain ⟨its,r',pl,hz⟩:=I.list hq
  have hlen:=r'.length
  obtain ⟨o,ho,hc,n,hd⟩:=pl.isList
  exact call_list_seq p (.inl rfl) ho hc hd (λ h' c' kp e=>fin its r' hz h' c' kp e) (by simp only [List.size_toArray] <;> lia)
 ·obtain ⟨its,r',pl,hz⟩:=I.tuple hq
  have hlen:=r'.length
  obtain ⟨o,ho,hc,n,hd⟩:=pl
  exact call_list_seq p (.inr rfl) ho hc hd (λ h' c' kp e=>fin its r' hz h' c' kp e) (by simp only [List.size_toArray] <;> lia)
def tyV (K:Fg) (T:String) (x:V) (H:Hp):Prop:=match x with
|.str _=>T = "str"
|.int _=>T = "int"
|.ref p=>(T = "list"/\∃ xs,SqL K H p xs) \/ (T = "tuple"/\∃ o,K.lookup p=some o/\o.cls=.type "tuple"/\o.dict=none) \/
   (T = "dict"/\((∃ kvs,H p=some (.dK kvs)) \/ ∃ kvs,H p=some (.dT kvs))) \/ (T = "set"/\∃ S n,H p=some (.set S n))
|_=>False
theorem zh71 {pins:List (Addr×Obj)} {σ:St} {H:Hp} {s:Shared} {T:String} {x:V} {v:Value} (I:Inv X pins σ H s) (r:RelV x v) (ty:tyV X.K T x H) :
  s.TypeIs v T/\∀ a,v=.ref a->∃ ob,s.heap.get? a=some ob/\ob.dict=none:=by
 cases x with
|str z =>
  obtain ⟨t,rfl⟩:=r
  cases (show T = "str" from ty)
  exact ⟨typeIs_str s z t,λ _ e=>nomatch e⟩
|int i =>
  obtain ⟨t,rfl⟩:=r
  cases (show T = "int" from ty)
  exact ⟨typeIs_int s i t,λ _ e=>nomatch e⟩
|ref p =>
  cases r
  rcases ty with ⟨rfl,xs,hq⟩|⟨rfl,o,hk,hc,hd⟩|⟨rfl,hk⟩|⟨rfl,S,n,hk⟩
  ·obtain ⟨its,_,pl,_⟩:=I.list hq
   refine ⟨pl.isList.typeIs,λ a e=>?_⟩
   cases e
   obtain ⟨o,n,e,c,hd,_⟩:=pl
   exact ⟨o,e,hd⟩
  ·refine ⟨⟨o,I.kIn p o hk,hc⟩,λ a e=>?_⟩
   cases e
   exact ⟨o,I.kIn _ o hk,hd⟩
  ·have z:∃ o,s.heap.get? p=some o/\o.ExactDict:=by
    rcases hk with ⟨kvs,hk⟩|⟨kvs,hk⟩
    ·obtain ⟨_,_,_,_,o,_,_,e,ex,_⟩:=I.hok p _ hk
     exact ⟨o,e,ex⟩
    ·obtain ⟨_,_,_,_,o,_,_,e,ex,_⟩:=I.hok p _ hk
     exact ⟨o,e,ex⟩
   obtain ⟨o,e,ex⟩:=z
   refine ⟨⟨o,e,ex.1⟩,λ a e2=>?_⟩
   cases e2
   exact ⟨o,e,ex.2.1⟩
  ·obtain ⟨o,_,_,_,e,ex,_⟩:=I.hok p _ hk
   refine ⟨⟨o,e,ex.1⟩,λ a e2=>?_⟩
   cases e2
   exact ⟨o,e,ex.2.1⟩
|_=>exact False.elim ty
def tBM (K:Fg) (T:String) (r:V->List V->Hp->VK->Prop) (to:TE) (t:TA):TE:=λ σ H Q=>to σ H λ x H1=>tyV K T x H1/\t σ H1 λ xs H2=>r x xs H2 Q
variable {o e:Expr} {es:List Expr} {to:TE} {t:TA} {name:Str} {apos cpos:Pos} {T id:String} {r:V->List V->Hp->VK->Prop}
theorem zca1 (pa:PlainAttrs T) (slot:Slot T name id) (hty:typeOf (.builtin id)=pure (.type "method_descriptor")) (hm:MtR X id r) (ho:PE X o to) (ha:PA X (e :: es) t)
  (hbase:attributeBase o name X.env (eval o X.env)=eval o X.env:=by rfl)
  (hfew:((backTo cpos (starEach (e :: es) X.env)).all (λ x=>!x.1) && (backToKw cpos (keywordEach [] X.env)).all (λ x=>x.1.isSome)
   && decide ((e :: es).length+([]:List Keyword).length+(if ([]:List Keyword).isEmpty then 0 else 1) < 30))=true:=by rfl)
  (hline:(apos.endLine == cpos.line)=true:=by rfl) (hs:starEach (e :: es) X.env=(false,eval e X.env) :: starEach es X.env:=by rfl) (hplain:(backTo cpos (starEach es X.env)).any (·.1)=false:=by rfl) :
  PE X (.Call (.Attribute o name apos) (e :: es) [] cpos) (tBM X.K T r to t):=by
 intro pins s σ H Q I h
 refine wpAny_Call_method_late hbase hfew hline rfl (thn (ho pins s σ H _ I h) λ v s1 ⟨x,H1,I1,r1,ty,q1⟩=>?_)
 obtain ⟨h1,h2⟩:=zh71 I1 r1 ty
 refine ⟨T,id,pa,slot,hty,h1,h2,?_⟩
 have hA:=ha cpos pins s1 σ H1 _ I1 q1
 rw [hs] at hA ⊢
 refine Calls.callWith_builtin (by show (false || (backTo cpos (starEach es X.env)).any (·.1))=false;rw [hplain] <;> rfl) (Calls.evalArgs_plain ?_)
 exact thn hA λ us s2 ⟨vs,H2,I2,r2,q2⟩=>hm pins s2 σ H2 x vs v us Q I2 r1 r2 q2
end
def MtM (X:Cx) (id:String) (r:V->List V->Hp->VK->Prop):Prop :=
 ∀ (pins:List (Addr×Obj)) (s:Shared) (σ:St) (H:Hp) (x:V) (xs:List V) (v:Value) (us:List Value) (Q:VK),Inv X pins σ H s->RelV x v->Vals xs us->r x xs H Q ->
  wpAny (model X.prog X.w) X.A (call (.builtin id) (v :: us)) (EP X pins σ Q) X.xe s
theorem Vals.one:∀ {x:V} {us:List Value},Vals [x] us->∃ u,us=[u]/\RelV x u
|_,_,.cons r .nil=>⟨_,rfl,r⟩
theorem Vals.two:∀ {x y:V} {us:List Value},Vals [x,y] us->∃ u v,us=[u,v]/\RelV x u/\RelV y v
|_,_,_,.cons r (.cons q .nil)=>⟨_,_,rfl,r,q⟩
theorem Vals.rep {xs:List V} {us:List Value} (h:Vals xs us):∀ k:Nat,Vals (List.replicate k xs).flatten (List.replicate k us).flatten
|0=>.nil
|k+1=>by
  rw [List.replicate_succ,List.replicate_succ,List.flatten_cons,List.flatten_cons]
  exact Vals.append h (Vals.rep h k)
theorem zrj (its:List Value):∀ (k:Nat) (acc:List Value),
  List.foldl (λ x1 x2=>x1++x2) acc.toArray (List.replicate k its.toArray)=(acc++(List.replicate k its).flatten).toArray
|0,acc=>by simp
|k+1,acc=>by
  have e:acc.toArray++its.toArray=(acc++its).toArray:=by simp
  have e2:(acc++its)++(List.replicate k its).flatten=acc++(List.replicate (k+1) its).flatten:=by
   rw [List.replicate_succ,List.flatten_cons,List.append_assoc]
  rw [<- e2,<- zrj its k (acc++its),<- e,List.replicate_succ,List.foldl_cons]
section
variable {X:Cx} {pins:List (Addr×Obj)} {σ:St} {H:Hp} {s:Shared} {l b:Addr} {xs ys zs:List V}
theorem Inv.lset {its its':List Value} {n:Nat} {f:Array Value->Array Value} {t':Nat} (I:Inv X pins σ H s) (hH:H l=some (.lst xs))
  (e:s.heap.get? l=some { cls:=.type "list",data:=.seq its.toArray n }) (hf:f its.toArray=its'.toArray) (hv:Vals ys its') (hz:ys.length<=sizeLine) :
  Inv X pins σ (upd H l (.lst ys)) { s with heap:=s.heap.update l (Obj.mapSeq f),toks:=t' }:=by
 have q:=PySem.IsL.update e f
 rw [hf] at q
 refine I.write (x:=l) (e:=l) (by rw [hH];exact trivial) (.inl rfl) (λ b' u hb hu=>(Heap.get?_update_other s.heap (Obj.mapSeq f) (Ne.symm hb)).trans hu) ⟨_,q⟩ ?_
 exact ⟨hz,its',_,hv,q⟩
theorem Inv.lnew {its:List Value} {t':Nat} (I:Inv X pins σ H s) (hv:Vals ys its) (hz:ys.length<=sizeLine) :
  Inv X pins σ (upd H s.heap.objs.size (.lst ys)) { s with heap:=s.heap.push { cls:=.type "list",data:=.seq its.toArray },toks:=t' } :=
 I.laid (λ _ _ q=>Heap.get?_push_of_some _ q) (Nat.le_refl _) ⟨hz,its,0,hv,Heap.get?_push_size _ rfl⟩
theorem Inv.fresh (I:Inv X pins σ H s):H s.heap.objs.size=none:=I.hok.fresh (Nat.le_refl _)
theorem Inv.lstM (I:Inv X pins σ H s) (hH:H l=some (.lst xs)):xs.length<=sizeLine/\∃ (its:List Value) (n:Nat),Vals xs its/\xs.length=its.length/\s.heap.get? l=some { cls:=.type "list",data:=.seq its.toArray n }:=by
 obtain ⟨z,its,n,r,e⟩:=I.hok l _ hH
 exact ⟨z,its,n,r,r.length,e⟩
theorem zon {n:Nat} (h:n<=sizeLine):Builtin.List.listTooLong n=false:=by
 unfold Builtin.List.listTooLong
 exact decide_eq_false (by lia)
end
section
variable {X:Cx}
def zwm:V->List V->Hp->VK->Prop:=λ x vs H Q=>∃ l xs y,x=.ref l/\vs=[y]/\H l=some (.lst xs)/\xs.length < sizeLine/\Q .non (upd H l (.lst (xs++[y])))
theorem zt5:MtM X "list.append" zwm:=by
 intro pins s σ H x vs v us Q I rx rv h
 obtain ⟨l,xs,y,rfl,rfl,hH,hz,q⟩:=h
 cases rx
 obtain ⟨u,rfl,ru⟩:=rv.one
 obtain ⟨z,its,n,r,hl,e⟩:=I.lstM hH
 refine call_meets F.slot_list_append ⟨_,e,rfl⟩ F.entry_list_append (F.args_list_append_2 _ _) (PySem.list_append l its.toArray n u (by rw [List.size_toArray];lia)) ⟨e,?_⟩
 refine ⟨.non,_,I.lset (its':=its++[u]) hH e (by simp) (r.append (.cons ru .nil)) ?_,rfl,q⟩
 rw [List.length_append,List.length_singleton]
 lia
def ze11:V->List V->Hp->VK->Prop:=λ x vs H Q=>∃ l b xs zs,x=.ref l/\vs=[.ref b]/\H l=some (.lst xs)/\H b=some (.lst zs)/\xs.length+zs.length<=sizeLine/\Q .non (upd H l (.lst (xs++zs)))
theorem zl21:MtM X "list.extend" ze11:=by
 intro pins s σ H x vs v us Q I rx rv h
 obtain ⟨l,b,xs,zs,rfl,rfl,hH,hB,hz,q⟩:=h
 cases rx
 obtain ⟨u,rfl,ru⟩:=rv.one
 cases ru
 obtain ⟨z,its,n,r,hl,e⟩:=I.lstM hH
 obtain ⟨z2,its2,n2,r2,hl2,e2⟩:=I.lstM hB
 have hsz:its.toArray.size+its2.toArray.size<=sizeLine:=by rw [List.size_toArray,List.size_toArray];lia
 have hlong:¬ (!its.toArray.isEmpty && Builtin.List.listTooLong (its.toArray.size+its2.toArray.size))=true:=by
  rw [zon hsz,Bool.and_false]
  exact Bool.false_ne_true
 refine call_meets F.slot_list_extend ⟨_,e,rfl⟩ F.entry_list_extend (F.args_list_extend_2 _ _)
  (AutoSeq1.list_extend_list_list_0 l its.toArray n b its2.toArray n2 hlong (by rw [List.size_toArray];lia) (by lia)) ⟨e,e2,?_⟩
 refine ⟨.non,_,I.lset (its':=its++its2) hH e (by simp) (r.append r2) ?_,rfl,q⟩
 rw [List.length_append]
 lia
def rCat:R2:=λ x y H Q=>∃ l b xs zs,x=.ref l/\y=.ref b/\H l=some (.lst xs)/\H b=some (.lst zs)/\xs.length+zs.length<=sizeLine/\∀ p,H p=none->Q (.ref p) (upd H p (.lst (xs++zs)))
theorem zo41:OpR X (binaryOp .Add) rCat:=by
 intro pins s σ H x y v u Q I rx ry h
 obtain ⟨l,b,xs,zs,rfl,rfl,hH,hB,hz,q⟩:=h
 cases rx
 cases ry
 obtain ⟨z,its,n,r,hl,e⟩:=I.lstM hH
 obtain ⟨z2,its2,n2,r2,hl2,e2⟩:=I.lstM hB
 refine PySem.P.add_list e e2 ?_ (by rw [List.size_toArray,List.size_toArray];lia)
 have ea:its.toArray++its2.toArray=(its++its2).toArray:=by simp
 rw [ea]
 exact ⟨.ref _,_,I.lnew (t':=s.toks) (r.append r2) (by rw [List.length_append];lia),rfl,q _ I.fresh⟩
def rRep:R2:=λ x y H Q=>∃ l k xs,x=.ref l/\y=.int k/\H l=some (.lst xs)/\-(2 ^ 63)<=k/\k < 2 ^ 63/\xs.length * k.toNat<=sizeLine /\
 ∀ p,H p=none->Q (.ref p) (upd H p (.lst (List.replicate k.toNat xs).flatten))
theorem zk11 {α:Type} (xs:List α) (k:Nat):(List.replicate k xs).flatten.length=k * xs.length:=by
 induction k with
|zero=>simp
|succ k ih=>rw [List.replicate_succ,List.flatten_cons,List.length_append,ih,Nat.succ_mul,Nat.add_comm]
theorem zq11:OpR X (binaryOp .Mult) rRep:=by
 intro pins s σ H x y v u Q I rx ry h
 obtain ⟨l,k,xs,rfl,rfl,hH,h1,h2,hz,q⟩:=h
 cases rx
 obtain ⟨t,rfl⟩:=ry
 obtain ⟨z,its,n,r,hl,e⟩:=I.lstM hH
 have hlen:its.toArray.size * k.toNat<=sizeLine:=by rw [List.size_toArray,<- hl];exact hz
 have hcap:¬ its.toArray.size * k.toNat > (2 ^ 63 - 1) / 8:=by
  have:(sizeLine:Nat)<=(2 ^ 63 - 1) / 8:=by decide
  lia
 have hfit:¬ (!Builtin.List.listFitsIndex k)=true:=by
  rw [fitsIndex_both h1 h2]
  exact Bool.false_ne_true
 have hlong:¬ Builtin.List.listTooLong (its.toArray.size * k.toNat)=true:=by
  rw [zon hlen]
  exact Bool.false_ne_true
 have hnew:List.foldl (λ x1 x2=>x1++x2) #[] (List.replicate (if its.toArray.isEmpty=true then 0 else k.toNat) its.toArray)=(List.replicate k.toNat its).flatten.toArray:=by
  have f0:∀ m:Nat,List.foldl (λ x1 x2=>x1++x2) #[] (List.replicate m its.toArray)=(List.replicate m its).flatten.toArray:=λ m=>by
   have:=zrj its m []
   rw [List.nil_append] at this
   exact this
  rw [f0]
  cases its with
 |nil=>simp
 |cons a r'=>rw [if_neg (by simp)]
 refine wpAny_binaryOp_repeat_ref (T := "list") (U := "int") (by decide) ⟨_,e,rfl⟩ (λ s'=>typeIs_int s' k t) noFill_list_mul F.fills_int_mul F.slot_int_rmul repeat_list F.slot_int_index.lookup
  (call_meets F.slot_int_rmul (typeIs_int s k t) F.entry_int_rmul (F.args_int_rmul_2 _ _) (int___rmul___int_list k t l its.toArray n)
   ⟨e,rfl,⟨_,e,rfl⟩,call_meets F.slot_list_mul ⟨_,e,rfl⟩ F.entry_list_mul (F.args_list_mul_2 _ _) (AutoListH.list___mul___list_int_3 l its.toArray n k t hfit hcap hlong) ⟨e,?_⟩⟩)
 rw [hnew]
 exact ⟨.ref _,_,I.lnew (t':=s.toks) (r.rep k.toNat) (by rw [zk11,Nat.mul_comm];exact hz),rfl,q _ I.fresh⟩
end
section
variable {prog:Program} {w:World} {A:Around} {E:Value->Shared->Prop} {s:Shared}
end
section
variable {X:Cx}
end
end L2
namespace Att
open PySem PySem.W PySem.Calls PyProof.Rows
theorem zuc {P:Params} {h:Heap}:∀ (ns:List Int) (vs:List Value),WellAll P h vs (ns.map WData.int)->IntsAre vs ns:=by
 intro ns
 induction ns with
|nil =>
  intro vs w
  rw [List.map_nil] at w
  cases w
  exact .nil
|cons n ns ih =>
  intro vs w
  rw [List.map_cons] at w
  cases w with
 |cons a b =>
   cases a
   exact .cons _ _ (ih _ b)
theorem zlp {l:OpenLaw} {n:Nat} (hn:l.most=some n) {P:Params} {h:Heap} {args:List WData} {vals:List Value}
  (hpre:l.row.toRowW.claim.pre args=true) (hwl:WellAll P h vals args) :
  ∃ a vs ns,vals=[Value.ref a]/\args=[WData.list (ns.map WData.int)]/\h.get? a=some { cls:=.type "list",data:=.seq vs.toArray }/\IntsAre vs ns/\ns.length<=n:=by
 have hsh:WShape.hasAll [] args [.list .int]=true:=(pre_splitW hpre).1
 have hc:l.pre.holds [] { args:=args }=true:=(pre_splitW hpre).2
 obtain ⟨d,r,rfl,h1,h2⟩:=hasAllW_cons hsh
 obtain rfl:=hasAllW_nil h2
 obtain ⟨xs,rfl,h3⟩:=hasW_list h1
 obtain ⟨ns,rfl⟩:=items_int h3
 have hlen:ns.length<=n:=by
  unfold OpenLaw.pre at hc
  have h4:(WTm.not (.lt (.lit (.int (n:Int))) (.len (.arg 0)))).holds [] { args:=[.list (ns.map .int)] }=true:=by
   have h4:=(holds_andW hc).1
   rw [hn] at h4
   exact h4
  have h5:=condW_of h4 (w_not (w_lt w_lit (w_len_list (w_arg rfl))))
  rw [List.length_map] at h5
  refine Nat.le_of_not_lt λ q=>?_
  have q':(n:Int) < ((ns.length:Nat):Int):=by lia
  first
  |(rw [decide_eq_true q'] at h5;exact absurd h5 (by decide))
  |(simp at h5;lia)
 cases hwl with
|cons w1 w2 =>
  cases w2
  cases w1 with
 |list ho hall=>exact ⟨_,_,ns,rfl,rfl,ho,zuc ns _ hall,hlen⟩
theorem zdq (l:OpenLaw) (args:List WData):l.row.toRowW.claim.post args (.bool true) args=true :=
 postW_of (r:=l.row.toRowW) (X:=(true == true))
  (show WShape.has [] (.bool true) .bool=true by first|rfl|decide|simp [WShape.has,WShape.arms,WShape.armsAll])
  (show (WTm.eq .res (.lit (.bool true))).value [] { args:=args,res:=some (.bool true),after:=args }=some (.bool (true == true)) from w_eq_bool (w_res rfl) w_lit) rfl
theorem attach_call {l:OpenLaw} {n:Nat} {q:Program} {loose:List Str} {XP:(Str->Option Value)->Heap->Prop} {YP:World->Heap->Prop} {d:DefRec}
  (hn:l.most=some n) (hdf:d.params.defaults=[])
  (call:∀ (w:World) (s₀ s₁:Shared) (mg mb:Str->Option Value) (fa:Addr) (o:Obj) (pm cd doc:Value) (a:Addr) (vs:List Value) (ns:List Int),
   Ground q loose [] XP w s₀ mg mb s₁.heap->YP w s₁.heap ->
   s₁.heap.get? fa=some o->o.data=.func (docDef d.name d.params d.body d.scope pm cd doc)->s₁.heap.CodeRec cd d.name->mg d.name=some (.ref fa) ->
   s₁.heap.get? a=some { cls:=.type "list",data:=.seq vs.toArray }->IntsAre vs ns->ns.length<=n->s₁.gens=#[] ->
   codeAny (model l.prog w) callerA (.call (.ref fa) ⟨[.ref a],[]⟩) (λ r s'=>r=.ok (.ret (.bool true))/\OldK s₁.heap s'.heap/\s'.os=s₁.os/\AllBare s'.gens) s₁) :
  WalkO q loose XP YP l.row.toRowW d [] (λ f vs=>PySem.call f vs):=by
 intro w s₀ s₁ mg mb G Y fa o pm cd doc dV kV ho hd hcd hD hmg hg args vals as hpre hlay hrd hwl hlo
 obtain rfl:dV=.none:=Dflts.none hD hdf
 obtain rfl:kV=.none:=Dflts.noKw hD
 obtain ⟨a,vs,ns,rfl,rfl,hobj,hints,hlen⟩:=zlp hn hpre hwl
 refine enter_call (codeAny_mono (call w s₀ s₁ mg mb fa o pm cd doc a vs ns G Y ho (fd_plain hd) hcd hmg hobj hints hlen hg) λ r s' hq=>?_)
 obtain ⟨rfl,h2,h3,h4⟩:=hq
 exact ⟨.inl ⟨.bool true,.bool true,[],rfl,λ _=>rfl,.bool true,zdq l _,λ _=>⟨List.Pairwise.nil,λ _ hm=>(nomatch hm)⟩⟩,h2,h3,h4⟩
section
variable {prog:Program} {w:World} {A:Around} {E:Value->Shared->Prop} {s:Shared} {K:Frag}
end
end Att
namespace L2
open PySem PySem.Spec PyProof.Rows
theorem zok:∀ {vs:List Value} {ns:List Int},IntsAre vs ns->Vals (ns.map V.int) vs
|_,_,.nil=>.nil
|_,_,.cons n t h=>.cons ⟨t,rfl⟩ (zok h)
def Only (H:Hp):Prop:=∀ b,H b=none \/ ∃ o xs,H b=some (.frz o (.lst xs))
theorem zzt {P:Program} {w:World} {K:Fg} {mg mb:Str->Option Value} {CX:CXT} {k:Nat} {fa a:Addr} {fd:FuncData} {x:Str} {sp:Sp} {s₁:Shared} {vs:List Value} {ns:List Int}
  (KX:K.In s₁.heap) (hns:s₁.heap.Ns mainGlobals mg) (hb:s₁.heap.Ns builtinsNs mb) (hbb:∀ x:Str,x ≠ "__name__"->mb x=bootBuiltins x) (hlim:s₁.heap.NoLimit) (hg:s₁.gens=#[])
  (ha:s₁.heap.get? a=some { cls:=.type "list",data:=.seq vs.toArray }) (hi:IntsAre vs ns) (hl:ns.length<=sizeLine) (hr:Room k callerA)
  (F:∀ base:Heap,K.In base->base.Ns mainGlobals mg->FnOk P w K mg base CX k fa fd [x] sp) (hbind:∀ (s:Shared) (u:Value),BindsTo s fd ⟨[u],[]⟩ [(x,u)])
  (hsp:∀ H:Hp,Only H->SqL K H a (ns.map V.int)->sp [.ref a] H (λ v _=>v=.bl true) λ _ _ _=>False)
  (hCX:∀ H e s',CX [] H s₁ (λ _ _ _=>False) e s'->False) :
  codeAny (model P w) callerA (.call (.ref fa) ⟨[.ref a],[]⟩) (λ r s'=>r=.ok (.ret (.bool true))/\OldK s₁.heap s'.heap/\s'.os=s₁.os/\AllBare s'.gens) s₁:=by
 have rv:=zok hi
 have lenV:=hi.length
 -- from an abstract heap in which nothing but the script may be tracked
 have core:∀ H:Hp,Only H->SqL K H a (ns.map V.int)->HOk P w H s₁.heap->(∀ b,H b≠none->b=a)->(H a≠none->K.lookup a=none) ->
   codeAny (model P w) callerA (.call (.ref fa) ⟨[.ref a],[]⟩) (λ r s'=>r=.ok (.ret (.bool true))/\OldK s₁.heap s'.heap/\s'.os=s₁.os/\AllBare s'.gens) s₁:=by
  intro H hO hS hok hA hK
  have base_of:∀ {b:Addr} {o:Obj},s₁.heap.get? b=some o->H b=none->(hidT s₁.heap H).get? b=some o:=λ e n=>zqv e n
  have noA:∀ {b:Addr} {o:Obj} {es:Array DictEntry} {ep:Nat},s₁.heap.get? b=some o->o.data=.dict es ep->H b=none:=λ {b o es ep} e d=>by
   cases q:H b with
  |none=>rfl
  |some u =>
    have e':b=a:=hA b (by rw [q];simp)
    subst e'
    rw [ha] at e;cases e
    have d':Data.seq vs.toArray _=Data.dict es ep:=d
    cases d'
  have nsK:∀ {b:Addr} {m:Str->Option Value},s₁.heap.Ns b m->(hidT s₁.heap H).Ns b m:=λ {b m} ⟨o,es,ep,e,d,r⟩=>⟨o,es,ep,base_of e (noA e d),d,r⟩
  have hKb:K.In (hidT s₁.heap H):=λ b o e=>base_of (KX b o e) (by
   cases q:H b with
  |none=>rfl
  |some u =>
    have e':b=a:=hA b (by rw [q];simp)
    subst e'
    rw [hK (by rw [q];simp)] at e;cases e)
  have hM:Mod K mg (hidT s₁.heap H):=⟨hKb,nsK hns,⟨mb,nsK hb,hbb⟩,let ⟨mc,h1,h2⟩:=hlim;⟨mc,nsK h1,h2⟩⟩
  have e0:Env0 P w K mg (hidT s₁.heap H) callerA [] s₁ H:=⟨rfl,hM,λ b o e=>zn11 e,Nat.le_of_eq (zbp _ _),trivial,λ b hb=>absurd (show b∈([]:List Addr) from hb) (by simp),hok,.of_eq hg⟩
  refine codeAny_mono ((F _ hKb (nsK hns)).run callerA [] s₁ H ⟨[.ref a],[]⟩ [.ref a] [.ref a] _ _ hr e0 (hbind s₁ (.ref a)) (.cons rfl .nil) (hsp H hO hS)) λ r s' h=>?_
  cases r with
 |error e=>exact (hCX H e s' h).elim
 |ok fl =>
   cases fl with
  |next=>exact False.elim h
  |brk=>exact False.elim h
  |cont=>exact False.elim h
  |ret u =>
    obtain ⟨v,H',os,bare,un,hok',r',q⟩:=h
    have q':v=.bl true:=q
    subst q'
    obtain rfl:u=Value.bool true:=r'
    refine ⟨rfl,OldK.of_keep λ b o e=>?_,os,bare⟩
    cases q:H b with
   |none=>exact un.keep b o e q (by intro z;exact absurd (show b∈([]:List Addr) from z) (by simp)) (by simp)
   |some u =>
     rcases hO b with z|⟨ob,xs,z⟩
     ·rw [q] at z;cases z
     ·have z2:=un.frzs b ob _ z
      obtain ⟨e1,_⟩:=hok b _ z
      obtain ⟨e2,_⟩:=hok' b _ z2
      rw [e] at e1;cases e1
      exact e2
 cases hk:K.lookup a with
|some o =>
  -- the script is one of the module's own objects
  have e:=KX a o hk
  rw [ha] at e
  cases e
  refine core (λ _=>none) (λ _=>.inl rfl) (.inr ⟨_,vs.toArray,_,hk,rfl,rfl,rfl,by rw [List.size_toArray,lenV];exact hl,by simpa using rv⟩) (λ b u z=>by have z':(none:Option HO)=some u:=z;cases z') (λ b z=>absurd rfl z) λ z=>absurd rfl z
|none =>
  refine core (λ b=>if b=a then some (.frz { cls:=.type "list",data:=.seq vs.toArray } (.lst (ns.map V.int))) else none) (λ b=>?_) (.inl (.inr ⟨{ cls:=.type "list",data:=.seq vs.toArray },if_pos rfl⟩)) (λ b u z=>?_) (λ b z=>?_) λ _=>hk
  ·by_cases hb:b=a
   ·exact .inr ⟨_,_,if_pos hb⟩
   ·exact .inl (if_neg hb)
  ·by_cases hb:b=a
   ·have z':=(if_pos hb).symm.trans z
    cases z'
    subst hb
    exact ⟨ha,by rw [List.length_map];exact hl,vs,_,rv,ha⟩
   ·have z':=(if_neg hb).symm.trans z
    cases z'
  ·by_cases hb:b=a
   ·exact hb
   ·exact absurd (if_neg hb) z
theorem walk_of {l:PySem.W.OpenLaw} {n k:Nat} {q:Program} {loose:List Str} {XP:(Str->Option Value)->Heap->Prop} {YP:World->Heap->Prop} {d:DefRec} {K:Params->Fg} {CX:World->CXT} {sp:World->Sp} {x:Str}
  (hn:l.most=some n) (hn2:n<=sizeLine) (hdf:d.params.defaults=[]) (hr:Room k callerA)
  (hY:∀ (w:World) (h:Heap),YP w h->(K w.params).In h)
  (F:∀ (w:World) (mg:Str->Option Value) (fa:Addr) (h:Heap),(K w.params).In h->h.Ns mainGlobals mg->mg d.name=some (.ref fa) ->
   ∃ fd:FuncData,(∀ (s:Shared) (u:Value),BindsTo s fd ⟨[u],[]⟩ [(x,u)]) /\
    ∀ base:Heap,(K w.params).In base->base.Ns mainGlobals mg->FnOk l.prog w (K w.params) mg base (CX w) k fa fd [x] (sp w))
  (hsp:∀ (w:World) (H:Hp) (a:Addr) (ns:List Int),ns.length<=n->Only H->SqL (K w.params) H a (ns.map V.int)->sp w [.ref a] H (λ v _=>v=.bl true) λ _ _ _=>False)
  (hCX:∀ (w:World) (H:Hp) (s:Shared) (e:Value) (s':Shared),CX w [] H s (λ _ _ _=>False) e s'->False) :
  PySem.W.WalkO q loose XP YP l.row.toRowW d [] (λ f vs=>PySem.call f vs):=by
 refine Att.attach_call hn hdf λ w s₀ s₁ mg mb fa o pm cd doc a vs ns G Y ho hd hcd hmg hobj hints hlen hg=>?_
 have KX:=hY w _ Y
 obtain ⟨fd,hb,hF⟩:=F w mg fa _ KX G.T.g hmg
 exact zzt KX G.T.g G.T.b G.T.builtins G.T.nolimit hg hobj hints (Nat.le_trans hlen hn2) hr hF hb (λ H hO hS=>hsp w H a ns hlen hO hS) λ H e s'=>hCX w H s₁ e s'
def zf3 (s:Stmt) (j:Nat):Stmt:=match s with
|.ClassDef _ _ _ body _ _ _ _ _ _ _=>body.getD j (.Pass ⟨0,0,0,0⟩)
|_=>.Pass ⟨0,0,0,0⟩
def za7 (s:Stmt):Arguments:=match s with
|.FunctionDef _ a _ _ _ _ _ _ _ _=>a
|_=>{ posonlyargs:=[],args:=[],vararg:=none,kwonlyargs:=[],kw_defaults:=[],kwarg:=none,defaults:=[] }
def zj2 (s:Stmt):List Stmt:=match s with
|.FunctionDef _ _ b _ _ _ _ _ _ _=>b
|_=>[]
def zh0 (s:Stmt):Scope:=match s with
|.FunctionDef _ _ _ _ _ _ sc _ _ _=>sc
|_=>{ kind:=.function,names:=[],isGenerator:=false,isCoroutine:=false }
abbrev CX0:CXT:=λ _ _ _ _ _ _=>False
abbrev E0:XK:=λ _ _ _=>False
theorem zv21 {X:Cx}:zxi CX0 X E0:=λ _ _ _ _ _ _ _ h=>h.elim
structure Fun (K:Fg) (x qual:Str) (st:Stmt) (f:Addr) (fd:FuncData):Prop where
 ex:∃ (oc:Value) (od:Option Addr) (kV doc pm:Value) (an:Option Addr) (cdv ct:Value) (osl:Array (Option Value)),
  fd=PySem.W.fnOf x qual (za7 st) (zj2 st) (zh0 st) .none kV doc pm an cdv ct/\K.lookup f=some ⟨oc,od,.func fd,osl⟩/\PySem.W.codeIn K cdv qual=true
 kp:PySem.W.keepIn K (.ref f)=true
section
variable {P:Program} {w:World} {K:Fg} {mg:Str->Option Value} {base:Heap}
theorem Fun.ok {x qual:Str} {st:Stmt} {f:Addr} {fd:FuncData} {N ps:List Str} {k:Nat} {sp:Sp} (F:Fun K x qual st f fd) (S:FnScope N ps (zh0 st)) (len:∀ vs H Q E,sp vs H Q E->vs.length=ps.length)
  (hbody:∀ (cdv:Value) (A:Around) (outer:List Env) (s:Shared) (H:Hp) (vs:List V) (Q:VK) (E:XK),Room k (A.deeper (envOfC qual (zh0 st) s.heap.objs.size f cdv))->sp vs H Q E ->
   ∃ t,PSs (cxOf CX0 P w K mg base N qual (zh0 st) f cdv A outer s H E).nox (zj2 st) t/\t { nx:=λ _ H'=>Q .non H',rt:=Q } (start N vs) H):FnOk P w K mg base CX0 (k+1) f fd ps sp:=by
 obtain ⟨oc,od,kV,doc,pm,an,cdv,ct,osl,rfl,lk,hcd⟩:=F.ex
 refine zf81 lk hcd S len λ A outer s H vs Q E hr hsp=>?_
 obtain ⟨t,h,q⟩:=hbody cdv A outer s H vs Q E hr hsp
 exact ⟨t,h.nox,q⟩
theorem Fun.binds {x qual:Str} {st:Stmt} {f:Addr} {fd:FuncData} {ps:List Str} (F:Fun K x qual st f fd)
  (h:∀ (kV doc pm:Value) (an:Option Addr) (cdv ct:Value) (us:List Value),us.length=ps.length->bindArgs (PySem.W.fnOf x qual (za7 st) (zj2 st) (zh0 st) .none kV doc pm an cdv ct) ⟨us,[]⟩=pure (ps.zip us)):zvh K fd ps []:=by
 obtain ⟨oc,od,kV,doc,pm,an,cdv,ct,osl,rfl,lk,hcd⟩:=F.ex
 exact .all (h kV doc pm an cdv ct)
theorem zw11 {x qual:Str} {st:Stmt} {f:Addr} {oc:Value} {od an:Option Addr} {osl:Array (Option Value)} {kV doc pm cdv ct:Value} (l:K.lookup f=some ⟨oc,od,.func (PySem.W.fnOf x qual (za7 st) (zj2 st) (zh0 st) .none kV doc pm an cdv ct),osl⟩)
  (c:PySem.W.codeIn K cdv qual=true) (k:PySem.W.keepIn K (.ref f)=true):Fun K x qual st f (PySem.W.fnOf x qual (za7 st) (zj2 st) (zh0 st) .none kV doc pm an cdv ct):=⟨⟨oc,od,kV,doc,pm,an,cdv,ct,osl,rfl,l,c⟩,k⟩
end
section
variable {X:Cx}
theorem pv (i:Nat) {x:Str} {pos:Pos} (hN:X.N[i]?=some x:=by rfl) (hv:Vis X.env.scope x:=by first|exact Or.inl rfl|exact Or.inr (Or.inl rfl)|exact Or.inr (Or.inr rfl)) (hd:(x == ("__debug__":Str))=false:=by decide)
  (hcd:(x == ("__classdict__":Str))=false:=by decide):PE X (.Name x pos) (tVar i):=zr41 hN hv hd hcd
end
def Same (H H':Hp):Prop:=∀ b o,H b=some o->H' b=some o
theorem Same.trans {H H1 H2:Hp} (a:Same H H1) (b:Same H1 H2):Same H H2:=λ c o h=>b c o (a c o h)
theorem Same.free {H H':Hp} (e:Same H H') {l:Addr} (h:H' l=Option.none):H l=Option.none:=by
 cases q:H l with
|none=>rfl
|some o =>
  rw [e l o q] at h
  cases h
theorem Same.seq {K:Fg} {H H':Hp} {a:Addr} {xs:List V} (e:Same H H') (h:SqL K H a xs):SqL K H' a xs:=by
 rcases h with (h|⟨o,h⟩)|h
 ·exact .inl (.inl (e _ _ h))
 ·exact .inl (.inr ⟨o,e _ _ h⟩)
 ·exact .inr h
end L2
namespace L3
open PySem PySem.Spec PyProof.Rows L2
abbrev St:=L2.St
def zg4 (env:Env):List (Str×NameKind)->List (Str×Addr)->List (Str×Addr)
|[],cs=>cs
|(n,k) :: r,cs=>zg4 env r (if k == .free then (match env.cells.lookup n with|some c=>(n,c) :: cs|none=>cs) else cs)
theorem zwb {env:Env}:∀ (names:List (Str×NameKind)) (cs:List (Str×Addr)),(∀ y∈names,y.2=.free->∃ c,env.cells.lookup y.1=some c) ->
  (forIn names cs (λ (x:Str×NameKind) (r:List (Str×Addr))=>(match x with|(name,kind)=>if kind == .free then do let c <- cellOf env name;pure (ForInStep.yield ((name,c) :: r)) else pure (ForInStep.yield r):Sem (ForInStep (List (Str×Addr))))):Sem (List (Str×Addr)))=pure (zg4 env names cs)
|[],cs,_=>rfl
|(n,k) :: r,cs,h=>by
  rw [List.forIn_cons]
  by_cases hk:k=.free
  ·subst hk
   obtain ⟨c,hc⟩:=h (n,.free) List.mem_cons_self rfl
   have hc':env.cells.lookup n=some c:=hc
   have e1:cellOf env n=pure c:=by unfold cellOf;rw [hc']
   simp only [beq_self_eq_true,if_true,e1]
   have:=zwb r ((n,c) :: cs) λ y hy=>h y (List.mem_cons_of_mem _ hy)
   unfold zg4
   simp only [beq_self_eq_true,if_true,hc']
   exact this
  ·have hb:(k == NameKind.free)=false:=by simpa using hk
   simp only [hb,Bool.false_eq_true,if_false]
   have:=zwb r cs λ y hy=>h y (List.mem_cons_of_mem _ hy)
   unfold zg4
   simp only [hb,Bool.false_eq_true,if_false]
   exact this
theorem zkh {env:Env} {scope:Scope} (h:∀ y∈scope.names,y.2=.free->∃ c,env.cells.lookup y.1=some c):closureFor scope env=pure (zg4 env scope.names []):=by
 unfold closureFor
 show (forIn scope.names [] _ >>= λ cs=>pure cs)=_
 rw [zwb scope.names [] h]
 rfl
theorem zie {env:Env} {x:Str} {c:Addr}:∀ (names:List (Str×NameKind)) (cs:List (Str×Addr)),(∀ x c,cs.lookup x=some c->env.cells.lookup x=some c)->(zg4 env names cs).lookup x=some c->env.cells.lookup x=some c
|[],cs,h,e=>h x c e
|(n,k) :: r,cs,h,e=>by
  unfold zg4 at e
  refine zie r _ (λ y d q=>?_) e
  split at q
  ·split at q
   ·rename_i c' hc'
    rw [List.lookup_cons] at q
    split at q
    ·rename_i hy
     cases q
     rw [beq_iff_eq.mp hy];exact hc'
    ·exact h y d q
   ·exact h y d q
  ·exact h y d q
theorem zmd {env:Env} {x:Str}:∀ (names:List (Str×NameKind)) (cs:List (Str×Addr)),(∃ c,cs.lookup x=some c)->∃ c,(zg4 env names cs).lookup x=some c
|[],cs,h=>h
|(n,k) :: r,cs,⟨c,h⟩=>by
  unfold zg4
  refine zmd r _ ?_
  split
  ·split
   ·rename_i c' hc'
    rw [List.lookup_cons]
    split
    ·exact ⟨_,rfl⟩
    ·exact ⟨c,h⟩
   ·exact ⟨c,h⟩
  ·exact ⟨c,h⟩
theorem zac {env:Env} {x:Str}:∀ (names:List (Str×NameKind)) (cs:List (Str×Addr)),(x,NameKind.free)∈names->(∃ c,env.cells.lookup x=some c)->∃ c,(zg4 env names cs).lookup x=some c
|[],cs,h,_=>nomatch h
|(n,k) :: r,cs,h,⟨c,hc⟩=>by
  rcases List.mem_cons.mp h with e|h
  ·cases e
   unfold zg4
   simp only [beq_self_eq_true,if_true,hc]
   exact zmd r _ ⟨c,by simp [List.lookup_cons]⟩
  ·unfold zg4
   exact zac r _ h ⟨c,hc⟩
theorem zpd {env:Env} {x:Str} {c:Addr}:∀ (names:List (Str×NameKind)) (cs:List (Str×Addr)),(zg4 env names cs).lookup x=some c->(x,NameKind.free)∈names \/ cs.lookup x=some c
|[],cs,e=>.inr e
|(n,k) :: r,cs,e=>by
  unfold zg4 at e
  rcases zpd r _ e with q|q
  ·exact .inl (List.mem_cons_of_mem _ q)
  ·split at q
   ·rename_i hk
    split at q
    ·rw [List.lookup_cons] at q
     split at q
     ·rename_i hy
      rw [beq_iff_eq.mp hy,<- beq_iff_eq.mp hk];exact .inl List.mem_cons_self
     ·exact .inr q
    ·exact .inr q
   ·exact .inr q
theorem zjw {x:Str} {c:Addr}:∀ (names:List (Str×NameKind)) (n:Nat) (acc:List (Str×Addr)),(cellsFrom n names acc).lookup x=some c->acc.lookup x=some c \/ ((x,NameKind.cell)∈names/\n<=c)
|[],_,_,e=>.inl e
|(y,k) :: r,n,acc,e=>by
  unfold cellsFrom at e
  split at e
  ·rename_i hk
   rcases zjw r (n+1) _ e with q|q
   ·rw [List.lookup_cons] at q
    split at q
    ·rename_i hy
     cases q
     rw [beq_iff_eq.mp hy,<- beq_iff_eq.mp hk]
     exact .inr ⟨List.mem_cons_self,Nat.le_refl _⟩
    ·exact .inl q
   ·exact .inr ⟨List.mem_cons_of_mem _ q.1,Nat.le_of_succ_le q.2⟩
  ·rcases zjw r n _ e with q|q
   ·exact .inl q
   ·exact .inr ⟨List.mem_cons_of_mem _ q.1,q.2⟩
theorem zcv {x:Str}:∀ (names:List (Str×NameKind)) (n:Nat) (acc:List (Str×Addr)),(x,NameKind.cell) ∉ names->(cellsFrom n names acc).lookup x=acc.lookup x
|[],_,_,_=>rfl
|(y,k) :: r,n,acc,h=>by
  unfold cellsFrom
  split
  ·rename_i hk
   rw [zcv r _ _ λ z=>h (List.mem_cons_of_mem _ z),List.lookup_cons]
   have:(x == y)=false:=by
    refine beq_eq_false_iff_ne.mpr λ e=>h ?_
    rw [e,<- beq_iff_eq.mp hk];exact List.mem_cons_self
   rw [this]
  ·exact zcv r _ _ λ z=>h (List.mem_cons_of_mem _ z)
theorem zat:∀ (names:List (Str×NameKind)) (n:Nat) (acc:List (Str×Addr)),(∀ x c,acc.lookup x=some c->c < n)->(∀ x y c,acc.lookup x=some c->acc.lookup y=some c->x=y) ->
  ∀ x y c,(cellsFrom n names acc).lookup x=some c->(cellsFrom n names acc).lookup y=some c->x=y
|[],_,_,_,h=>h
|(z,k) :: r,n,acc,hb,h=>by
  unfold cellsFrom
  split
  ·refine zat r (n+1) _ (λ x c e=>?_) λ x y c e1 e2=>?_
   ·rw [List.lookup_cons] at e
    split at e
    ·cases e;exact Nat.lt_succ_self _
    ·exact Nat.lt_succ_of_lt (hb x c e)
   ·rw [List.lookup_cons] at e1 e2
    by_cases a:(x == z)=true <;> by_cases b:(y == z)=true
    ·rw [beq_iff_eq.mp a,beq_iff_eq.mp b]
    ·rw [a] at e1;rw [Bool.not_eq_true] at b;rw [b] at e2
     cases e1;exact absurd (hb _ _ e2) (Nat.lt_irrefl _)
    ·rw [b] at e2;rw [Bool.not_eq_true] at a;rw [a] at e1
     cases e2;exact absurd (hb _ _ e1) (Nat.lt_irrefl _)
    ·rw [Bool.not_eq_true] at a b;rw [a] at e1;rw [b] at e2
     exact h x y c e1 e2
  ·exact zat r n acc hb h
theorem zun:∀ (names:List (Str×NameKind)) (h:Heap) (acc:List (Str×Addr)),(∀ x c,acc.lookup x=some c->∃ v,h.IsCell c v) ->
  ∀ x c,(cellsFrom h.objs.size names acc).lookup x=some c->∃ v,(pushCells h names).IsCell c v
|[],_,_,p=>p
|(y,k) :: r,h,acc,p=>by
  unfold cellsFrom pushCells
  split
  ·have q:=zun r (h.push { cls:=.type "cell",data:=.cell none }) ((y,h.objs.size) :: acc) (by
    intro x c e
    rw [List.lookup_cons] at e
    split at e
    ·cases e;exact ⟨none,_,Heap.get?_push_size _ rfl,rfl⟩
    ·obtain ⟨v,z⟩:=p x c e
     exact ⟨v,z.keeps λ b o e=>Heap.get?_push_of_some _ e⟩)
   rwa [Heap.size_push] at q
  ·exact zun r h acc p
theorem zti {x:Str} {k k':NameKind}:∀ {names:List (Str×NameKind)},(names.map (·.1)).Nodup->(x,k)∈names->(x,k')∈names->k=k'
|(y,j) :: r,h,a,b=>by
  obtain ⟨h1,h2⟩:=List.nodup_cons.mp h
  rcases List.mem_cons.mp a with e|a' <;> rcases List.mem_cons.mp b with e'|b'
  ·cases e;cases e';rfl
  ·cases e;exact (h1 (List.mem_map.mpr ⟨_,b',rfl⟩)).elim
  ·cases e';exact (h1 (List.mem_map.mpr ⟨_,a',rfl⟩)).elim
  ·exact zti h2 a' b'
theorem zch {M:Model} {A:Around} {E:Value->Shared->Prop} {s:Shared} {scope:Scope} {globals:Addr} {cl:List (Str×Addr)} {qual:Str} {env:Env} {Q:Env->Shared->Prop}
  (h:Q { scope,locals:=s.heap.objs.size,globals,cells:=cellsFrom (s.heap.objs.size+1) scope.names cl,qual,func:=none,code:=env.code,frame:=env.frame,builtins:=env.builtins } { s with heap:=pushCells (s.heap.push { cls:=.type "dict",data:=.dict #[] }) scope.names }) :
  wpAny M A (newFunctionEnv scope globals cl [] qual none .none (some env)) Q E s:=by
 simp only [newFunctionEnv,Option.isSome_some,if_true]
 refine wpAny_bind (wpAny_alloc ?_)
 refine wpAny_bind (wpAny_layCells _ (λ name kind cells=>by cases hkc:kind == NameKind.cell <;> simp [hkc]) _ _ _ _ ?_)
 rw [show ({ s with heap:=s.heap.push { cls:=.type "dict",data:=.dict #[] } }:Shared).heap.objs.size=s.heap.objs.size+1 from Heap.size_push ..]
 rw [List.forIn_nil]
 exact wpAny_bind (wpAny_pure (wpAny_pure h))
section
variable {prog:Program} {w:World} {A:Around} {R:Result->Shared->Prop} {s:Shared}
theorem zij {elt target iter:Expr} {ifs:List Expr} {scope:Scope} {pos:Pos} {it acc:Value} {env:Env} (I:Nat->Shared->Prop)
  (turn:∀ n s,I n s->wpAny (model prog w) A (pyNext it) (λ r s₁=>match r with
  |none=>R (.ok .next) s₁
  |some v=>wpAny (model prog w) A (letOwnedTupleGo target it v) (λ _ s₁'=>wpAny (model prog w) A (assign target env v) (λ _ s₂ =>
     wpAny (model prog w) A (forIn ifs true λ c r=>if r=true then do let ok <- isTrue c env (eval c env);pure (ForInStep.yield ok) else pure (ForInStep.yield r)) (λ ok s₃ =>
      if ok=true then wpAny (model prog w) A (eval elt env) (λ x s₄ =>
       wpAny (model prog w) A (call (.builtin "list.append") [acc,x]) (λ _ s₅=>∃ m,m < n/\I m s₅) (notedBy (model prog w) A env λ e s'=>R (.error e) s') s₄) (notedBy (model prog w) A env λ e s'=>R (.error e) s') s₃
      else ∃ m,m < n/\I m s₃) (notedBy (model prog w) A env λ e s'=>R (.error e) s') s₂) (notedBy (model prog w) A env λ e s'=>R (.error e) s') s₁') (notedBy (model prog w) A env λ e s'=>R (.error e) s') s₁) (notedBy (model prog w) A env λ e s'=>R (.error e) s') s)
  (n:Nat) (h:I n s) :
  codeAny (model prog w) A (.compLoop (.ListComp elt [⟨target,iter,ifs,0⟩] scope pos) 0 it acc env) R s:=by
 refine codeAny_loop rfl I (λ n s hI=>?_) n h
 show wpAny _ A ((compTurn (.ListComp elt [⟨target,iter,ifs,0⟩] scope pos) 0 it acc env).onRaise (λ x=>do noteFrame x env;theTreesLotGoes x)) _ _ s
 refine wpAny_noted ?_
 rw [compTurn_list]
 refine wpAny_bind (wpAny_standAt (wpAny_bind (wpAny_mono (turn n s hI) (λ r s₁ h₁=>?_) λ _ _ h'=>h')))
 cases r with
|none=>exact wpAny_pure h₁
|some v =>
  refine wpAny_bind (wpAny_mono h₁ (λ _ s₁' h₁'=>?_) λ _ _ h'=>h')
  refine wpAny_bind (wpAny_mono h₁' (λ _ s₂ h₂=>wpAny_bind (wpAny_mono h₂ (λ ok s₃ h₃=>?_) λ _ _ h'=>h')) λ _ _ h'=>h')
  cases ok with
 |false=>exact wpAny_pure ⟨rfl,h₃⟩
 |true =>
   exact wpAny_bind (wpAny_bind (wpAny_mono h₃ (λ x s₄ h₄=>wpAny_bind (wpAny_mono h₄ (λ _ s₅ h₅=>wpAny_pure (wpAny_pure ⟨rfl,h₅⟩)) λ _ _ h'=>h')) λ _ _ h'=>h'))
end
abbrev zpq (X:Cx) (scope:Scope) (C:Addr):List (Str×Addr):=cellsFrom (C+1) scope.names (zg4 X.env scope.names [])
def zb5 (X:Cx) (scope:Scope) (N:List Str) (s₀:Shared) (H₀:Hp) (C:Addr) (fp:List Addr):Cx where
 prog:=X.prog
 w:=X.w
 K:=X.K
 mg:=X.mg
 base:=X.base
 A:=X.A
 N:=N
 s₀:=s₀
 H₀:=H₀
 env:=compEnvC scope (zpq X scope C) C X.env
 outer:=X.stack
 stack:=X.stack
 ex:=fp
 fn:=λ x=>decide (scope.names.lookup x=some .cell)
 calm:=X.calm
 pn:=[]
 xe:=λ _ _=>False
def zuf (N:List Str) (own:List Str) (ix:List Nat):List Str:=own++ix.map λ i=>N.getD i ""
def relS (scope sc:Scope):Scope:={ scope with names:=scope.names.map λ (n,k)=>if (k == .free && sc.kind == .function && sc.names.lookup n == some .cell) then (n,.cell) else (n,k) }
def compσ (n:Nat) (ix:List Nat) (σ:St):St:=List.replicate n none++ix.map λ i=>σ.getD i none
structure CompSc (sc:Scope) (N own:List Str) (ix:List Nat) (scope:Scope):Prop where
 kind:scope.kind=.function
 cell:(scope.names.map (·.1)).Nodup
 names:∀ y∈scope.names,y.2=.local->scope.names.lookup y.1=some .local
 free:∀ y∈scope.names,y.2=.free->sc.names.lookup y.1=some .cell \/ sc.names.lookup y.1=some .free
 caps:∀ i∈ix,i < N.length/\scope.names.lookup (N.getD i "")≠some .local/\scope.names.lookup (N.getD i "")≠some .cell
theorem zkb {env : Env} {x : Str} : ∀ (names : List (Str × NameKind)),
    ((names.map fun (n, k) => if (k == NameKind.free && env.scope.kind == .function && env.kindOf n == some .cell) then (n, NameKind.cell) else (n, k)).lookup x = some .cell ∨
     (names.map fun (n, k) => if (k == NameKind.free && env.scope.kind == .function && env.kindOf n == some .cell) then (n, NameKind.cell) else (n, k)).lookup x = some .free) → names.lookup x = some .free ∨ names.lookup x = some .cell
  | [], h => by rcases h with h | h <;> cases h
  | (n, k) :: r, h => by
    have ih := zkb (env := env) (x := x) r
    rw [List.map_cons] at h
    by_cases hx : (x == n) = true
    · rw [List.lookup_cons, hx]
      dsimp only at h ⊢
      by_cases hcc : (k == NameKind.free && env.scope.kind == .function && env.kindOf n == some .cell) = true
      · have : k = .free := by
          have := (Bool.and_eq_true_iff.mp (Bool.and_eq_true_iff.mp hcc).1).1
          exact beq_iff_eq.mp this
        rw [this]; exact .inl rfl
      · rw [if_neg hcc, List.lookup_cons, hx] at h
        exact h.symm
    · have hx' : (x == n) = false := by simpa using hx
      rw [List.lookup_cons, hx']
      refine ih ?_
      by_cases hcc : (k == NameKind.free && env.scope.kind == .function && env.kindOf n == some .cell) = true
      · simp only [hcc, if_true] at h
        rw [List.lookup_cons, hx'] at h
        exact h
      · simp only [hcc, Bool.false_eq_true, if_false] at h
        rw [List.lookup_cons, hx'] at h
        exact h
section
variable {X:Cx} {pins:List (Addr×Obj)} {σ:St} {H H':Hp} {s:Shared}
theorem zku {scope:Scope} {own:List Str} {ix:List Nat} {fp:List Addr} {h₁:Heap} {m:Str->Option Value} {t':Nat} (I:Inv X pins σ H s) (S:CompSc X.env.scope X.N own ix scope)
  (hns:h₁.Ns s.heap.objs.size m) (kc:∀ x c,(zpq X scope s.heap.objs.size).lookup x=some c->∃ v,h₁.IsCell c v) (k:∀ b o,s.heap.get? b=some o->h₁.get? b=some o) (hf:∀ b∈fp,FpOk X pins H b) (hfo:∀ b∈fp,b < s.heap.objs.size) :
  Inv (zb5 X scope (zuf X.N own ix) s H s.heap.objs.size fp) [] (compσ own.length ix σ) H { s with heap:=h₁,toks:=t' }:=by
 have hcl:∀ x c,(zg4 X.env scope.names []).lookup x=some c->X.env.cells.lookup x=some c:=λ x c e=>zie scope.names [] (λ _ _ q=>by cases q) e
 have hcl2:∀ x c,(zpq X scope s.heap.objs.size).lookup x=some c->X.env.cells.lookup x=some c \/ s.heap.objs.size+1<=c:=λ x c e=>(zjw _ _ _ e).imp (hcl x c) And.right
 have hfree:∀ x,((relabel scope X.env).names.lookup x=some .cell \/ (relabel scope X.env).names.lookup x=some .free)->scope.names.lookup x=some .free \/ scope.names.lookup x=some .cell:=λ x hx=>zkb scope.names hx
 have hX:∀ x,scope.names.lookup x=some .free->X.env.kindOf x=some .cell \/ X.env.kindOf x=some .free:=λ x hx=>S.free (x,.free) (PySem.mem_of_lookup hx) rfl
 refine ⟨⟨I.ok.mod,S.kind,I.ok.glob,I.ok.blt,Nat.le_refl _,zat _ _ _ (λ x c e=>?_) (λ x y c e1 e2=>I.ok.inj x y c (hcl x c e1) (hcl y c e2)),λ x hx=>?_,λ x c z e=>?_,I.ok.hd,I.ok.frames,.inl rfl,λ b hb=>?_,I.bs,Nat.le_trans I.ok.bsz I.sz,λ b o e hb=>?_,λ b hb hs=>?_,I.stack,I.stkFree⟩,
  rfl,I.bare,Un.kept k,⟨m,hns,λ i x v e1 e2 e3=>?_⟩,kc,I.hok.fresh (Nat.le_refl _),λ x c e=>(hcl2 x c e).elim (I.freeC x c) (λ z=>I.hok.fresh (Nat.le_of_succ_le z)),λ p hp=>absurd (show p∈([]:List (Addr×Obj)) from hp) (by simp),I.hok.kept k,?_⟩
 ·obtain ⟨v,z⟩:=I.cell x c (hcl x c e)
  exact Nat.lt_succ_of_lt z.lt
 ·refine Option.isSome_iff_exists.mp (PySem.W.cellsFrom_some _ _ _ ?_)
  rcases hfree x hx with hx1|hx1
  ·exact .inr (Option.isSome_iff_exists.mpr (zac scope.names [] (PySem.mem_of_lookup hx1) (I.ok.has x (hX x hx1))))
  ·exact .inl hx1
 ·rcases zjw _ _ _ e with q|q
  ·rcases zpd _ _ q with q|q
   ·have:=zti S.cell (PySem.mem_of_lookup (of_decide_eq_true z)) q
    cases this
   ·cases q
  ·exact Nat.le_of_succ_le q.2
 ·exact ⟨Nat.ne_of_lt (hfo b hb),λ x c e=>(hcl2 x c e).elim ((hf b hb).2.2.2.2.1 x c) λ z e2=>absurd (Nat.lt_of_lt_of_le (hfo b hb) (Nat.le_of_succ_le (e2 ▸ z))) (Nat.lt_irrefl _)⟩
 ·rcases (hf b hb).2.2.2.1 with z|z
  ·exact I.ok.noex b o e z
  ·exact absurd (Nat.lt_of_lt_of_le (Heap.lt_size e) (Nat.le_trans I.ok.bsz z)) (Nat.lt_irrefl _)
 ·rcases List.mem_cons.mp (I.stkSub b hs) with z|z
  ·exact (hf b hb).2.1 z
  ·exact (hf b hb).2.2.1 z
 ·-- a captured name
  have e2':(List.replicate own.length (none:Option V)++ix.map λ i=>σ.getD i none)[i]?=some (some v):=e2
  have e1':(own++ix.map λ i=>X.N.getD i "")[i]?=some x:=e1
  by_cases hi:i < own.length
  ·rw [List.getElem?_append_left (by simpa using hi),List.getElem?_replicate] at e2'
   split at e2' <;> cases e2'
  ·have hi':own.length<=i:=Nat.le_of_not_lt hi
   rw [List.getElem?_append_right (by simpa using hi'),List.length_replicate,List.getElem?_map] at e2'
   rw [List.getElem?_append_right hi',List.getElem?_map] at e1'
   cases hq:ix[i - own.length]? with
  |none=>rw [hq] at e2';cases e2'
  |some q =>
    rw [hq] at e1' e2'
    have ex:X.N.getD q ""=x:=Option.some.inj e1'
    have ev:σ.getD q none=some v:=Option.some.inj e2'
    obtain ⟨hql,hnl⟩:=S.caps q (List.mem_of_getElem? hq)
    rw [ex] at hnl
    have hnc:=hnl.2
    replace hnl:=hnl.1
    have e3':(relabel scope X.env).names.lookup x=some .local \/ (relabel scope X.env).names.lookup x=some .cell \/ (relabel scope X.env).names.lookup x=some .free:=e3
    have hcf:(relabel scope X.env).names.lookup x=some .cell \/ (relabel scope X.env).names.lookup x=some .free:=by
     rcases e3' with z|z
     ·exfalso
      cases hs:scope.names.lookup x with
     |none =>
       have:∀ (names:List (Str×NameKind)),names.lookup x=none->(names.map λ (n,k)=>if (k == NameKind.free && X.env.scope.kind == .function && X.env.kindOf n == some .cell) then (n,NameKind.cell) else (n,k)).lookup x=none:=by
        intro names
        induction names with
       |nil=>intro _;rfl
       |cons y r ih =>
         obtain ⟨n,kk⟩:=y
         intro hh
         rw [List.lookup_cons] at hh
         by_cases hxn:(x == n)=true
         ·rw [hxn] at hh;cases hh
         ·have hx':(x == n)=false:=by simpa using hxn
          rw [hx'] at hh
          rw [List.map_cons]
          by_cases hcc:(kk == NameKind.free && X.env.scope.kind == .function && X.env.kindOf n == some .cell)=true
          ·simp only [hcc,if_true];rw [List.lookup_cons,hx'];exact ih hh
          ·simp only [hcc,Bool.false_eq_true,if_false];rw [List.lookup_cons,hx'];exact ih hh
       have q0:=this scope.names hs
       have z':(scope.names.map λ (n,k)=>if (k == NameKind.free && X.env.scope.kind == .function && X.env.kindOf n == some .cell) then (n,NameKind.cell) else (n,k)).lookup x=some .local:=z
       rw [q0] at z';cases z'
     |some kk =>
       have:∀ (names:List (Str×NameKind)),names.lookup x=some kk->(names.map λ (n,k)=>if (k == NameKind.free && X.env.scope.kind == .function && X.env.kindOf n == some .cell) then (n,NameKind.cell) else (n,k)).lookup x=some .local->kk=.local:=by
        intro names
        induction names with
       |nil=>intro h;cases h
       |cons y r ih =>
         obtain ⟨n,k2⟩:=y
         intro hh hz
         rw [List.lookup_cons] at hh
         rw [List.map_cons] at hz
         by_cases hxn:(x == n)=true
         ·rw [hxn] at hh
          have hk2:k2=kk:=Option.some.inj hh
          by_cases hcc:(k2 == NameKind.free && X.env.scope.kind == .function && X.env.kindOf n == some .cell)=true
          ·simp only [hcc,if_true] at hz;rw [List.lookup_cons,hxn] at hz;cases hz
          ·simp only [hcc,Bool.false_eq_true,if_false] at hz;rw [List.lookup_cons,hxn] at hz
           rw [<- hk2];exact Option.some.inj hz
         ·have hx':(x == n)=false:=by simpa using hxn
          rw [hx'] at hh
          by_cases hcc:(k2 == NameKind.free && X.env.scope.kind == .function && X.env.kindOf n == some .cell)=true
          ·simp only [hcc,if_true] at hz;rw [List.lookup_cons,hx'] at hz;exact ih hh hz
          ·simp only [hcc,Bool.false_eq_true,if_false] at hz;rw [List.lookup_cons,hx'] at hz;exact ih hh hz
       have:=this scope.names hs z
       rw [this] at hs
       exact hnl hs
     ·exact z
    have hfr:=(hfree x hcf).resolve_right hnc
    have hkX:=hX x hfr
    obtain ⟨mX,hnX,hlX⟩:=I.loc
    have eN:X.N[q]?=some x:=by
     rw [<- ex,List.getD_eq_getElem?_getD]
     rw [List.getElem?_eq_getElem hql];rfl
    have eσ:σ[q]?=some (some v):=by
     rw [List.getD_eq_getElem?_getD] at ev
     cases hs:σ[q]? with
    |none=>rw [hs] at ev;cases ev
    |some o=>rw [hs] at ev;exact congrArg some ev
    obtain ⟨u,r,l⟩:=hlX q x v eN eσ (.inr hkX)
    refine ⟨u,r,.inr ⟨hcf,?_⟩⟩
    rcases l with ⟨hk,_⟩|⟨_,c,ec,hcell⟩
    ·exfalso
     rcases hkX with z|z
     ·rw [hk] at z;cases z
     ·rw [hk] at z;cases z
    ·obtain ⟨c',ec'⟩:=zac scope.names [] (PySem.mem_of_lookup hfr) ⟨c,ec⟩
     have:=hcl x c' ec'
     rw [ec] at this
     cases this
     exact ⟨c,(zcv _ _ _ λ z=>by cases zti S.cell z (PySem.mem_of_lookup hfr)).trans ec',hcell.keeps k⟩
 ·show (compσ own.length ix σ).length=(zuf X.N own ix).length
  unfold compσ zuf
  simp
theorem zdn {scope:Scope} {N:List Str} {pins':List (Addr×Obj)} {σ':St} {fp:List Addr} {s':Shared} {h'':Heap} (I:Inv X pins σ H s) (hf:∀ b∈fp,FpOk X pins H b)
  (I':Inv (zb5 X scope N s H s.heap.objs.size fp) pins' σ' H' s') (sb:Heap.SameBut s.heap.objs.size s'.heap h''):Inv X pins σ H' { s' with heap:=h'' }:=by
 have ext:∀ b o,b≠s.heap.objs.size->s'.heap.get? b=some o->h''.get? b=some o:=λ b o nb e=>by rw [sb.2 b nb];exact e
 have old:∀ b o,s.heap.get? b=some o->b≠s.heap.objs.size:=λ b o e=>Nat.ne_of_lt (Heap.lt_size e)
 have u:=I'.base
 refine I.call' (ch:=fp) I'.os ⟨λ b o e n hb hx=>ext b o (old b o e) (u.keep b o e n hb hx),λ b o e n hb hx=>?_,u.free,λ b o e hx=>?_,u.tups,u.frzs,u.tbls⟩ (λ b ob e=>?_) I'.bare λ b hb=>⟨(hf b hb).2.2.2.1,(hf b hb).2.1,(hf b hb).2.2.2.2.1,(hf b hb).2.2.2.2.2⟩
 ·obtain ⟨sl,q⟩:=u.slot b o e n hb hx
  exact ⟨sl,ext b _ (old b o e) q⟩
 ·obtain ⟨o',q⟩:=u.there b o e hx
  exact ⟨o',ext b _ (old b o e) q⟩
 ·have nC:∀ c v,H' c=some v->c≠s.heap.objs.size:=λ c v q z=>by
   have:=I'.free
   rw [z] at q
   have z2:H' s.heap.objs.size=none:=this
   rw [z2] at q;cases q
  refine (I'.hok b ob e).stay (λ c v hc q=>ext c v ?_ q) (λ _ q=>q) λ _ _ q=>q
  rcases hc with z|z
  ·rw [z];exact nC b ob e
  ·exact nC c _ z
end
def zz71 (n:Nat) (ix:List Nat) (g:TG) (tt:TT) (te:TE) (σ:St) (J:It) (H1:Hp) (Q:VK):Prop:=∀ D,H1 D=none->∃ W:Nat->Nat->List V->St->Hp->Prop,(∃ m,W 0 m [] (compσ n ix σ) (upd H1 D (.lst []))) /\
 ∀ i m acc σ' H',W i m acc σ' H'->(J.stop i H'/\Q (.ref D) H') \/ (J.go i H'/\∃ N:List V->St->Hp->Prop,(∀ acc' σ2 H2,N acc' σ2 H2->∃ m',m' < m/\W (i+1) m' acc' σ2 H2) /\
  ∀ x H2,J.yld i H' x H2->g x σ' H2 λ σ2 H3=>tt σ2 H3 λ b H4=>if b=true then te σ2 H4 λ y H5=>H5 D=some (.lst acc)/\acc.length < sizeLine/\N (acc++[y]) σ2 (upd H5 D (.lst (acc++[y]))) else N acc σ2 H4)
def zb21 (wi:TI) (n:Nat) (ix:List Nat) (g:TG) (tt:TT) (te:TE):TE:=λ σ H Q=>wi σ H λ J H1=>zz71 n ix g tt te σ J H1 Q
def zj31:TT:=λ _ H Q=>Q true H
def PIf (X:Cx) (ifs:List Expr) (t:TT):Prop :=
 ∀ (pins:List (Addr×Obj)) (s:Shared) (σ:St) (H:Hp) (Q:Bool->Hp->Prop),Inv X pins σ H s->t σ H Q ->
  wpAny (model X.prog X.w) X.A (forIn ifs true λ c r=>if r=true then do let ok <- isTrue c X.env (eval c X.env);pure (ForInStep.yield ok) else pure (ForInStep.yield r)) (TP X pins σ Q) X.xe s
theorem zm3 {X:Cx}:PIf X [] zj31:=λ pins s σ H Q I h=>wpAny_tests_nil ⟨H,I,h⟩
theorem zfd {X:Cx} {c:Expr} {t:TT} (h:PT X c t):PIf X [c] t:=λ pins s σ H Q I q=>wpAny_tests_one (h pins s σ H Q I q)
section
variable {X:Cx} {tg iter elt:Expr} {ifs:List Expr} {scope:Scope} {pos:Pos} {own:List Str} {ix:List Nat} {wi:TI} {g:TG} {tt:TT} {te:TE} {sc:Scope} {N:List Str}
theorem zeg {pins:List (Addr×Obj)} {σ:St} {s2:Shared} {itv:Value} {Q:VK} {RR:Value->Addr->Result->Shared->Prop} {E:Value->Shared->Prop} (hc:X.calm=true) (S:CompSc X.env.scope X.N own ix scope)
  (hb:∀ s₀ H₀ C fp,PG (zb5 X scope (zuf X.N own ix) s₀ H₀ C fp) tg g/\PIf (zb5 X scope (zuf X.N own ix) s₀ H₀ C fp) ifs tt/\PE (zb5 X scope (zuf X.N own ix) s₀ H₀ C fp) elt te)
  (h2:PIE X pins σ tg (λ J H1=>zz71 own.length ix g tt te σ J H1 Q) itv s2)
  (hR:∀ (D C:Addr) (m:Str->Option Value) (s':Shared) (H':Hp),s'.heap.Ns C m->C≠X.env.locals->(∀ x c,X.env.cells.lookup x=some c->c≠C)->H' C=none->(X.s₀.heap.objs.size<=C)->(∀ p∈X.pn++pins,p.1≠C) ->
   (∀ h'',Heap.SameBut C s'.heap h''->Inv X pins σ H' { s' with heap:=h'' })->Q (.ref D) H'->RR (.ref D) C (.ok .next) s') :
  wpAny (model X.prog X.w) X.A (newList []) (λ acc s₃=>wpAny (model X.prog X.w) X.A (newFunctionEnv scope X.env.globals (zg4 X.env scope.names []) [] X.env.qual none .none (some X.env)) (λ cenv s₄ =>
   codeAny (model X.prog X.w) X.A (.compStart (.ListComp elt [⟨tg,iter,ifs,0⟩] scope pos) 0 itv acc { cenv with scope:=relabel scope X.env }) (RR acc cenv.locals) s₄) E s₃) E s2:=by
 obtain ⟨it,fp,tn,J,H1,e,I2,T,st2,f2,h⟩:=h2
 subst e
 have hD:H1 s2.heap.objs.size=none:=I2.hok.fresh (Nat.le_refl _)
 obtain ⟨W,⟨m0,w0⟩,turn⟩:=h _ hD
 have hlt:∀ b∈fp,b < s2.heap.objs.size:=λ b hbf=>by obtain ⟨o,e,_⟩:=T.obj 0 _ st2 b hbf;exact Heap.lt_size e
 refine wpAny_newObj_type ?_
 -- the new list is tracked
 have I3:Inv X pins σ (upd H1 s2.heap.objs.size (.lst [])) { s2 with heap:=s2.heap.push { cls:=.type "list",dict:=none,data:=.seq ([]:List Value).toArray } }:=I2.lnew (ys:=[]) (its:=[]) .nil (Nat.zero_le _)
 generalize hs3:({ s2 with heap:=s2.heap.push { cls:=.type "list",dict:=none,data:=.seq ([]:List Value).toArray } }:Shared)=s3 at I3 ⊢
 have hsz:s3.heap.objs.size=s2.heap.objs.size+1:=by rw [<- hs3];exact Heap.size_push ..
 have k3:∀ b o,s2.heap.get? b=some o->s3.heap.get? b=some o:=λ b o e=>by rw [<- hs3];exact Heap.get?_push_of_some _ e
 have neD:∀ b∈fp,b≠s2.heap.objs.size:=λ b hbf=>Nat.ne_of_lt (hlt b hbf)
 have f3:∀ b∈fp,FpOk X pins (upd H1 s2.heap.objs.size (.lst [])) b:=λ b hbf=>⟨by rw [zw0 (neD b hbf)];exact (f2 b hbf).1,(f2 b hbf).2⟩
 have hlt3:∀ b∈fp,b < s3.heap.objs.size:=λ b hbf=>by rw [hsz];exact Nat.lt_succ_of_lt (hlt b hbf)
 refine zch ?_
 have hns₁:=(Heap.Ns.new s3.heap (.type "dict")).keeps (pushCells_keeps scope.names _)
 have k4:∀ b o,s3.heap.get? b=some o->(pushCells (s3.heap.push { cls:=.type "dict",data:=.dict #[] }) scope.names).get? b=some o:=λ b o e=>pushCells_keeps _ _ b o (Heap.get?_push_of_some _ e)
 have hcl:∀ x c,(zg4 X.env scope.names []).lookup x=some c->X.env.cells.lookup x=some c:=λ x c e=>zie scope.names [] (λ _ _ q=>by cases q) e
 have kc:=zun scope.names (s3.heap.push { cls:=.type "dict",data:=.dict #[] }) (zg4 X.env scope.names []) (λ x c e=>by
  obtain ⟨v,z⟩:=I3.cell x c (hcl x c e)
  exact ⟨v,z.keeps λ b o e=>Heap.get?_push_of_some _ e⟩)
 rw [Heap.size_push] at kc
 generalize pushCells (s3.heap.push { cls:=.type "dict",data:=.dict #[] }) scope.names=h₁ at hns₁ k4 kc ⊢
 have I4:=zku (t':=s3.toks) I3 S hns₁ kc k4 f3 hlt3
 obtain ⟨hG,hT,hE⟩:=hb s3 (upd H1 s2.heap.objs.size (.lst [])) s3.heap.objs.size fp
 have fp':∀ {H':Hp},(∀ b∈fp,H' b=none)->∀ b∈fp,FpOk (zb5 X scope (zuf X.N own ix) s3 (upd H1 s2.heap.objs.size (.lst [])) s3.heap.objs.size fp) [] H' b:=λ {H'} hn b hbf=>by
  refine ⟨hn b hbf,Nat.ne_of_lt (hlt3 b hbf),?_,.inl hbf,λ x c e=>(zjw _ _ _ e).elim (λ q=>(f2 b hbf).2.2.2.2.1 x c (hcl x c q)) (λ q e2=>absurd (Nat.lt_of_lt_of_le (hlt3 b hbf) (Nat.le_of_succ_le (e2 ▸ q.2))) (Nat.lt_irrefl _)),λ p hp=>absurd (show p∈([]:List (Addr×Obj)) from hp) (by simp)⟩
  intro z
  rcases List.mem_cons.mp (I3.stkSub b z) with z|z
  ·exact (f2 b hbf).2.1 z
  ·exact (f2 b hbf).2.2.1 z
 have st4:tn 0 h₁:=T.keep _ _ _ st2 λ b _ o e=>k4 b o (k3 b o e)
 have cne:∀ x c,X.env.cells.lookup x=some c->c≠s3.heap.objs.size:=λ x c e z=>by
  obtain ⟨v,q⟩:=I3.cell x c e
  exact absurd q.lt (by rw [z];exact Nat.lt_irrefl _)
 have loop:codeAny (model X.prog X.w) X.A (.compLoop (.ListComp elt [⟨tg,iter,ifs,0⟩] scope pos) 0 (.ref it) (.ref s2.heap.objs.size) (compEnvC scope (zpq X scope s3.heap.objs.size) s3.heap.objs.size X.env)) (RR (.ref s2.heap.objs.size) s3.heap.objs.size) { s3 with heap:=h₁ }:=by
  refine zij (λ n s'=>∃ i acc σ' H',Inv (zb5 X scope (zuf X.N own ix) s3 (upd H1 s2.heap.objs.size (.lst [])) s3.heap.objs.size fp) [] σ' H' s'/\tn i s'.heap/\(∀ b∈fp,H' b=none)/\W i n acc σ' H') ?_ m0 ⟨0,[],_,_,I4,st4,λ b hbf=>(f3 b hbf).1,w0⟩
  rintro n s5 ⟨i,acc,σ5,H5,I5,st5,fr5,w5⟩
  rcases turn i n acc σ5 H5 w5 with ⟨stop,qn⟩|⟨go,NN,hN,step⟩
  ·refine thn (T.done (zb5 X scope (zuf X.N own ix) s3 (upd H1 s2.heap.objs.size (.lst [])) s3.heap.objs.size fp) rfl rfl rfl hc i [] s5 σ5 H5 _ I5 (fp' fr5) st5 stop) λ r s6 ⟨hr,I6⟩=>?_
   subst hr
   obtain ⟨m6,hn6,_⟩:=I6.loc
   exact hR _ _ m6 s6 H5 hn6 (Nat.ne_of_gt I3.lt) cne I6.free (I3.sz) (λ p hp z=>absurd (Heap.lt_size (I3.pin p hp).1) (by rw [z];exact Nat.lt_irrefl _)) (λ h'' sb=>zdn I3 f3 I6 sb) qn
  ·refine thn (T.item (zb5 X scope (zuf X.N own ix) s3 (upd H1 s2.heap.objs.size (.lst [])) s3.heap.objs.size fp) rfl rfl rfl hc i [] s5 σ5 H5 _ I5 (fp' fr5) st5 go) λ r s6 ⟨u,hr,h6⟩=>?_
   subst hr
   refine thn h6 λ _ s7 ⟨x,H7,I7,r7,y7,st7,fr7⟩=>?_
   have I7':=I7.pinned (fp' fr7) (T.obj _ _ st7)
   have noE:∀ {α:Type} {t:Sem α} {Q1:α->Shared->Prop} {E1:Value->Shared->Prop} {sx:Shared},wpAny (model X.prog X.w) X.A t Q1 (λ _ _=>False) sx->wpAny (model X.prog X.w) X.A t Q1 E1 sx:=λ q=>wpAny_noRaise q
   refine noE (thn (hG _ s7 σ5 H7 x u _ I7' r7 (step x H7 y7)) λ _ s8 ⟨σ8,H8,I8,q8⟩=>?_)
   refine noE (thn (hT _ s8 σ8 H8 _ I8 q8) λ b s9 ⟨H9,I9,q9⟩=>?_)
   have again:∀ {σz:St} {Hz:Hp} {sz:Shared} {accz:List V},Inv (zb5 X scope (zuf X.N own ix) s3 (upd H1 s2.heap.objs.size (.lst [])) s3.heap.objs.size fp) ([]++zam fp s7.heap) σz Hz sz->NN accz σz Hz->∃ m,m < n/\∃ i acc σ' H',Inv (zb5 X scope (zuf X.N own ix) s3 (upd H1 s2.heap.objs.size (.lst [])) s3.heap.objs.size fp) [] σ' H' sz/\tn i sz.heap/\(∀ b∈fp,H' b=none)/\W i m acc σ' H':=λ {σz Hz sz accz} Iz nz=>by
    obtain ⟨m',hm,wz⟩:=hN accz σz Hz nz
    refine ⟨m',hm,i+1,accz,σz,Hz,Iz.unpinned,T.keep _ _ _ st7 λ b hbf o e=>(Iz.pin (b,o) (List.mem_append_right _ (List.mem_append_right _ (zv7 hbf e)))).1,λ b hbf=>?_,wz⟩
    obtain ⟨o,e,d⟩:=T.obj _ _ st7 b hbf
    exact (Iz.pin (b,o) (List.mem_append_right _ (List.mem_append_right _ (zv7 hbf e)))).2.1
   cases b with
  |false =>
    have q9':NN acc σ8 H9:=by simpa using q9
    simp only [Bool.false_eq_true,if_false]
    exact again I9 q9'
  |true =>
    have q9':te σ8 H9 λ y H5=>H5 s2.heap.objs.size=some (.lst acc)/\acc.length < sizeLine/\NN (acc++[y]) σ8 (upd H5 s2.heap.objs.size (.lst (acc++[y]))):=by simpa using q9
    simp only [if_true]
    refine noE (thn (hE _ s9 σ8 H9 _ I9 q9') λ y s10 ⟨yv,H10,I10,r10,hl,hz,q10⟩=>?_)
    refine noE (thn (zt5 _ s10 σ8 H10 (.ref s2.heap.objs.size) [yv] (.ref s2.heap.objs.size) [y] (λ _ H'=>NN (acc++[yv]) σ8 H') I10 rfl (.cons r10 .nil) ⟨_,acc,yv,rfl,rfl,hl,hz,q10⟩) λ _ s11 ⟨_,H11,I11,_,q11⟩=>?_)
    exact again I11 q11
 exact codeAny_compStart_list loop (T.self X.A 0 _ _ _ st4 loop)
theorem zn3 (hc:X.calm=true) (hsc:X.env.scope=sc) (hN:X.N=N) (S:CompSc sc N own ix scope) (hi:PI X tg iter wi)
  (hb:∀ s₀ H₀ C fp,PG (zb5 X scope (zuf N own ix) s₀ H₀ C fp) tg g/\PIf (zb5 X scope (zuf N own ix) s₀ H₀ C fp) ifs tt/\PE (zb5 X scope (zuf N own ix) s₀ H₀ C fp) elt te)
  (hs:∀ x,foldedSetIterable iter X.env x=pure x:=by intro _;rfl):PE X (.ListComp elt [⟨tg,iter,ifs,0⟩] scope pos) (zb21 wi own.length ix g tt te):=by
 subst hsc hN
 intro pins s σ H Q I h
 rw [eval_ListComp]
 refine wpAny_comprehension_free (use:=none) (g:=⟨tg,iter,ifs,0⟩) (gs:=[]) rfl hs (zkh λ y hy hf=>I.ok.has y.1 (S.free y hy hf)) S.kind S.names ?_
 show wpAny _ _ (eval iter X.env) _ _ _
 refine thn (hi pins s σ H _ I h) λ v s1 h1=>thn h1 λ itv s2 h2=>?_
 refine zeg (Q:=Q) (RR:=λ acc C=>compPost (model X.prog X.w) X.A X.xe none (EP X pins σ Q) acc C) hc S hb h2 ?_
 intro D C m s' H' hns _ _ _ _ _ hI q
 exact ⟨m,hns,λ h'' sb=>⟨.ref D,H',hI h'' sb,rfl,q⟩⟩
theorem zb4 {i:Nat} {x:Str} {pos' pos2:Pos} (hc:X.calm=true) (hsc:X.env.scope=sc) (hN:X.N=N) (S:CompSc sc N own ix scope) (hnd:X.N.Nodup) (hxi:X.N[i]?=some x) (hx:X.env.scope.names.lookup x=some .local) (hi:PI X tg iter wi)
  (hb:∀ s₀ H₀ C fp,PG (zb5 X scope (zuf N own ix) s₀ H₀ C fp) tg g/\PIf (zb5 X scope (zuf N own ix) s₀ H₀ C fp) ifs tt/\PE (zb5 X scope (zuf N own ix) s₀ H₀ C fp) elt te)
  (hsw:swapsWith (.ListComp elt [⟨tg,iter,ifs,0⟩] scope pos) (some (.Name x pos')) pos2.line X.env=pure true:=by rfl)
  (hs:∀ x,foldedSetIterable iter X.env x=pure x:=by intro _;rfl):PS X (.Assign [.Name x pos'] (.ListComp elt [⟨tg,iter,ifs,0⟩] scope pos) pos2) (tAsg (zb21 wi own.length ix g tt te) (znd i)):=by
 subst hsc hN
 intro pins s σ H D I h
 rw [exec_Assign_Name_used _ _ _ _ hsw]
 refine wpAny_bind (wpAny_standAt (wpAny_bind ?_))
 show wpAny _ X.A (do let _ <- comprehension (.ListComp elt [⟨tg,iter,ifs,0⟩] scope pos) scope X.env _ (newList []) false (eval iter X.env) (some (assign (.Name x pos') X.env))) _ _ s
 refine wpAny_bind (wpAny_mono (wpAny_comprehension_free (use:=some (assign (.Name x pos') X.env)) (g:=⟨tg,iter,ifs,0⟩) (gs:=[]) (Q:=λ _ s'=>SP X pins D .next s') rfl hs (zkh λ y hy hf=>I.ok.has y.1 (S.free y hy hf)) S.kind S.names
  (thn (hi pins s σ H _ I h) λ v s1 h1=>thn h1 λ itv s2 h2=>?_)) (λ _ s' hq=>wpAny_pure (wpAny_pure hq)) λ _ _ e=>e)
 refine zeg (Q:=λ v H1=>znd i v σ H1 D.nx) (RR:=λ acc C=>compPost (model X.prog X.w) X.A X.xe (some (assign (.Name x pos') X.env)) (λ _ s'=>SP X pins D .next s') acc C) hc S hb h2 ?_
 intro L C m s' H' hns nL nC hC hC0 hCp hI q
 show wpAny _ _ (assign (.Name x pos') X.env (.ref L)) _ _ s'
 have I':Inv X pins σ H' s':=hI s'.heap ⟨rfl,λ _ _=>rfl⟩
 refine wpAny_assign_Name (zdk I' hnd hxi (.inl hx) (v:=.ref L) rfl (λ s2 I2 hch=>?_) (.inr hx))
 obtain ⟨a,sba,ha⟩:=hch
 have naC:C≠a:=by
  rcases ha with z|z
  ·rw [z];exact nL
  ·exact λ e=>nC x a z e.symm
 refine ⟨m,hns.sameBut sba naC,λ h'' sb=>?_⟩
 refine ⟨_,H',I2.turned (t':=s2.toks) (it:=C) (λ b o nb e=>?_) hC nL (.inr hC0) nC hCp,q⟩
 rw [sb.2 b nb];exact e
end
def zw81 (K:Fg):R2:=λ x y H Q=>rI0 (λ i j=>.int (i+j)) x y H Q \/ (∃ i j,x=.str i/\y=.str j/\i.length+j.length<=sizeLine/\Q (.str (i++j)) H) \/ rCat x y H Q \/ zr81 K x y H Q
def zp81:R2:=λ x y H Q=>rI CMul (λ i j=>.int (i * j)) x y H Q \/ rRep x y H Q
def rSlU (K:Fg):V->Option Int->Option Int->Hp->VK->Prop:=λ x lo hi H Q=>rSlL K x lo hi H Q \/ rSlT K x lo hi H Q
def zx91 (K:Fg) (x:V) (H:Hp) (R:It->Hp->Prop):Prop:=(∃ a,x=.ref a/\(∃ xs,SqL K H a xs)/\R (Itl K a) H) \/ (∃ a,x=.ref a/\(∃ xs,SqT K H a xs)/\R (Itt K a) H)
def rLen (K:Fg):List V->Hp->VK->Prop:=λ xs H Q=>∃ x n,xs=[x]/\LenV K x H n/\Q (.int (n:Nat)) H
def zi81:List V->Hp->VK->Prop:=λ xs H Q=>∃ i j,xs=[.int i,.int j]/\Q (.int (if j > i then j else i)) H
def zza1 (xs:List V) (H:Hp) (Q:VK):Prop:=xs.length<=sizeLine/\∀ p,H p=none->Q (.ref p) (upd H p (.tup xs))
def zeb1 (xs:List V) (H:Hp) (Q:VK):Prop:=xs.length<=sizeLine/\∀ p,H p=none->Q (.ref p) (upd H p (.lst xs))
def zt21 (t:TA):TE:=λ σ H Q=>t σ H λ xs H1=>zza1 xs H1 Q
def zgr (t:TA):TE:=λ σ H Q=>t σ H λ xs H1=>zeb1 xs H1 Q
def zm91 (x:V) (H:Hp) (Q:Option Int->Hp->Prop):Prop:=∃ i,x=.int i/\Q (some i) H
def ziw (t:TE):TO:=λ σ H Q=>t σ H λ x H1=>zm91 x H1 Q
def kFld (K:Fg) (f:Str) (x:V) (H:Hp) (Q:VK):Prop:=∃ a C dx fs v,x=.ref a/\H a=some (.ins C dx fs)/\Cls K C/\zk1 K C f/\fs.lookup f=some v/\Q v H
def za91 (K:Fg) (ta:TE) (f:Str):TE:=λ σ H Q=>ta σ H λ x H1=>kFld K f x H1 Q
def kBl (x:V) (H:Hp) (Q:Bool->Hp->Prop):Prop:=∃ k,x=.bl k/\Q k H
def zbu (t:TE):TT:=λ σ H Q=>t σ H λ x H'=>kBl x H' Q
def kTru (K:Fg) (x:V) (H:Hp) (Q:Bool->Hp->Prop):Prop:=∃ k,TruV K x H k/\Q k H
def ze91 (K:Fg) (t:TE):TT:=λ σ H Q=>t σ H λ x H'=>kTru K x H' Q
section
variable {X:Cx} {tg:Expr}
theorem zhz {K:Fg} (h:X.K=K):OpR X (binaryOp .Add) (zw81 K):=h ▸ zm31.or (zkn.or (zo41.or ziy))
theorem zr01:OpR X (binaryOp .Mult) zp81:=zv41.or zq11
theorem ix_U {K:Fg} (h:X.K=K):IxR X (rIx K):=h ▸ zl71
theorem sl_U {K:Fg} (h:X.K=K):SlR X (rSlU K):=h ▸ zs01.or zi71
theorem zg1 {K:Fg} (h:X.K=K):zg9 X (.builtin "len") (rLen K):=h ▸ zws
theorem zvq (hc:X.calm=true):zg9 X (.builtin "max") zi81:=zyp hc
theorem zt1 {es:List Expr} {t:TA} {x1} {pos:Pos} (h:PA X es t):PE X (.Tuple es x1 pos) (zt21 t):=zy51 h
theorem zn1 {es:List Expr} {t:TA} {pos:Pos} (h:PA X es t):PE X (.List es pos) (zgr t):=zz61 h
theorem zwa {e:Expr} {te:TE} (h:PE X e te):PO X (some e) (ziw te):=zhy h
theorem zm1 {K:Fg} (h:X.K=K) {e:Expr} {f:Str} {pos:Pos} {ta:TE} (he:PE X e ta) (hb:attributeBase e f X.env (eval e X.env)=eval e X.env):PE X (.Attribute e f pos) (za91 K ta f):=h ▸ zr31 he hb
theorem zt0 {a b:Expr} {ta tb:TE} {pos:Pos} {op:CmpOp} {r:R2} (ho:OpR X (compareOp op) r) (ha:PE X a ta) (hb:PE X b tb) (hm:behindInMarks op b=false):PT X (.Compare a [op] [b] pos) (zbu (tOp r ta tb)):=zmy ho ha hb hm
theorem znk {a b c:Expr} {ta tb tc:TE} {pos:Pos} {op op':CmpOp} {r r':R2} (ho:OpR X (compareOp op) r) (ho':OpR X (compareOp op') r') (ha:PE X a ta) (hb:PE X b tb) (hc:PE X c tc)
  (hm:lastMarks [op,op'] [b,c]=false:=by with_unfolding_all rfl):PT X (.Compare a [op,op'] [b,c] pos) (zbu (zlt r r' ta tb tc)):=zys ho ho' ha hb hc hm
theorem zxr {K:Fg} (h:X.K=K) {a:Expr} {ta:TE} (ha:PE X a ta) (he:∀ whole,isTrue a X.env whole=(do let v <- whole;standAt a.pos;holding [v] (truthy v))):PT X a (ze91 K ta):=h ▸ zyu ha he
def clsV:V->Option Value
|.ty n=>some (.type n)
|.ref a=>some (.ref a)
|_=>none
theorem zwh {cV:V} {c v:Value} (h:clsV cV=some c) (r:RelV cV v):v=c:=by
 cases cV with
|ty n=>cases h;exact r
|ref a=>cases h;exact r
|_=>cases h
def rIsI (K:Fg):List V->Hp->VK->Prop:=λ xs H Q=>∃ x cV c t b,xs=[x,cV]/\clsV cV=some c/\TyOf K H x t/\PySem.W.kitOne K t c=some b/\Q (.bl b) H
theorem zfl {K:Fg} (h:X.K=K):zg9 X (.builtin "isinstance") (rIsI K):=by
 subst h
 intro pins s σ H xs us Q I r h
 obtain ⟨x,cV,c,t,b,rfl,rc,ty,e,q⟩:=h
 obtain ⟨u,v,rfl,ru,rv⟩:=r.two
 obtain rfl:=zwh rc rv
 exact zyq I ru ty e λ tk=>⟨.bl b,H,I.tok tk,rfl,q⟩
end
def Def (P:Program) (w:World) (K:Fg) (mg:Str->Option Value) (base:Heap) (x:Str) (k:Nat) (ps:List Str) (sp:Sp):Prop :=
 ∃ f fd,FnOk P w K mg base CX0 k f fd ps sp/\zvh K fd ps []/\PySem.W.keepIn K (.ref f)=true/\mg x=some (.ref f)
def zlo (P:Program) (w:World) (K:Fg) (mg:Str->Option Value) (base:Heap) (x:Str) (C:Addr) (k:Nat) (ps:List Str) (sp:Sp):Prop :=
 ∃ f fd,Mk K C f/\FnOk P w K mg base CX0 k f fd ps sp/\zvh K fd ps []/\mg x=some (.ref C)
def ztf (P:Program) (w:World) (K:Fg) (mg:Str->Option Value) (base:Heap) (C:Addr) (m:Str) (k:Nat) (ps:List Str) (sp:Sp):Prop :=
 ∃ f fd,Cls K C/\Meth K C m f/\FnOk P w K mg base CX0 k f fd ps sp/\zvh K fd ps []
section
variable {X:Cx} {k:Nat} {C:Addr} {ps:List Str} {sp:Sp} {x m:Str} {p pos apos:Pos} {e o:Expr} {es:List Expr} {ta:TE} {t:TA}
theorem zo0 (d:Def X.prog X.w X.K X.mg X.base x k ps sp) (hr:Room k X.A) (hg:Gl X x) (ha:PA X (e :: es) t) (hdb:(x == ("__debug__":Str))=false:=by decide)
  (he:starEach (e :: es) X.env=(false,eval e X.env) :: starEach es X.env:=by rfl) (hpl:(backTo pos (starEach es X.env)).any (·.1)=false:=by rfl):PE X (.Call (.Name x p) (e :: es) [] pos) (zet sp [] E0 t):=by
 obtain ⟨f,fd,F,b,kp,m⟩:=d
 exact zh11 F hr hg m kp b .nil zv21 ha hdb he hpl
theorem zef (d:zlo X.prog X.w X.K X.mg X.base x C k ps sp) (hr:Room (k+1) X.A) (hg:Gl X x) (ha:PA X (e :: es) t) (hdb:(x == ("__debug__":Str))=false:=by decide)
  (he:starEach (e :: es) X.env=(false,eval e X.env) :: starEach es X.env:=by rfl) (hpl:(backTo pos (starEach es X.env)).any (·.1)=false:=by rfl):PE X (.Call (.Name x p) (e :: es) [] pos) (zq41 C sp [] E0 t):=by
 obtain ⟨f,fd,M,F,b,m⟩:=d
 exact zly M F hr hg m b .nil zv21 ha hdb he hpl
end
theorem zp2 {H:Hp} {p:Addr} (h:H p=none) (o:HO):Same H (upd H p o):=λ b u q=>by rw [zw0 (zz3 q h)];exact q
theorem zns {K:Fg} {H H':Hp} {a:Addr} {xs:List V} (e:Same H H') (h:SqT K H a xs):SqT K H' a xs:=by
 rcases h with (h|⟨o,h⟩)|h
 ·exact .inl (.inl (e _ _ h))
 ·exact .inl (.inr ⟨o,e _ _ h⟩)
 ·exact .inr h
section
variable {K:Fg} {σ:St} {H:Hp} {Q:VK} {D:Ends} {a b p:Addr} {i j k:Int} {x y v:V} {xs ys:List V} {ta tb te:TE} {t u:TS} {tA:TA} {tt tt':TT} {A B:Prop}
end
theorem zv3:bootBuiltins "len"=some (.builtin "len"):=by decide +kernel
theorem zf01:bootBuiltins "max"=some (.builtin "max"):=by decide +kernel
theorem zb51:bootBuiltins "min"=some (.builtin "min"):=by decide +kernel
theorem zh1:bootBuiltins "isinstance"=some (.builtin "isinstance"):=by decide +kernel
theorem zhu:bootBuiltins "int"=some (.type "int"):=by decide +kernel
theorem zd9:bootBuiltins "list"=some (.type "list"):=by decide +kernel
structure Md (K:Fg) (mg:Str->Option Value):Prop where
 ex:∃ h:Heap,K.In h/\h.Ns mainGlobals mg
theorem Md.got {K:Fg} {mg:Str->Option Value} (M:Md K mg) {x:Str} {v:Value} (e:PySem.W.nsIn K mainGlobals x=some (some v)):mg x=some v:=let ⟨_,X,G⟩:=M.ex;PySem.W.mg_of X G e
theorem Md.not {K:Fg} {mg:Str->Option Value} (M:Md K mg) {x:Str} (e:PySem.W.nsIn K mainGlobals x=some none):mg x=none:=let ⟨_,X,G⟩:=M.ex;PySem.W.mg_none_of X G e
structure TopDef (K:Fg) (x:Str) (st:Stmt):Prop where
 ex:∃ f fd,PySem.W.nsIn K mainGlobals x=some (some (.ref f))/\Fun K x x st f fd
theorem zxq {K:Fg} {x:Str} {st:Stmt} {f:Addr} {oc:Value} {od an:Option Addr} {osl:Array (Option Value)} {kV doc pm cdv ct:Value} (a:PySem.W.nsIn K mainGlobals x=some (some (.ref f)))
  (l:K.lookup f=some ⟨oc,od,.func (PySem.W.fnOf x x (za7 st) (zj2 st) (zh0 st) .none kV doc pm an cdv ct),osl⟩) (c:PySem.W.codeIn K cdv x=true) (k:PySem.W.keepIn K (.ref f)=true):TopDef K x st:=⟨⟨_,_,a,zw11 l c k⟩⟩
structure TopMeth (K:Fg) (C:Addr) (m qual:Str) (st:Stmt):Prop where
 ex:∃ f fd,PySem.W.findIn K (.ref C) m=some (some (.ref f))/\PySem.W.isFn K (.ref f)=true/\Fun K m qual st f fd
theorem zfn {K:Fg} {C:Addr} {x qual:Str} {st:Stmt} {f:Addr} {oc:Value} {od an:Option Addr} {osl:Array (Option Value)} {kV doc pm cdv ct:Value} (a:PySem.W.findIn K (.ref C) x=some (some (.ref f))) (i:PySem.W.isFn K (.ref f)=true)
  (l:K.lookup f=some ⟨oc,od,.func (PySem.W.fnOf x qual (za7 st) (zj2 st) (zh0 st) .none kV doc pm an cdv ct),osl⟩) (c:PySem.W.codeIn K cdv qual=true) (k:PySem.W.keepIn K (.ref f)=true):TopMeth K C x qual st:=⟨⟨_,_,a,i,zw11 l c k⟩⟩
structure TopCls (K:Fg) (x:Str) (C:Addr):Prop where
 at_:PySem.W.nsIn K mainGlobals x=some (some (.ref C))
 cls:Cls K C
 mkk:PySem.W.makesIn K C=true
 kp:PySem.W.keepIn K (.ref C)=true
theorem zjq {K:Fg} {x:Str} {C:Addr} (a:PySem.W.nsIn K mainGlobals x=some (some (.ref C))) (pg:PySem.W.plainGet K C Str.empty=true) (hd:PySem.W.hasDictIn K C=true) (po:PySem.W.plainOver K C=true)
  (sa:PySem.W.findIn K (.ref C) "__setattr__"=some (some (.builtin "object.__setattr__"))) (mk:PySem.W.makesIn K C=true) (kc:PySem.W.keepIn K (.ref C)=true):TopCls K x C:=⟨a,⟨pg,hd,po,sa⟩,mk,kc⟩
section
variable {P:Program} {w:World} {K:Fg} {mg:Str->Option Value} {base:Heap}
abbrev zt6 (x qual:Str) (st:Stmt) (ps:List Str):Prop :=
 ∀ (kV doc pm:Value) (an:Option Addr) (cdv ct:Value) (us:List Value),us.length=ps.length->bindArgs (PySem.W.fnOf x qual (za7 st) (zj2 st) (zh0 st) .none kV doc pm an cdv ct) ⟨us,[]⟩=pure (ps.zip us)
abbrev zr6 (P:Program) (w:World) (K:Fg) (mg:Str->Option Value) (base:Heap) (qual:Str) (st:Stmt) (N:List Str) (k:Nat) (sp:Sp):Prop :=
 ∀ (f:Addr) (cdv:Value) (A:Around) (outer:List Env) (s:Shared) (H:Hp) (vs:List V) (Q:VK) (E:XK),Room k (A.deeper (envOfC qual (zh0 st) s.heap.objs.size f cdv))->sp vs H Q E ->
   ∃ t,PSs (cxOf CX0 P w K mg base N qual (zh0 st) f cdv A outer s H E).nox (zj2 st) t/\t { nx:=λ _ H'=>Q .non H',rt:=Q } (start N vs) H
theorem zs3 {x:Str} {st:Stmt} {N ps:List Str} {k:Nat} {sp:Sp} (M:Md K mg) (T:TopDef K x st) (S:FnScope N ps (zh0 st)) (hb:zt6 x x st ps) (len:∀ vs H Q E,sp vs H Q E->vs.length=ps.length)
  (body:zr6 P w K mg base x st N k sp):Def P w K mg base x (k+1) ps sp:=by
 obtain ⟨f,fd,a,F⟩:=T.ex
 exact ⟨f,fd,F.ok S len (λ cdv A outer s H vs Q E hr h=>body f cdv A outer s H vs Q E hr h),F.binds hb,F.kp,M.got a⟩
theorem zcg {C:Addr} {m qual:Str} {st:Stmt} {N ps:List Str} {k:Nat} {sp:Sp} (c:Cls K C) (T:TopMeth K C m qual st) (S:FnScope N ps (zh0 st)) (hb:zt6 m qual st ps) (len:∀ vs H Q E,sp vs H Q E->vs.length=ps.length)
  (body:zr6 P w K mg base qual st N k sp):ztf P w K mg base C m (k+1) ps sp:=by
 obtain ⟨f,fd,a,i,F⟩:=T.ex
 exact ⟨f,fd,c,⟨a,i,F.kp⟩,F.ok S len (λ cdv A outer s H vs Q E hr h=>body f cdv A outer s H vs Q E hr h),F.binds hb⟩
theorem zzj {x qual:Str} {C:Addr} {st:Stmt} {N ps:List Str} {k:Nat} {sp:Sp} (M:Md K mg) (c:TopCls K x C) (T:TopMeth K C "__init__" qual st) (S:FnScope N ps (zh0 st)) (hb:zt6 "__init__" qual st ps)
  (len:∀ vs H Q E,sp vs H Q E->vs.length=ps.length) (body:zr6 P w K mg base qual st N k sp):zlo P w K mg base x C (k+1) ps sp:=by
 obtain ⟨f,fd,a,i,F⟩:=T.ex
 exact ⟨f,fd,⟨c.mkk,a,i,c.kp⟩,F.ok S len (λ cdv A outer s H vs Q E hr h=>body f cdv A outer s H vs Q E hr h),F.binds hb,M.got c.at_⟩
theorem zd31 {st:Stmt} {N:List Str} {k:Nat} {sp:Sp} {fa:Addr} (M:Md K mg) (T:TopDef K "law" st) (hfa:mg "law"=some (.ref fa)) (S:FnScope N ["script"] (zh0 st)) (hb:zt6 "law" "law" st ["script"]) (len:∀ vs H Q E,sp vs H Q E->vs.length=1)
  (body:∀ base:Heap,K.In base->base.Ns mainGlobals mg->zr6 P w K mg base "law" st N k sp) :
  ∃ fd:FuncData,(∀ (s:Shared) (v:Value),BindsTo s fd ⟨[v],[]⟩ [("script",v)])/\∀ base:Heap,K.In base->base.Ns mainGlobals mg->FnOk P w K mg base CX0 (k+1) fa fd ["script"] sp:=by
 obtain ⟨f,fd,a,F⟩:=T.ex
 have e:=hfa.symm.trans (M.got a)
 cases e
 obtain ⟨oc,od,kV,doc,pm,an,cdv,ct,osl,e1,lk,hcd⟩:=id F.ex
 refine ⟨fd,λ s v=>.of_eq ?_,λ base kb nb=>F.ok S len λ cdv A outer s H vs Q E hr h=>body base kb nb fa cdv A outer s H vs Q E hr h⟩
 rw [e1]
 exact hb kV doc pm an cdv ct [v] rfl
end
section
variable {K:Fg} {a D:Addr} {xs:List V} {Q:VK} {σ:St} {H:Hp} {n:Nat} {ix:List Nat} {g:TG} {tt:TT} {te:TE}
end
def zi11:PyData->Bool
|.int _=>true
|.str _=>true
|_=>false
mutual
inductive Is (K:Fg) (H:Hp):V->PyData->Prop
|non:Is K H .non .none
|bl (b:Bool):Is K H (.bl b) (.bool b)
|int (i:Int):Is K H (.int i) (.int i)
|str (x:Str):Is K H (.str x) (.str x)
|lst {a:Addr} {xs:List V} {ds:List PyData}:SqL K H a xs->IsAll K H xs ds->Is K H (.ref a) (.list ds)
|tup {a:Addr} {xs:List V} {ds:List PyData}:H a=some (.tup xs)->IsAll K H xs ds->Is K H (.ref a) (.tuple ds)
|tuc {a:Addr} {xs:List V} {ds:List PyData}:SqT K H a xs->IsAll K H xs ds->ds.all zi11=false->Is K H (.ref a) (.tuple ds)
inductive IsAll (K:Fg) (H:Hp):List V->List PyData->Prop
|nil:IsAll K H [] []
|cons {x:V} {d:PyData} {xs:List V} {ds:List PyData}:Is K H x d->IsAll K H xs ds->IsAll K H (x :: xs) (d :: ds)
end
mutual
theorem Is.mono {K:Fg} {H H':Hp} (s:Same H H'):∀ {v:V} {d:PyData},Is K H v d->Is K H' v d
|_,_,.non=>.non
|_,_,.bl b=>.bl b
|_,_,.int i=>.int i
|_,_,.str x=>.str x
|_,_,.lst h r=>.lst (s.seq h) (IsAll.mono s r)
|_,_,.tup h r=>.tup (s _ _ h) (IsAll.mono s r)
|_,_,.tuc h r n=>.tuc (zns s h) (IsAll.mono s r) n
theorem IsAll.mono {K:Fg} {H H':Hp} (s:Same H H'):∀ {v:List V} {d:List PyData},IsAll K H v d->IsAll K H' v d
|_,_,.nil=>.nil
|_,_,.cons h r=>.cons (Is.mono s h) (IsAll.mono s r)
end
section
variable {X:Cx} {pins:List (Addr×Obj)} {σ:St} {H:Hp} {s:Shared}
mutual
theorem za8 (I:Inv X pins σ H s):∀ {v:V} {d:PyData} {u:Value},Is X.K H v d->RelV v u->∃ as,Reads s.heap u d as
|_,_,_,.non,r=>by cases r;exact ⟨_,.none⟩
|_,_,_,.bl b,r=>by cases r;exact ⟨_,.bool b⟩
|_,_,_,.int i,r=>by obtain ⟨t,rfl⟩:=r;exact ⟨_,.int i t⟩
|_,_,_,.str x,r=>by obtain ⟨t,rfl⟩:=r;exact ⟨_,.str x t⟩
|_,_,_,.lst h q,r=>by
  cases r
  obtain ⟨its,rv,p,_⟩:=I.list h
  obtain ⟨as,z⟩:=zu5 I q rv
  obtain ⟨o,ho,hc,n,hd⟩:=p.isList
  exact ⟨_,.list ho hc hd (by simpa using z)⟩
|_,_,_,.tup h q,r=>by
  cases r
  obtain ⟨its,rv,p,_⟩:=I.tuple (SqT.of h)
  obtain ⟨as,z⟩:=zu5 I q rv
  obtain ⟨o,ho,hc,n,hd⟩:=(show s.heap.IsTuple _ its.toArray from p)
  exact ⟨_,.tuple ho hc hd (by simpa using z)⟩
|_,_,_,.tuc h q _,r=>by
  cases r
  obtain ⟨its,rv,p,_⟩:=I.tuple h
  obtain ⟨as,z⟩:=zu5 I q rv
  obtain ⟨o,ho,hc,n,hd⟩:=(show s.heap.IsTuple _ its.toArray from p)
  exact ⟨_,.tuple ho hc hd (by simpa using z)⟩
theorem zu5 (I:Inv X pins σ H s):∀ {v:List V} {d:List PyData} {u:List Value},IsAll X.K H v d->Vals v u->∃ as,ReadsAll s.heap u d as
|_,_,_,.nil,r=>by cases r;exact ⟨_,.nil⟩
|_,_,_,.cons h q,r=>by
  cases r with
 |cons r1 r2 =>
   obtain ⟨as,z⟩:=za8 I h r1
   obtain ⟨bs,y⟩:=zu5 I q r2
   exact ⟨_,.cons z y⟩
end
end
def rEqU (K:Fg):R2:=λ x y H Q=>rEq x y H Q \/ (∃ d e,Is K H x d/\Is K H y e/\SeqAt.shaped d=true/\SeqAt.shaped e=true/\Q (.bl (PyData.eqv d e)) H)
def rNeU (K:Fg):R2:=λ x y H Q=>rNe x y H Q \/ (∃ d e,Is K H x d/\Is K H y e/\SeqAt.shaped d=true/\SeqAt.shaped e=true/\Q (.bl (!PyData.eqv d e)) H)
section
variable {X:Cx}
theorem zg2 {K:Fg} (h:X.K=K) (hu:X.A.units+64 < cLine):OpR X (compareOp .Eq) (rEqU K):=by
 subst h
 refine zi91.or ?_
 intro pins s σ H x y v u Q I rx ry q
 obtain ⟨d,e,hd,he,sd,se,q⟩:=q
 obtain ⟨as,r1⟩:=za8 I hd rx
 obtain ⟨bs,r2⟩:=za8 I he ry
 exact eq_dataH r1 r2 sd se hu ⟨.bl _,H,I,rfl,q⟩
theorem zrh {K:Fg} (h:X.K=K) (hu:X.A.units+64 < cLine):OpR X (compareOp .NotEq) (rNeU K):=by
 subst h
 refine zma1.or ?_
 intro pins s σ H x y v u Q I rx ry q
 obtain ⟨d,e,hd,he,sd,se,q⟩:=q
 obtain ⟨as,r1⟩:=za8 I hd rx
 obtain ⟨bs,r2⟩:=za8 I he ry
 exact ne_dataH r1 r2 sd se hu ⟨.bl _,H,I,rfl,q⟩
structure MkO (K:Fg) (C:Addr):Prop where
 makes:PySem.W.makesIn K C=true
 init:PySem.W.findIn K (.ref C) "__init__"=some (some (.builtin "object.__init__"))
 kp:PySem.W.keepIn K (.ref C)=true
def zqx (P:Program) (w:World) (K:Fg) (mg:Str->Option Value) (base:Heap) (m:Str) (k:Nat) (ta:TE) (t:TA):TE:=λ σ H Q=>ta σ H λ x H1=>∃ a C dx fs ps sp,x=.ref a/\H1 a=some (.ins C dx fs)/\fs.lookup m=none /\
 ztf P w K mg base C m k ps sp/\t σ H1 λ vs H2=>sp (x :: vs) H2 Q E0
theorem zov {P:Program} {w:World} {K:Fg} {mg:Str->Option Value} {base:Heap} {k:Nat} {m:Str} {pos apos:Pos} {e o:Expr} {es:List Expr} {ta:TE} {t:TA} {pl:Sem Bool} (hP:X.prog=P) (hw:X.w=w) (hK:X.K=K) (hmg:X.mg=mg) (hbs:X.base=base) (hr:Room k X.A) (he:PE X o ta) (ha:PA X (e :: es) t)
  (hst:starEach (e :: es) X.env=(false,eval e X.env) :: starEach es X.env:=by rfl) (hpl:(backTo pos (starEach es X.env)).any (·.1)=false:=by rfl)
  (ht:eval (.Call (.Attribute o m apos) (e :: es) [] pos) X.env=(do
   let ov <- eval o X.env
   standAt apos.atName
   let (f,first) <- holding [ov] (getMethod ov m pl)
   callWith pos f first (backTo pos (starEach (e :: es) X.env)) (backToKw pos (keywordEach [] X.env))):=by rfl) :
  PE X (.Call (.Attribute o m apos) (e :: es) [] pos) (zqx P w K mg base m k ta t):=by
 subst hP hw hK hmg hbs
 intro pins s σ H Q I h
 refine PySem.W.methodCall_KW (pl:=pl) (thn (he pins s σ H _ I h) λ u s1 ⟨x,H1,I1,rx,a,C,dx,fs,ps,sp,ex,ea,l,d,q⟩=>?_) ht
 subst ex
 obtain rfl:u=Value.ref a:=rx
 obtain ⟨f,fd,c,hm,F,b⟩:=d
 refine zf5 I1 ea c hm l ?_
 refine PySem.W.callWith_K (first:=[.ref a]) (h₀:=X.base) I.ok.mod.kin hm.kp (thn (ha pos pins s1 σ H1 _ I1 q) λ us s2 ⟨vs,H2,I2,r,q2⟩=>⟨I2.kIn,?_⟩) hst hpl
 exact zot (us:=.ref a :: us) (vs:=.ref a :: vs) (dvs:=[]) (ds:=[]) F hr b .nil zv21 I2 (.cons rfl r) (by rw [List.append_nil];exact q2)
end
section
variable {K:Fg} {σ:St} {H:Hp} {Q:VK} {x y:V} {ta:TE} {tA:TA}
end
end L3
namespace L3
open PySem PySem.Builtin PySem.Builtin.Str PySem.StrLaws
end L3
namespace L3
open PySem PySem.Spec PyProof.Rows L2
section
variable {X:Cx}
abbrev TJ:=Str->St->Hp->(Str->Hp->Prop)->Prop
def PJ (X:Cx) (es:List Expr) (t:TJ):Prop :=
 ∀ (acc:Str) (pins:List (Addr×Obj)) (s:Shared) (σ:St) (H:Hp) (Q:Str->Hp->Prop),Inv X pins σ H s->t acc σ H Q ->
  wpAny (model X.prog X.w) X.A (joinParts acc (evalEach es X.env)) (λ v s'=>∃ z H' tk,v=.str z tk/\Inv X pins σ H' s'/\Q z H') X.xe s
def jNil:TJ:=λ acc _ H Q=>acc.length<=sizeLine/\Q acc H
def zl81 (y:Str) (t:TJ):TJ:=λ acc σ H Q=>(acc++y).length<=sizeLine/\t (acc++y) σ H Q
def kFmt (x:V) (H:Hp) (Q:Str->Hp->Prop):Prop:=(∃ z,x=.str z/\z.length<=sizeLine/\Q z H) \/ ∃ i:Int,x=.int i/\i.natAbs.log2 < 1920/\Q (Str.ofString (toString i)) H
theorem zzk:PJ X [] jNil:=λ acc pins s σ H Q I h=>joinParts_nil ⟨acc,H,_,rfl,I.tok _,h.2⟩ h.1
theorem zl5 {y:Str} {j:Nat} {pos:Pos} {es:List Expr} {t:TJ} (h:PJ X es t):PJ X (.Constant (.str y) j pos :: es) (zl81 y t):=by
 intro acc pins s σ H Q I q
 refine joinParts_cons (Calls.Constant_str ?_)
 exact ⟨q.1,h _ pins _ σ H Q (I.tok _) q.2⟩
def zls (t:TJ):TE:=λ σ H Q=>t Str.empty σ H λ z H'=>Q (.str z) H'
theorem zs5 {v₁ v₂:Expr} {rest:List Expr} {pos:Pos} {t:TJ} (h:PJ X (v₁ :: v₂ :: rest) t):PE X (.JoinedStr (v₁ :: v₂ :: rest) pos) (zls t):=by
 intro pins s σ H Q I q
 refine JoinedStr_many (thn (h Str.empty pins s σ H _ I q) λ v s1 ⟨z,H',tk,e,I1,q1⟩=>?_)
 subst e
 exact ⟨.str z,H',I1,⟨tk,rfl⟩,q1⟩
def rInt:List V->Hp->VK->Prop:=λ xs H Q=>((∃ i,xs=[.int i]/\Q (.int i) H) \/ ∃ k,xs=[.bl k]/\Q (.int (if k then 1 else 0)) H) \/ ∃ z n,xs=[.str z]/\PySem.intText? z=some n/\z.length<=640/\Q (.int n) H
theorem zse:zg9 X (.type "int") rInt:=by
 intro pins s σ H xs us Q I r h
 rcases h with h|⟨z,n,rfl,hn,hl,q⟩
 ·exact zup pins s σ H xs us Q I r h
 ·obtain ⟨u,rfl,t,rfl⟩:=r.one
  exact PySem.W.KIN.call_text hn hl ⟨.int n,H,I.tok _,⟨_,rfl⟩,q⟩
def Its (z:Str):It:=⟨λ i _=>i < z.cps.size,λ i H x H'=>H'=H/\∃ c,z.cps[i]?=some c/\x=.str ⟨#[c]⟩,λ i _=>z.cps.size<=i⟩
theorem zqt {P:Program} {w:World} {K:Fg} {tg:Expr} (z:Str) (t:Tok) (it:Addr):Turn P w K tg (Its z) [it] it (λ i h=>h.IsStrIter it "str_ascii_iterator" z t i) where
 mem:=by simp
 obj:=λ i h st b hb=>by
  have e:b=it:=by simpa using hb
  subst e
  obtain ⟨o,e,c,d⟩:=st
  exact ⟨o,e,λ v z=>by rw [d] at z;cases z⟩
 keep:=λ i h h' st k=>by
  obtain ⟨o,e,c,d⟩:=st
  exact ⟨o,k it (by simp) o e,c,d⟩
 item:=by
  intro X hP hw hK hc i pins s σ H E I hf st hg
  subst hP hw hK
  have hg':i < z.cps.size:=hg
  obtain ⟨f0,f1,f2,f3,f4,f5⟩:=hf it (by simp)
  have hx:z.cps[i]?=some z.cps[i]:=by simp [hg']
  refine wpAny_pyNext_ascii_item st hx λ h' st' sb=>?_
  have I1:Inv X pins σ H { s with heap:=h',toks:=s.toks+1 }:=I.turned (t':=s.toks+1) (λ b o hb e=>(sb.2 b hb).trans e) f0 f1 f3 f4 f5
  obtain ⟨o,e,c,d⟩:=id st'
  exact ⟨_,rfl,zy11 (s:={ s with heap:=h',toks:=s.toks+1 }) e c d (by decide) ⟨.str ⟨#[z.cps[i]]⟩,H,I1,⟨_,rfl⟩,⟨rfl,_,hx,rfl⟩,st',λ b hb=>(hf b hb).1⟩⟩
 done:=by
  intro X hP hw hK hc i pins s σ H E I hf st hg
  subst hP hw hK
  have hg':z.cps.size<=i:=hg
  obtain ⟨f0,f1,f2,f3,f4,f5⟩:=hf it (by simp)
  have hx:z.cps[i]?=none:=by simp [hg']
  exact wpAny_pyNext_ascii_end (I.ok.hd hc) st hx λ h' eb=>⟨rfl,I.turned (t':=s.toks) (λ b o hb e=>eb b o hb e) f0 f1 f3 f4 f5⟩
 self:=λ A i s Q E st h=>wpAny_pyIter_striter_ascii st h
end
theorem zz8 {P:Program} {w:World} {H:Hp} {h:Heap} {a:Addr} {o:HO} (x:zm8 P w H h a o):∃ ob,h.get? a=some ob:=by
 cases o with
|lst xs=>obtain ⟨_,_,_,_,e⟩:=x;exact ⟨_,e⟩
|tup xs=>obtain ⟨_,_,_,o,e,_⟩:=x;exact ⟨o,e⟩
|dK kvs=>obtain ⟨_,_,_,_,o,_,_,e,_⟩:=x;exact ⟨o,e⟩
|dT kvs=>obtain ⟨_,_,_,_,o,_,_,e,_⟩:=x;exact ⟨o,e⟩
|set S n=>obtain ⟨o,_,_,_,e,_⟩:=x;exact ⟨o,e⟩
|ins C dx fs=>obtain ⟨_,_,_,e,_⟩:=x;exact ⟨_,e⟩
|own y=>exact x
|xd fs=>obtain ⟨_,⟨_,_,_,e,_⟩,_⟩:=x;exact ⟨_,e⟩
|rng lo hi=>obtain ⟨_,_,_,e⟩:=x;exact ⟨_,e⟩
|frz ob u=>obtain ⟨e,_⟩:=x;exact ⟨_,e⟩
|tbl ps=>exact ⟨_,(show h.get? a=some _ from x)⟩
|met f y=>exact ⟨_,(show h.get? a=some _ from x)⟩
|ext φ=>obtain ⟨_,e,_⟩:=x;exact e
theorem zrw {K:Fg} {mg:Str->Option Value} {base:Heap} (M:Mod K mg base) (p:Program):∃ loose mb,PySem.W.TopRead p loose mg mb base:=by
 obtain ⟨o,es,ep,ho,hd,hk,hf⟩:=id M.glob
 obtain ⟨mb,hb,hbb⟩:=M.blt
 refine ⟨es.toList.filterMap λ e=>match e.key with|.str n _=>some n|_=>none,mb,M.glob,hb,M.nolimit,hbb,λ x _ hx _ _ _=>?_⟩
 rw [<- hf x]
 cases q:nsFind es x with
|none=>rfl
|some v =>
  exfalso
  unfold nsFind findBy at q
  cases z:es.find? (λ e=>e.key.isStr x) with
 |none=>rw [z] at q;cases q
 |some e =>
   have h1:=Array.find?_some z
   have h2:=Array.mem_of_find?_eq_some z
   apply hx
   refine List.mem_filterMap.mpr ⟨e,by simpa using h2,?_⟩
   obtain ⟨n,t,hn⟩:=hk e h2
   have h1':e.key.isStr x=true:=h1
   rw [hn] at h1' ⊢
   have:n=x:=by simpa [Value.isStr] using h1'
   rw [this]
abbrev vbm:List Value:=[.type "ValueError",.type "Exception",.type "BaseException",.type "object"]
structure XCls (K:Fg) (x:Str) (C:Addr):Prop where
 at_:PySem.W.nsIn K mainGlobals x=some (some (.ref C))
 ok:PySem.W.excIn K C vbm "ValueError.__new__"=true
theorem zc31 {K:Fg} {mg:Str->Option Value} {base:Heap} {x:Str} {C:Addr} (M:Mod K mg base) (c:XCls K x C):OwnCls x C vbm "ValueError.__new__" mg base:=by
 obtain ⟨loose,mb,T⟩:=zrw M ⟨⟨[],⟨.module,[],false,false,[]⟩,false, "",[]⟩,[],[],[],[],{ argv:=[],stdin:=[],environ:=none }⟩
 exact PySem.W.own_of_in M.kin T c.at_ c.ok
def zwn (X:Cx) (E:XK):Prop:=∀ (pins:List (Addr×Obj)) (σ:St) (H:Hp) (s:Shared) (h':Heap) (ea C:Addr) (vs:List Value),Inv X pins σ H s->Heap.MadeExcOf s.heap h' ea (.ref C) vs->E (.ref C) none H->X.xe (.ref ea) { s with heap:=h' }
def zxw (C:Addr) (E:XK) (t:TA):TS:=λ _ σ H=>t σ H λ vs H1=>vs.length<=sizeLine/\E (.ref C) none H1
theorem zs8 {X:Cx} {E:XK} {C:Addr} {x:Str} {np cpos pos:Pos} {e:Expr} {es:List Expr} {t:TA} (hx:zwn X E) (c:XCls X.K x C) (hc:X.calm=true) (hg:Gl X x) (ha:PA X (e :: es) t) (hdb:(x == ("__debug__":Str))=false:=by decide)
  (he:starEach (e :: es) X.env=(false,eval e X.env) :: starEach es X.env:=by rfl) (hpl:(backTo cpos (starEach es X.env)).any (·.1)=false:=by rfl):PS X (.Raise (some (.Call (.Name x np) (e :: es) [] cpos)) none pos) (zxw C E t):=by
 intro pins s σ H D I h
 obtain ⟨bnd,tl,N,nm,q,bs,hdct,sn,sub,ab,col,dd,k0,k1,k2,k3,k5,mN,hC,hN,hni,T⟩:=zc31 I.mod c
 refine wpAny_Raise_call_subT (C:=C) (nm:=nm) (q:=q) (N:=N) (bs:=bs) (bm:=tl) (hdct:=hdct) (sn:=sn) (sub:=sub) (ab:=ab) (col:=col) (dd:=dd) (k0:=k0) (k1:=k1) (k2:=k2) (k3:=k3) (k5:=k5)
  PySem.F.excBase_ValueError (mN:=mN) (T.hasType (by decide)) (I.ok.hd hc) (by rw [he];show (false || (backTo cpos (starEach es X.env)).any (·.1))=false;rw [hpl];rfl) hni (zod I hg bnd ⟨rfl,?_⟩ hdb)
 have hA:=ha cpos pins s σ H _ I h
 rw [he] at hA ⊢
 refine Calls.evalArgs_plain (thn hA λ us s1 ⟨vs,H1,I1,r,hz,q1⟩=>⟨rfl,by rw [<- r.length];exact hz,I1.bk _ _ hC,hN.keeps I1.bk,T.keeps I1.bk,λ h' ea m=>?_⟩)
 exact hx pins σ H1 s1 h' ea C us I1 m q1
def CX1 (P:Program) (w:World):CXT:=λ outer H s E e s'=>∃ (ea C:Addr) (B:Heap) (a0:Value) (H':Hp),e=.ref ea/\Heap.FlyingW B outer ea (.ref C) a0 s'.heap/\s'.os=s.os/\AllBare s'.gens/\Un (frs outer) [] H H' s.heap s'.heap/\HOk P w H' s'.heap /\
 (∀ b o u,s'.heap.get? b=some o->H' b=some u->B.get? b=some o)/\(∀ b o,s.heap.get? b=some o->H b=none->b ∉ frs outer->B.get? b=some o)/\(∀ b o,s.heap.get? b=some o->b ∉ frs outer->∃ o',B.get? b=some o')/\E (.ref C) none H'
section
variable {P:Program} {w:World} {K:Fg} {mg:Str->Option Value} {base:Heap} {N:List Str} {qual:Str} {scope:Scope} {f:Addr} {cd:Value} {A:Around} {outer:List Env} {s:Shared} {H:Hp} {E:XK}
theorem za4:zwn (cxOf (CX1 P w) P w K mg base N qual scope f cd A outer s H E) E:=by
 intro pins σ H1 s1 h' ea C vs I m hE
 show wpAny (model P w) (A.deeper (envOfC qual scope s.heap.objs.size f cd)) (leaving (envOfC qual scope s.heap.objs.size f cd) (.ref ea)) (λ _ s''=>CX1 P w outer H s E (.ref ea) s'') (λ e' s''=>CX1 P w outer H s E e' s'') { s1 with heap:=h' }
 obtain ⟨t,he,ht0,ht⟩:=m.there
 have stk:s1.heap.FunFrames base (envOfC qual scope s.heap.objs.size f cd :: outer):=I.stack
 have hin:∀ env∈(envOfC qual scope s.heap.objs.size f cd :: outer),∀ b,env.frame=some b->b∈frs (envOfC qual scope s.heap.objs.size f cd :: outer):=λ env he b hb=>List.mem_filterMap.mpr ⟨env,he,hb⟩
 have hen:(PySem.W.hideAll s1.heap (frs (envOfC qual scope s.heap.objs.size f cd :: outer))).get? ea=none:=by
  cases q:(PySem.W.hideAll s1.heap (frs (envOfC qual scope s.heap.objs.size f cd :: outer))).get? ea with
 |none=>rfl
 |some o=>have:=PySem.W.of_hideAll _ q;rw [m.new] at this;cases this
 refine wpAny_leaving_firstW (a0:=.ref t) (show (A.deeper (envOfC qual scope s.heap.objs.size f cd)).frames=some (envOfC qual scope s.heap.objs.size f cd :: outer) from I.ok.frames) ((PySem.W.funFrames_hide stk hin).of_keeps λ b o hb _=>⟨o,m.keeps b o hb,rfl⟩) (L:=s.heap.objs.size) rfl he
  (λ b o hb=>m.keeps b o (PySem.W.of_hideAll _ hb)) hen rfl rfl rfl λ h'' hL=>?_
 obtain ⟨k1,⟨_,_,k2⟩,k3,k4⟩:=hL
 have u:Un (frs outer) [] H H1 s.heap s1.heap:=I.base
 have nL:∀ b o,s.heap.get? b=some o->b ∉ frs outer->b ∉ frs (envOfC qual scope s.heap.objs.size f cd :: outer):=λ b o e hb z=>by
  have z':b=s.heap.objs.size \/ b∈frs outer:=by
   have:frs (envOfC qual scope s.heap.objs.size f cd :: outer)=s.heap.objs.size :: frs outer:=rfl
   rw [this] at z
   exact List.mem_cons.mp z
  rcases z' with z'|z'
  ·exact absurd (Heap.lt_size e) (by rw [z'];exact Nat.lt_irrefl _)
  ·exact hb z'
 have inB:∀ b o,s1.heap.get? b=some o->b ∉ frs (envOfC qual scope s.heap.objs.size f cd :: outer)->(PySem.W.hideAll s1.heap (frs (envOfC qual scope s.heap.objs.size f cd :: outer))).get? b=some o:=λ b o e n=>PySem.W.hideAll_get _ e n
 have trk:∀ b u,H1 b=some u->b ∉ frs (envOfC qual scope s.heap.objs.size f cd :: outer):=λ b u e z=>by
  have:=I.stkFree b z
  rw [e] at this;cases this
 have slotOf:∀ b,b∈frs (envOfC qual scope s.heap.objs.size f cd :: outer)->∀ o,s1.heap.get? b=some o->∃ sl,h''.get? b=some { o with slots:=sl }:=λ b hb o e=>by
  obtain ⟨_,o',e',hd⟩:=stk.mem hb
  rw [e] at e';cases e'
  exact k4 b o (m.keeps b o e) hd
 refine ⟨ea,C,_,.ref t,H1,rfl,⟨k1,hen,k2,k3⟩,I.os,I.bare,⟨λ b o e n hb hx=>?_,λ b o e n hb hx=>?_,u.free,λ b o e hx=>?_,u.tups,u.frzs,u.tbls⟩,λ b o e=>?_,λ b o v e1 e2=>?_,λ b o e n hb=>?_,λ b o e hb=>?_,hE⟩
 ·exact k1 b o (inB b o (u.keep b o e n hb hx) (nL b o e hb))
 ·obtain ⟨sl,q⟩:=u.slot b o e n hb hx
  obtain ⟨sl',q'⟩:=slotOf b (List.mem_cons_of_mem _ hb) _ q
  exact ⟨sl',q'⟩
 ·obtain ⟨o',q⟩:=u.there b o e hx
  by_cases hb:b∈frs (envOfC qual scope s.heap.objs.size f cd :: outer)
  ·obtain ⟨sl,q'⟩:=slotOf b hb o' q
   exact ⟨_,q'⟩
  ·exact ⟨o',k1 b o' (inB b o' q hb)⟩
 ·refine (I.hok b o e).stay (λ c v hc q=>k1 c v (inB c v q ?_)) (λ _ q=>q) λ _ _ q=>q
  rcases hc with z|z
  ·rw [z];exact trk b o e
  ·exact trk c _ z
 ·obtain ⟨o1,q1⟩:=zz8 (I.hok b v e2)
  have q2:=inB b o1 q1 (trk b v e2)
  have q3:=k1 b o1 q2
  rw [e1] at q3
  cases q3
  exact q2
 ·exact inB b o (u.keep b o e n hb (by simp)) (nL b o e hb)
 ·obtain ⟨o',q⟩:=u.there b o e (by simp)
  exact ⟨o',inB b o' q (nL b o e hb)⟩
theorem zgm:zxi (CX1 P w) (cxOf (CX1 P w) P w K mg base N qual scope f cd A outer s H E) E:=by
 intro pins σ H1 s1 e s2 I h
 obtain ⟨ea,C,B,a0,H2,rfl,hfl,hos,hbare,u2,hok,hB,hB2,hB3,hE⟩:=h
 show wpAny (model P w) (A.deeper (envOfC qual scope s.heap.objs.size f cd)) (leaving (envOfC qual scope s.heap.objs.size f cd) (.ref ea)) (λ _ s''=>CX1 P w outer H s E (.ref ea) s'') (λ e' s''=>CX1 P w outer H s E e' s'') s2
 have hfl':Heap.FlyingW B (envOfC qual scope s.heap.objs.size f cd :: outer) ea (.ref C) a0 s2.heap:=hfl
 refine wpAny_leaves_onW (show (A.deeper (envOfC qual scope s.heap.objs.size f cd)).frames=some (envOfC qual scope s.heap.objs.size f cd :: outer) from I.ok.frames) (L:=s.heap.objs.size) rfl hfl' λ h'' x1 x2=>?_
 have u1:Un (frs outer) [] H H1 s.heap s1.heap:=I.base
 have u2':Un (frs (envOfC qual scope s.heap.objs.size f cd :: outer)) [] H1 H2 s1.heap s2.heap:=u2
 have nL:∀ b o,s.heap.get? b=some o->b ∉ frs outer->b ∉ frs (envOfC qual scope s.heap.objs.size f cd :: outer):=λ b o e hb z=>by
  have z':b=s.heap.objs.size \/ b∈frs outer:=List.mem_cons.mp (show b∈s.heap.objs.size :: frs outer from z)
  rcases z' with z'|z'
  ·exact absurd (Heap.lt_size e) (by rw [z'];exact Nat.lt_irrefl _)
  ·exact hb z'
 have k1:=x1.1
 have toB:∀ b o,s.heap.get? b=some o->H b=none->b ∉ frs outer->B.get? b=some o:=λ b o e n hb=>hB2 b o (u1.keep b o e n hb (by simp)) (u1.free b o e n (by simp)) (nL b o e hb)
 have toB3:∀ b o,s.heap.get? b=some o->b ∉ frs outer->∃ o',B.get? b=some o':=λ b o e hb=>by
  obtain ⟨o1,q1⟩:=u1.there b o e (by simp)
  exact hB3 b o1 q1 (nL b o e hb)
 refine ⟨ea,C,B,a0,H2,rfl,x1,hos.trans I.os,hbare,⟨λ b o e n hb hx=>k1 b o (toB b o e n hb),λ b o e n hb hx=>?_,λ b o e n hx=>?_,λ b o e hx=>?_,λ b xs q=>u2'.tups b xs (u1.tups b xs q),λ b o v q=>u2'.frzs b o v (u1.frzs b o v q),λ b ps q=>?_⟩,λ b o e=>?_,λ b o v e1 e2=>?_,toB,toB3,hE⟩
 ·obtain ⟨sl,q⟩:=u1.slot b o e n hb (by simp)
  obtain ⟨sl',q'⟩:=u2'.slot b _ q (u1.free b o e n (by simp)) (List.mem_cons_of_mem _ hb) (by simp)
  have st:=I.stack.mem (b:=b) (List.mem_cons_of_mem _ hb)
  obtain ⟨_,o',e',hd⟩:=st
  rw [q] at e';cases e'
  obtain ⟨sl2,q2⟩:=x2 b _ q' hd
  exact ⟨sl2,q2⟩
 ·obtain ⟨o',q⟩:=u1.there b o e (by simp)
  exact u2'.free b o' q (u1.free b o e n (by simp)) (by simp)
 ·by_cases hb:b∈frs outer
  ·obtain ⟨o1,q1⟩:=u1.there b o e (by simp)
   have nb:H1 b=none:=I.stkFree b (List.mem_cons_of_mem _ hb)
   obtain ⟨sl',q'⟩:=u2'.slot b _ q1 nb (List.mem_cons_of_mem _ hb) (by simp)
   have st:=I.stack.mem (b:=b) (List.mem_cons_of_mem _ hb)
   obtain ⟨_,o',e',hd⟩:=st
   rw [q1] at e';cases e'
   obtain ⟨sl2,q2⟩:=x2 b _ q' hd
   exact ⟨_,q2⟩
  ·obtain ⟨o',q⟩:=toB3 b o e hb
   exact ⟨o',k1 b o' q⟩
 ·obtain ⟨m1,q1⟩:=u1.tbls b ps q
  obtain ⟨m2,q2⟩:=u2'.tbls b _ q1
  exact ⟨m1++m2,by rw [q2,Array.append_assoc]⟩
 ·refine (hok b o e).stay (λ c v hc q=>k1 c v ?_) (λ _ q=>q) λ _ _ q=>q
  rcases hc with z|z
  ·exact hB c v o (by rw [z] at q ⊢;exact q) (by rw [z];exact e)
  ·exact hB c v _ q z
 ·obtain ⟨o1,q1⟩:=zz8 (hok b v e2)
  have q2:=hB b o1 v q1 e2
  have q3:=k1 b o1 q2
  rw [e1] at q3
  cases q3
  exact q2
end
structure Come (X:Cx) (H:Hp) (s:Shared) (ea C:Addr) (B:Heap) (a0:Value) (H':Hp) (s':Shared):Prop where
 os:s'.os=s.os
 bare:AllBare s'.gens
 un:Un (frs X.stack) [] H H' s.heap s'.heap
 hok:HOk X.prog X.w H' s'.heap
 b1:∀ b o u,s'.heap.get? b=some o->H' b=some u->B.get? b=some o
 b2:∀ b o,s.heap.get? b=some o->H b=none->b ∉ frs X.stack->B.get? b=some o
 b3:∀ b o,s.heap.get? b=some o->b ∉ frs X.stack->∃ o',B.get? b=some o'
section
variable {X:Cx} {pins:List (Addr×Obj)} {σ:St} {H H':Hp} {s s':Shared} {ea C:Addr} {B:Heap} {a0:Value}
theorem zdm (I:Inv X pins σ H s) (c:Come X H s ea C B a0 H' s') {h:Heap} {tk:Nat} (k1:B.StaysIn h) (x2:s'.heap.UpToSlots h):Inv X pins σ H' { s' with heap:=h,toks:=tk }:=by
 refine I.call' (s':={ s' with heap:=h,toks:=tk }) (ch:=[]) c.os ⟨λ b o e n hb hx=>k1 b o (c.b2 b o e n hb),λ b o e n hb hx=>?_,c.un.free,λ b o e hx=>?_,c.un.tups,c.un.frzs,c.un.tbls⟩ (λ b o e=>?_) c.bare λ b z=>absurd z (by simp)
 ·obtain ⟨sl,q⟩:=c.un.slot b o e n hb hx
  obtain ⟨_,o',e',hd⟩:=I.stack.mem (b:=b) hb
  rw [e] at e';cases e'
  obtain ⟨sl2,q2⟩:=x2 b _ q hd
  exact ⟨sl2,q2⟩
 ·by_cases hb:b∈frs X.stack
  ·have nb:H b=none:=I.stkFree b hb
   obtain ⟨sl,q⟩:=c.un.slot b o e nb hb hx
   obtain ⟨_,o',e',hd⟩:=I.stack.mem (b:=b) hb
   rw [e] at e';cases e'
   obtain ⟨sl2,q2⟩:=x2 b _ q hd
   exact ⟨_,q2⟩
  ·obtain ⟨o',q⟩:=c.b3 b o e hb
   exact ⟨o',k1 b o' q⟩
 ·refine (c.hok b o e).stay (λ d v hc q=>k1 d v ?_) (λ _ q=>q) λ _ _ q=>q
  rcases hc with z|z
  ·exact c.b1 d v o q (by rw [z];exact e)
  ·exact c.b1 d v _ q z
def zzw (X:Cx) (ea:Addr):Cx:={ X with A:=X.A.mark (some (.ref ea)),calm:=false,xe:=λ _ _=>False }
theorem zpm (I:Inv X pins σ H s) (ea:Addr):Inv (zzw X ea) pins σ H s :=
 ⟨⟨I.ok.mod,I.ok.kind,I.ok.glob,I.ok.blt,I.ok.above,I.ok.inj,I.ok.has,I.ok.cab,λ z=>Bool.noConfusion z,I.ok.frames,I.ok.stk,I.ok.exf,I.ok.bs,I.ok.bsz,I.ok.noex,I.ok.exfs,I.ok.funs,I.ok.frf⟩,I.os,I.bare,I.base,I.loc,I.cell,I.free,I.freeC,I.pin,I.hok,I.len⟩
end
inductive Hands (X:Cx):List ExceptHandler->List (Value×TS)->Prop
|nil:Hands X [] []
|cons {x:Str} {np pos:Pos} {b₀:Stmt} {suite:List Stmt} {c:Value} {t:TS} {hs:List ExceptHandler} {l:List (Value×TS)}:Gl X x->(X.mg x=some c \/ (X.mg x=none/\bootBuiltins x=some c/\x ≠ "__name__"))->(x == ("__debug__":Str))=false->(∀ ea,PSs (zzw X ea) (b₀ :: suite) t)->Hands X hs l ->
   Hands X (.ExceptHandler (some (.Name x np)) none (b₀ :: suite) pos :: hs) ((c,t) :: l)
section
variable {X:Cx} {pins:List (Addr×Obj)} {σ:St} {H H':Hp} {s s':Shared} {ea C:Addr} {B:Heap} {a0:Value}
def zk8 (CX:CXT) (X:Cx) (E:XK) (σ:St):Prop:=∀ (pins:List (Addr×Obj)) (H:Hp) (s:Shared) (e:Value) (s':Shared),Inv X pins σ H s->CX X.stack H s E e s'->X.xe e s'
def tryX (X:Cx) (D:Ends) (hs:List ExceptHandler):Value->Shared->Prop:=λ e s₁=>wpAny (model X.prog X.w) X.A (noteFrame e X.env) (λ _ s₂=>wpAny (model X.prog X.w) X.A (setFlight e none) (λ _ s₃=>wpAny (model X.prog X.w) X.A (handleBy e X.env hs) (SP X [] D) X.xe s₃) X.xe s₂) X.xe s₁
end
def zol (X:Cx) (pn:List (Addr×Obj)) (xe:Value->Shared->Prop):Cx:={ X with pn:=pn,xe:=xe }
section
variable {X:Cx} {pins:List (Addr×Obj)} {σ:St} {H:Hp} {s:Shared}
theorem zsy (ok:X.Ok) (pn:List (Addr×Obj)) (xe:Value->Shared->Prop):(zol X pn xe).Ok:=⟨ok.mod,ok.kind,ok.glob,ok.blt,ok.above,ok.inj,ok.has,ok.cab,ok.hd,ok.frames,ok.stk,ok.exf,ok.bs,ok.bsz,ok.noex,ok.exfs,ok.funs,ok.frf⟩
theorem zev (I:Inv X pins σ H s) (xe:Value->Shared->Prop):Inv (zol X (X.pn++pins) xe) [] σ H s :=
 ⟨zsy I.ok _ _,I.os,I.bare,I.base,I.loc,I.cell,I.free,I.freeC,λ p hp=>I.pin p (by have hp':p∈(X.pn++pins)++[]:=hp;rw [List.append_nil] at hp';exact hp'),I.hok,I.len⟩
theorem zjn {pn:List (Addr×Obj)} {xe xe':Value->Shared->Prop} {ps:List (Addr×Obj)} (I:Inv (zol X pn xe) ps σ H s):Inv (zol X pn xe') [] σ H s :=
 ⟨⟨I.ok.mod,I.ok.kind,I.ok.glob,I.ok.blt,I.ok.above,I.ok.inj,I.ok.has,I.ok.cab,I.ok.hd,I.ok.frames,I.ok.stk,I.ok.exf,I.ok.bs,I.ok.bsz,I.ok.noex,I.ok.exfs,I.ok.funs,I.ok.frf⟩,I.os,I.bare,I.base,I.loc,I.cell,I.free,I.freeC,λ p hp=>I.pin p (List.mem_append_left _ (by have hp':p∈pn++[]:=hp;rw [List.append_nil] at hp';exact hp')),I.hok,I.len⟩
theorem zx5 (ok:X.Ok) {xe:Value->Shared->Prop} (I:Inv (zol X (X.pn++pins) xe) [] σ H s):Inv X pins σ H s :=
 ⟨ok,I.os,I.bare,I.base,I.loc,I.cell,I.free,I.freeC,λ p hp=>I.pin p (List.mem_append_left _ hp),I.hok,I.len⟩
theorem zc5 (ok:X.Ok) {xe:Value->Shared->Prop} {D:Ends} {f:Flow} (h:SP (zol X (X.pn++pins) xe) [] D f s):SP X pins D f s:=by
 cases f with
|next=>obtain ⟨σ',H',I,q⟩:=h;exact ⟨σ',H',zx5 ok I,q⟩
|brk=>obtain ⟨σ',H',I,q⟩:=h;exact ⟨σ',H',zx5 ok I,q⟩
|cont=>obtain ⟨σ',H',I,q⟩:=h;exact ⟨σ',H',zx5 ok I,q⟩
|ret u=>obtain ⟨v,σ',H',I,r,q⟩:=h;exact ⟨v,σ',H',zx5 ok I,r,q⟩
def tTry (tb:Ends->TS):TS:=λ D σ H=>tb D D σ H
end
def Def1 (P:Program) (w:World) (K:Fg) (mg:Str->Option Value) (base:Heap) (x:Str) (k:Nat) (ps:List Str) (sp:Sp):Prop :=
 ∃ f fd,FnOk P w K mg base (CX1 P w) k f fd ps sp/\zvh K fd ps []/\PySem.W.keepIn K (.ref f)=true/\mg x=some (.ref f)
def ziq (P:Program) (w:World) (K:Fg) (mg:Str->Option Value) (base:Heap) (C:Addr) (m:Str) (k:Nat) (ps:List Str) (sp:Sp):Prop :=
 ∃ f fd,Cls K C/\Meth K C m f/\FnOk P w K mg base (CX1 P w) k f fd ps sp/\zvh K fd ps []
section
variable {X:Cx} {k:Nat} {f C:Addr} {fd:FuncData} {ps:List Str} {sp:Sp} {x m:Str} {p pos apos:Pos} {e o:Expr} {es:List Expr} {ta:TE} {t:TA} {Eσ:St->XK}
theorem zct {pins:List (Addr×Obj)} {σ:St} {H:Hp} {s:Shared} {Q:VK} {us:List Value} {vs:List V} (F:FnOk X.prog X.w X.K X.mg X.base (CX1 X.prog X.w) k f fd ps sp) (hr:Room k X.A) (hb:zvh X.K fd ps []) (hx:zk8 (CX1 X.prog X.w) X (Eσ σ) σ)
  (I:Inv X pins σ H s) (r:Vals vs us) (h:sp vs H Q (Eσ σ)):wpAny (model X.prog X.w) X.A (call (.ref f) us) (EP X pins σ Q) X.xe s:=by
 have hl:us.length=ps.length:=by rw [<- r.length];exact F.len _ _ _ _ h
 have bt:=hb s us I.kIn (by rw [List.append_nil];exact hl)
 rw [List.append_nil] at bt
 refine wpAny_call (codeAny_mono (F.run X.A X.stack s H ⟨us,[]⟩ us vs Q (Eσ σ) hr I.env0 bt r h) λ res s2 hq=>?_)
 cases res with
|error z=>exact hx pins H s z s2 I hq
|ok fl =>
  cases fl with
 |ret u=>exact I.after hq
 |next=>exact False.elim hq
 |brk=>exact False.elim hq
 |cont=>exact False.elim hq
def zwy (sp:Sp) (Eσ:St->XK) (t:TA):TE:=λ σ H Q=>t σ H λ vs H1=>sp vs H1 Q (Eσ σ)
theorem zff (d:Def1 X.prog X.w X.K X.mg X.base x k ps sp) (hr:Room k X.A) (hg:Gl X x) (hx:∀ σ,zk8 (CX1 X.prog X.w) X (Eσ σ) σ) (ha:PA X (e :: es) t) (hdb:(x == ("__debug__":Str))=false:=by decide)
  (he:starEach (e :: es) X.env=(false,eval e X.env) :: starEach es X.env:=by rfl) (hpl:(backTo pos (starEach es X.env)).any (·.1)=false:=by rfl):PE X (.Call (.Name x p) (e :: es) [] pos) (zwy sp Eσ t):=by
 obtain ⟨f,fd,F,b,kp,mm⟩:=d
 intro pins s σ H Q I h
 refine wpAny_Call_Name_kw (zod I hg mm ?_ hdb)
 refine PySem.W.callWith_K (h₀:=X.base) I.ok.mod.kin kp (thn (ha pos pins s σ H _ I h) λ us s1 ⟨vs,H1,I1,r,q⟩=>⟨I1.kIn,?_⟩) he hpl
 exact zct F hr b (hx σ) I1 r q
theorem zl2 {P:Program} {w:World} {K:Fg} {mg:Str->Option Value} {base:Heap} {N:List Str} {qual:Str} {scope:Scope} {f:Addr} {cd:Value} {A:Around} {outer:List Env} {s:Shared} {H:Hp} {E:XK} (σ:St) :
  zk8 (CX1 P w) (cxOf (CX1 P w) P w K mg base N qual scope f cd A outer s H E) E σ:=λ pins H1 s1 e s2 I c=>zgm pins σ H1 s1 e s2 I c
def zru (P:Program) (w:World) (K:Fg) (mg:Str->Option Value) (base:Heap) (m:Str) (k:Nat) (Eσ:St->XK) (ta:TE) (t:TA):TE:=λ σ H Q=>ta σ H λ x H1=>∃ a C dx fs ps sp,x=.ref a/\H1 a=some (.ins C dx fs)/\fs.lookup m=none /\
 ziq P w K mg base C m k ps sp/\t σ H1 λ vs H2=>sp (x :: vs) H2 Q (Eσ σ)
theorem zyl {P:Program} {w:World} {K:Fg} {mg:Str->Option Value} {base:Heap} {pl:Sem Bool} (hP:X.prog=P) (hw:X.w=w) (hK:X.K=K) (hmg:X.mg=mg) (hbs:X.base=base) (hr:Room k X.A) (hx:∀ σ,zk8 (CX1 X.prog X.w) X (Eσ σ) σ) (he:PE X o ta) (ha:PA X (e :: es) t)
  (hst:starEach (e :: es) X.env=(false,eval e X.env) :: starEach es X.env:=by rfl) (hpl:(backTo pos (starEach es X.env)).any (·.1)=false:=by rfl)
  (ht:eval (.Call (.Attribute o m apos) (e :: es) [] pos) X.env=(do
   let ov <- eval o X.env
   standAt apos.atName
   let (f,first) <- holding [ov] (getMethod ov m pl)
   callWith pos f first (backTo pos (starEach (e :: es) X.env)) (backToKw pos (keywordEach [] X.env))):=by rfl) :
  PE X (.Call (.Attribute o m apos) (e :: es) [] pos) (zru P w K mg base m k Eσ ta t):=by
 subst hP hw hK hmg hbs
 intro pins s σ H Q I h
 refine PySem.W.methodCall_KW (pl:=pl) (thn (he pins s σ H _ I h) λ u s1 ⟨x,H1,I1,rx,a,C,dx,fs,ps,sp,ex,ea,l,d,q⟩=>?_) ht
 subst ex
 obtain rfl:u=Value.ref a:=rx
 obtain ⟨f,fd,c,hm,F,b⟩:=d
 refine zf5 I1 ea c hm l ?_
 refine PySem.W.callWith_K (first:=[.ref a]) (h₀:=X.base) I.ok.mod.kin hm.kp (thn (ha pos pins s1 σ H1 _ I1 q) λ us s2 ⟨vs,H2,I2,r,q2⟩=>⟨I2.kIn,?_⟩) hst hpl
 exact zct (us:=.ref a :: us) (vs:=.ref a :: vs) F hr b (hx σ) I2 (.cons rfl r) q2
end
section
variable {P:Program} {w:World} {K:Fg} {mg:Str->Option Value} {base:Heap}
abbrev zba (P:Program) (w:World) (K:Fg) (mg:Str->Option Value) (base:Heap) (qual:Str) (st:Stmt) (N:List Str) (k:Nat) (sp:Sp):Prop :=
 ∀ (f:Addr) (cdv:Value) (A:Around) (outer:List Env) (s:Shared) (H:Hp) (vs:List V) (Q:VK) (E:XK),Room k (A.deeper (envOfC qual (zh0 st) s.heap.objs.size f cdv))->sp vs H Q E ->
   ∃ t,PSs (cxOf (CX1 P w) P w K mg base N qual (zh0 st) f cdv A outer s H E) (zj2 st) t/\t { nx:=λ _ H'=>Q .non H',rt:=Q } (start N vs) H
theorem zis {x qual:Str} {st:Stmt} {f:Addr} {fd:FuncData} {N ps:List Str} {k:Nat} {sp:Sp} (F:Fun K x qual st f fd) (S:FnScope N ps (zh0 st)) (len:∀ vs H Q E,sp vs H Q E->vs.length=ps.length)
  (body:zba P w K mg base qual st N k sp):FnOk P w K mg base (CX1 P w) (k+1) f fd ps sp:=by
 obtain ⟨oc,od,kV,doc,pm,an,cdv,ct,osl,rfl,lk,hcd⟩:=F.ex
 exact zf81 lk hcd S len λ A outer s H vs Q E hr hsp=>body f cdv A outer s H vs Q E hr hsp
theorem zzn {x:Str} {st:Stmt} {N ps:List Str} {k:Nat} {sp:Sp} (M:Md K mg) (T:TopDef K x st) (S:FnScope N ps (zh0 st)) (hb:zt6 x x st ps) (len:∀ vs H Q E,sp vs H Q E->vs.length=ps.length)
  (body:zba P w K mg base x st N k sp):Def1 P w K mg base x (k+1) ps sp:=by
 obtain ⟨f,fd,a,F⟩:=T.ex
 exact ⟨f,fd,zis F S len body,F.binds hb,F.kp,M.got a⟩
theorem zyh {C:Addr} {m qual:Str} {st:Stmt} {N ps:List Str} {k:Nat} {sp:Sp} (c:Cls K C) (T:TopMeth K C m qual st) (S:FnScope N ps (zh0 st)) (hb:zt6 m qual st ps) (len:∀ vs H Q E,sp vs H Q E->vs.length=ps.length)
  (body:zba P w K mg base qual st N k sp):ziq P w K mg base C m (k+1) ps sp:=by
 obtain ⟨f,fd,a,i,F⟩:=T.ex
 exact ⟨f,fd,c,⟨a,i,F.kp⟩,zis F S len body,F.binds hb⟩
end
section
variable {X:Cx}
def repS (x:Str) (n:Nat):Str:=⟨(List.replicate n x.cps).foldl (·++·) #[]⟩
theorem ziv (c:List (Array Nat)):∀ a:Array Nat,c.foldl (·++·) a=a++(c.map Array.toList).flatten.toArray:=by
 induction c with
|nil=>intro a;simp
|cons y r ih=>intro a;rw [List.foldl_cons,ih,Array.append_assoc];congr 1;apply Array.toList_inj.mp;simp
theorem zzi (x:Str) (n:Nat):(repS x n).cps.toList=(List.replicate n x.cps.toList).flatten:=by
 unfold repS
 rw [ziv]
 simp
def zb91:R2:=λ x y H Q=>∃ z n,x=.str z/\y=.int n/\0<=n/\z.length * n.toNat<=sizeLine/\n<=sizeLine/\Q (.str (repS z n.toNat)) H
theorem zd01:OpR X (binaryOp .Mult) zb91:=by
 intro pins s σ H x y v u Q I rx ry h
 obtain ⟨z,n,rfl,rfl,h1,h2,h3,q⟩:=h
 obtain ⟨t,rfl⟩:=rx
 obtain ⟨t',rfl⟩:=ry
 have hl:sizeLine=16777216:=sizeLine_eq
 have hz:z.length=z.cps.size:=rfl
 by_cases n0:n=0
 ·subst n0
  refine P.mul_str (by rw [decide_eq_false (by lia),decide_eq_false (by lia)];rfl) (λ a b hc=>?_) (λ a b=>?_) ?_
  ·exact absurd a (by decide)
  ·exact decide_eq_false (by simp)
  ·rw [if_pos (by decide)]
   exact ⟨by decide,.str (repS z 0),H,I.tok _,⟨_,rfl⟩,q⟩
 have h1:0 < n:=by lia
 refine P.mul_str (by rw [decide_eq_false (by lia),decide_eq_false (by lia)];rfl) (λ _ _ hc=>?_) (λ _ _=>?_) ?_
 ·have h4:(2 ^ 63 - 1:Int) / n ≥ z.length:=by
   refine (Int.le_ediv_iff_mul_le h1).mpr ?_
   have h5:((z.length * n.toNat:Nat):Int)=(z.length:Int) * n:=by rw [Int.natCast_mul,Int.toNat_of_nonneg (by lia)]
   have h6:((z.length * n.toNat:Nat):Int)<=(sizeLine:Nat):=by exact_mod_cast h2
   lia
  lia
 ·exact decide_eq_false (by lia)
 ·rw [if_neg (by lia)]
  by_cases hc:(n == 1 || z.length == 0)=true
  ·rw [if_pos hc]
   refine ⟨.str (repS z n.toNat),H,I,⟨t,?_⟩,q⟩
   have:repS z n.toNat=z:=by
    have e:(repS z n.toNat).cps.toList=z.cps.toList:=by
     rw [zzi]
     rcases (Bool.or_eq_true _ _).mp hc with hc|hc
     ·have:n=1:=by simpa using hc
      subst this;simp
     ·have:z.cps.toList=[]:=by
       have:z.cps.size=0:=by simpa [hz] using hc
       simpa using this
      rw [this];simp
    cases z with|mk c =>
     show repS ⟨c⟩ n.toNat=⟨c⟩
     have e2:(repS ⟨c⟩ n.toNat).cps=c:=Array.toList_inj.mp e
     cases hq:repS ⟨c⟩ n.toNat with|mk d=>rw [hq] at e2;cases e2;rfl
   rw [this]
  ·rw [if_neg hc]
   exact ⟨fits_reps (decide_eq_false (by lia)),.str (repS z n.toNat),H,I.tok _,⟨_,rfl⟩,q⟩
end
section
variable {X:Cx}
def rSlS:V->Option Int->Option Int->Hp->VK->Prop:=λ x lo hi H Q=>∃ z,x=.str z/\z.length<=sizeLine/\Q (.str (Txt.slice z lo hi)) H
theorem znz:SlR X rSlS:=by
 intro pins s σ H x v vl vu lo hi sl Q I rx hs pl pu h
 obtain ⟨z,rfl,hz,q⟩:=h
 obtain ⟨t,rfl⟩:=rx
 obtain ⟨o,ho,hc,hd⟩:=hs
 have go:∀ (l u:Option (Int×Tok)),partValue l=vl->partValue u=vu->l.map (·.1)=lo->u.map (·.1)=hi->wpAny (model X.prog X.w) X.A (getItem (.str z t) (.ref sl)) (EP X pins σ Q) X.xe s:=λ l u e1 e2 e3 e4=>by
  subst e3 e4
  refine wpAny_getItem_str_slice (l:=l) (u:=u) (st:=none) ⟨o,ho,hc,by rw [e1,e2];exact hd⟩ rfl (post_val_or_str ⟨Nat.le_trans (Txt.slice_le z _ _) hz,λ t' k=>?_⟩)
  exact ⟨.str (Txt.slice z (l.map (·.1)) (u.map (·.1))),H,I.tok _,⟨_,rfl⟩,q⟩
 refine ⟨"str",_,F.slot_str_getitem.lookup,typeIs_str _ _ _,?_⟩
 cases pl with
|none=>cases pu with
 |none=>exact go none none rfl rfl rfl rfl
 |int j u=>exact go none (some (j,u)) rfl rfl rfl rfl
|int i t=>cases pu with
 |none=>exact go (some (i,t)) none rfl rfl rfl rfl
 |int j u=>exact go (some (i,t)) (some (j,u)) rfl rfl rfl rfl
end
section
variable {prog:Program} {w:World} {A:Around} {E:Value->Shared->Prop} {s:Shared}
end
theorem zqw {X:Cx} {pins:List (Addr×Obj)} {σ:St} {H:Hp} {s:Shared} {b:Addr} {h':Heap} {tk:Nat} (I:Inv X pins σ H s) (f:FpOk X pins H b) (k:Heap.SameBut b s.heap h'):Inv X pins σ H { s with heap:=h',toks:=tk } :=
 let ⟨f0,f1,_,f3,f4,f5⟩:=f
 I.turned (λ c o hc e=>(k.2 c hc).trans e) f0 f1 f3 f4 f5
theorem zs61 {X:Cx} {pins:List (Addr×Obj)} {σ:St} {H:Hp} {s:Shared} {b:Addr} {h':Heap} {tk:Nat} (I:Inv X pins σ H s) (f:FpOk X pins H b) (k:Heap.ExtBut b s.heap h'):Inv X pins σ H { s with heap:=h',toks:=tk } :=
 let ⟨f0,f1,_,f3,f4,f5⟩:=f
 I.turned (λ c o hc e=>k c o hc e) f0 f1 f3 f4 f5
section
variable {X:Cx} {pins:List (Addr×Obj)} {σ:St} {H:Hp} {s:Shared} {J1 J2:It} {z TI TO i1 i2:Addr} {st1 st2:Nat->Heap->Prop} {i:Nat}
end
section
variable {X:Cx} {elts:List Expr}
end
def entM (w:World) (e:Str×Tok×Value):DictEntry:=⟨PyData.keyHash w.params e.1,.str e.1 e.2.1,e.2.2⟩
structure KD (w:World) (K:Fg) (d:Addr) (kvs:List (Str×V)):Prop where
 ne:(d == sysModules)=false
 ex:∃ (l:List (Str×Tok×Value)) (n:Nat),K.lookup d=some { cls:=.type "dict",data:=.dict (l.map (entM w)).toArray n }/\Paired (λ (p:Str×V) (q:Str×Tok×Value)=>p.1=q.1/\RelV p.2 q.2.2) kvs l
theorem zkx {w:World} {k:Str}:∀ {kvs:List (Str×V)} {l:List (Str×Tok×Value)},Paired (λ (p:Str×V) (q:Str×Tok×Value)=>p.1=q.1/\RelV p.2 q.2.2) kvs l ->
  RelO (kvs.lookup k) (((l.map (entM w)).find? λ e=>Value.isStrOf k e.key).map (·.val))
|_,_,.nil=>trivial
|_,_,.cons (a:=p) (b:=q) h r=>by
  obtain ⟨x,v⟩:=p
  obtain ⟨y,t,u⟩:=q
  obtain ⟨e,rv⟩:=h
  cases e
  have ih:=zkx (w:=w) (k:=k) r
  show RelO (List.lookup k ((x,v) :: _)) (((entM w (x,t,u) :: _).find? λ e=>Value.isStrOf k e.key).map (·.val))
  rw [List.lookup_cons,List.find?_cons]
  by_cases hk:k=x
  ·subst hk
   have h1:(k == k)=true:=beq_self_eq_true k
   have h2:Value.isStrOf k (entM w (k,t,u)).key=true:=by simp [entM,Value.isStrOf]
   rw [h1,h2]
   exact rv
  ·have h1:(k == x)=false:=beq_eq_false_iff_ne.mpr hk
   have h2:Value.isStrOf k (entM w (x,t,u)).key=false:=by
    show (x == k)=false
    exact beq_eq_false_iff_ne.mpr λ e=>hk e.symm
   rw [h1,h2]
   exact ih
section
variable {X:Cx} {pins:List (Addr×Obj)} {σ:St} {H:Hp} {s:Shared} {d:Addr} {kvs:List (Str×V)}
theorem KD.map (D:KD X.w X.K d kvs) (I:Inv X pins σ H s):∃ f:Str->Option Value,s.heap.MapOf (PySem.strKind X.prog X.w) d f/\∀ k,RelO (kvs.lookup k) (f k):=by
 obtain ⟨l,n,e,r⟩:=D.ex
 refine ⟨λ k=>((l.map (entM X.w)).find? λ e=>Value.isStrOf k e.key).map (·.val),⟨_,(l.map (entM X.w)).toArray,n,I.kIn d _ e,⟨rfl,rfl,rfl⟩,rfl,λ e he=>?_,λ k=>?_⟩,λ k=>zkx r⟩
 ·obtain ⟨q,_,rfl⟩:=List.mem_map.mp (by simpa using he:e∈l.map (entM X.w))
  exact ⟨q.1,by simp [entM,PySem.strKind,Value.isStrOf],rfl⟩
 ·show findBy (PySem.strKind X.prog X.w).is _ k=_
  unfold findBy
  rw [List.find?_toArray]
  rfl
def rIxM (w:World) (K:Fg):R2:=λ x y H Q=>∃ d kvs z v,x=.ref d/\y=.str z/\KD w K d kvs/\kvs.lookup z=some v/\Q v H
theorem ix_M {w:World} {K:Fg} (hw:X.w=w) (hK:X.K=K):IxR X (rIxM w K):=by
 subst hw hK
 intro value slice pins s σ H x y v u Q I rx ry h hs
 obtain ⟨d,kvs,z,r0,rfl,rfl,D,e,q⟩:=h
 cases rx
 obtain ⟨t,rfl⟩:=ry
 obtain ⟨f,m,r⟩:=D.map I
 have rz:=r z
 rw [e] at rz
 obtain ⟨u,eu,ru⟩:=rz.some_of
 exact tail_any m.typeIs PySem.F.slot_dict_getitem.lookup (wpAny_getItem_of (k:=z) (PySem.strKind_is X.prog X.w z t) m eu ⟨r0,H,I.tok _,ru,q⟩) hs
end
def zw21 (J:It) (H:Hp) (n:Nat) (Y:Nat->V->Hp->Prop):Prop:=∀ H',Same H H'->(∀ i,i < n->J.go i H')/\J.stop n H'/\∀ i x H2,i < n->J.yld i H' x H2->Same H' H2/\Y i x H2
section
variable {K:Fg} {H:Hp} {a:Addr} {xs:List V}
theorem zw21.mono {J:It} {n:Nat} {Y:Nat->V->Hp->Prop} {H':Hp} (w:zw21 J H n Y) (s:Same H H'):zw21 J H' n Y:=λ H2 s2=>w H2 (s.trans s2)
def zd21 (D:Addr) (H H':Hp):Prop:=∀ b o,b≠D->H b=some o->H' b=some o
variable {Q:VK} {σ caps:St} {n:Nat} {ix:List Nat} {g:TG} {te:TE} {m:Nat} {J:It} {Y:Nat->V->Hp->Prop}
end
def ze81:R2:=λ x y H Q=>zp81 x y H Q \/ zb91 x y H Q
def rIxW (w:World) (K:Fg):R2:=λ x y H Q=>rIx K x y H Q \/ rIxM w K x y H Q
def rSlW (K:Fg):V->Option Int->Option Int->Hp->VK->Prop:=λ x lo hi H Q=>rSlU K x lo hi H Q \/ rSlS x lo hi H Q
def zd41 (K:Fg) (x:V) (H:Hp) (R:It->Hp->Prop):Prop:=zx91 K x H R \/ ∃ z:Str,x=.str z/\z.cps.all (· < 128)=true/\R (Its z) H
def iW (K:Fg) (tl:TE):TI:=λ σ H R=>tl σ H λ x H1=>zd41 K x H1 R
section
variable {X:Cx} {w:World} {K:Fg} {tg:Expr}
theorem zo01:OpR X (binaryOp .Mult) ze81:=zr01.or zd01
theorem ix_W (hw:X.w=w) (hK:X.K=K):IxR X (rIxW w K):=(ix_U hK).or (ix_M hw hK)
theorem sl_W (hK:X.K=K):SlR X (rSlW K):=(sl_U hK).or znz
theorem pi_W (h:X.K=K) {l:Expr} {tl:TE} (hl:PE X l tl):PI X tg l (iW K tl):=by
 subst h
 intro pins s σ H R I h
 refine thn (hl pins s σ H _ I h) λ v s1 ⟨x,H1,I1,r1,q1⟩=>?_
 rcases q1 with (⟨a,e,⟨xs,hq⟩,q⟩|⟨a,e,⟨xs,hq⟩,q⟩)|⟨z,rfl,ha,q⟩
 ·subst e
  cases r1
  obtain ⟨its,rv,p,hz⟩:=I1.list hq
  refine wpAny_pyIter_list p.isList ?_
  refine ⟨s1.heap.objs.size,[s1.heap.objs.size],_,_,H1,rfl,I1.kept (t':=s1.toks) λ b o e=>Heap.get?_push_of_some _ e,zmp a _,⟨_,Heap.get?_push_size _ rfl,rfl,rfl⟩,λ b hb=>?_,q⟩
  have e:b=s1.heap.objs.size:=by simpa using hb
  subst e
  exact I1.fpOk (Nat.le_refl _) (I1.hok.fresh (Nat.le_refl _))
 ·subst e
  cases r1
  obtain ⟨its,rv,p,hz⟩:=I1.tuple hq
  refine wpAny_pyIter_tuple (show s1.heap.IsTuple a its.toArray from p) ?_
  refine ⟨s1.heap.objs.size,[s1.heap.objs.size],_,_,H1,rfl,I1.kept (t':=s1.toks) λ b o e=>Heap.get?_push_of_some _ e,zom a _,⟨_,Heap.get?_push_size _ rfl,rfl,rfl⟩,λ b hb=>?_,q⟩
  have e:b=s1.heap.objs.size:=by simpa using hb
  subst e
  exact I1.fpOk (Nat.le_refl _) (I1.hok.fresh (Nat.le_refl _))
 ·obtain ⟨t,rfl⟩:=r1
  refine wpAny_pyIter_ascii ha ?_
  refine ⟨s1.heap.objs.size,[s1.heap.objs.size],_,_,H1,rfl,I1.kept (t':=s1.toks) λ b o e=>Heap.get?_push_of_some _ e,zqt z t _,⟨_,Heap.get?_push_size _ rfl,rfl,rfl⟩,λ b hb=>?_,q⟩
  have e:b=s1.heap.objs.size:=by simpa using hb
  subst e
  exact I1.fpOk (Nat.le_refl _) (I1.hok.fresh (Nat.le_refl _))
def zg91 (K:Fg):List V->Hp->VK->Prop:=λ xs H Q=>∃ p ys,xs=[.ref p]/\(SqL K H p ys \/ SqT K H p ys)/\∀ l,H l=none->Q (.ref l) (upd H l (.lst ys))
theorem zj3 (h:X.K=K):zg9 X (.type "list") (zg91 K):=h ▸ zfi
end
section
variable {K:Fg} {w:World} {H:Hp} {Q:VK} {a b:Addr} {xs ys:List V} {i:Int} {v:V} {z:Str} {kvs:List (Str×V)} {d:Addr}
end
section
variable {K:Fg} {w:World} {H:Hp} {Q:VK} {a:Addr} {xs:List V} {i:Int} {v:V} {z:Str} {σ:St} {r r':R2} {ta tb tc:TE} {tA:TA} {D:Ends}
end
theorem sIx_nat {n d a:Nat} (h:a<=n):HT.sIx n d (some (a:Int))=a:=by
 unfold HT.sIx
 simp
 rw [if_neg (by lia)]
 lia
theorem sIx_none {n d:Nat}:HT.sIx n d none=d:=rfl
theorem zyz {xs:List V} {b:Nat} (hb:b<=xs.length):cutV xs none (some (b:Int))=xs.take b:=by
 unfold cutV
 rw [sIx_none,sIx_nat hb]
 simp
section
variable {K:Fg} {H:Hp} {a:Addr} {xs:List V} {σ:St} {ta:TA} {Q:VK}
end
theorem zsa {X:Cx} {pos:Pos} {K:Fg} {n:Nat} (hK:X.K=K) {es:List Expr} {k:Nat} {t:TGs} (hc:X.calm=true) (h:PGs X es t)
  (hn:(assignEach es X.env).length=n:=by rfl) (hst:(assignEach es X.env).findIdx? (·.1)=none:=by rfl):PG X (.Tuple es k pos) (gTup K n t):=by
 subst hK
 exact zw51 hc h hn hst
def kBM (K:Fg) (T:String) (r:V->List V->Hp->VK->Prop) (t:TA) (σ:St) (x:V) (H:Hp) (Q:VK):Prop:=tyV K T x H/\t σ H λ xs H2=>r x xs H2 Q
def tBMU (K:Fg) (T:String) (r:V->List V->Hp->VK->Prop) (to:TE) (t:TA):TE:=λ σ H Q=>to σ H λ x H1=>kBM K T r t σ x H1 Q
theorem zui {X:Cx} {K:Fg} (hK:X.K=K) {o e:Expr} {es:List Expr} {to:TE} {t:TA} {name:Str} {apos cpos:Pos} {T id:String} {r:V->List V->Hp->VK->Prop} (pa:PlainAttrs T) (slot:Slot T name id) (hty:typeOf (.builtin id)=pure (.type "method_descriptor")) (hm:MtR X id r) (ho:PE X o to) (ha:PA X (e :: es) t)
  (hbase:attributeBase o name X.env (eval o X.env)=eval o X.env:=by rfl)
  (hfew:((backTo cpos (starEach (e :: es) X.env)).all (λ x=>!x.1) && (backToKw cpos (keywordEach [] X.env)).all (λ x=>x.1.isSome)
   && decide ((e :: es).length+([]:List Keyword).length+(if ([]:List Keyword).isEmpty then 0 else 1) < 30))=true:=by rfl)
  (hline:(apos.endLine == cpos.line)=true:=by rfl) (hs:starEach (e :: es) X.env=(false,eval e X.env) :: starEach es X.env:=by rfl) (hplain:(backTo cpos (starEach es X.env)).any (·.1)=false:=by rfl) :
  PE X (.Call (.Attribute o name apos) (e :: es) [] cpos) (tBMU K T r to t):=by
 subst hK
 exact zca1 pa slot hty hm ho ha hbase hfew hline hs hplain
section
variable {K:Fg} {T:String} {r:V->List V->Hp->VK->Prop} {to:TE} {t:TA} {σ:St} {H:Hp} {Q:VK} {a:Addr} {xs:List V} {z:Str}
end
section
variable {t:TJ} {te:TE} {σ:L2.St} {H:Hp} {acc y z:Str} {i:Int}
end
def zm21 (_ j:Int):Prop:=0 < j/\j < 2 ^ 200
theorem zqu {j:Int} (h0:0 < j) (h1:j < 2 ^ 200):j.natAbs.log2 < 9000:=by
 have h:j.natAbs.log2 < 200:=(Nat.log2_lt (by lia)).mpr (by lia)
 lia
theorem zz0 {X:Cx}:OpR X (binaryOp .FloorDiv) (rI zm21 λ i j=>.int (i / j)):=opI λ i j _ _ _ _ _ hc q=>by
 have h1:(0:Int) < j:=hc.1
 exact floordiv_int (by lia) (by rw [Int.fdiv_eq_ediv_of_nonneg i (by lia)];exact q) (.inl (PyProof.noPylong_of_log2 (zqu hc.1 hc.2)))
def znl {α:Type} (xs:List α) (lo hi st:Option Int):List α:=(sliceRange (sliceBounds lo hi st xs.length).1 (sliceBounds lo hi st xs.length).2.1 (sliceBounds lo hi st xs.length).2.2).filterMap (xs[·]?)
theorem zhd {xs:List V} {vs:List Value} (h:Vals xs vs):∀ js:List Nat,Vals (js.filterMap (xs[·]?)) (js.filterMap (vs[·]?))
|[]=>.nil
|j :: js=>by
  have ih:=zhd h js
  cases hn:xs[j]? with
 |some n =>
   obtain ⟨u,hu,r⟩:=h.get hn
   simp only [List.filterMap_cons,hn,hu]
   exact .cons r ih
 |none =>
   have hv:=h.none_of hn
   simp only [List.filterMap_cons,hn,hv]
   exact ih
theorem zeq {xs:List V} {vs:List Value} (h:Vals xs vs) (lo hi st:Option Int):Vals (znl xs lo hi st) (slicePick vs.toArray lo hi st).toList:=by
 have e:(slicePick vs.toArray lo hi st).toList=(sliceRange (sliceBounds lo hi st xs.length).1 (sliceBounds lo hi st xs.length).2.1 (sliceBounds lo hi st xs.length).2.2).filterMap (vs[·]?):=by
  simp [slicePick,h.length]
 rw [e]
 exact zhd h _
def rSl3 (K:Fg):V->Option Int->Option Int->Option Int->Hp->VK->Prop:=λ x lo hi st H Q=>∃ a xs,x=.ref a/\SqL K H a xs/\st≠some 0/\∀ p,H p=none->Q (.ref p) (upd H p (.lst (znl xs lo hi st)))
def tSl3 (K:Fg) (te:TE) (tl th tk:TO):TE:=λ σ H Q=>te σ H λ x H1=>tl σ H1 λ l H2=>th σ H2 λ u H3=>tk σ H3 λ st H4=>rSl3 K x l u st H4 Q
theorem zep {X:Cx} {K:Fg} (hK:X.K=K) {e:Expr} {te:TE} {lo hi:Option Expr} {st:Expr} {tl th tk:TO} {pos p2:Pos} (he:PE X e te) (hl:PO X lo tl) (hu:PO X hi th) (hs:PO X (some st) tk):PE X (.Subscript e (.Slice lo hi (some st) p2) pos) (tSl3 K te tl th tk):=by
 subst hK
 intro pins s σ H Q I h
 refine Subscript_ (thn (he pins s σ H _ I h) λ v s1 ⟨x,H1,I1,r1,q1⟩=>?_)
 refine wpAny_Slice (thn (hl pins s1 σ H1 _ I1 q1) λ vl s2 ⟨l,H2,I2,pl,q2⟩=>thn (hu pins s2 σ H2 _ I2 q2) λ vu s3 ⟨u,H3,I3,pu,q3⟩=>thn (hs pins s3 σ H3 _ I3 q3) λ vk s4 ⟨k,H4,I4,pk,q4⟩=>?_)
 obtain ⟨a,xs,rfl,hx,h0,q⟩:=q4
 cases r1
 have I5:Inv X pins σ H4 { s4 with heap:=s4.heap.push { cls:=.type "slice",data:=.fields #[vl,vu,vk] } }:=I4.kept (t':=s4.toks) λ b ob q=>Heap.get?_push_of_some _ q
 obtain ⟨its,r,ht,hz⟩:=I5.list hx
 have hlen:=r.length
 refine tail_any (T := "list") (ops:=[.ref a,.ref s4.heap.objs.size]) ht.isList.typeIs slot_list_getitem.lookup (wpAny_getItem_list_slice ht.isList (Heap.IsSliceOf.new ..) pl pu pk h0 ?_ (by rw [List.size_toArray] <;> lia)) (by with_unfolding_all rfl)
 have rv:=zeq r l u k
 refine ⟨.ref _,_,I5.laid (t':=s4.toks) (o:=.lst (znl xs l u k)) (λ b ob q=>Heap.get?_push_of_some _ q) (Nat.le_refl _) ?_,rfl,q _ (I5.hok.fresh (Nat.le_refl _))⟩
 refine ⟨?_,_,0,rv,?_⟩
 ·have:=slicePick_size_le its.toArray l u k
  have e:=rv.length
  simp only [Array.length_toList,List.size_toArray] at this e
  lia
 ·rw [Array.toArray_toList]
  exact Heap.get?_push_size _ rfl
section
variable {K:Fg} {H:Hp} {Q:VK} {a:Addr} {xs:List V} {i j:Int} {σ:St}
end
section
variable {K:Fg} {H H':Hp} {D a:Addr} {xs:List V}
theorem zd21.trans {H1 H2 H3:Hp} (s:zd21 D H1 H2) (s':zd21 D H2 H3):zd21 D H1 H3:=λ b o hb e=>s' b o hb (s b o hb e)
theorem IsAll.length:∀ {xs:List V} {ds:List PyData},IsAll K H xs ds->xs.length=ds.length
|_,_,.nil=>rfl
|_,_,.cons _ r=>by simp [IsAll.length r]
end
def Fit (n:Nat) (d:PyData):Prop:=d.canLay0=true/\d.depth<=n
theorem zy6:∀ {ds:List PyData},(∀ d∈ds,d.canLay0=true)->PyData.canLayAll0 ds=true
|[],_=>rfl
|d :: ds,h=>by
  show (d.canLay0 && PyData.canLayAll0 ds)=true
  rw [h d (by simp),zy6 λ e he=>h e (List.mem_cons_of_mem _ he)];rfl
theorem zc8 {n:Nat}:∀ {ds:List PyData},(∀ d∈ds,d.depth<=n)->PyData.depthAll ds<=n
|[],_=>Nat.zero_le _
|d :: ds,h=>by
  show max d.depth (PyData.depthAll ds)<=n
  have:=h d (by simp)
  have:=zc8 λ e he=>h e (List.mem_cons_of_mem d he)
  lia
theorem Fit.tup {n:Nat} {ds:List PyData} (h:∀ d∈ds,Fit n d):Fit (n+1) (.tuple ds):=⟨by show PyData.canLayAll0 ds=true;exact zy6 λ d hd=>(h d hd).1,by show PyData.depthAll ds+1<=n+1;have:=zc8 λ d hd=>(h d hd).2;lia⟩
theorem Fit.lst {n:Nat} {ds:List PyData} (h:∀ d∈ds,Fit n d):Fit (n+1) (.list ds):=⟨by show PyData.canLayAll0 ds=true;exact zy6 λ d hd=>(h d hd).1,by show PyData.depthAll ds+1<=n+1;have:=zc8 λ d hd=>(h d hd).2;lia⟩
theorem Fit.int {n:Nat} (i:Int):Fit n (.int i):=⟨rfl,Nat.zero_le _⟩
theorem Fit.bl {n:Nat} (i:Bool):Fit n (.bool i):=⟨rfl,Nat.zero_le _⟩
theorem Fit.str {n:Nat} {x:Str} (h:x.cps.all (· < 0x110000)=true):Fit n (.str x):=⟨h,Nat.zero_le _⟩
theorem Fit.mono {n m:Nat} {d:PyData} (h:Fit n d) (hm:n<=m):Fit m d:=⟨h.1,Nat.le_trans h.2 hm⟩
theorem Fit.shaped {n:Nat} {d:PyData} (h:Fit n d) (hn:n<=64):SeqAt.shaped d=true:=by
 unfold SeqAt.shaped
 rw [h.1,decide_eq_true (Nat.le_trans h.2 hn)];rfl
theorem Fit.eqv {n:Nat} {d:PyData} (h:Fit n d):PyData.eqv d d=true:=SeqAt.eqv_refl d h.1
def zp21 (K:Fg):Sp:=λ vs H Q _=>∃ (a:Addr) (ns:List Int),vs=[.ref a]/\SqL K H a (ns.map V.int)/\ns.length<=63/\∀ H',Q (.bl true) H'
theorem law_walk {k:Nat} {l:PySem.W.OpenLaw} {q:Program} {loose:List Str} {XP:(Str->Option Value)->Heap->Prop} {YP:World->Heap->Prop} {d:DefRec} {K:Params->Fg} (hk:Room k callerA) (hn:l.most=some 63) (hdf:d.params.defaults=[])
  (hY:∀ (w:World) (h:Heap),YP w h->(K w.params).In h)
  (F:∀ (w:World) (mg:Str->Option Value) (fa:Addr) (h:Heap),(K w.params).In h->h.Ns mainGlobals mg->mg d.name=some (.ref fa) ->
   ∃ fd:FuncData,(∀ (s:Shared) (u:Value),BindsTo s fd ⟨[u],[]⟩ [("script",u)])/\∀ base:Heap,(K w.params).In base->base.Ns mainGlobals mg->FnOk l.prog w (K w.params) mg base CX0 k fa fd ["script"] (zp21 (K w.params))) :
  PySem.W.WalkO q loose XP YP l.row.toRowW d [] (λ f vs=>PySem.call f vs) :=
 L2.walk_of (n:=63) (k:=k) (x := "script") (CX:=λ _=>CX0) (sp:=λ w=>zp21 (K w.params)) hn (by decide) hdf hk hY F (λ _ _ a ns hl _ hS=>⟨a,ns,rfl,hS,hl,λ _=>rfl⟩) λ _ _ _ _ _ z=>z
section
variable {K:Fg} {H:Hp} {Q:VK} {σ:St} {i j:Int}
end
end L3
namespace L2
open PySem PySem.Spec PyProof.Rows
section
variable {κ:Type} [DecidableEq κ]
def valV (kvs:List (κ×V)) (k:κ):Option V:=(kvs.find? λ kv=>decide (kv.1=k)).map (·.2)
def putK (kvs:List (κ×V)) (k:κ) (v:V):List (κ×V) :=
 if (kvs.any λ kv=>decide (kv.1=k))=true then kvs.map (λ kv=>if kv.1=k then (kv.1,v) else kv) else kvs++[(k,v)]
def znh (kvs:List (κ×V)) (k:κ):List (κ×V):=kvs.filter λ kv=>decide (kv.1≠k)
theorem zcj {p:κ×V} {r:List (κ×V)} {k:κ} (e:p.1=k):valV (p :: r) k=some p.2:=by simp [valV,List.find?_cons,e]
theorem zaj {p:κ×V} {r:List (κ×V)} {k:κ} (e:¬ p.1=k):valV (p :: r) k=valV r k:=by simp [valV,List.find?_cons,e]
theorem zco (k:κ):∀ kvs:List (κ×V),(kvs.any λ kv=>decide (kv.1=k))=(valV kvs k).isSome
|[]=>rfl
|p :: r=>by
  rw [List.any_cons]
  by_cases e:p.1=k
  ·simp only [zcj e,decide_eq_true e,Bool.true_or,Option.isSome_some]
  ·rw [zaj e,decide_eq_false e,Bool.false_or];exact zco k r
theorem zqd (kvs:List (κ×V)) (k:κ) (v:V):(putK kvs k v).length<=kvs.length+1:=by
 unfold putK
 split
 ·rw [List.length_map];lia
 ·rw [List.length_append,List.length_cons,List.length_nil];lia
theorem RelO.isSome_eq {o:Option V} {u:Option Value} (r:RelO o u):o.isSome=u.isSome:=by
 cases o with
|none=>cases u with
 |none=>rfl
 |some _=>exact (show False from r).elim
|some _=>cases u with
 |none=>exact (show False from r).elim
 |some _=>rfl
theorem RelO.getD {o:Option V} {u:Option Value} {d:V} {d':Value} (r:RelO o u) (rd:RelV d d'):RelV (o.getD d) (u.getD d'):=by
 cases o with
|none=>cases u with
 |none=>exact rd
 |some _=>exact (show False from r).elim
|some _=>cases u with
 |none=>exact (show False from r).elim
 |some _=>exact r
theorem KV.val {kvs:List (κ×V)} {vs:List (κ×Value)} (r:KV kvs vs) (k:κ):RelO (valV kvs k) (valueAt vs k):=by
 unfold KV at r
 induction r with
|nil=>exact True.intro
|@cons p q ps qs h t ih =>
  obtain ⟨h1,h2⟩:=h
  by_cases e:p.1=k
  ·have e':q.1=k:=h1.symm.trans e
   have b:valueAt (q :: qs) k=some q.2:=by simp [valueAt,List.find?_cons,e']
   rw [zcj e,b];exact h2
  ·have e':¬ q.1=k:=λ z=>e (h1.trans z)
   have b:valueAt (q :: qs) k=valueAt qs k:=by simp [valueAt,List.find?_cons,e']
   rw [zaj e,b];exact ih
theorem KV.any {kvs:List (κ×V)} {vs:List (κ×Value)} (r:KV kvs vs) (k:κ):(kvs.any λ kv=>decide (kv.1=k))=vs.any λ kv=>decide (kv.1=k):=by
 unfold KV at r
 induction r with
|nil=>rfl
|cons h t ih=>rw [List.any_cons,List.any_cons,ih,h.1]
theorem KV.repl {kvs:List (κ×V)} {vs:List (κ×Value)} (r:KV kvs vs) (k:κ) {y:V} {u:Value} (ry:RelV y u) :
  KV (kvs.map λ kv=>if kv.1=k then (kv.1,y) else kv) (vs.map λ kv=>if kv.1=k then (kv.1,u) else kv):=by
 unfold KV at r ⊢
 induction r with
|nil=>exact .nil
|@cons p q ps qs h t ih =>
  rw [List.map_cons,List.map_cons]
  refine .cons ?_ ih
  obtain ⟨h1,h2⟩:=h
  by_cases e:p.1=k
  ·rw [if_pos e,if_pos (h1.symm.trans e)];exact ⟨h1,ry⟩
  ·rw [if_neg e,if_neg (λ z=>e (h1.trans z))];exact ⟨h1,h2⟩
theorem KV.put {kvs:List (κ×V)} {vs:List (κ×Value)} (r:KV kvs vs) (k:κ) {y:V} {u:Value} (ry:RelV y u):KV (putK kvs k y) (stored vs k u):=by
 unfold putK stored
 rw [r.any k]
 by_cases e:(vs.any λ kv=>decide (kv.1=k))=true
 ·rw [if_pos e,if_pos e];exact r.repl k ry
 ·rw [if_neg e,if_neg e];exact Paired.snoc r ⟨rfl,ry⟩
theorem KV.drop {kvs:List (κ×V)} {vs:List (κ×Value)} (r:KV kvs vs) (k:κ):KV (znh kvs k) (without vs k):=by
 unfold KV at r ⊢
 unfold znh without
 induction r with
|nil=>exact .nil
|@cons p q ps qs h t ih =>
  obtain ⟨h1,h2⟩:=h
  rw [List.filter_cons,List.filter_cons]
  by_cases e:p.1=k
  ·have a:¬ decide (p.1≠k)=true:=by simp [e]
   have b:¬ decide (q.1≠k)=true:=by simp [h1.symm.trans e]
   rw [if_neg a,if_neg b];exact ih
  ·have e':¬ q.1=k:=λ z=>e (h1.trans z)
   have a:decide (p.1≠k)=true:=by simp [e]
   have b:decide (q.1≠k)=true:=by simp [e']
   rw [if_pos a,if_pos b];exact .cons ⟨h1,h2⟩ ih
theorem KV.length {kvs:List (κ×V)} {vs:List (κ×Value)} (r:KV kvs vs):kvs.length=vs.length:=Paired.length r
theorem zzs (kvs:List (κ×V)) (k:κ):(znh kvs k).length<=kvs.length:=List.length_filter_le _ _
end
theorem zvw {P:Program} {w:World} {k:Key} {u:Value} (r:RelV (kV k) u):(za3 P w).is k u=true:=by
 cases k with
|inl i=>obtain ⟨t,e⟩:=(show ∃ t,u=Value.int i t from r);subst e;exact zil P w i t
|inr x=>obtain ⟨t,e⟩:=(show ∃ t,u=Value.str x t from r);subst e;exact zxk P w x t
theorem znj {P:Program} {w:World}:∀ {ks:List Key} {us:List Value},Vals (ks.map kV) us->ItemsAre (za3 P w) ks us
|[],_,r=>by rw [List.map_nil] at r;cases r;exact .nil
|k :: ks,_,r=>by
  rw [List.map_cons] at r
  cases r with
 |cons h t=>exact .cons (zvw h) (znj t)
abbrev KT (H:Hp):List (List Key×V)->List (List Key×Addr×Value)->Prop:=Paired λ p q=>p.1=q.1/\H q.2.1=some (.tup (p.1.map kV))/\RelV p.2 q.2.2
theorem KT.val {H:Hp} {kvs:List (List Key×V)} {xs:List (List Key×Addr×Value)} (r:KT H kvs xs) (k:List Key):RelO (valV kvs k) ((atKey xs k).map (·.2)):=by
 induction r with
|nil=>exact True.intro
|@cons p q ps qs h t ih =>
  obtain ⟨h1,_,h2⟩:=h
  by_cases e:p.1=k
  ·have e':q.1=k:=h1.symm.trans e
   have b:atKey (q :: qs) k=some q.2:=by simp [atKey,List.find?_cons,e']
   rw [zcj e,b];exact h2
  ·have e':¬ q.1=k:=λ z=>e (h1.trans z)
   have b:atKey (q :: qs) k=atKey qs k:=by simp [atKey,List.find?_cons,e']
   rw [zaj e,b];exact ih
theorem KT.repl {H:Hp} {kvs:List (List Key×V)} {xs:List (List Key×Addr×Value)} (r:KT H kvs xs) (k:List Key) {y:V} {u:Value} (ry:RelV y u) :
  KT H (kvs.map λ kv=>if kv.1=k then (kv.1,y) else kv) (xs.map (putAt k u)):=by
 induction r with
|nil=>exact .nil
|@cons p q ps qs h t ih =>
  rw [List.map_cons,List.map_cons]
  refine .cons ?_ ih
  obtain ⟨h1,h2,h3⟩:=h
  unfold putAt
  by_cases e:p.1=k
  ·rw [if_pos e,if_pos (h1.symm.trans e)];exact ⟨h1,h2,ry⟩
  ·rw [if_neg e,if_neg (λ z=>e (h1.trans z))];exact ⟨h1,h2,h3⟩
theorem KT.put {H:Hp} {kvs:List (List Key×V)} {xs:List (List Key×Addr×Value)} (r:KT H kvs xs) (k:List Key) {b:Addr} {y:V} {u:Value} (hb:H b=some (.tup (k.map kV))) (ry:RelV y u) :
  KT H (putK kvs k y) (storedH xs k b u):=by
 have e:(kvs.any λ kv=>decide (kv.1=k))=(atKey xs k).isSome:=by
  rw [zco,(r.val k).isSome_eq,Option.isSome_map]
 unfold putK storedH
 rw [e]
 by_cases q:(atKey xs k).isSome=true
 ·rw [if_pos q,if_pos q];exact r.repl k ry
 ·rw [if_neg q,if_neg q];exact Paired.snoc r ⟨rfl,hb,ry⟩
theorem KT.keeps {H H':Hp} {kvs:List (List Key×V)} {xs:List (List Key×Addr×Value)} (r:KT H kvs xs) (ht:∀ b ys,H b=some (.tup ys)->H' b=some (.tup ys)):KT H' kvs xs :=
 Paired.mapP r λ _ _ z=>⟨z.1,ht _ _ z.2.1,z.2.2⟩
section
variable {P:Program} {w:World} {H:Hp} {h:Heap} {a:Addr}
theorem zv71 {u:HO} (ok:HOk P w H h) (e:Rd H a u):zm8 P w H h a u:=e.ok ok
theorem zzx {kvs:List (Key×V)} (ok:HOk P w H h) (e:Rd H a (.dK kvs)):kvs.length<=sizeLine/\(a == sysModules)=false/\∃ vs,KV kvs vs/\h.DictOf (za3 P w) a vs :=
 show zm8 P w H h a (.dK kvs) from zv71 ok e
theorem zqa1 {kvs:List (Key×V)} (ok:HOk P w H h) (e:H a=some (.dK kvs)):kvs.length<=sizeLine/\(a == sysModules)=false/\∃ vs,KV kvs vs/\h.DictOf (za3 P w) a vs:=zzx ok (.inl e)
theorem zdl {ks:List Key} (ok:HOk P w H h) (e:H a=some (.tup (ks.map kV))):(tupleKind (za3 P w)).is h ks a:=by
 obtain ⟨_,its,r,o,h1,h2,n,h3⟩:=(show zm8 P w H h a (.tup (ks.map kV)) from ok a _ e)
 exact ⟨o,its.toArray,n,h1,h2,h3,by simpa using znj r⟩
theorem zay {kvs:List (List Key×V)} (ok:HOk P w H h) (e:Rd H a (.dT kvs)):kvs.length<=sizeLine/\(a == sysModules)=false /\
  ∃ xs,KT H kvs xs/\h.DictOfH (tupleKind (za3 P w)) a xs:=by
 obtain ⟨z,y,xs,r,o,es,ep,h1,h2,h3,h4,h5⟩:=(show zm8 P w H h a (.dT kvs) from zv71 ok e)
 refine ⟨z,y,xs,r,o,es,ep,h1,h2,h3,h4,λ x hx=>?_,h5⟩
 have all:∀ {l:List (List Key×V)} {m:List (List Key×Addr×Value)},KT H l m->∀ x∈m,(tupleKind (za3 P w)).is h x.1 x.2.1:=by
  intro l m q
  induction q with
 |nil=>intro x hx;exact nomatch hx
 |@cons p q ps qs hq t ih =>
   intro x hx
   rcases List.mem_cons.mp hx with e|hx
   ·subst e
    exact zdl ok (by rw [<- hq.1];exact hq.2.1)
   ·exact ih x hx
 exact all r x hx
theorem zo81 {kvs:List (List Key×V)} (ok:HOk P w H h) (e:H a=some (.dT kvs)):kvs.length<=sizeLine/\(a == sysModules)=false /\
  ∃ xs,KT H kvs xs/\h.DictOfH (tupleKind (za3 P w)) a xs:=zay ok (.inl e)
end
def DGet (H:Hp) (a:Addr) (y:V) (r:Option V):Prop :=
 (∃ kvs k,Rd H a (.dK kvs)/\y=kV k/\r=valV kvs k) \/ ∃ kvs k b,Rd H a (.dT kvs)/\y=.ref b/\H b=some (.tup (k.map kV))/\r=valV kvs k
def DPut (H:Hp) (a:Addr) (y v:V) (H':Hp):Prop :=
 (∃ kvs k,H a=some (.dK kvs)/\y=kV k/\kvs.length < sizeLine/\H'=upd H a (.dK (putK kvs k v))) \/
 ∃ kvs k b,H a=some (.dT kvs)/\y=.ref b/\H b=some (.tup (k.map kV))/\kvs.length < sizeLine/\H'=upd H a (.dT (putK kvs k v))
theorem DGet.k {H:Hp} {a:Addr} {kvs:List (Key×V)} {k:Key} (e:H a=some (.dK kvs)):DGet H a (kV k) (valV kvs k):=.inl ⟨kvs,k,.inl e,rfl,rfl⟩
theorem DGet.t {H:Hp} {a b:Addr} {kvs:List (List Key×V)} {k:List Key} (e:H a=some (.dT kvs)) (eb:H b=some (.tup (k.map kV))):DGet H a (.ref b) (valV kvs k):=.inr ⟨kvs,k,b,.inl e,rfl,eb,rfl⟩
theorem DPut.k {H:Hp} {a:Addr} {kvs:List (Key×V)} {k:Key} {v:V} (e:H a=some (.dK kvs)) (hl:kvs.length < sizeLine):DPut H a (kV k) v (upd H a (.dK (putK kvs k v))):=.inl ⟨kvs,k,e,rfl,hl,rfl⟩
theorem DPut.t {H:Hp} {a b:Addr} {kvs:List (List Key×V)} {k:List Key} {v:V} (e:H a=some (.dT kvs)) (eb:H b=some (.tup (k.map kV))) (hl:kvs.length < sizeLine) :
  DPut H a (.ref b) v (upd H a (.dT (putK kvs k v))):=.inr ⟨kvs,k,b,e,rfl,eb,hl,rfl⟩
section
variable {X:Cx} {pins:List (Addr×Obj)} {σ:St} {H:Hp} {s:Shared} {a:Addr} {y v:V} {u r:Value} {o:Option V} {A:Around} {E:Value->Shared->Prop}
theorem Inv.big (I:Inv X pins σ H s):sysModules < s.heap.objs.size:=by
 have h:mainGlobals < s.heap.objs.size:=(I.mod.glob.keeps I.bk).lt
 exact Nat.lt_trans (by decide) h
theorem zmk {Q:Value->Shared->Prop} (hu:A.units+1 < cLine) (I:Inv X pins σ H s) (g:DGet H a y (some v)) (ry:RelV y u) (h:∀ w' s',Inv X pins σ H s'->RelV v w'->Q w' s') :
  wpAny (model X.prog X.w) A (getItem (.ref a) u) Q E s:=by
 rcases g with ⟨kvs,k,e,ey,l⟩|⟨kvs,k,b,e,ey,eb,l⟩
 ·subst ey
  obtain ⟨z,hd,vs,rel,dd⟩:=zzx I.hok e
  obtain ⟨w',hw,rw'⟩:=RelO.some_of (v:=v) (o:=valueAt vs k) (by rw [l];exact rel.val k)
  exact wpAny_getItem_of (zvw ry) dd.mapOf hw (h w' _ (I.tok _) rw')
 ·subst ey
  cases (show u=Value.ref b from ry)
  obtain ⟨z,hd,xs,rel,dd⟩:=zay I.hok e
  obtain ⟨w',hw,rw'⟩:=RelO.some_of (v:=v) (o:=(atKey xs k).map (·.2)) (by rw [l];exact rel.val k)
  obtain ⟨p,hp,hp2⟩:=Option.map_eq_some_iff.mp hw
  refine wpAny_getItem_heap (tupleKind_room_in1 hu) (zdl I.hok eb) dd hp ?_
  rw [hp2]
  exact h w' _ (I.tok _) rw'
theorem d_in {Q:Value->Shared->Prop} (hu:A.units+1 < cLine) (I:Inv X pins σ H s) (g:DGet H a y o) (ry:RelV y u) (h:∀ s',Inv X pins σ H s'->Q (.bool o.isSome) s') :
  wpAny (model X.prog X.w) A (compareOp .In u (.ref a)) Q E s:=by
 rcases g with ⟨kvs,k,e,ey,l⟩|⟨kvs,k,b,e,ey,eb,l⟩
 ·subst ey
  obtain ⟨z,hd,vs,rel,dd⟩:=zzx I.hok e
  refine wpAny_in_of (zvw ry) hd dd.mapOf ?_
  rw [<- (rel.val k).isSome_eq,<- l]
  exact h _ (I.tok _)
 ·subst ey
  cases (show u=Value.ref b from ry)
  obtain ⟨z,hd,xs,rel,dd⟩:=zay I.hok e
  refine wpAny_in_heap (tupleKind_room_in1 hu) (zdl I.hok eb) hd dd ?_
  have q:=(rel.val k).isSome_eq
  rw [Option.isSome_map] at q
  rw [<- q,<- l]
  exact h _ (I.tok _)
theorem zyn {h':Heap} {t':Nat} {ob:HO} (I:Inv X pins σ H s) (mu:Mut (H a)) (hs:Heap.SameBut a s.heap h') (he:∃ q,h'.get? a=some q) (new:zm8 X.prog X.w (upd H a ob) h' a ob) :
  Inv X pins σ (upd H a ob) { s with heap:=h',toks:=t' } :=
 I.write (x:=a) (e:=a) mu (.inl rfl) (λ b q hb z=>(hs.2 b hb).trans z) he new
theorem zr71 {P:Program} {w:World} {H':Hp} {h':Heap} {kvs:List (Key×V)} {vs:List (Key×Value)} (z:kvs.length<=sizeLine) (hd:(a == sysModules)=false) (rel:KV kvs vs) (dd:h'.DictOf (za3 P w) a vs) :
  zm8 P w H' h' a (.dK kvs):=⟨z,hd,vs,rel,dd⟩
theorem zvp {H':Hp} {Q:Unit->Shared->Prop} (hu:A.units+1 < cLine) (I:Inv X pins σ H s) (g:DPut H a y v H') (ry:RelV y u) (rv:RelV v r) (h:∀ s',Inv X pins σ H' s'->Q () s') :
  wpAny (model X.prog X.w) A (setItem (.ref a) u r) Q E s:=by
 rcases g with ⟨kvs,k,e,ey,l,eH⟩|⟨kvs,k,b,e,ey,eb,l,eH⟩
 ·subst ey eH
  obtain ⟨z,hd,vs,rel,dd⟩:=zqa1 I.hok e
  have hz:vs.length<=sizeLine:=by rw [<- rel.length];exact z
  have hl:(putK kvs k v).length<=sizeLine:=by have:=zqd kvs k v;lia
  refine wpAny_setItem_pairs (hsz:=hz) (zvw ry) dd λ h' dd' hs=>h _ ?_
  have he:∃ q,h'.get? a=some q:=let ⟨q,_,_,hq,_⟩:=dd';⟨q,hq⟩
  exact zyn I (by rw [e];exact True.intro) hs he (zr71 hl hd (rel.put k rv) dd')
 ·subst ey eH
  cases (show u=Value.ref b from ry)
  obtain ⟨z,hd,xs,rel,dd⟩:=zo81 I.hok e
  have hz:xs.length<=sizeLine:=by rw [<- Paired.length rel];exact z
  have hl:(putK kvs k v).length<=sizeLine:=by have:=zqd kvs k v;lia
  refine wpAny_setItem_heap (hsz:=hz) (tupleKind_room_in1 hu) (zdl I.hok eb) dd λ h' dd' hs=>h _ ?_
  obtain ⟨q,es,ep,hq,h2,h3,h4,_,h5⟩:=dd'
  refine zyn I (by rw [e];exact True.intro) hs ⟨q,hq⟩ ⟨hl,hd,_,(rel.put k eb rv).keeps λ c ys ec=>?_,q,es,ep,hq,h2,h3,h4,h5⟩
  rw [zw0 (zl61 ec e (λ z=>nomatch z))]
  exact ec
end
section
variable {X:Cx} {pins:List (Addr×Obj)} {σ:St} {H:Hp} {s:Shared} {a:Addr} {kvs:List (Key×V)} {k:Key} {u:Value} {A:Around} {E:Value->Shared->Prop}
end
theorem zwk {X:Cx} {pins:List (Addr×Obj)} {σ:St} {H:Hp} {s:Shared} {a:Addr} {y:V} {o:Option V} (I:Inv X pins σ H s) (g:DGet H a y o):s.TypeIs (.ref a) "dict":=by
 rcases g with ⟨kvs,k,e,_,_⟩|⟨kvs,k,b,e,_,_,_⟩
 ·obtain ⟨_,_,vs,_,dd⟩:=zzx I.hok e
  exact dd.typeIs
 ·obtain ⟨_,_,xs,_,dd⟩:=zay I.hok e
  exact dd.typeIs
section
variable {X:Cx} {o i e value:Expr} {pos pos' tpos:Pos} {td ty tv:TE}
end
theorem zts {P:Program} {w:World} {H:Hp} (h:Heap) (hb:sysModules < h.objs.size):zm8 P w H (h.push { cls:=.type "dict",data:=.dict #[] }) h.objs.size (.dT []) :=
 ⟨Nat.zero_le _,beq_eq_false_iff_ne.mpr (Ne.symm (Nat.ne_of_lt hb)),[],.nil,_,#[],0,Heap.get?_push_size _ rfl,⟨rfl,rfl,rfl⟩,rfl,rfl,List.nodup_nil⟩
def zdx:TE:=λ _ H Q=>∀ p,H p=none->Q (.ref p) (upd H p (.dT []))
section
variable {X:Cx} {pos:Pos}
theorem zwt:PE X (.Dict [] [] pos) zdx:=λ pins s σ H Q I h =>
 wpAny_Dict_empty ⟨.ref s.heap.objs.size,_,I.laid (a:=s.heap.objs.size) (o:=.dT []) (t':=s.toks) (λ _ _ q=>Heap.get?_push_of_some _ q) (Nat.le_refl _) (zts s.heap I.big),rfl,h _ (I.hok.fresh (Nat.le_refl _))⟩
end
section
variable {X:Cx} {pins:List (Addr×Obj)} {σ:St} {H:Hp} {s:Shared} {a:Addr} {y d:V} {u r:Value} {o:Option V} {A:Around} {E:Value->Shared->Prop}
theorem zv61 {Q:Value->Shared->Prop} (hu:A.units+1 < cLine) (I:Inv X pins σ H s) (g:DGet H a y o) (ry:RelV y u) (rd:RelV d r) (h:∀ w' s',Inv X pins σ H s'->RelV (o.getD d) w'->Q w' s') :
  wpAny (model X.prog X.w) A (call (.builtin "dict.get") [.ref a,u,r]) Q E s:=by
 rcases g with ⟨kvs,k,e,ey,l⟩|⟨kvs,k,b,e,ey,eb,l⟩
 ·subst ey
  obtain ⟨z,hd,vs,rel,dd⟩:=zzx I.hok e
  refine call_meetsIn PySem.F.slot_dict_get dd.typeIs PySem.F.entry_dict_get (PySem.F.args_dict_get_3 _ _ _) (meets_dict_get_default (za3 X.prog X.w) a (zvw ry) hd r) ⟨_,dd.mapOf,h _ _ (I.tok _) ?_⟩
  rw [l]
  exact (rel.val k).getD rd
 ·subst ey
  cases (show u=Value.ref b from ry)
  obtain ⟨z,hd,xs,rel,dd⟩:=zay I.hok e
  refine call_meetsIn PySem.F.slot_dict_get dd.typeIs PySem.F.entry_dict_get (PySem.F.args_dict_get_3 _ _ _) (meetsH_dict_get_default (tupleKind (za3 X.prog X.w)) a b hd r) ⟨tupleKind_room_in1 hu,k,xs,zdl I.hok eb,dd,h _ _ (I.tok _) ?_⟩
  rw [l]
  exact (rel.val k).getD rd
end
section
variable {X:Cx} {o e f:Expr} {apos cpos:Pos} {td ty tx:TE}
end
section
variable {X:Cx} {pins:List (Addr×Obj)} {σ:St} {H:Hp} {s:Shared} {a:Addr} {kvs:List (Key×V)} {A:Around} {E:Value->Shared->Prop}
end
section
variable {X:Cx} {pins:List (Addr×Obj)} {σ:St} {H:Hp} {s:Shared} {a:Addr} {y:V} {u:Value} {A:Around} {E:Value->Shared->Prop}
end
end L2
namespace L3
open PySem PySem.Spec PyProof.Rows L2
def rInD:R2:=λ x y H Q=>∃ a o,y=.ref a/\DGet H a x o/\Q (.bl o.isSome) H
def rIxD:R2:=λ x y H Q=>∃ a v,x=.ref a/\DGet H a y (some v)/\Q v H
def zd91:V->V->V->Hp->(Hp->Prop)->Prop:=λ o i v H Q=>∃ a H',o=.ref a/\DPut H a i v H'/\Q H'
section
variable {X:Cx}
theorem zsa1 (hu:X.A.units+64 < cLine):OpR X (compareOp .In) rInD:=by
 intro pins s σ H x y v u Q I rx ry h
 obtain ⟨a,o,rfl,g,q⟩:=h
 obtain rfl:u=Value.ref a:=ry
 exact d_in (by lia) I g rx λ s3 I3=>⟨.bl o.isSome,H,I3,rfl,q⟩
theorem ix_D (hu:X.A.units+64 < cLine):IxR X rIxD:=by
 intro value slice pins s σ H x y v u Q I rx ry h hs
 obtain ⟨a,v',rfl,g,q⟩:=h
 obtain rfl:v=Value.ref a:=rx
 exact tail_any (zwk I g) PySem.F.slot_dict_getitem.lookup (zmk (by lia) I g ry λ w' s3 I3 rw'=>⟨v',H,I3,rw',q⟩) hs
theorem zr91 (hu:X.A.units+64 < cLine):PSet X zd91:=by
 intro pins s σ H o i v ov iv u Q I ro ri rv h
 obtain ⟨a,H',rfl,g,q⟩:=h
 obtain rfl:ov=Value.ref a:=ro
 exact zvp (by lia) I g ri rv λ s4 I4=>⟨H',I4,q⟩
theorem zea1 (hu:X.A.units+64 < cLine):PGet X rIxD:=by
 intro pins s σ H o i ov iv Q I ro ri h
 obtain ⟨a,v',rfl,g,q⟩:=h
 obtain rfl:ov=Value.ref a:=ro
 exact zmk (by lia) I g ri λ w' s3 I3 rw'=>⟨v',H,I3,rw',q⟩
def zd81 (K:Fg):R2:=λ x y H Q=>∃ a xs j v,x=.ref a/\y=.int j/\0<=j/\SqL K H a xs/\xs[j.toNat]?=some v/\Q v H
theorem zva1 {K:Fg} (hK:X.K=K):PGet X (zd81 K):=by
 subst hK
 intro pins s σ H o i ov iv Q I ro ri h
 obtain ⟨a,xs,j,v,rfl,rfl,h0,hq,he,q⟩:=h
 obtain rfl:ov=Value.ref a:=ro
 obtain ⟨t,rfl⟩:=ri
 obtain ⟨its,r,pl,hz⟩:=I.list hq
 obtain ⟨u,eu,ru⟩:=r.get he
 have hl:=r.length
 have hn:=zri
 have hj:=(List.getElem?_eq_some_iff.mp he).1
 refine wpAny_getItem_list pl.isList h0 (by lia) (by simpa using eu) ⟨v,H,I,ru,q⟩
theorem PGet.or {r r':R2} (h:PGet X r) (h':PGet X r'):PGet X (λ x y H Q=>r x y H Q \/ r' x y H Q):=by
 intro pins s σ H o i ov iv Q I ro ri q
 rcases q with q|q
 ·exact h pins s σ H o i ov iv Q I ro ri q
 ·exact h' pins s σ H o i ov iv Q I ro ri q
theorem PSet.or {r r':TSet} (h:PSet X r) (h':PSet X r'):PSet X (λ o i v H Q=>r o i v H Q \/ r' o i v H Q):=by
 intro pins s σ H o i v ov iv u Q I ro ri rv q
 rcases q with q|q
 ·exact h pins s σ H o i v ov iv u Q I ro ri rv q
 ·exact h' pins s σ H o i v ov iv u Q I ro ri rv q
end
def rIxV (w:World) (K:Fg):R2:=λ x y H Q=>rIxW w K x y H Q \/ rIxD x y H Q
def zq21 (K:Fg):R2:=λ x y H Q=>zd81 K x y H Q \/ rIxD x y H Q
def zqs:V->V->V->Hp->(Hp->Prop)->Prop:=λ o i v H Q=>zq81 o i v H Q \/ zd91 o i v H Q
section
variable {X:Cx} {w:World} {K:Fg}
theorem ix_V (hu:X.A.units+64 < cLine) (hw:X.w=w) (hK:X.K=K):IxR X (rIxV w K):=(ix_W hw hK).or (ix_D hu)
theorem zm61 (hu:X.A.units+64 < cLine) (hK:X.K=K):PGet X (zq21 K):=PGet.or (zva1 hK) (zea1 hu)
theorem zkl (hu:X.A.units+64 < cLine):PSet X zqs:=PSet.or zus (zr91 hu)
end
section
variable {w:World} {K:Fg} {H:Hp} {Q:VK} {a b:Addr} {x y v:V} {o:Option V} {xs:List V} {i:Int} {σ:St} {D:Ends}
end
section
variable {K:Fg} {H:Hp} {Q:VK} {σ caps:St} {n:Nat} {ix:List Nat} {g:TG} {tt:TT} {te:TE} {m:Nat} {J:It} {Y:Nat->V->Hp->Prop}
end
section
variable {K:Fg} {T:String} {r:V->List V->Hp->VK->Prop} {to:TE} {σ:L2.St} {H:Hp} {Q:VK} {a:Addr} {xs:List V} {w:World} {x y v:V}
end
theorem zyx {X:Cx} {pins:List (Addr×Obj)} {σ:L2.St} {H:Hp} {s:Shared} {h':Heap} {t':Nat} {a c:Addr} (I:L2.Inv X pins σ H s) (k:∀ b o,b≠a->b≠c->s.heap.get? b=some o->h'.get? b=some o)
  (fa:FpOk X pins H a) (fc:FpOk X pins H c):L2.Inv X pins σ H { s with heap:=h',toks:=t' }:=by
 obtain ⟨a0,a1,_,a3,a4,a5⟩:=fa
 obtain ⟨c0,c1,_,c3,c4,c5⟩:=fc
 have na:∀ b u,H b=some u->b≠a:=λ b u e z=>by rw [z,a0] at e;cases e
 have nc:∀ b u,H b=some u->b≠c:=λ b u e z=>by rw [z,c0] at e;cases e
 refine I.step (g':=s.gens) (d':=s.drawn) (ch:=[a,c]) (λ b hb=>?_) (λ b o _ _ hc e _=>k b o (λ z=>hc (by simp [z])) (λ z=>hc (by simp [z])) e) (λ b o _ _ hc e _=>⟨o.slots,k b o (λ z=>hc (by simp [z])) (λ z=>hc (by simp [z])) e⟩) (λ _ _ _ _ n=>n)
  (λ b o hc e=>⟨o,k b o (λ z=>hc (by simp [z])) (λ z=>hc (by simp [z])) e⟩) (λ _ _ e=>e) (λ _ _ _ e=>e) (λ b ps e=>⟨#[],by rw [e];simp⟩) (λ m hm=>?_) (λ b u e=>?_) I.bare
 ·simp at hb
  rcases hb with e|e
  ·subst e;exact ⟨a3,a1,a4,a5⟩
  ·subst e;exact ⟨c3,c1,c4,c5⟩
 ·obtain ⟨o,es,ep,ho,r⟩:=hm
  exact ⟨o,es,ep,k _ o (Ne.symm a1) (Ne.symm c1) ho,r⟩
 ·refine (I.hok b u e).stay (λ d v hc q=>k d v ?_ ?_ q) (λ _ q=>q) λ _ _ q=>q
  ·rcases hc with z|z
   ·rw [z];exact na b u e
   ·exact na d _ z
  ·rcases hc with z|z
   ·rw [z];exact nc b u e
   ·exact nc d _ z
theorem ztz {h:Heap} {ob o:Obj} {b:Addr} (e:(h.push ob).get? b=some o) (n:b≠h.objs.size):h.get? b=some o:=by
 obtain ⟨e1,e2⟩:=Heap.get?_some_iff.mp e
 refine Heap.get?_some_iff.mpr ⟨?_,e2⟩
 cases h
 simpa [Heap.push,Array.getElem?_push,n] using e1
def Ite (K:Fg) (a:Addr):It:=⟨λ i H=>∃ xs x,SqL K H a xs/\xs[i]?=some x,λ i H x H'=>∃ y p,(∀ ys,SqL K H a ys->ys[i]?=some y)/\H p=none/\x=.ref p/\H'=upd H p (.tup [.int (i:Int),y]),λ i H=>∃ xs,SqL K H a xs/\xs.length<=i⟩
theorem zwo {P:Program} {w:World} {K:Fg} {elts:List Expr} {c:_} {pos:Pos} {a e it:Addr} (hne:e≠it) :
  Turn P w K (.Tuple elts c pos) (Ite K a) [e,it] e (λ i h=>(∃ old,IsEnum h e it (i:Int) old)/\h.IsListIter it a i) where
 mem:=by simp
 obj:=λ i h S b hb=>by
  obtain ⟨⟨old,he⟩,hi⟩:=S
  simp at hb
  rcases hb with rfl|rfl
  ·exact ⟨_,he,λ v q=>by cases q⟩
  ·obtain ⟨o,e1,c1,d1⟩:=hi
   exact ⟨o,e1,λ v z=>by rw [d1] at z;cases z⟩
 keep:=λ i h h' S k=>by
  obtain ⟨⟨old,he⟩,hi⟩:=S
  exact ⟨⟨old,k _ (by simp) _ he⟩,hi.at λ o e1=>k it (by simp) o e1⟩
 item:=by
  intro X hP hw hK hc i pins s σ H E I hf S hg
  subst hP hw hK
  obtain ⟨⟨old,he⟩,hi⟩:=S
  obtain ⟨xs,x,hq,hx⟩:=hg
  obtain ⟨its,rv,p,hz⟩:=I.list hq
  obtain ⟨u,hu,ru⟩:=rv.get hx
  refine wpAny_pyNext_enum_item he hi p.isList (x:=u) (by simpa using hu) hne λ h' ho hi' ht hsz hk=>?_
  have eL:e < s.heap.objs.size:=Heap.lt_size he
  have iL:it < s.heap.objs.size:=by obtain ⟨o,e1,_⟩:=hi;exact Heap.lt_size e1
  have hfr:=I.hok.fresh (Nat.le_refl s.heap.objs.size)
  have I1:L2.Inv X pins σ (upd H s.heap.objs.size (.tup [.int (i:Int),x])) { s with heap:=s.heap.push { cls:=.type "tuple",data:=.seq #[.int i s.toks,u] },toks:=s.toks+1 } :=
   I.laid (t':=s.toks+1) (o:=.tup [.int (i:Int),x]) (λ b ob q=>Heap.get?_push_of_some _ q) (Nat.le_refl _) ⟨by show 2<=sizeLine;rw [sizeLine_eq];decide,[.int i s.toks,u],.cons ⟨_,rfl⟩ (.cons ru .nil),IsTup.new _ _⟩
  have fe:=hf e (by simp)
  have fi:=hf it (by simp)
  have fe1:FpOk X pins (upd H s.heap.objs.size (.tup [.int (i:Int),x])) e:=⟨by rw [zw0 (Nat.ne_of_lt eL)];exact fe.1,fe.2⟩
  have fi1:FpOk X pins (upd H s.heap.objs.size (.tup [.int (i:Int),x])) it:=⟨by rw [zw0 (Nat.ne_of_lt iL)];exact fi.1,fi.2⟩
  have I2:L2.Inv X pins σ (upd H s.heap.objs.size (.tup [.int (i:Int),x])) { s with heap:=h',toks:=s.toks+1 } :=
   zyx (s:={ s with heap:=s.heap.push { cls:=.type "tuple",data:=.seq #[.int i s.toks,u] },toks:=s.toks+1 }) I1 (λ b o nb1 nb2 q=>by
    by_cases z:b=s.heap.objs.size
    ·subst z
     have q':(s.heap.push { cls:=.type "tuple",data:=.seq #[.int i s.toks,u] }).get? s.heap.objs.size=some o:=q
     rw [Heap.get?_push_size _ rfl] at q'
     cases q'
     exact ht
    ·exact hk b o nb1 nb2 (ztz q z)) fe1 fi1
  refine ⟨.ref s.heap.objs.size,rfl,wpAny_letOwnedTupleGo_enum ho λ h2 he2 hs2=>?_⟩
  refine ⟨.ref s.heap.objs.size,_,zqw (tk:=s.toks+1) I2 fe1 hs2,rfl,⟨x,s.heap.objs.size,λ ys hy=>by rw [I.list_inj hy hq];exact hx,hfr,rfl,rfl⟩,⟨⟨u,by simpa using he2⟩,hi'.at λ o e1=>hs2.extBut _ _ (Ne.symm hne) e1⟩,λ b hb=>?_⟩
  simp at hb
  rcases hb with rfl|rfl
  ·exact fe1.1
  ·exact fi1.1
 done:=by
  intro X hP hw hK hc i pins s σ H E I hf S hg
  subst hP hw hK
  obtain ⟨⟨old,he⟩,hi⟩:=S
  obtain ⟨xs,hq,hx⟩:=hg
  obtain ⟨its,rv,p,hz⟩:=I.list hq
  have hl:=rv.length
  exact wpAny_pyNext_enum_end (I.ok.hd hc) he hi p.isList (by simp;lia) λ h' eb=>⟨rfl,zs61 (tk:=s.toks) I (hf it (by simp)) eb⟩
 self:=λ _ _ _ _ _ S h=>wpAny_pyIter_enum S.1.choose_spec h
theorem zhi:bootBuiltins "enumerate"=some (.type "enumerate"):=by decide +kernel
section
variable {X:Cx} {elts:List Expr}
def zl91 (K:Fg) (vs:List V) (H:Hp) (R:It->Hp->Prop):Prop:=∃ a xs,vs=[.ref a]/\SqL K H a xs/\R (Ite K a) H
def zq31 (K:Fg) (ta:TA):TI:=λ σ H R=>ta σ H λ vs H1=>zl91 K vs H1 R
theorem zos {K:Fg} (hK:X.K=K) {c:_} {tpos:Pos} {a:Expr} {ta:TA} {p pos:Pos} (hg:Gl X "enumerate") (hm:X.mg "enumerate"=none) (ha:PA X [a] ta) (hs:starEach [a] X.env=[(false,eval a X.env)]:=by rfl) :
  PI X (.Tuple elts c tpos) (.Call (.Name "enumerate" p) [a] [] pos) (zq31 K ta):=by
 subst hK
 intro pins s σ H R I h
 refine Call_ (zbl I hg hm zhi (PyProof.Rows.callWith_type1 (thn (ha pos pins s σ H _ I h) λ us s1 ⟨vs,H1,I1,r1,q1⟩=>?_) (by rw [hs];rfl) (by rfl)))
 obtain ⟨l,xs,e,hq,q⟩:=q1
 subst e
 obtain ⟨u1,rfl,ru⟩:=zmr r1
 obtain rfl:u1=Value.ref l:=ru
 obtain ⟨its,rv,pl,hz⟩:=I1.list hq
 refine call_enumerate_list pl.isList ?_
 intro h' he hi hsz kk
 refine wpAny_pyIter_enum he ?_
 have I2:L2.Inv X pins σ H1 { s1 with heap:=h' }:=I1.kept (t':=s1.toks) kk
 refine ⟨s1.heap.objs.size+1,[s1.heap.objs.size+1,s1.heap.objs.size],_,_,H1,rfl,I2,zwo (Nat.succ_ne_self _),⟨⟨.none,he⟩,hi⟩,λ b hb=>?_,q⟩
 have hb':s1.heap.objs.size<=b:=by
  simp at hb
  rcases hb with z|z
  ·exact z ▸ Nat.le_succ _
  ·exact z ▸ Nat.le_refl _
 exact I1.fpOk hb' (I1.hok.fresh hb')
end
section
variable {K:Fg} {H:Hp} {a:Addr} {xs:List V} {σ:L2.St} {ta:TA}
end
def zz41:R2:=λ x y H Q=>ze81 x y H Q \/ rRep x y H Q
theorem zs1 {X:Cx}:OpR X (binaryOp .Mult) zz41:=zo01.or zq11
def zgv:V->List V->Hp->VK->Prop:=λ x vs H Q=>∃ a k d o,x=.ref a/\vs=[k,d]/\DGet H a k o/\Q (o.getD d) H
theorem zow {X:Cx} (hu:X.A.units+64 < cLine):MtR X "dict.get" zgv:=by
 intro pins s σ H x xs v us Q I rx rv h
 obtain ⟨a,k,d,o,rfl,rfl,g,q⟩:=h
 obtain ⟨u,r,rfl,ru,rr⟩:=zz11 rv
 obtain rfl:v=Value.ref a:=rx
 exact zv61 (by lia) I g ru rr λ w' s3 I3 rw'=>⟨o.getD d,H,I3,rw',q⟩
section
variable {K:Fg} {r:V->List V->Hp->VK->Prop} {t:TA} {σ:L2.St} {H:Hp} {Q:VK} {a:Addr} {d k:V} {o:Option V}
end
section
variable {X:Cx}
def zz81 (K:Fg):R2:=λ x y H Q=>∃ l b xs zs,x=.ref l/\y=.ref b/\SqL K H l xs/\SqL K H b zs/\xs.length+zs.length<=sizeLine/\∀ p,H p=none->Q (.ref p) (upd H p (.lst (xs++zs)))
theorem zqz {K:Fg} (hK:X.K=K):OpR X (binaryOp .Add) (zz81 K):=by
 subst hK
 intro pins s σ H x y v u Q I rx ry h
 obtain ⟨l,b,xs,zs,rfl,rfl,hH,hB,hz,q⟩:=h
 cases rx
 cases ry
 obtain ⟨its,r,⟨⟨cls,dd,data,sl⟩,n,ho,hc,_,hd⟩,z1⟩:=I.list hH
 obtain ⟨its2,r2,⟨⟨cls2,dd2,data2,sl2⟩,n2,ho2,hc2,_,hd2⟩,z2⟩:=I.list hB
 simp only at hc hd hc2 hd2
 subst hc hd hc2 hd2
 have e1:=r.length
 have e2:=r2.length
 refine concat_meets ⟨_,ho,rfl⟩ ⟨_,ho2,rfl⟩ noFill_list_add seq_list_add PySem.F.slot_list_add PySem.F.entry_list_add (PySem.F.args_list_add_2 _ _) (list_addW l b its.toArray its2.toArray n n2 dd dd2 sl sl2 (by simp;lia)) ⟨ho,ho2,?_⟩
 have ea:its.toArray++its2.toArray=(its++its2).toArray:=by simp
 rw [ea]
 exact ⟨.ref _,_,I.lnew (t':=s.toks) (r.append r2) (by rw [List.length_append];lia),rfl,q _ I.fresh⟩
def zso (K:Fg):R2:=λ x y H Q=>zw81 K x y H Q \/ zz81 K x y H Q
theorem zr0 {K:Fg} (hK:X.K=K):OpR X (binaryOp .Add) (zso K):=(zhz hK).or (zqz hK)
def rIsS (K:Fg):List V->Hp->VK->Prop:=λ vs H Q=>∃ a cV c b,vs=[.ref a,cV]/\clsV cV=some c/\(((∃ xs,SqL K H a xs)/\PySem.W.kitOne K (.type "list") c=some b) \/ ((∃ xs,SqT K H a xs)/\PySem.W.kitOne K (.type "tuple") c=some b))/\Q (.bl b) H
theorem znt {K:Fg} (h:X.K=K):zg9 X (.builtin "isinstance") (rIsS K):=by
 subst h
 intro pins s σ H xs us Q I r h
 obtain ⟨a,cV,c,b,rfl,rc,hh,q⟩:=h
 obtain ⟨u,v,rfl,ru,rv⟩:=r.two
 obtain rfl:=zwh rc rv
 cases (show u=Value.ref a from ru)
 rcases hh with ⟨⟨xs,hx⟩,e⟩|⟨⟨xs,hx⟩,e⟩
 ·obtain ⟨its,_,⟨o,n,ho,hc,_,hd⟩,_⟩:=I.list hx
  exact PySem.W.kia_one PySem.W.kitx_list I.kIn ⟨o,ho,hc⟩ e (λ z=>nomatch z) λ tk=>⟨.bl b,H,I.tok tk,rfl,q⟩
 ·obtain ⟨its,_,⟨o,h1,h2,_⟩,_⟩:=I.tuple hx
  exact PySem.W.kia_one PySem.W.kitx_tuple I.kIn ⟨o,h1,h2⟩ e (λ z=>nomatch z) λ tk=>⟨.bl b,H,I.tok tk,rfl,q⟩
theorem zg9.or {f:Value} {r1 r2:List V->Hp->VK->Prop} (h1:zg9 X f r1) (h2:zg9 X f r2):zg9 X f (λ vs H Q=>r1 vs H Q \/ r2 vs H Q):=by
 intro pins s σ H xs us Q I r h
 rcases h with h|h
 ·exact h1 pins s σ H xs us Q I r h
 ·exact h2 pins s σ H xs us Q I r h
def rIsW (K:Fg):List V->Hp->VK->Prop:=λ vs H Q=>rIsI K vs H Q \/ rIsS K vs H Q
theorem zdu {K:Fg} (h:X.K=K):zg9 X (.builtin "isinstance") (rIsW K):=(zfl h).or (znt h)
end
theorem IsAll.dlen {K:Fg} {F:Hp}:∀ {xs:List V} {ds:List PyData},IsAll K F xs ds->xs.length=ds.length
|_,_,.nil=>rfl
|_,_,.cons _ r=>congrArg (·+1) (IsAll.dlen r)
theorem IsAll.dget {K:Fg} {F:Hp}:∀ {xs:List V} {ds:List PyData} {i:Nat} {d:PyData},IsAll K F xs ds->ds[i]?=some d->∃ x,xs[i]?=some x/\Is K F x d
|_,_,_,_,.nil,e=>by simp at e
|_,_,0,_,.cons h _,e=>by simp at e;subst e;exact ⟨_,rfl,h⟩
|_,_,i+1,d,.cons _ r,e=>by
  obtain ⟨x,h1,h2⟩:=IsAll.dget (i:=i) (d:=d) r (by simpa using e)
  exact ⟨x,by simpa using h1,h2⟩
theorem IsAll.dapp {K:Fg} {F:Hp}:∀ {xs ys:List V} {ds es:List PyData},IsAll K F xs ds->IsAll K F ys es->IsAll K F (xs++ys) (ds++es)
|_,_,_,_,.nil,s=>s
|_,_,_,_,.cons h r,s=>.cons h (IsAll.dapp r s)
theorem IsAll.dtake {K:Fg} {F:Hp}:∀ (n:Nat) {xs:List V} {ds:List PyData},IsAll K F xs ds->IsAll K F (xs.take n) (ds.take n)
|0,_,_,_=>.nil
|_+1,_,_,.nil=>.nil
|n+1,_,_,.cons h r=>.cons h (IsAll.dtake n r)
theorem IsAll.ddrop {K:Fg} {F:Hp}:∀ (n:Nat) {xs:List V} {ds:List PyData},IsAll K F xs ds->IsAll K F (xs.drop n) (ds.drop n)
|0,_,_,h=>h
|_+1,_,_,.nil=>.nil
|n+1,_,_,.cons _ r=>IsAll.ddrop n r
theorem IsAll.dset {K:Fg} {F:Hp} {x:V} {d:PyData} (hx:Is K F x d):∀ (n:Nat) {xs:List V} {ds:List PyData},IsAll K F xs ds->IsAll K F (xs.set n x) (ds.set n d)
|_,_,_,.nil=>.nil
|0,_,_,.cons _ r=>.cons hx r
|n+1,_,_,.cons h r=>.cons h (IsAll.dset hx n r)
theorem Is.list_inv {K:Fg} {F:Hp} {v:V} {ds:List PyData} (h:Is K F v (.list ds)):∃ a xs,v=.ref a/\SqL K F a xs/\IsAll K F xs ds:=by
 cases h with
|lst h1 h2=>exact ⟨_,_,rfl,h1,h2⟩
theorem Is.tuple_inv {K:Fg} {F:Hp} {v:V} {ds:List PyData} (h:Is K F v (.tuple ds)):∃ a xs,v=.ref a/\SqT K F a xs/\IsAll K F xs ds:=by
 cases h with
|tup h1 h2=>exact ⟨_,_,rfl,SqT.of h1,h2⟩
|tuc h1 h2 _=>exact ⟨_,_,rfl,h1,h2⟩
theorem Is.int_inv {K:Fg} {F:Hp} {v:V} {i:Int} (h:Is K F v (.int i)):v=.int i:=by cases h;rfl
theorem Is.bl_inv {K:Fg} {F:Hp} {v:V} {b:Bool} (h:Is K F v (.bool b)):v=.bl b:=by cases h;rfl
theorem Is.str_inv {K:Fg} {F:Hp} {v:V} {b:Str} (h:Is K F v (.str b)):v=.str b:=by cases h;rfl
theorem Is.non_inv {K:Fg} {F:Hp} {v:V} (h:Is K F v .none):v=.non:=by cases h;rfl
end L3
namespace L4
open PySem PySem.Spec PyProof.Rows L2 L3
abbrev D:=PyData
structure Ext (F H F' H':Hp):Prop where
 h:Same H H'
 f:Same F F'
 fh:Same F' H'
 nw:∀ a,H a≠none->F a=none->F' a=none
theorem Ext.refl {F H:Hp} (s:Same F H):Ext F H F H:=⟨λ _ _ z=>z,λ _ _ z=>z,s,λ _ _ z=>z⟩
theorem Ext.trans {F H F1 H1 F2 H2:Hp} (a:Ext F H F1 H1) (b:Ext F1 H1 F2 H2):Ext F H F2 H2 :=
 ⟨a.h.trans b.h,a.f.trans b.f,b.fh,λ c hc fc=>b.nw c (λ z=>by
  cases e:H c with
 |none=>exact hc e
 |some o=>rw [a.h c o e] at z;cases z) (a.nw c hc fc)⟩
inductive T where
|fz (d:D)|li (ds:List D)|ls (ts:List T)|ob (C:Addr) (fs:List (Str×T))|dk (kvs:List (Key×D))|dt (kvs:List (List Key×D))|tp (ts:List T)
inductive KvIs (K:Fg) (F:Hp) {κ:Type}:List (κ×V)->List (κ×D)->Prop
|nil:KvIs K F [] []
|cons {k:κ} {v:V} {d:D} {r:List (κ×V)} {s:List (κ×D)}:Is K F v d->KvIs K F r s->KvIs K F ((k,v) :: r) ((k,d) :: s)
theorem KvIs.mono {K:Fg} {F F':Hp} {κ:Type} (s:Same F F'):∀ {r:List (κ×V)} {t:List (κ×D)},KvIs K F r t->KvIs K F' r t
|_,_,.nil=>.nil
|_,_,.cons h r=>.cons (h.mono s) (r.mono s)
mutual
inductive Rt (K:Fg) (F H:Hp):V->T->List Addr->Prop
|fz {v:V} {d:D}:Is K F v d->Rt K F H v (.fz d) []
|li {a:Addr} {xs:List V} {ds:List D}:H a=some (.lst xs)->F a=none->IsAll K F xs ds->Rt K F H (.ref a) (.li ds) [a]
|ls {a:Addr} {xs:List V} {ts:List T} {fp:List Addr}:H a=some (.lst xs)->F a=none->RtAll K F H xs ts fp->Rt K F H (.ref a) (.ls ts) (a :: fp)
|ob {a C dx:Addr} {fs:List (Str×V)} {ts:List (Str×T)} {fp:List Addr}:H a=some (.ins C dx fs)->H dx=some (.own a)->F a=none->F dx=none->RtFs K F H fs ts fp->Rt K F H (.ref a) (.ob C ts) (a :: dx :: fp)
|dk {a:Addr} {kvs:List (Key×V)} {ds:List (Key×D)}:H a=some (.dK kvs)->F a=none->KvIs K F kvs ds->Rt K F H (.ref a) (.dk ds) [a]
|dt {a:Addr} {kvs:List (List Key×V)} {ds:List (List Key×D)}:H a=some (.dT kvs)->F a=none->KvIs K F kvs ds->Rt K F H (.ref a) (.dt ds) [a]
|tp {a:Addr} {xs:List V} {ts:List T} {fp:List Addr}:H a=some (.tup xs)->F a=none->RtAll K F H xs ts fp->Rt K F H (.ref a) (.tp ts) (a :: fp)
inductive RtAll (K:Fg) (F H:Hp):List V->List T->List Addr->Prop
|nil:RtAll K F H [] [] []
|cons {x:V} {t:T} {xs:List V} {ts:List T} {fp fq:List Addr}:Rt K F H x t fp->RtAll K F H xs ts fq->RtAll K F H (x :: xs) (t :: ts) (fp++fq)
inductive RtFs (K:Fg) (F H:Hp):List (Str×V)->List (Str×T)->List Addr->Prop
|nil:RtFs K F H [] [] []
|cons {f:Str} {x:V} {t:T} {xs:List (Str×V)} {ts:List (Str×T)} {fp fq:List Addr}:Rt K F H x t fp->RtFs K F H xs ts fq->RtFs K F H ((f,x) :: xs) ((f,t) :: ts) (fp++fq)
end
section
variable {K:Fg} {F H F' H':Hp}
theorem Rt.ind {P : V → T → List Addr → Prop} {Q : List V → List T → List Addr → Prop} {R : List (Str × V) → List (Str × T) → List Addr → Prop}
    (c1 : ∀ {v : V} {d : D}, Is K F v d → P v (.fz d) [])
    (c2 : ∀ {a : Addr} {xs : List V} {ds : List D}, H a = some (.lst xs) → F a = none → IsAll K F xs ds → P (.ref a) (.li ds) [a])
    (c3 : ∀ {a : Addr} {xs : List V} {ts : List T} {fp : List Addr}, H a = some (.lst xs) → F a = none → Q xs ts fp → P (.ref a) (.ls ts) (a :: fp))
    (c4 : ∀ {a C dx : Addr} {fs : List (Str × V)} {ts : List (Str × T)} {fp : List Addr}, H a = some (.ins C dx fs) → H dx = some (.own a) → F a = none → F dx = none → R fs ts fp → P (.ref a) (.ob C ts) (a :: dx :: fp))
    (c5 : ∀ {a : Addr} {kvs : List (Key × V)} {ds : List (Key × D)}, H a = some (.dK kvs) → F a = none → KvIs K F kvs ds → P (.ref a) (.dk ds) [a])
    (c6 : ∀ {a : Addr} {kvs : List (List Key × V)} {ds : List (List Key × D)}, H a = some (.dT kvs) → F a = none → KvIs K F kvs ds → P (.ref a) (.dt ds) [a])
    (ct : ∀ {a : Addr} {xs : List V} {ts : List T} {fp : List Addr}, H a = some (.tup xs) → F a = none → Q xs ts fp → P (.ref a) (.tp ts) (a :: fp))
    (c7 : Q [] [] []) (c8 : ∀ {x : V} {t : T} {xs : List V} {ts : List T} {fp fq : List Addr}, P x t fp → Q xs ts fq → Q (x :: xs) (t :: ts) (fp ++ fq))
    (c9 : R [] [] []) (c0 : ∀ {f : Str} {x : V} {t : T} {xs : List (Str × V)} {ts : List (Str × T)} {fp fq : List Addr}, P x t fp → R xs ts fq → R ((f, x) :: xs) ((f, t) :: ts) (fp ++ fq)) :
    (∀ {v : V} {t : T} {fp : List Addr}, Rt K F H v t fp → P v t fp) ∧ (∀ {v : List V} {t : List T} {fp : List Addr}, RtAll K F H v t fp → Q v t fp) ∧ (∀ {v : List (Str × V)} {t : List (Str × T)} {fp : List Addr}, RtFs K F H v t fp → R v t fp) :=
  ⟨fun h => Rt.rec (motive_1 := fun v t fp _ => P v t fp) (motive_2 := fun v t fp _ => Q v t fp) (motive_3 := fun v t fp _ => R v t fp) c1 c2 (fun a b _ => c3 a b) (fun a b c d _ => c4 a b c d) c5 c6 (fun a b _ => ct a b) c7 (fun _ _ => c8) c9 (fun _ _ => c0) h,
   fun h => RtAll.rec (motive_1 := fun v t fp _ => P v t fp) (motive_2 := fun v t fp _ => Q v t fp) (motive_3 := fun v t fp _ => R v t fp) c1 c2 (fun a b _ => c3 a b) (fun a b c d _ => c4 a b c d) c5 c6 (fun a b _ => ct a b) c7 (fun _ _ => c8) c9 (fun _ _ => c0) h,
   fun h => RtFs.rec (motive_1 := fun v t fp _ => P v t fp) (motive_2 := fun v t fp _ => Q v t fp) (motive_3 := fun v t fp _ => R v t fp) c1 c2 (fun a b _ => c3 a b) (fun a b c d _ => c4 a b c d) c5 c6 (fun a b _ => ct a b) c7 (fun _ _ => c8) c9 (fun _ _ => c0) h⟩
def Keep (F' H H':Hp) (fp:List Addr):Prop:=∀ a∈fp,H' a=H a/\F' a=none
theorem Keep.hd {a:Addr} {fp:List Addr} {o:HO} (k:Keep F' H H' (a :: fp)) (h:H a=some o):H' a=some o:=(k a List.mem_cons_self).1.trans h
theorem Keep.no {a:Addr} {fp:List Addr} (k:Keep F' H H' (a :: fp)):F' a=none:=(k a List.mem_cons_self).2
theorem Keep.tl {a:Addr} {fp:List Addr} (k:Keep F' H H' (a :: fp)):Keep F' H H' fp:=λ b hb=>k b (List.mem_cons_of_mem _ hb)
theorem Keep.l {fp fq:List Addr} (k:Keep F' H H' (fp++fq)):Keep F' H H' fp:=λ b hb=>k b (List.mem_append_left _ hb)
theorem Keep.r {fp fq:List Addr} (k:Keep F' H H' (fp++fq)):Keep F' H H' fq:=λ b hb=>k b (List.mem_append_right _ hb)
theorem zci (s:Same F F'):(∀ {v:V} {t:T} {fp:List Addr},Rt K F H v t fp->Keep F' H H' fp->Rt K F' H' v t fp)/\(∀ {v:List V} {t:List T} {fp:List Addr},RtAll K F H v t fp->Keep F' H H' fp->RtAll K F' H' v t fp)/\(∀ {v:List (Str×V)} {t:List (Str×T)} {fp:List Addr},RtFs K F H v t fp->Keep F' H H' fp->RtFs K F' H' v t fp) :=
 Rt.ind (P:=λ v t fp=>Keep F' H H' fp->Rt K F' H' v t fp) (Q:=λ v t fp=>Keep F' H H' fp->RtAll K F' H' v t fp) (R:=λ v t fp=>Keep F' H H' fp->RtFs K F' H' v t fp)
  (λ h _=>.fz (h.mono s)) (λ h _ i k=>.li (k.hd h) k.no (i.mono s)) (λ h _ i k=>.ls (k.hd h) k.no (i k.tl)) (λ h h2 _ _ i k=>.ob (k.hd h) (k.tl.hd h2) k.no k.tl.no (i k.tl.tl))
  (λ h _ i k=>.dk (k.hd h) k.no (i.mono s)) (λ h _ i k=>.dt (k.hd h) k.no (i.mono s)) (λ h _ i k=>.tp (k.hd h) k.no (i k.tl)) (λ _=>.nil) (λ a b k=>.cons (a k.l) (b k.r)) (λ _=>.nil) (λ a b k=>.cons (a k.l) (b k.r))
theorem Rt.frame (s:Same F F') {v:V} {t:T} {fp:List Addr} (h:Rt K F H v t fp) (k:∀ a∈fp,H' a=H a/\F' a=none):Rt K F' H' v t fp:=(zci s).1 h k
theorem RtAll.frame (s:Same F F') {v:List V} {t:List T} {fp:List Addr} (h:RtAll K F H v t fp) (k:∀ a∈fp,H' a=H a/\F' a=none):RtAll K F' H' v t fp:=(zci s).2.1 h k
theorem RtFs.frame (s:Same F F') {v:List (Str×V)} {t:List (Str×T)} {fp:List Addr} (h:RtFs K F H v t fp) (k:∀ a∈fp,H' a=H a/\F' a=none):RtFs K F' H' v t fp:=(zci s).2.2 h k
def Dom (F H:Hp) (fp:List Addr):Prop:=∀ a∈fp,H a≠none/\F a=none
theorem Dom.nil:Dom F H []:=λ _ h=>nomatch h
theorem Dom.cons {a:Addr} {o:HO} {fp:List Addr} (h:H a=some o) (f:F a=none) (r:Dom F H fp):Dom F H (a :: fp):=λ b hb=>by
 rcases List.mem_cons.mp hb with e|e
 ·rw [e];exact ⟨λ z=>(by rw [h] at z;cases z),f⟩
 ·exact r b e
theorem Dom.app {fp fq:List Addr} (a:Dom F H fp) (b:Dom F H fq):Dom F H (fp++fq):=λ c hc=>(List.mem_append.mp hc).elim (a c) (b c)
theorem zrt:(∀ {v:V} {t:T} {fp:List Addr},Rt K F H v t fp->Dom F H fp)/\(∀ {v:List V} {t:List T} {fp:List Addr},RtAll K F H v t fp->Dom F H fp)/\(∀ {v:List (Str×V)} {t:List (Str×T)} {fp:List Addr},RtFs K F H v t fp->Dom F H fp) :=
 Rt.ind (P:=λ _ _ fp=>Dom F H fp) (Q:=λ _ _ fp=>Dom F H fp) (R:=λ _ _ fp=>Dom F H fp) (λ _=>.nil) (λ h f _=>.cons h f .nil) (λ h f r=>.cons h f r) (λ h h2 f f2 r=>.cons h f (.cons h2 f2 r))
  (λ h f _=>.cons h f .nil) (λ h f _=>.cons h f .nil) (λ h f r=>.cons h f r) .nil .app .nil .app
theorem Rt.dom {v:V} {t:T} {fp:List Addr} (h:Rt K F H v t fp):∀ a∈fp,H a≠none/\F a=none:=zrt.1 h
theorem RtAll.dom {v:List V} {t:List T} {fp:List Addr} (h:RtAll K F H v t fp):∀ a∈fp,H a≠none/\F a=none:=zrt.2.1 h
theorem RtFs.dom {v:List (Str×V)} {t:List (Str×T)} {fp:List Addr} (h:RtFs K F H v t fp):∀ a∈fp,H a≠none/\F a=none:=zrt.2.2 h
end
theorem Rt.ext {K:Fg} {F H F' H':Hp} {v:V} {t:T} {fp:List Addr} (e:Ext F H F' H') (h:Rt K F H v t fp):Rt K F' H' v t fp :=
 h.frame e.f λ a ha=>by
  obtain ⟨h1,h2⟩:=h.dom a ha
  cases q:H a with
 |none=>exact absurd q h1
 |some o=>exact ⟨e.h a o q,e.nw a h1 h2⟩
inductive Sl where
|un|sh (d:D)|ow (t:T)|bo (t:T)|io (a:Addr) (t:T)
abbrev DSt:=List Sl
abbrev DE:=DSt->(D->Prop)->Prop
abbrev DF:=DSt->(List D->Prop)->Prop
abbrev DT:=DSt->(Bool->Prop)->Prop
def RSl (K:Fg) (F H:Hp) (v:Option V):Sl->Prop
|.un=>True
|.sh d=>∃ x,v=some x/\Is K F x d
|.ow t=>∃ x fp,v=some x/\Rt K F H x t fp/\fp.Nodup
|.bo t=>∃ x fp,v=some x/\Rt K F H x t fp/\fp.Nodup
|.io a t=>∃ fp,v=some (.ref a)/\Rt K F H (.ref a) t fp/\fp.Nodup
theorem RSl.ext {K:Fg} {F H F' H':Hp} {v:Option V} (e:Ext F H F' H'):∀ {s:Sl},RSl K F H v s->RSl K F' H' v s
|.un,_=>trivial
|.sh _,⟨x,a,b⟩=>⟨x,a,b.mono e.f⟩
|.ow _,⟨a,xs,h1,h2,h3⟩=>⟨a,xs,h1,h2.ext e,h3⟩
|.bo _,⟨a,xs,h1,h2,h3⟩=>⟨a,xs,h1,h2.ext e,h3⟩
|.io _ _,⟨xs,h1,h2,h3⟩=>⟨xs,h1,h2.ext e,h3⟩
structure RV (K:Fg) (F H:Hp) (σ:L2.St) (δ:DSt):Prop where
 len:σ.length=δ.length
 sl:∀ i s,δ[i]?=some s->RSl K F H (σ.getD i none) s
theorem RV.ext {K:Fg} {F H F' H':Hp} {σ:L2.St} {δ:DSt} (e:Ext F H F' H') (r:RV K F H σ δ):RV K F' H' σ δ:=⟨r.len,λ i s h=>(r.sl i s h).ext e⟩
def Vw (K:Fg) (F H:Hp) (v:V) (d:D):Prop:=Is K F v d \/ ∃ a xs ds,v=.ref a/\d=.list ds/\H a=some (.lst xs)/\IsAll K F xs ds
theorem Vw.ext {K:Fg} {F H F' H':Hp} {v:V} {d:D} (e:Ext F H F' H') (h:Vw K F H v d):Vw K F' H' v d:=by
 rcases h with h|⟨a,xs,ds,h1,h2,h3,h4⟩
 ·exact .inl (h.mono e.f)
 ·exact .inr ⟨a,xs,ds,h1,h2,e.h _ _ h3,h4.mono e.f⟩
theorem Vw.is {K:Fg} {F H:Hp} {v:V} {d:D} (s:Same F H) (h:Vw K F H v d):Is K H v d:=by
 rcases h with h|⟨a,xs,ds,rfl,rfl,h3,h4⟩
 ·exact h.mono s
 ·exact .lst (SqL.of h3) (h4.mono s)
theorem Vw.list {K:Fg} {F H:Hp} {v:V} {ds:List D} (s:Same F H) (h:Vw K F H v (.list ds)):∃ a xs,v=.ref a/\SqL K H a xs/\IsAll K F xs ds:=by
 rcases h with h|⟨a,xs,ds',rfl,e,h3,h4⟩
 ·cases h with
 |lst h1 h2=>exact ⟨_,_,rfl,s.seq h1,h2⟩
 ·cases e;exact ⟨a,xs,rfl,SqL.of h3,h4⟩
theorem Vw.tuple {K:Fg} {F H:Hp} {v:V} {ds:List D} (s:Same F H) (h:Vw K F H v (.tuple ds)):∃ a xs,v=.ref a/\SqT K H a xs/\SqT K F a xs/\IsAll K F xs ds:=by
 rcases h with h|⟨a,xs,ds',rfl,e,h3,h4⟩
 ·cases h with
 |tup h1 h2=>exact ⟨_,_,rfl,zns s (SqT.of h1),SqT.of h1,h2⟩
 |tuc h1 h2 _=>exact ⟨_,_,rfl,zns s h1,h1,h2⟩
 ·cases e
theorem Vw.int {K:Fg} {F H:Hp} {v:V} {i:Int} (h:Vw K F H v (.int i)):v=.int i:=by
 rcases h with h|⟨a,xs,ds',rfl,e,h3,h4⟩
 ·exact h.int_inv
 ·cases e
theorem Vw.str {K:Fg} {F H:Hp} {v:V} {i:Str} (h:Vw K F H v (.str i)):v=.str i:=by
 rcases h with h|⟨a,xs,ds',rfl,e,h3,h4⟩
 ·exact h.str_inv
 ·cases e
theorem Vw.bl {K:Fg} {F H:Hp} {v:V} {i:Bool} (h:Vw K F H v (.bool i)):v=.bl i:=by
 rcases h with h|⟨a,xs,ds',rfl,e,h3,h4⟩
 ·exact h.bl_inv
 ·cases e
section
variable (K:Fg)
def RfE (te:TE) (de:DE):Prop:=∀ {F H:Hp} {σ:L2.St} {δ:DSt} {Qd:D->Prop} {Q:VK},Same F H->RV K F H σ δ->de δ Qd->(∀ d,Qd d->∀ v F' H',Ext F H F' H'->Is K F' v d->Q v H')->te σ H Q
def RfV (te:TE) (de:DE):Prop:=∀ {F H:Hp} {σ:L2.St} {δ:DSt} {Qd:D->Prop} {Q:VK},Same F H->RV K F H σ δ->de δ Qd->(∀ d,Qd d->∀ v F' H',Ext F H F' H'->Vw K F' H' v d->Q v H')->te σ H Q
def RfF (te:TE) (df:DF):Prop:=∀ {F H:Hp} {σ:L2.St} {δ:DSt} {Qd:List D->Prop} {Q:VK},Same F H->RV K F H σ δ->df δ Qd->(∀ ds,Qd ds->∀ a xs F' H',Ext F H F' H'->H a=none->H' a=some (.lst xs)->F' a=none->IsAll K F' xs ds->Q (.ref a) H')->te σ H Q
def RfT (tt:TT) (dt:DT):Prop:=∀ {F H:Hp} {σ:L2.St} {δ:DSt} {Qd:Bool->Prop} {Q:Bool->Hp->Prop},Same F H->RV K F H σ δ->dt δ Qd->(∀ b,Qd b->∀ F' H',Ext F H F' H'->Q b H')->tt σ H Q
def RfA (ta:TA) (da:DF):Prop:=∀ {F H:Hp} {σ:L2.St} {δ:DSt} {Qd:List D->Prop} {Q:List V->Hp->Prop},Same F H->RV K F H σ δ->da δ Qd->(∀ ds,Qd ds->∀ vs F' H',Ext F H F' H'->IsAll K F' vs ds->Q vs H')->ta σ H Q
inductive VwAll (F H:Hp):List V->List D->Prop
|nil:VwAll F H [] []
|cons {v:V} {d:D} {vs:List V} {ds:List D}:Vw K F H v d->VwAll F H vs ds->VwAll F H (v :: vs) (d :: ds)
def RfAV (ta:TA) (da:DF):Prop:=∀ {F H:Hp} {σ:L2.St} {δ:DSt} {Qd:List D->Prop} {Q:List V->Hp->Prop},Same F H->RV K F H σ δ->da δ Qd->(∀ ds,Qd ds->∀ vs F' H',Ext F H F' H'->VwAll K F' H' vs ds->Q vs H')->ta σ H Q
def RfO (to:TO) (dO:DSt->(Option Int->Prop)->Prop):Prop:=∀ {F H:Hp} {σ:L2.St} {δ:DSt} {Qd:Option Int->Prop} {Q:Option Int->Hp->Prop},Same F H->RV K F H σ δ->dO δ Qd->(∀ o,Qd o->∀ F' H',Ext F H F' H'->Q o H')->to σ H Q
end
section
variable {K:Fg} {te ta tb tc:TE} {de da db dc:DE} {tt tu:TT} {dt du:DT} {tA:TA} {dA:DF}
theorem zul {F H F' H':Hp} {a:Addr} {xs:List V} {ds:List D} (e:Ext F H F' H') (hn:H a=none) (h1:H' a=some (.lst xs)) (h2:F' a=none) (h3:IsAll K F' xs ds) :
  Ext F H (upd F' a (.lst xs)) H'/\Is K (upd F' a (.lst xs)) (.ref a) (.list ds):=by
 have s:Same F' (upd F' a (.lst xs)):=λ b o z=>by
  by_cases hb:b=a
  ·subst hb;rw [h2] at z;cases z
  ·rw [zw0 hb];exact z
 refine ⟨⟨e.h,e.f.trans s,λ b o z=>?_,λ b hb fb=>?_⟩,.lst (SqL.of zp0) (h3.mono s)⟩
 ·by_cases hb:b=a
  ·subst hb;rw [zp0] at z;cases z;exact h1
  ·rw [zw0 hb] at z;exact e.fh b o z
 ·have:b≠a:=λ z=>hb (by rw [z];exact hn)
  rw [zw0 this];exact e.nw b hb fb
theorem zak {F H:Hp} {p:Addr} {xs:List V} {ds:List D} (s:Same F H) (hn:H p=none) (h3:IsAll K F xs ds) :
  Ext F H (upd F p (.tup xs)) (upd H p (.tup xs))/\Is K (upd F p (.tup xs)) (.ref p) (.tuple ds):=by
 have fn:F p=none:=by
  cases e:F p with
 |none=>rfl
 |some o=>rw [s p o e] at hn;cases hn
 have sF:Same F (upd F p (.tup xs)):=zp2 fn _
 refine ⟨⟨zp2 hn _,sF,λ b o z=>?_,λ b hb fb=>?_⟩,.tup zp0 (h3.mono sF)⟩
 ·by_cases hb:b=p
  ·subst hb;rw [zp0] at z ⊢;exact z
  ·rw [zw0 hb] at z ⊢;exact s b o z
 ·have:b≠p:=λ z=>hb (by rw [z];exact hn)
  rw [zw0 this];exact fb
theorem zt7 {F H:Hp} {p:Addr} {xs:List V} (s:Same F H) (hn:H p=none):Ext F H F (upd H p (.lst xs))/\F p=none:=by
 have fn:F p=none:=by
  cases e:F p with
 |none=>rfl
 |some o=>rw [s p o e] at hn;cases hn
 refine ⟨⟨zp2 hn _,λ _ _ z=>z,λ b o z=>?_,λ _ _ z=>z⟩,fn⟩
 exact zp2 hn _ b o (s b o z)
theorem RfE.v (h:RfE K te de):RfV K te de:=λ s r d k=>h s r d λ x q v F' H' e i=>k x q v F' H' e (.inl i)
def dF (df:DF):DE:=λ δ Q=>df δ λ ds=>Q (.list ds)
theorem RfF.e {df:DF} (h:RfF K te df):RfE K te (dF df):=λ s r d k=>h s r d λ ds q a xs F' H' e hn h1 h2 h3=>by
 obtain ⟨e2,i2⟩:=zul e hn h1 h2 h3
 exact k _ q _ _ _ e2 i2
theorem RfF.v {df:DF} (h:RfF K te df):RfV K te (dF df):=RfE.v (RfF.e h)
def Sl.tree:Sl->Option T
|.ow t=>some t
|.bo t=>some t
|.io _ t=>some t
|.sh d=>some (.fz d)
|.un=>none
def fzT:T->(D->Prop)->Prop
|.fz d,Q=>Q d
|_,_=>False
def vwT:T->(D->Prop)->Prop
|.fz d,Q=>Q d
|.li ds,Q=>Q (.list ds)
|_,_=>False
def dVar (i:Nat):DE:=λ δ Q=>∃ s t,δ[i]?=some s/\s.tree=some t/\fzT t Q
def zy1 (i:Nat):DE:=λ δ Q=>∃ s t,δ[i]?=some s/\s.tree=some t/\vwT t Q
theorem zp7 {F H:Hp} {σ:L2.St} {δ:DSt} {i:Nat} {x:V} (e:σ.getD i none=some x):σ[i]?=some (some x):=by
 rw [List.getD_eq_getElem?_getD] at e
 cases q:σ[i]? with
|none=>rw [q] at e;cases e
|some v=>rw [q] at e;exact congrArg some e
theorem RSl.rt {F H:Hp} {v:Option V}:∀ {s:Sl} {t:T},RSl K F H v s->s.tree=some t->∃ x fp,v=some x/\Rt K F H x t fp/\fp.Nodup
|.un,_,_,e=>by cases e
|.sh d,_,⟨x,h1,h2⟩,e=>by cases e;exact ⟨x,[],h1,.fz h2,.nil⟩
|.ow _,_,⟨x,fp,h1,h2⟩,e=>by cases e;exact ⟨x,fp,h1,h2⟩
|.bo _,_,⟨x,fp,h1,h2⟩,e=>by cases e;exact ⟨x,fp,h1,h2⟩
|.io a _,_,⟨fp,h1,h2⟩,e=>by cases e;exact ⟨_,fp,h1,h2⟩
theorem zw71 {F H:Hp} {x:V} {t:T} {fp:List Addr} {Q:D->Prop} (h:Rt K F H x t fp) (q:vwT t Q):∃ d,Q d/\Vw K F H x d:=by
 cases h with
|fz i=>exact ⟨_,q,.inl i⟩
|li h1 h2 h3=>exact ⟨_,q,.inr ⟨_,_,_,rfl,rfl,h1,h3⟩⟩
|ls _ _ _=>exact q.elim
|ob _ _ _ _ _=>exact q.elim
|dk _ _ _=>exact q.elim
|dt _ _ _=>exact q.elim
|tp _ _ _=>exact q.elim
theorem zby {F H:Hp} {x:V} {t:T} {fp:List Addr} {Q:D->Prop} (h:Rt K F H x t fp) (q:fzT t Q):∃ d,Q d/\Is K F x d:=by
 cases h with
|fz i=>exact ⟨_,q,i⟩
|li _ _ _=>exact q.elim
|ls _ _ _=>exact q.elim
|ob _ _ _ _ _=>exact q.elim
|dk _ _ _=>exact q.elim
|dt _ _ _=>exact q.elim
|tp _ _ _=>exact q.elim
theorem zi0 (i:Nat):RfE K (tVar i) (dVar i):=by
 intro F H σ δ Qd Q s r h k
 obtain ⟨sl,t,q,et,f⟩:=h
 obtain ⟨x,fp,e,hr,_⟩:=(r.sl i _ q).rt et
 obtain ⟨d,qd,hi⟩:=zby hr f
 exact ⟨x,zp7 (F:=F) (H:=H) (δ:=δ) e,k d qd x F H (Ext.refl s) hi⟩
theorem zb0 (i:Nat):RfV K (tVar i) (zy1 i):=by
 intro F H σ δ Qd Q s r h k
 obtain ⟨sl,t,q,et,f⟩:=h
 obtain ⟨x,fp,e,hr,_⟩:=(r.sl i _ q).rt et
 obtain ⟨d,qd,hi⟩:=zw71 hr f
 exact ⟨x,zp7 (F:=F) (H:=H) (δ:=δ) e,k d qd x F H (Ext.refl s) hi⟩
def dC (d:D):DE:=λ _ Q=>Q d
theorem zd1 {i:Int}:RfE K (tC (.int i)) (dC (.int i)):=λ s r h k=>k _ h _ _ _ (Ext.refl s) (.int i)
theorem zrl {b:Bool}:RfE K (tC (.bl b)) (dC (.bool b)):=λ s r h k=>k _ h _ _ _ (Ext.refl s) (.bl b)
theorem zng {x:Str}:RfE K (tC (.str x)) (dC (.str x)):=λ s r h k=>k _ h _ _ _ (Ext.refl s) (.str x)
theorem zv31:RfE K (tC .non) (dC .none):=λ s r h k=>k _ h _ _ _ (Ext.refl s) .non
def dOp (f:D->D->(D->Prop)->Prop) (da db:DE):DE:=λ δ Q=>da δ λ x=>db δ λ y=>f x y Q
def R2E (K:Fg) (r:R2) (f:D->D->(D->Prop)->Prop):Prop:=∀ {F H:Hp} {x y:V} {d e:D} {Qd:D->Prop} {Q:VK},Same F H->Vw K F H x d->Vw K F H y e->f d e Qd->(∀ z,Qd z->∀ v F' H',Ext F H F' H'->Is K F' v z->Q v H')->r x y H Q
def R2F (K:Fg) (r:R2) (f:D->D->(List D->Prop)->Prop):Prop:=∀ {F H:Hp} {x y:V} {d e:D} {Qd:List D->Prop} {Q:VK},Same F H->Vw K F H x d->Vw K F H y e->f d e Qd->(∀ ds,Qd ds->∀ a xs F' H',Ext F H F' H'->H a=none->H' a=some (.lst xs)->F' a=none->IsAll K F' xs ds->Q (.ref a) H')->r x y H Q
theorem zj0 {r:R2} {f:D->D->(D->Prop)->Prop} (hr:R2E K r f) (ha:RfV K ta da) (hb:RfV K tb db):RfE K (tOp r ta tb) (dOp f da db):=by
 intro F H σ δ Qd Q s rv h k
 refine ha s rv h λ x hx v F1 H1 e1 i1=>hb e1.fh (rv.ext e1) hx λ y hy u F2 H2 e2 i2=>?_
 exact hr e2.fh (i1.ext e2) i2 hy λ z hz w F3 H3 e3 i3=>k z hz w F3 H3 ((e1.trans e2).trans e3) i3
def dOpF (f:D->D->(List D->Prop)->Prop) (da db:DE):DF:=λ δ Q=>da δ λ x=>db δ λ y=>f x y Q
theorem zy41 {r:R2} {f:D->D->(List D->Prop)->Prop} (hr:R2F K r f) (ha:RfV K ta da) (hb:RfV K tb db):RfF K (tOp r ta tb) (dOpF f da db):=by
 intro F H σ δ Qd Q s rv h k
 refine ha s rv h λ x hx v F1 H1 e1 i1=>hb e1.fh (rv.ext e1) hx λ y hy u F2 H2 e2 i2=>?_
 refine hr e2.fh (i1.ext e2) i2 hy λ ds hz a xs F3 H3 e3 hn h1 h2 h3=>k ds hz a xs F3 H3 ((e1.trans e2).trans e3) ?_ h1 h2 h3
 cases q:H a with
|none=>rfl
|some o=>rw [(e1.trans e2).h a o q] at hn;cases hn
end
end L4
namespace L4
open PySem PySem.Spec PyProof.Rows L2 L3
section
variable {K:Fg} {te ta tb tc:TE} {de da db dc:DE} {tt tu:TT} {dt du:DT} {tA:TA} {dA:DF} {w:World}
def fAdd:D->D->(D->Prop)->Prop
|.int i,.int j,Q=>Q (.int (i+j))
|.str a,.str b,Q=>a.length+b.length<=sizeLine/\Q (.str (a++b))
|.list a,.list b,Q=>a.length+b.length<=sizeLine/\Q (.list (a++b))
|.tuple a,.tuple b,Q=>a≠[]/\b≠[]/\a.length+b.length<=sizeLine/\Q (.tuple (a++b))
|_,_,_=>False
def fCat:D->D->(List D->Prop)->Prop
|.list a,.list b,Q=>a.length+b.length<=sizeLine/\Q (a++b)
|_,_,_=>False
theorem zu81:R2F K (zso K) fCat:=by
 intro F H x y d e Qd Q s hx hy h k
 unfold fCat at h
 split at h
 ·rename_i a b
  obtain ⟨p,xs,rfl,h1,i1⟩:=hx.list s
  obtain ⟨q,ys,rfl,h2,i2⟩:=hy.list s
  have e1:=i1.dlen
  have e2:=i2.dlen
  refine .inr ⟨p,q,xs,ys,rfl,rfl,h1,h2,by lia,λ l hl=>?_⟩
  obtain ⟨ex,fn⟩:=zt7 (xs:=xs++ys) s hl
  exact k _ h.2 l _ F _ ex hl zp0 fn (i1.dapp i2)
 ·exact h.elim
theorem zo2:R2E K (zso K) fAdd:=by
 intro F H x y d e Qd Q s hx hy h k
 unfold fAdd at h
 split at h
 ·cases hx.int;cases hy.int
  exact .inl (.inl ⟨_,_,rfl,rfl,k _ h _ F H (Ext.refl s) (.int _)⟩)
 ·cases hx.str;cases hy.str
  exact .inl (.inr (.inl ⟨_,_,rfl,rfl,h.1,k _ h.2 _ F H (Ext.refl s) (.str _)⟩))
 ·rename_i a b
  refine zu81 (Qd:=λ ds=>Qd (.list ds)) s hx hy h λ ds q l xs F' H' ex hn h1 h2 h3=>?_
  obtain ⟨e2,i2⟩:=zul ex hn h1 h2 h3
  exact k _ q _ _ _ e2 i2
 ·rename_i a b
  obtain ⟨p,xs,rfl,h1,_,i1⟩:=hx.tuple s
  obtain ⟨q,ys,rfl,h2,_,i2⟩:=hy.tuple s
  have e1:=i1.dlen
  have e2:=i2.dlen
  have n1:xs≠[]:=λ z=>h.1 (List.length_eq_zero_iff.mp (by rw [<- e1,z];rfl))
  have n2:ys≠[]:=λ z=>h.2.1 (List.length_eq_zero_iff.mp (by rw [<- e2,z];rfl))
  refine .inl (.inr (.inr (.inr ⟨p,q,xs,ys,rfl,rfl,h1,h2,n1,by lia,λ z=>absurd z n2,λ _ l hl=>?_⟩)))
  obtain ⟨ex,ii⟩:=zak (K:=K) (ds:=a++b) s hl (i1.dapp i2)
  exact k _ h.2.2.2 _ _ _ ex ii
 ·exact h.elim
def fI (C:Int->Int->Prop) (g:Int->Int->D):D->D->(D->Prop)->Prop
|.int i,.int j,Q=>C i j/\Q (g i j)
|_,_,_=>False
def fI0 (g:Int->Int->D):D->D->(D->Prop)->Prop
|.int i,.int j,Q=>Q (g i j)
|_,_,_=>False
theorem r_I {C:Int->Int->Prop} {g:Int->Int->V} {g':Int->Int->D} (hg:∀ i j (F:Hp),Is K F (g i j) (g' i j)):R2E K (rI C g) (fI C g'):=by
 intro F H x y d e Qd Q s hx hy h k
 unfold fI at h
 split at h
 ·cases hx.int;cases hy.int
  exact ⟨_,_,rfl,rfl,h.1,k _ h.2 _ F H (Ext.refl s) (hg _ _ _)⟩
 ·exact h.elim
theorem r_I0 {g:Int->Int->V} {g':Int->Int->D} (hg:∀ i j (F:Hp),Is K F (g i j) (g' i j)):R2E K (rI0 g) (fI0 g'):=by
 intro F H x y d e Qd Q s hx hy h k
 unfold fI0 at h
 split at h
 ·cases hx.int;cases hy.int
  exact ⟨_,_,rfl,rfl,k _ h _ F H (Ext.refl s) (hg _ _ _)⟩
 ·exact h.elim
abbrev fSub:=fI0 λ i j=>.int (i - j)
abbrev fDiv:=fI zm21 λ i j=>.int (i / j)
abbrev fMod:=fI (λ _ j=>0 < j) λ i j=>.int (i % j)
abbrev fPow:=fI CPow λ i j=>.int (i ^ j.toNat)
abbrev fLt:=fI0 λ i j=>.bool (decide (i < j))
abbrev fLe:=fI0 λ i j=>.bool (decide (i<=j))
abbrev fGt:=fI0 λ i j=>.bool (decide (j < i))
abbrev fGe:=fI0 λ i j=>.bool (decide (j<=i))
theorem zsn:R2E K (rI0 λ i j=>V.int (i - j)) fSub:=r_I0 λ _ _ _=>.int _
theorem zg7:R2E K (rI zm21 λ i j=>V.int (i / j)) fDiv:=r_I λ _ _ _=>.int _
theorem zf2:R2E K (rI (λ _ j=>0 < j) λ i j=>V.int (i % j)) fMod:=r_I λ _ _ _=>.int _
theorem zjp:R2E K (rI CPow λ i j=>V.int (i ^ j.toNat)) fPow:=r_I λ _ _ _=>.int _
theorem r_lt:R2E K (rI0 λ i j=>V.bl (decide (i < j))) fLt:=r_I0 λ _ _ _=>.bl _
theorem r_le:R2E K (rI0 λ i j=>V.bl (decide (i<=j))) fLe:=r_I0 λ _ _ _=>.bl _
theorem r_gt:R2E K (rI0 λ i j=>V.bl (decide (j < i))) fGt:=r_I0 λ _ _ _=>.bl _
theorem r_ge:R2E K (rI0 λ i j=>V.bl (decide (j<=i))) fGe:=r_I0 λ _ _ _=>.bl _
def fMul:D->D->(D->Prop)->Prop
|.int i,.int j,Q=>CMul i j/\Q (.int (i * j))
|.str z,.int n,Q=>0<=n/\z.length * n.toNat<=sizeLine/\n<=sizeLine/\Q (.str (repS z n.toNat))
|_,_,_=>False
theorem zpc:R2E K zz41 fMul:=by
 intro F H x y d e Qd Q s hx hy h k
 unfold fMul at h
 split at h
 ·cases hx.int;cases hy.int
  exact .inl (.inl (.inl ⟨_,_,rfl,rfl,h.1,k _ h.2 _ F H (Ext.refl s) (.int _)⟩))
 ·cases hx.str;cases hy.int
  exact .inl (.inr ⟨_,_,rfl,rfl,h.1,h.2.1,h.2.2.1,k _ h.2.2.2 _ F H (Ext.refl s) (.str _)⟩)
 ·exact h.elim
def fRep:List D->D->(List D->Prop)->Prop
|ds,.int n,Q=>n < 2 ^ 62/\-(2 ^ 62)<=n/\ds.length * n.toNat<=sizeLine/\Q (List.replicate n.toNat ds).flatten
|_,_,_=>False
def dRep (df:DF) (db:DE):DF:=λ δ Q=>df δ λ ds=>db δ λ y=>fRep ds y Q
theorem zar {F:Hp} {xs:List V} {ds:List D} (h:IsAll K F xs ds):∀ n:Nat,IsAll K F (List.replicate n xs).flatten (List.replicate n ds).flatten
|0=>.nil
|n+1=>by rw [List.replicate_succ,List.replicate_succ,List.flatten_cons,List.flatten_cons];exact h.dapp (zar h n)
theorem zlv {df:DF} (ha:RfF K ta df) (hb:RfE K tb db):RfF K (tOp zz41 ta tb) (dRep df db):=by
 intro F H σ δ Qd Q s rv h k
 refine ha s rv h λ ds hx a xs F1 H1 e1 hn h1 h2 h3=>hb e1.fh (rv.ext e1) hx λ y hy u F2 H2 e2 i2=>?_
 unfold fRep at hy
 split at hy
 ·rename_i n
  cases i2.int_inv
  have el:=h3.dlen
  refine .inr ⟨a,n,xs,rfl,rfl,e2.h _ _ h1,by lia,by lia,by rw [el];exact hy.2.2.1,λ p hp=>?_⟩
  obtain ⟨ex,fn⟩:=zt7 (xs:=(List.replicate n.toNat xs).flatten) e2.fh hp
  refine k _ hy.2.2.2 p _ F2 _ ((e1.trans e2).trans ex) ?_ zp0 fn (zar (h3.mono e2.f) _)
  cases q:H p with
 |none=>rfl
 |some o=>rw [(e1.trans e2).h p o q] at hp;cases hp
 ·exact hy.elim
def fEq:D->D->(D->Prop)->Prop
|.int i,.int j,Q=>Q (.bool (decide (i=j)))
|.str i,.str j,Q=>Q (.bool (decide (i=j)))
|.bool i,.bool j,Q=>Q (.bool (decide (i=j)))
|d,e,Q=>SeqAt.shaped d=true/\SeqAt.shaped e=true/\Q (.bool (PyData.eqv d e))
def fNe:D->D->(D->Prop)->Prop
|.int i,.int j,Q=>Q (.bool (!decide (i=j)))
|.str i,.str j,Q=>Q (.bool (!decide (i=j)))
|.bool i,.bool j,Q=>Q (.bool (!decide (i=j)))
|d,e,Q=>SeqAt.shaped d=true/\SeqAt.shaped e=true/\Q (.bool (!PyData.eqv d e))
theorem zvg (i j:Int):decide (V.int i=V.int j)=decide (i=j):=by simp
theorem zzf (i j:Str):decide (V.str i=V.str j)=decide (i=j):=by simp
theorem zqn (i j:Bool):decide (V.bl i=V.bl j)=decide (i=j):=by simp
def fIx:D->D->(D->Prop)->Prop
|.list ds,.int i,Q=>∃ d,atI ds i=some d/\Q d
|.tuple ds,.int i,Q=>∃ d,atI ds i=some d/\Q d
|.str z,.int i,Q=>z.length<=sizeLine/\∃ c,atI z.cps.toList i=some c/\Q (.str ⟨#[c]⟩)
|_,_,_=>False
theorem zt11 {F:Hp} {xs:List V} {ds:List D} {i:Int} {d:D} (h:IsAll K F xs ds) (e:atI ds i=some d):∃ x,atI xs i=some x/\Is K F x d:=by
 unfold atI at e ⊢
 rw [h.dlen]
 cases q:ixN ds.length i with
|none=>rw [q] at e;cases e
|some j =>
  rw [q] at e
  obtain ⟨x,h1,h2⟩:=h.dget (show ds[j]?=some d from e)
  exact ⟨x,h1,h2⟩
theorem r_ix:R2E K (rIxV w K) fIx:=by
 intro F H x y d e Qd Q s hx hy h k
 unfold fIx at h
 split at h
 ·obtain ⟨z,ez,q⟩:=h
  obtain ⟨p,xs,rfl,h1,i1⟩:=hx.list s
  cases hy.int
  obtain ⟨v,ev,iv⟩:=zt11 i1 ez
  exact .inl (.inl (.inl ⟨p,xs,_,v,rfl,rfl,h1,ev,k _ q _ F H (Ext.refl s) iv⟩))
 ·obtain ⟨z,ez,q⟩:=h
  obtain ⟨p,xs,rfl,h1,_,i1⟩:=hx.tuple s
  cases hy.int
  obtain ⟨v,ev,iv⟩:=zt11 i1 ez
  exact .inl (.inl (.inr (.inl ⟨p,xs,_,v,rfl,rfl,h1,ev,k _ q _ F H (Ext.refl s) iv⟩)))
 ·obtain ⟨hz,c,ec,q⟩:=h
  cases hx.str;cases hy.int
  exact .inl (.inl (.inr (.inr ⟨_,_,c,rfl,rfl,hz,ec,k _ q _ F H (Ext.refl s) (.str _)⟩)))
 ·exact h.elim
def zut:D->Bool
|.none=>true
|.bool _=>true
|.int _=>true
|.str _=>true
|_=>false
def dUn (f:D->(D->Prop)->Prop) (da:DE):DE:=λ δ Q=>da δ λ x=>f x Q
def fNeg:D->(D->Prop)->Prop
|.int i,Q=>Q (.int (-i))
|_,_=>False
theorem zsp (ha:RfE K ta da):RfE K (tUn (rU λ i=>V.int (-i)) ta) (dUn fNeg da):=by
 intro F H σ δ Qd Q s rv h k
 refine ha s rv h λ x hx v F1 H1 e1 i1=>?_
 unfold fNeg at hx
 split at hx
 ·cases i1.int_inv
  exact ⟨_,rfl,k _ hx _ F1 H1 e1 (.int _)⟩
 ·exact hx.elim
def fB (d:D) (Q:Bool->Prop):Prop:=match d with
|.bool b=>Q b
|_=>False
theorem zv11 {F:Hp} {v:V} {d:D} {Q:Bool->Prop} (i:Is K F v d) (h:fB d Q):∃ b,v=.bl b/\Q b:=by
 unfold fB at h
 split at h
 ·exact ⟨_,i.bl_inv,h⟩
 ·exact h.elim
def zn31 (da:DE):DE:=λ δ Q=>da δ λ x=>fB x λ b=>Q (.bool (!b))
theorem zc01 (ha:RfE K ta da):RfE K (zfy ta) (zn31 da):=by
 intro F H σ δ Qd Q s rv h k
 refine ha s rv h λ x hx v F1 H1 e1 i1=>?_
 obtain ⟨b,rfl,q⟩:=zv11 i1 hx
 exact ⟨b,rfl,k _ q _ F1 H1 e1 (.bl _)⟩
def zu41 (da db:DE):DE:=λ δ Q=>da δ λ x=>fB x λ b=>if b=true then db δ Q else Q (.bool false)
theorem zax (ha:RfE K ta da) (hb:RfE K tb db):RfE K (za81 ta tb) (zu41 da db):=by
 intro F H σ δ Qd Q s rv h k
 refine ha s rv h λ x hx v F1 H1 e1 i1=>?_
 obtain ⟨b,rfl,q⟩:=zv11 i1 hx
 refine ⟨b,rfl,?_⟩
 cases b with
|true =>
  rw [if_pos rfl] at q ⊢
  exact hb e1.fh (rv.ext e1) q λ y hy u F2 H2 e2 i2=>k y hy u F2 H2 (e1.trans e2) i2
|false =>
  rw [if_neg Bool.false_ne_true] at q ⊢
  exact k _ q _ F1 H1 e1 (.bl _)
def dOrV (da db:DE):DE:=λ δ Q=>da δ λ x=>fB x λ b=>if b=true then Q (.bool true) else db δ Q
theorem zn51 (ha:RfE K ta da) (hb:RfE K tb db):RfE K (tOrV ta tb) (dOrV da db):=by
 intro F H σ δ Qd Q s rv h k
 refine ha s rv h λ x hx v F1 H1 e1 i1=>?_
 obtain ⟨b,rfl,q⟩:=zv11 i1 hx
 refine ⟨b,rfl,?_⟩
 cases b with
|false =>
  rw [if_neg Bool.false_ne_true] at q ⊢
  exact hb e1.fh (rv.ext e1) q λ y hy u F2 H2 e2 i2=>k y hy u F2 H2 (e1.trans e2) i2
|true =>
  rw [if_pos rfl] at q ⊢
  exact k _ q _ F1 H1 e1 (.bl _)
def zpi (de:DE):DT:=λ δ Q=>de δ λ d=>fB d Q
theorem zs0 (h:RfE K te de):RfT K (zbu te) (zpi de):=by
 intro F H σ δ Qd Q s rv hd k
 refine h s rv hd λ x hx v F1 H1 e1 i1=>?_
 obtain ⟨b,rfl,q⟩:=zv11 i1 hx
 exact ⟨b,rfl,k b q F1 H1 e1⟩
def fTru:D->(Bool->Prop)->Prop
|.none,Q=>Q false
|.bool b,Q=>Q b
|.int i,Q=>Q (i != 0)
|.str z,Q=>z.length<=sizeLine/\Q ((z.length:Int) != 0)
|.list ds,Q=>Q (!ds.isEmpty)
|.tuple ds,Q=>Q (!ds.isEmpty)
|.dict _,_=>False
def dTru (de:DE):DT:=λ δ Q=>de δ λ d=>fTru d Q
theorem zek {F:Hp} {xs:List V} {ds:List D} (h:IsAll K F xs ds):xs.isEmpty=ds.isEmpty:=by cases h <;> rfl
theorem zix (h:RfV K te de):RfT K (ze91 K te) (dTru de):=by
 intro F H σ δ Qd Q s rv hd k
 refine h s rv hd λ x hx v F1 H1 e1 i1=>?_
 unfold fTru at hx
 split at hx
 ·cases i1.is e1.fh;exact ⟨false,rfl,k _ hx F1 H1 e1⟩
 ·cases i1.bl;exact ⟨_,rfl,k _ hx F1 H1 e1⟩
 ·cases i1.int;exact ⟨_,rfl,k _ hx F1 H1 e1⟩
 ·cases i1.str;exact ⟨_,⟨hx.1,rfl⟩,k _ hx.2 F1 H1 e1⟩
 ·obtain ⟨p,xs,rfl,h1,i2⟩:=i1.list e1.fh
  refine ⟨_,.inl ⟨xs,h1,rfl⟩,?_⟩
  rw [zek i2];exact k _ hx F1 H1 e1
 ·obtain ⟨p,xs,rfl,h1,_,i2⟩:=i1.tuple e1.fh
  refine ⟨_,.inr (.inl ⟨xs,h1,rfl⟩),?_⟩
  rw [zek i2];exact k _ hx F1 H1 e1
 ·exact hx.elim
def dAnd (dt du:DT):DT:=λ δ Q=>dt δ λ b=>if b=true then du δ Q else Q false
def dOr (dt du:DT):DT:=λ δ Q=>dt δ λ b=>if b=true then Q true else du δ Q
def dNot (dt:DT):DT:=λ δ Q=>dt δ λ b=>Q (!b)
theorem zfq (ht:RfT K tt dt) (hu:RfT K tu du):RfT K (tAnd tt tu) (dAnd dt du):=by
 intro F H σ δ Qd Q s rv h k
 refine ht s rv h λ b hb F1 H1 e1=>?_
 cases b with
|true =>
  rw [if_pos rfl] at hb ⊢
  exact hu e1.fh (rv.ext e1) hb λ c hc F2 H2 e2=>k c hc F2 H2 (e1.trans e2)
|false =>
  rw [if_neg Bool.false_ne_true] at hb ⊢
  exact k _ hb F1 H1 e1
theorem zqy (ht:RfT K tt dt) (hu:RfT K tu du):RfT K (tOr tt tu) (dOr dt du):=by
 intro F H σ δ Qd Q s rv h k
 refine ht s rv h λ b hb F1 H1 e1=>?_
 cases b with
|false =>
  rw [if_neg Bool.false_ne_true] at hb ⊢
  exact hu e1.fh (rv.ext e1) hb λ c hc F2 H2 e2=>k c hc F2 H2 (e1.trans e2)
|true =>
  rw [if_pos rfl] at hb ⊢
  exact k _ hb F1 H1 e1
theorem zcw (ht:RfT K tt dt):RfT K (tNot tt) (dNot dt):=λ s rv h k=>ht s rv h λ b hb F1 H1 e1=>k _ hb F1 H1 e1
def dIfE (dt:DT) (da db:DE):DE:=λ δ Q=>dt δ λ b=>if b=true then da δ Q else db δ Q
theorem zmw (ht:RfT K tt dt) (ha:RfE K ta da) (hb:RfE K tb db):RfE K (tIf tt ta tb) (dIfE dt da db):=by
 intro F H σ δ Qd Q s rv h k
 refine ht s rv h λ b hb' F1 H1 e1=>?_
 cases b with
|true =>
  rw [if_pos rfl] at hb' ⊢
  exact ha e1.fh (rv.ext e1) hb' λ y hy u F2 H2 e2 i2=>k y hy u F2 H2 (e1.trans e2) i2
|false =>
  rw [if_neg Bool.false_ne_true] at hb' ⊢
  exact hb e1.fh (rv.ext e1) hb' λ y hy u F2 H2 e2 i2=>k y hy u F2 H2 (e1.trans e2) i2
def zzq (f g:D->D->(D->Prop)->Prop) (da db dc:DE):DE:=λ δ Q=>da δ λ x=>db δ λ y=>f x y λ u=>fB u λ b=>if b=true then dc δ λ z=>g y z Q else Q (.bool false)
theorem zcn {r r':R2} {f g:D->D->(D->Prop)->Prop} (hr:R2E K r f) (hr':R2E K r' g) (ha:RfE K ta da) (hb:RfE K tb db) (hc:RfE K tc dc):RfE K (zlt r r' ta tb tc) (zzq f g da db dc):=by
 intro F H σ δ Qd Q s rv h k
 refine ha s rv h λ x hx v F1 H1 e1 i1=>hb e1.fh (rv.ext e1) hx λ y hy u F2 H2 e2 i2=>?_
 refine hr e2.fh (.inl (i1.mono e2.f)) (.inl i2) hy λ z hz v3 F3 H3 e3 i3=>?_
 obtain ⟨b,rfl,q⟩:=zv11 i3 hz
 refine ⟨b,rfl,?_⟩
 cases b with
|true =>
  rw [if_pos rfl] at q ⊢
  refine hc e3.fh (rv.ext ((e1.trans e2).trans e3)) q λ z' hz' v4 F4 H4 e4 i4=>?_
  exact hr' e4.fh (.inl (i2.mono (e3.f.trans e4.f))) (.inl i4) hz' λ o ho v5 F5 H5 e5 i5=>k o ho v5 F5 H5 ((((e1.trans e2).trans e3).trans e4).trans e5) i5
|false =>
  rw [if_neg Bool.false_ne_true] at q ⊢
  exact k _ q _ F3 H3 ((e1.trans e2).trans e3) (.bl _)
def dNil:DF:=λ _ Q=>Q []
def zl1 (da:DE) (dr:DF):DF:=λ δ Q=>da δ λ x=>dr δ λ xs=>Q (x :: xs)
theorem zl0:RfA K tNil dNil:=λ s rv h k=>k _ h _ _ _ (Ext.refl s) .nil
theorem zc0 (ha:RfE K ta da) (hr:RfA K tA dA):RfA K (zw2 ta tA) (zl1 da dA):=by
 intro F H σ δ Qd Q s rv h k
 refine ha s rv h λ x hx v F1 H1 e1 i1=>hr e1.fh (rv.ext e1) hx λ xs hxs vs F2 H2 e2 i2=>?_
 exact k _ hxs _ F2 H2 (e1.trans e2) (.cons (i1.mono e2.f) i2)
theorem zo1:RfAV K tNil dNil:=λ s rv h k=>k _ h _ _ _ (Ext.refl s) .nil
theorem zu0 (ha:RfV K ta da) (hr:RfAV K tA dA):RfAV K (zw2 ta tA) (zl1 da dA):=by
 intro F H σ δ Qd Q s rv h k
 refine ha s rv h λ x hx v F1 H1 e1 i1=>hr e1.fh (rv.ext e1) hx λ xs hxs vs F2 H2 e2 i2=>?_
 exact k _ hxs _ F2 H2 (e1.trans e2) (.cons (i1.ext e2) i2)
def dTup (dA:DF):DE:=λ δ Q=>dA δ λ xs=>xs.length<=sizeLine/\Q (.tuple xs)
theorem zl3 (h:RfA K tA dA):RfE K (zt21 tA) (dTup dA):=by
 intro F H σ δ Qd Q s rv hd k
 refine h s rv hd λ xs hx vs F1 H1 e1 i1=>⟨by rw [i1.dlen];exact hx.1,λ p hp=>?_⟩
 obtain ⟨ex,ii⟩:=zak (K:=K) e1.fh hp i1
 exact k _ hx.2 _ _ _ (e1.trans ex) ii
def dLst (dA:DF):DF:=λ δ Q=>dA δ λ xs=>xs.length<=sizeLine/\Q xs
theorem zk3 (h:RfA K tA dA):RfF K (zgr tA) (dLst dA):=by
 intro F H σ δ Qd Q s rv hd k
 refine h s rv hd λ xs hx vs F1 H1 e1 i1=>⟨by rw [i1.dlen];exact hx.1,λ p hp=>?_⟩
 obtain ⟨ex,fn⟩:=zt7 (xs:=vs) e1.fh hp
 refine k _ hx.2 p vs F1 _ (e1.trans ex) ?_ zp0 fn i1
 cases q:H p with
|none=>rfl
|some o=>rw [e1.h p o q] at hp;cases hp
abbrev DSp:=List D->(D->Prop)->Prop
def spD (K:Fg) (p:DSp):Sp:=λ vs H Q _=>∃ F ds Qd,Same F H/\IsAll K F vs ds/\p ds Qd/\∀ d,Qd d->∀ v F' H',Ext F H F' H'->Is K F' v d->Q v H'
def zql (p:DSp) (dA:DF):DE:=λ δ Q=>dA δ λ ds=>p ds Q
theorem zy0 {p:DSp} {E:XK} (h:RfA K tA dA):RfE K (zet (spD K p) [] E tA) (zql p dA):=by
 intro F H σ δ Qd Q s rv hd k
 refine h s rv hd λ ds hp vs F1 H1 e1 i1=>?_
 rw [List.append_nil]
 exact ⟨F1,ds,Qd,e1.fh,i1,hp,λ d q v F' H' e2 i2=>k d q v F' H' (e1.trans e2) i2⟩
def zht (p:DSp) (dA:DF):DE:=λ δ Q=>dA δ λ ds=>p ds λ d=>zut d=true/\Q d
theorem zou {F F':Hp} {v:V} {d:D} (f:zut d=true) (h:Is K F v d):Is K F' v d:=by
 cases h with
|non=>exact .non
|bl b=>exact .bl b
|int i=>exact .int i
|str x=>exact .str x
|lst _ _=>exact absurd f (by simp [zut])
|tup _ _=>exact absurd f (by simp [zut])
|tuc _ _ _=>exact absurd f (by simp [zut])
theorem lend {F H:Hp} (s:Same F H):∀ {vs:List V} {ds:List D},VwAll K F H vs ds->∃ F',Same F F'/\Same F' H/\IsAll K F' vs ds
|_,_,.nil=>⟨F,λ _ _ z=>z,s,.nil⟩
|_,_,.cons h r=>by
  obtain ⟨F1,a1,b1,c1⟩:=lend s r
  rcases h with h|⟨a,xs,ds,rfl,rfl,h3,h4⟩
  ·exact ⟨F1,a1,b1,.cons (h.mono a1) c1⟩
  ·have s2:Same F1 (upd F1 a (.lst xs)):=λ b o z=>by
    by_cases hb:b=a
    ·subst hb;have:=b1 _ _ z;rw [h3] at this;rw [zp0,this]
    ·rw [zw0 hb];exact z
   refine ⟨upd F1 a (.lst xs),a1.trans s2,λ b o z=>?_,.cons (.lst (SqL.of zp0) (h4.mono (a1.trans s2))) (c1.mono s2)⟩
   by_cases hb:b=a
   ·subst hb;rw [zp0] at z;cases z;exact h3
   ·rw [zw0 hb] at z;exact b1 b o z
theorem zgf {p:DSp} {E:XK} (h:RfAV K tA dA):RfE K (zet (spD K p) [] E tA) (zht p dA):=by
 intro F H σ δ Qd Q s rv hd k
 refine h s rv hd λ ds hp vs F1 H1 e1 i1=>?_
 rw [List.append_nil]
 obtain ⟨F2,a2,b2,c2⟩:=lend e1.fh i1
 refine ⟨F2,ds,_,b2,c2,hp,λ d q v F' H' e2 i2=>k d q.2 v F1 H' (e1.trans ⟨e2.h,λ _ _ z=>z,e1.fh.trans e2.h,λ _ _ z=>z⟩) (zou q.1 i2)⟩
def CB (K:Fg) (r:List V->Hp->VK->Prop) (f:List D->(D->Prop)->Prop):Prop:=∀ {F H:Hp} {vs:List V} {ds:List D} {Qd:D->Prop} {Q:VK},Same F H->VwAll K F H vs ds->f ds Qd->(∀ z,Qd z->∀ v F' H',Ext F H F' H'->Is K F' v z->Q v H')->r vs H Q
def CF (K:Fg) (r:List V->Hp->VK->Prop) (f:List D->(List D->Prop)->Prop):Prop:=∀ {F H:Hp} {vs:List V} {ds:List D} {Qd:List D->Prop} {Q:VK},Same F H->VwAll K F H vs ds->f ds Qd->(∀ z,Qd z->∀ a xs F' H',Ext F H F' H'->H a=none->H' a=some (.lst xs)->F' a=none->IsAll K F' xs z->Q (.ref a) H')->r vs H Q
def dCB (f:List D->(D->Prop)->Prop) (dA:DF):DE:=λ δ Q=>dA δ λ ds=>f ds Q
def dCF (f:List D->(List D->Prop)->Prop) (dA:DF):DF:=λ δ Q=>dA δ λ ds=>f ds Q
theorem zw7 {r:List V->Hp->VK->Prop} {f:List D->(D->Prop)->Prop} (hr:CB K r f) (h:RfAV K tA dA):RfE K (tCB r tA) (dCB f dA):=by
 intro F H σ δ Qd Q s rv hd k
 refine h s rv hd λ ds hp vs F1 H1 e1 i1=>hr e1.fh i1 hp λ z q v F' H' e2 i2=>k z q v F' H' (e1.trans e2) i2
theorem zrs {r:List V->Hp->VK->Prop} {f:List D->(List D->Prop)->Prop} (hr:CF K r f) (h:RfAV K tA dA):RfF K (tCB r tA) (dCF f dA):=by
 intro F H σ δ Qd Q s rv hd k
 refine h s rv hd λ ds hp vs F1 H1 e1 i1=>hr e1.fh i1 hp λ z q a xs F' H' e2 hn h1 h2 h3=>k z q a xs F' H' (e1.trans e2) ?_ h1 h2 h3
 cases z:H a with
|none=>rfl
|some o=>rw [e1.h a o z] at hn;cases hn
theorem vw1 {F H:Hp} {vs:List V} {d:D} (h:VwAll K F H vs [d]):∃ v,vs=[v]/\Vw K F H v d:=by
 cases h with
|cons h r=>cases r;exact ⟨_,rfl,h⟩
theorem vw2 {F H:Hp} {vs:List V} {d e:D} (h:VwAll K F H vs [d,e]):∃ v u,vs=[v,u]/\Vw K F H v d/\Vw K F H u e:=by
 cases h with
|cons h r=>obtain ⟨u,rfl,r2⟩:=vw1 r;exact ⟨_,u,rfl,h,r2⟩
def fLen:List D->(D->Prop)->Prop
|[.list ds],Q=>Q (.int (ds.length:Nat))
|[.tuple ds],Q=>Q (.int (ds.length:Nat))
|[.str z],Q=>z.length<=sizeLine/\Q (.int (z.length:Nat))
|_,_=>False
theorem zxc:CB K (rLen K) fLen:=by
 intro F H vs ds Qd Q s hv h k
 unfold fLen at h
 split at h
 ·obtain ⟨v,rfl,hw⟩:=vw1 hv
  obtain ⟨p,xs,rfl,h1,i1⟩:=hw.list s
  refine ⟨_,_,rfl,.inl ⟨xs,h1,rfl⟩,?_⟩
  rw [i1.dlen];exact k _ h _ F H (Ext.refl s) (.int _)
 ·obtain ⟨v,rfl,hw⟩:=vw1 hv
  obtain ⟨p,xs,rfl,h1,_,i1⟩:=hw.tuple s
  refine ⟨_,_,rfl,.inr ⟨xs,h1,rfl⟩,?_⟩
  rw [i1.dlen];exact k _ h _ F H (Ext.refl s) (.int _)
 ·obtain ⟨v,rfl,hw⟩:=vw1 hv
  cases hw.str
  exact ⟨_,_,rfl,⟨h.1,rfl⟩,k _ h.2 _ F H (Ext.refl s) (.int _)⟩
 ·exact h.elim
def zb61:List D->(D->Prop)->Prop
|[.int i,.int j],Q=>Q (.int (if j > i then j else i))
|_,_=>False
theorem zf71:CB K zi81 zb61:=by
 intro F H vs ds Qd Q s hv h k
 unfold zb61 at h
 split at h
 ·obtain ⟨v,u,rfl,h1,h2⟩:=vw2 hv
  cases h1.int;cases h2.int
  exact ⟨_,_,rfl,k _ h _ F H (Ext.refl s) (.int _)⟩
 ·exact h.elim
def zgt:List D->Option (List Int)
|[]=>some []
|.int i :: r=>(zgt r).map (i :: ·)
|_ :: _=>none
theorem zmm {F:Hp}:∀ {xs:List V} {ds:List D} {ns:List Int},IsAll K F xs ds->zgt ds=some ns->xs=ns.map V.int
|_,_,_,.nil,e=>by cases e;rfl
|_,_,_,.cons h r,e=>by
  cases h with
 |int i =>
   unfold zgt at e
   obtain ⟨ms,e1,rfl⟩:=Option.map_eq_some_iff.mp e
   rw [zmm r e1];rfl
 |_=>cases e
theorem zpt (ns:List Int):zgt (ns.map PyData.int)=some ns:=by
 induction ns with
|nil=>rfl
|cons n r ih=>simp [zgt,ih]
def zhs:List D->(List D->Prop)->Prop
|[.list ds],Q=>Q ds
|[.tuple ds],Q=>Q ds
|_,_=>False
theorem zxh:CF K (zg91 K) zhs:=by
 intro F H vs ds Qd Q s hv h k
 unfold zhs at h
 split at h
 ·obtain ⟨v,rfl,hw⟩:=vw1 hv
  obtain ⟨p,xs,rfl,h1,i1⟩:=hw.list s
  refine ⟨p,xs,rfl,.inl h1,λ l hl=>?_⟩
  obtain ⟨ex,fn⟩:=zt7 (xs:=xs) s hl
  exact k _ h l xs F _ ex hl zp0 fn i1
 ·obtain ⟨v,rfl,hw⟩:=vw1 hv
  obtain ⟨p,xs,rfl,h1,_,i1⟩:=hw.tuple s
  refine ⟨p,xs,rfl,.inr h1,λ l hl=>?_⟩
  obtain ⟨ex,fn⟩:=zt7 (xs:=xs) s hl
  exact k _ h l xs F _ ex hl zp0 fn i1
 ·exact h.elim
def fInt:List D->(D->Prop)->Prop
|[.int i],Q=>Q (.int i)
|[.bool b],Q=>Q (.int (if b then 1 else 0))
|[.str z],Q=>∃ n,PySem.intText? z=some n/\z.length<=640/\Q (.int n)
|_,_=>False
theorem zg31:CB K rInt fInt:=by
 intro F H vs ds Qd Q s hv h k
 unfold fInt at h
 split at h
 ·obtain ⟨v,rfl,hw⟩:=vw1 hv
  cases hw.int;exact .inl (.inl ⟨_,rfl,k _ h _ F H (Ext.refl s) (.int _)⟩)
 ·obtain ⟨v,rfl,hw⟩:=vw1 hv
  cases hw.bl;exact .inl (.inr ⟨_,rfl,k _ h _ F H (Ext.refl s) (.int _)⟩)
 ·obtain ⟨v,rfl,hw⟩:=vw1 hv
  obtain ⟨n,e,hz,q⟩:=h
  cases hw.str;exact .inr ⟨_,n,rfl,e,hz,k _ q _ F H (Ext.refl s) (.int _)⟩
 ·exact h.elim
def tyD:D->String
|.none => "NoneType"|.bool _ => "bool"|.int _ => "int"|.str _ => "str"|.list _ => "list"|.tuple _ => "tuple"|.dict _ => "dict"
def isT (T:String) (d:D):Bool:=tyD d == T || (T == "int" && tyD d == "bool")
structure Kit (K:Fg):Prop where
 ok:∀ t∈["NoneType", "bool", "int", "str", "list", "tuple"],∀ T∈["int", "bool", "list", "tuple", "str"],PySem.W.kitOne K (.type t) (.type T)=some (t == T || (T == "int" && t == "bool"))
def dIs (T:String) (da:DE):DE:=λ δ Q=>da δ λ d=>(∀ kvs,d≠.dict kvs)/\Q (.bool (isT T d))
theorem zkb1 {T:String} (kt:Kit K) (hT:T∈["int", "bool", "list", "tuple", "str"]) (ha:RfV K ta da):RfE K (tCB (rIsW K) (zw2 ta (zw2 (tC (.ty T)) tNil))) (dIs T da):=by
 intro F H σ δ Qd Q s rv hd k
 refine ha s rv hd λ d hd v F1 H1 e1 i1=>?_
 have q:=k _ hd.2 (.bl (isT T d)) F1 H1 e1 (.bl _)
 have i2:=i1.is e1.fh
 show rIsW K [v,.ty T] H1 Q
 cases i2 with
|non=>exact .inl ⟨_,_,_,_,_,rfl,rfl,.non,kt.ok _ (by simp) T hT,q⟩
|bl b=>exact .inl ⟨_,_,_,_,_,rfl,rfl,.bl b,kt.ok _ (by simp) T hT,q⟩
|int b=>exact .inl ⟨_,_,_,_,_,rfl,rfl,.int b,kt.ok _ (by simp) T hT,q⟩
|str b=>exact .inl ⟨_,_,_,_,_,rfl,rfl,.str b,kt.ok _ (by simp) T hT,q⟩
|lst h1 h2=>exact .inr ⟨_,_,_,_,rfl,rfl,.inl ⟨⟨_,h1⟩,kt.ok _ (by simp) T hT⟩,q⟩
|tup h1 h2=>exact .inr ⟨_,_,_,_,rfl,rfl,.inr ⟨⟨_,SqT.of h1⟩,kt.ok _ (by simp) T hT⟩,q⟩
|tuc h1 h2 _=>exact .inr ⟨_,_,_,_,rfl,rfl,.inr ⟨⟨_,h1⟩,kt.ok _ (by simp) T hT⟩,q⟩
end
section
variable {K:Fg} {te ta tb tc:TE} {de da db dc:DE} {tt tu:TT} {dt du:DT} {tA:TA} {dA:DF} {w:World}
abbrev DO:=DSt->(Option Int->Prop)->Prop
def zxn:DO:=λ _ Q=>Q none
def zx31 (de:DE):DO:=λ δ Q=>de δ λ d=>match d with
|.int i=>Q (some i)
|_=>False
theorem zhk:RfO K zps zxn:=λ s rv h k=>k _ h _ _ (Ext.refl s)
theorem zgg (h:RfE K te de):RfO K (ziw te) (zx31 de):=by
 intro F H σ δ Qd Q s rv hd k
 refine h s rv hd λ d hx v F1 H1 e1 i1=>?_
 split at hx
 ·cases i1.int_inv;exact ⟨_,rfl,k _ hx F1 H1 e1⟩
 ·exact hx.elim
def cutD (xs:List D) (lo hi:Option Int):List D:=(xs.drop (HT.sIx xs.length 0 lo)).take (HT.sIx xs.length xs.length hi - HT.sIx xs.length 0 lo)
theorem ztr {F:Hp} {xs:List V} {ds:List D} (h:IsAll K F xs ds) (lo hi:Option Int):IsAll K F (cutV xs lo hi) (cutD ds lo hi):=by
 unfold cutV cutD
 rw [h.dlen]
 exact (h.ddrop _).dtake _
def fSl (d:D) (lo hi:Option Int) (Q:D->Prop):Prop:=match d with
|.list ds=>Q (.list (cutD ds lo hi))
|.str z=>z.length<=sizeLine/\Q (.str (Txt.slice z lo hi))
|.tuple ds=>¬(HT.sIx ds.length 0 lo=0/\HT.sIx ds.length ds.length hi=ds.length)/\Q (.tuple (cutD ds lo hi))
|_=>False
def fSlF (d:D) (lo hi:Option Int) (Q:List D->Prop):Prop:=match d with
|.list ds=>Q (cutD ds lo hi)
|_=>False
variable {tl th tk:TO} {dl dh dk:DO}
def dSl (de:DE) (dl dh:DO):DE:=λ δ Q=>de δ λ d=>dl δ λ lo=>dh δ λ hi=>fSl d lo hi Q
theorem zb3 {F H F' H':Hp} {p:Addr} (e:Ext F H F' H') (h:H' p=none):H p=none:=by
 cases q:H p with
|none=>rfl
|some o=>rw [e.h p o q] at h;cases h
theorem zp71 (he:RfV K te de) (hl:RfO K tl dl) (hh:RfO K th dh):RfE K (tSl (rSlW K) te tl th) (dSl de dl dh):=by
 intro F H σ δ Qd Q s rv h k
 refine he s rv h λ d hd v F1 H1 e1 i1=>hl e1.fh (rv.ext e1) hd λ lo hlo F2 H2 e2=>hh e2.fh (rv.ext (e1.trans e2)) hlo λ hi hhi F3 H3 e3=>?_
 have e13:=(e1.trans e2).trans e3
 have i3:=i1.ext (e2.trans e3)
 unfold fSl at hhi
 split at hhi
 ·obtain ⟨p,xs,rfl,h1,i2⟩:=i3.list e3.fh
  refine .inl (.inl ⟨p,xs,rfl,h1,λ l hl=>?_⟩)
  obtain ⟨ex,fn⟩:=zt7 (xs:=cutV xs lo hi) e3.fh hl
  obtain ⟨ex2,ii⟩:=zul (K:=K) ex hl zp0 fn (ztr i2 lo hi)
  exact k _ hhi _ _ _ (e13.trans ex2) ii
 ·cases i3.str
  exact .inr ⟨_,rfl,hhi.1,k _ hhi.2 _ F3 H3 e13 (.str _)⟩
 ·obtain ⟨p,xs,rfl,h1,_,i2⟩:=i3.tuple e3.fh
  refine .inl (.inr ⟨p,xs,rfl,h1,by rw [i2.dlen];exact hhi.1,λ l hl=>?_⟩)
  obtain ⟨ex,ii⟩:=zak (K:=K) e3.fh hl (ztr i2 lo hi)
  exact k _ hhi.2 _ _ _ (e13.trans ex) ii
 ·exact hhi.elim
theorem zkg {F:Hp} {xs:List V} {ds:List D} (h:IsAll K F xs ds):∀ js:List Nat,IsAll K F (js.filterMap (xs[·]?)) (js.filterMap (ds[·]?))
|[]=>.nil
|j :: js=>by
  have ih:=zkg h js
  cases hn:ds[j]? with
 |some n =>
   obtain ⟨u,hu,r⟩:=h.dget hn
   simp only [List.filterMap_cons,hn,hu]
   exact .cons r ih
 |none =>
   have hv:xs[j]?=none:=by
    rw [List.getElem?_eq_none_iff] at hn ⊢
    rw [h.dlen];exact hn
   simp only [List.filterMap_cons,hn,hv]
   exact ih
theorem zsu {F:Hp} {xs:List V} {ds:List D} (h:IsAll K F xs ds) (lo hi st:Option Int):IsAll K F (znl xs lo hi st) (znl ds lo hi st):=by
 unfold znl
 rw [h.dlen]
 exact zkg h _
def dSl3 (de:DE) (dl dh dk:DO):DF:=λ δ Q=>de δ λ d=>dl δ λ lo=>dh δ λ hi=>dk δ λ st=>match d with
|.list ds=>st≠some 0/\Q (znl ds lo hi st)
|_=>False
theorem zt71 (he:RfV K te de) (hl:RfO K tl dl) (hh:RfO K th dh) (hk:RfO K tk dk):RfF K (tSl3 K te tl th tk) (dSl3 de dl dh dk):=by
 intro F H σ δ Qd Q s rv h k
 refine he s rv h λ d hd v F1 H1 e1 i1=>hl e1.fh (rv.ext e1) hd λ lo hlo F2 H2 e2=>hh e2.fh (rv.ext (e1.trans e2)) hlo λ hi hhi F3 H3 e3=>hk e3.fh (rv.ext ((e1.trans e2).trans e3)) hhi λ st hst F4 H4 e4=>?_
 split at hst
 ·have e14:=((e1.trans e2).trans e3).trans e4
  obtain ⟨p,xs,rfl,h1,i2⟩:=(i1.ext ((e2.trans e3).trans e4)).list e4.fh
  refine ⟨p,xs,rfl,h1,hst.1,λ l hl=>?_⟩
  obtain ⟨ex,fn⟩:=zt7 (xs:=znl xs lo hi st) e4.fh hl
  exact k _ hst.2 l _ F4 _ (e14.trans ex) (zb3 e14 hl) zp0 fn (zsu i2 lo hi st)
 ·exact hst.elim
def W0 (K:Fg) (J:It) (F H:Hp) (items:List D):Prop:=(∀ i,i < items.length->J.go i H)/\J.stop items.length H/\∀ i x H3 d,items[i]?=some d->J.yld i H x H3->H3=H/\Is K F x d
def W1 (K:Fg) (J:It) (F H:Hp) (items:List D):Prop:=(∀ i,i < items.length->J.go i H)/\J.stop items.length H/\∀ i x H3 d,items[i]?=some d->J.yld i H x H3->∃ F3,Ext F H F3 H3/\Is K F3 x d
def WD (K:Fg) (J:It) (F:Hp) (items:List D):Prop:=∀ F2 H2,Same F F2->Same F2 H2->W1 K J F2 H2 items
def WV (K:Fg) (J:It) (F H:Hp) (items:List D):Prop:=∀ F2 H2,Ext F H F2 H2->W1 K J F2 H2 items
theorem W0.w1 {J:It} {F H:Hp} {items:List D} (s:Same F H) (h:W0 K J F H items):W1 K J F H items:=⟨h.1,h.2.1,λ i x H3 d e y=>by
 obtain ⟨rfl,r⟩:=h.2.2 i x H3 d e y
 exact ⟨F,Ext.refl s,r⟩⟩
def RfI (K:Fg) (ti:TI) (di:DF):Prop:=∀ {F H:Hp} {σ:L2.St} {δ:DSt} {Qd:List D->Prop} {R:It->Hp->Prop},Same F H->RV K F H σ δ->di δ Qd->(∀ ds,Qd ds->∀ J F' H',Ext F H F' H'->WD K J F' ds->R J H')->ti σ H R
def RfJ (K:Fg) (ti:TI) (di:DF):Prop:=∀ {F H:Hp} {σ:L2.St} {δ:DSt} {Qd:List D->Prop} {R:It->Hp->Prop},Same F H->RV K F H σ δ->di δ Qd->(∀ ds,Qd ds->∀ J F' H',Ext F H F' H'->WV K J F' H' ds->R J H')->ti σ H R
theorem zgo {F H:Hp} {a:Addr} {xs:List V} {ds:List D} (h:SqL K H a xs) (i:IsAll K F xs ds):W0 K (Itl K a) F H ds:=by
 have el:=i.dlen
 refine ⟨λ j hj=>⟨xs,xs[j]'(by lia),h,List.getElem?_eq_getElem _⟩,⟨xs,h,by lia⟩,λ j x H3 d e y=>?_⟩
 obtain ⟨e3,y⟩:=y
 obtain ⟨x',h1,h2⟩:=i.dget e
 have:=y xs h
 rw [h1] at this;cases this
 exact ⟨e3,h2⟩
theorem zrx {F H:Hp} {a:Addr} {xs:List V} {ds:List D} (h:SqT K H a xs) (i:IsAll K F xs ds):W0 K (Itt K a) F H ds:=by
 have el:=i.dlen
 refine ⟨λ j hj=>⟨xs,xs[j]'(by lia),h,List.getElem?_eq_getElem _⟩,⟨xs,h,by lia⟩,λ j x H3 d e y=>?_⟩
 obtain ⟨e3,y⟩:=y
 obtain ⟨x',h1,h2⟩:=i.dget e
 have:=y xs h
 rw [h1] at this;cases this
 exact ⟨e3,h2⟩
def zg11:D->(List D->Prop)->Prop
|.list ds,Q=>Q ds
|.tuple ds,Q=>Q ds
|.str z,Q=>z.cps.all (· < 128)=true/\Q (z.cps.toList.map λ c=>.str ⟨#[c]⟩)
|_,_=>False
def dIt (de:DE):DF:=λ δ Q=>de δ λ d=>zg11 d Q
theorem zuw {F H:Hp} (z:Str) (s:Same F H):W1 K (Its z) F H (z.cps.toList.map λ c=>.str ⟨#[c]⟩):=by
 have el:(z.cps.toList.map λ c=>(PyData.str ⟨#[c]⟩)).length=z.cps.size:=by simp
 refine ⟨λ j hj=>by rw [el] at hj;exact hj,by rw [el];exact Nat.le_refl _,λ j x H3 d e y=>?_⟩
 obtain ⟨e3,c,e1,e2⟩:=y
 subst e3
 rw [List.getElem?_map,Array.getElem?_toList,e1] at e
 simp at e
 subst e
 exact ⟨F,Ext.refl s,by rw [e2];exact .str _⟩
theorem znn (h:RfV K te de):RfJ K (iW K te) (dIt de):=by
 intro F H σ δ Qd R s rv hd k
 refine h s rv hd λ d hx v F1 H1 e1 i1=>?_
 unfold zg11 at hx
 split at hx
 ·obtain ⟨p,xs,rfl,h1,i2⟩:=i1.list e1.fh
  exact .inl (.inl ⟨p,rfl,⟨xs,h1⟩,k _ hx _ F1 H1 e1 λ F2 H2 e2=>(zgo (e2.h.seq h1) (i2.mono e2.f)).w1 e2.fh⟩)
 ·obtain ⟨p,xs,rfl,h1,_,i2⟩:=i1.tuple e1.fh
  exact .inl (.inr ⟨p,rfl,⟨xs,h1⟩,k _ hx _ F1 H1 e1 λ F2 H2 e2=>(zrx (zns e2.h h1) (i2.mono e2.f)).w1 e2.fh⟩)
 ·cases i1.str
  exact .inr ⟨_,rfl,hx.1,k _ hx.2 _ F1 H1 e1 λ F2 H2 e2=>zuw _ e2.fh⟩
 ·exact hx.elim
theorem zfw (h:RfE K te de):RfI K (iW K te) (dIt de):=by
 intro F H σ δ Qd R s rv hd k
 refine h s rv hd λ d hx v F1 H1 e1 i1=>?_
 unfold zg11 at hx
 split at hx
 ·obtain ⟨p,xs,rfl,h1,i2⟩:=i1.list_inv
  exact .inl (.inl ⟨p,rfl,⟨xs,e1.fh.seq h1⟩,k _ hx _ F1 H1 e1 λ F2 H2 s2 t2=>(zgo (t2.seq (s2.seq h1)) (i2.mono s2)).w1 t2⟩)
 ·obtain ⟨p,xs,rfl,h1,i2⟩:=i1.tuple_inv
  exact .inl (.inr ⟨p,rfl,⟨xs,zns e1.fh h1⟩,k _ hx _ F1 H1 e1 λ F2 H2 s2 t2=>(zrx (zns t2 (zns s2 h1)) (i2.mono s2)).w1 t2⟩)
 ·cases i1.str_inv
  exact .inr ⟨_,rfl,hx.1,k _ hx.2 _ F1 H1 e1 λ F2 H2 s2 t2=>zuw _ t2⟩
 ·exact hx.elim
theorem RfI.j {ti:TI} {di:DF} (h:RfI K ti di):RfJ K ti di:=λ s rv hd k=>h s rv hd λ ds q J F' H' e w=>k ds q J F' H' e λ F2 H2 e2=>w F2 H2 e2.f e2.fh
def rngD (lo:Int) (n:Nat):List D:=(List.range n).map λ i=>.int (lo+(i:Nat))
theorem zao (lo:Int) (n:Nat):(rngD lo n).length=n:=by simp [rngD]
theorem zkv {lo:Int} {n i:Nat} {d:D} (e:(rngD lo n)[i]?=some d):i < n/\d=.int (lo+(i:Nat)):=by
 unfold rngD at e
 rw [List.getElem?_map] at e
 obtain ⟨j,hj,rfl⟩:=Option.map_eq_some_iff.mp e
 obtain ⟨h1,h2⟩:=List.getElem?_eq_some_iff.mp hj
 simp at h1 h2
 subst h2
 exact ⟨h1,rfl⟩
theorem zi31 {F H:Hp} (lo:Int) (n:Nat) (s:Same F H):W1 K (Itr lo n) F H (rngD lo n):=by
 refine ⟨λ j hj=>by rw [zao] at hj;exact hj,by rw [zao];exact Nat.le_refl _,λ j x H3 d e y=>?_⟩
 obtain ⟨e3,y⟩:=y
 subst e3
 obtain ⟨_,rfl⟩:=zkv e
 exact ⟨F,Ext.refl s,by rw [y];exact .int _⟩
def zdt (dA:DF):DF:=λ δ Q=>dA δ λ ds=>match ds with
|[.int j]=>-(2 ^ 62)<=j/\j < 2 ^ 62/\Q (rngD 0 j.toNat)
|_=>False
theorem zs4 (h:RfA K tA dA):RfI K (zy81 tA) (zdt dA):=by
 intro F H σ δ Qd R s rv hd k
 refine h s rv hd λ ds hx vs F1 H1 e1 i1=>?_
 split at hx
 ·cases i1 with
 |cons h1 r1 =>
   cases r1
   cases h1.int_inv
   exact ⟨_,rfl,hx.1,hx.2.1,k _ hx.2.2 _ F1 H1 e1 λ F2 H2 s2 t2=>zi31 _ _ t2⟩
 ·exact hx.elim
theorem all1 {F:Hp} {vs:List V} {d:D} (h:IsAll K F vs [d]):∃ v,vs=[v]/\Is K F v d:=by
 cases h with
|cons h r=>cases r;exact ⟨_,rfl,h⟩
def zqp (ds:List D):List D:=ds.mapIdx λ i d=>.tuple [.int (i:Nat),d]
theorem zro (ds:List D):(zqp ds).length=ds.length:=by simp [zqp]
theorem zxp {ds:List D} {i:Nat} {d:D} (e:(zqp ds)[i]?=some d):∃ x,ds[i]?=some x/\d=.tuple [.int (i:Nat),x]:=by
 unfold zqp at e
 rw [List.getElem?_mapIdx] at e
 obtain ⟨x,h1,h2⟩:=Option.map_eq_some_iff.mp e
 exact ⟨x,h1,h2.symm⟩
theorem zyr {F H:Hp} {a:Addr} {xs:List V} {ds:List D} (s:Same F H) (h:SqL K H a xs) (i:IsAll K F xs ds):W1 K (Ite K a) F H (zqp ds):=by
 have el:=i.dlen
 have el2:=zro ds
 refine ⟨λ j hj=>⟨xs,xs[j]'(by lia),h,List.getElem?_eq_getElem _⟩,⟨xs,h,by lia⟩,λ j x H3 d e y=>?_⟩
 obtain ⟨v,p,y1,hp,e1,e2⟩:=y
 subst e2
 obtain ⟨x',hx',rfl⟩:=zxp e
 obtain ⟨u,hu,iu⟩:=i.dget hx'
 have:=y1 xs h
 rw [hu] at this;cases this
 obtain ⟨ex,ii⟩:=zak (K:=K) (ds:=[.int (j:Nat),x']) s hp (.cons (.int _) (.cons iu .nil))
 exact ⟨_,ex,by rw [e1];exact ii⟩
def ze21 (dA:DF):DF:=λ δ Q=>dA δ λ ds=>match ds with
|[.list a]=>Q (zqp a)
|_=>False
theorem zdy (h:RfAV K tA dA):RfJ K (zq31 K tA) (ze21 dA):=by
 intro F H σ δ Qd R s rv hd k
 refine h s rv hd λ ds hx vs F1 H1 e1 i1=>?_
 split at hx
 ·obtain ⟨v,rfl,w1⟩:=vw1 i1
  obtain ⟨p,xs,rfl,h1,j1⟩:=w1.list e1.fh
  exact ⟨p,xs,rfl,h1,k _ hx _ F1 H1 e1 λ F2 H2 e2=>zyr e2.fh (e2.h.seq h1) (j1.mono e2.f)⟩
 ·exact hx.elim
theorem zky (h:RfA K tA dA):RfI K (zq31 K tA) (ze21 dA):=by
 intro F H σ δ Qd R s rv hd k
 refine h s rv hd λ ds hx vs F1 H1 e1 i1=>?_
 split at hx
 ·obtain ⟨v,rfl,w1⟩:=all1 i1
  obtain ⟨p,xs,rfl,h1,j1⟩:=w1.list_inv
  exact ⟨p,xs,rfl,e1.fh.seq h1,k _ hx _ F1 H1 e1 λ F2 H2 s2 t2=>zyr t2 (t2.seq (s2.seq h1)) (j1.mono s2)⟩
 ·exact hx.elim
end
inductive Upd (K:Fg) (F:Hp) (n:Nat):L2.St->DSt->L2.St->DSt->Prop
|refl {σ:L2.St} {δ:DSt}:Upd K F n σ δ σ δ
|set {σ σ':L2.St} {δ δ':DSt} {i:Nat} {v:V} {d:D}:i < n->Is K F v d->Upd K F n (σ.set i (some v)) (δ.set i (.sh d)) σ' δ'->Upd K F n σ δ σ' δ'
theorem zt3 {σ:L2.St} {i j:Nat} {v:Option V}:(σ.set i v).getD j none=if i=j/\j < σ.length then v else σ.getD j none:=by
 rw [List.getD_eq_getElem?_getD,List.getD_eq_getElem?_getD,List.getElem?_set]
 by_cases h:i=j
 ·subst h
  by_cases h2:i < σ.length
  ·simp [h2]
  ·simp [h2]
 ·simp [h]
theorem RV.set {K:Fg} {F H:Hp} {σ:L2.St} {δ:DSt} {i:Nat} {v:V} {sl:Sl} (r:RV K F H σ δ) (h:RSl K F H (some v) sl):RV K F H (σ.set i (some v)) (δ.set i sl):=by
 refine ⟨by rw [List.length_set,List.length_set];exact r.len,λ j s e=>?_⟩
 rw [List.getElem?_set] at e
 rw [zt3,r.len]
 by_cases hij:i=j
 ·subst hij
  by_cases hl:i < δ.length
  ·simp [hl] at e ⊢;subst e;exact h
  ·simp [hl] at e
 ·simp [hij] at e ⊢;exact r.sl j s e
theorem Upd.rv {K:Fg} {F H:Hp} {n:Nat} {σ σ':L2.St} {δ δ':DSt} (u:Upd K F n σ δ σ' δ') (r:RV K F H σ δ):RV K F H σ' δ':=by
 induction u with
|refl=>exact r
|set hi hv _ ih=>exact ih (r.set ⟨_,rfl,hv⟩)
theorem Upd.keep {K:Fg} {F:Hp} {n:Nat} {σ σ':L2.St} {δ δ':DSt} (u:Upd K F n σ δ σ' δ'):σ'.length=σ.length/\∀ i,n<=i->σ'.getD i none=σ.getD i none:=by
 induction u with
|refl=>exact ⟨rfl,λ _ _=>rfl⟩
|set hi hv _ ih =>
  refine ⟨by rw [ih.1,List.length_set],λ j hj=>?_⟩
  rw [ih.2 j hj,zt3,if_neg (by lia)]
abbrev DG:=D->DSt->(DSt->Prop)->Prop
abbrev DGs:=List D->DSt->(DSt->Prop)->Prop
def RfG (K:Fg) (n:Nat) (g:TG) (dg:DG):Prop:=∀ {F H:Hp} {σ:L2.St} {δ:DSt} {v:V} {d:D} {Gd:DSt->Prop} {G:L2.St->Hp->Prop},Same F H->Is K F v d->dg d δ Gd->(∀ σ' δ',Gd δ'->Upd K F n σ δ σ' δ'->G σ' H)->g v σ H G
def RfGs (K:Fg) (n:Nat) (g:TGs) (dg:DGs):Prop:=∀ {F H:Hp} {σ:L2.St} {δ:DSt} {vs:List V} {ds:List D} {Gd:DSt->Prop} {G:L2.St->Hp->Prop},Same F H->IsAll K F vs ds->dg ds δ Gd->(∀ σ' δ',Gd δ'->Upd K F n σ δ σ' δ'->G σ' H)->g vs σ H G
def gN (i:Nat):DG:=λ d δ G=>G (δ.set i (.sh d))
def zo21:DGs:=λ ds δ G=>match ds with
|[]=>G δ
|_=>False
def zdo (g:DG) (gs:DGs):DGs:=λ ds δ G=>match ds with
|d :: r=>g d δ λ δ'=>gs r δ' G
|[]=>False
def gT (n:Nat) (gs:DGs):DG:=λ d δ G=>match d with
|.tuple ds=>ds.length=n/\gs ds δ G
|_=>False
section
variable {K:Fg} {n m:Nat}
theorem zw1 {i:Nat} (hi:i < n):RfG K n (znd i) (gN i):=λ s h hd k=>k _ _ hd (.set hi h .refl)
theorem zdd:RfGs K n gNil zo21:=by
 intro F H σ δ vs ds Gd G s h hd k
 unfold zo21 at hd
 split at hd
 ·cases h;exact ⟨rfl,k _ _ hd .refl⟩
 ·exact hd.elim
theorem Upd.trans {F:Hp} {σ σ1 σ2:L2.St} {δ δ1 δ2:DSt} (a:Upd K F n σ δ σ1 δ1) (b:Upd K F n σ1 δ1 σ2 δ2):Upd K F n σ δ σ2 δ2:=by
 induction a with
|refl=>exact b
|set hi hv _ ih=>exact .set hi hv (ih b)
theorem zx1 {g:TG} {dg:DG} {gs:TGs} {dgs:DGs} (h1:RfG K n g dg) (h2:RfGs K n gs dgs):RfGs K n (zu21 g gs) (zdo dg dgs):=by
 intro F H σ δ vs ds Gd G s h hd k
 unfold zdo at hd
 split at hd
 ·cases h with
 |cons hx hr =>
   refine ⟨_,_,rfl,h1 s hx hd λ σ1 δ1 hd1 u1=>h2 s hr hd1 λ σ2 δ2 hd2 u2=>k _ _ hd2 (u1.trans u2)⟩
 ·exact hd.elim
theorem zvk {gs:TGs} {dgs:DGs} (h:RfGs K n gs dgs):RfG K n (gTup K m gs) (gT m dgs):=by
 intro F H σ δ v d Gd G s hv hd k
 unfold gT at hd
 split at hd
 ·obtain ⟨a,xs,rfl,h1,h2⟩:=hv.tuple_inv
  exact ⟨a,xs,rfl,zns s h1,by rw [h2.dlen];exact hd.1,h s h2 hd.2 k⟩
 ·exact hd.elim
end
def cST (n:Nat) (ix:List Nat) (δ:DSt):DSt:=List.replicate n .un++ix.map λ i=>δ.getD i .un
theorem zl11 {K:Fg} {F H:Hp} {σ:L2.St} {δ:DSt} (n:Nat) (ix:List Nat) (r:RV K F H σ δ):RV K F H (compσ n ix σ) (cST n ix δ):=by
 refine ⟨by simp [compσ,cST],λ i s e=>?_⟩
 unfold cST at e
 unfold compσ
 by_cases h:i < n
 ·rw [List.getElem?_append_left (by simpa using h)] at e
  simp [List.getElem?_replicate,h] at e
  subst e;trivial
 ·rw [List.getElem?_append_right (by simpa using h)] at e
  rw [List.getD_eq_getElem?_getD,List.getElem?_append_right (by simpa using h)]
  simp only [List.length_replicate,List.getElem?_map] at e ⊢
  obtain ⟨j,hj,rfl⟩:=Option.map_eq_some_iff.mp e
  rw [hj]
  show RSl K F H (σ.getD j none) _
  cases q:δ[j]? with
 |none=>rw [show δ.getD j .un=.un by rw [List.getD_eq_getElem?_getD,q];rfl];trivial
 |some t=>rw [show δ.getD j .un=t by rw [List.getD_eq_getElem?_getD,q];rfl];exact r.sl j t q
theorem RV.caps {K:Fg} {F H:Hp} {σ σ':L2.St} {n:Nat} {ix:List Nat} {δ:DSt} (r:RV K F H σ (cST n ix δ)) (hl:σ'.length=σ.length) (hk:∀ i,n<=i->σ'.getD i none=σ.getD i none):RV K F H σ' (cST n ix δ):=by
 refine ⟨by rw [hl];exact r.len,λ i s e=>?_⟩
 by_cases h:i < n
 ·unfold cST at e
  rw [List.getElem?_append_left (by simpa using h)] at e
  simp [List.getElem?_replicate,h] at e
  subst e;trivial
 ·rw [hk i (by lia)];exact r.sl i s e
def zxv (di:DF) (n:Nat) (ix:List Nat) (dg:DG) (dt:DT) (de:DE):DF:=λ δ Q=>di δ λ items=>items.length<=sizeLine/\∃ R:Nat->Option D->Prop,
 (∀ i d,items[i]?=some d->dg d (cST n ix δ) λ δ'=>dt δ' λ b=>if b=true then de δ' λ r=>R i (some r) else R i none) /\
 ∀ os:List (Option D),os.length=items.length->(∀ (j:Nat) o,os[j]?=some o->R j o)->Q (os.filterMap id)
def zjr:DT:=λ _ Q=>Q true
section
variable {K:Fg} {wi:TI} {di:DF} {n:Nat} {ix:List Nat} {g:TG} {dg:DG} {tt:TT} {dt:DT} {te:TE} {de:DE}
theorem zk4:RfT K zj31 zjr:=λ s rv h k=>k _ h _ _ (Ext.refl s)
theorem zk2 (hi:RfJ K wi di) (hg:RfG K n g dg) (ht:RfT K tt dt) (he:RfE K te de):RfF K (zb21 wi n ix g tt te) (zxv di n ix dg dt de):=by
 intro F H σ δ Qd Q s rv hd k
 refine hi s rv hd λ items hx J F1 H1 e1 wj D hD=>?_
 obtain ⟨hz,R,hR,hQ⟩:=hx
 have rv1:=zl11 n ix (rv.ext e1)
 have F1D:F1 D=none:=by
  cases q:F1 D with
 |none=>rfl
 |some o=>rw [e1.fh D o q] at hD;cases hD
 refine ⟨λ i m acc σ' H'=>m=items.length - i/\i<=items.length/\σ'.length=(compσ n ix σ).length/\(∀ j,n<=j->σ'.getD j none=(compσ n ix σ).getD j none)/\∃ (F':Hp) (os:List (Option PyData)),Ext F1 H1 F' H'/\F' D=none/\H' D=some (.lst acc)/\os.length=i/\(∀ (j:Nat) o,os[j]?=some o->R j o)/\IsAll K F' acc (os.filterMap id),⟨items.length,rfl,Nat.zero_le _,rfl,λ _ _=>rfl,F1,[],?_,F1D,zp0,rfl,λ j o e=>by simp at e,.nil⟩,?_⟩
 ·exact (zt7 (xs:=[]) e1.fh hD).1
 rintro i m acc σ' H' ⟨rfl,hi',hl,hk,F',os,ex,fD,hDD,hos,hRs,hall⟩
 obtain ⟨go,stop,yld⟩:=wj F' H' ex
 by_cases hlt:i < items.length
 ·refine .inr ⟨go i hlt,λ acc' σ2 H2=>i+1<=items.length/\σ2.length=(compσ n ix σ).length/\(∀ j,n<=j->σ2.getD j none=(compσ n ix σ).getD j none)/\∃ (F':Hp) (os:List (Option PyData)),Ext F1 H1 F' H2/\F' D=none/\H2 D=some (.lst acc')/\os.length=i+1/\(∀ (j:Nat) o,os[j]?=some o->R j o)/\IsAll K F' acc' (os.filterMap id),λ acc' σ2 H2 p=>⟨items.length - (i+1),by lia,rfl,p⟩,λ x H2 y=>?_⟩
  have hit:items[i]?=some items[i]:=List.getElem?_eq_getElem hlt
  obtain ⟨F2,ex2,ix2⟩:=yld i x H2 _ hit y
  have rv2:RV K F2 H2 σ' (cST n ix δ):=RV.caps (rv1.ext (ex.trans ex2)) hl hk
  have hRn:∀ o,R i o->∀ (j:Nat) o',(os++[o])[j]?=some o'->R j o':=λ o ho j o' e=>by
   rcases Nat.lt_trichotomy j os.length with h|h|h
   ·rw [List.getElem?_append_left h] at e;exact hRs j o' e
   ·subst h;rw [List.getElem?_append_right (Nat.le_refl _)] at e;simp at e;subst e;rw [hos];exact ho
   ·rw [List.getElem?_append_right (Nat.le_of_lt h)] at e
    cases q:j - os.length with
   |zero=>lia
   |succ z=>rw [q] at e;simp at e
  refine hg ex2.fh ix2 (hR i _ hit) λ σ2 δ2 hd2 u2=>?_
  have rv3:=u2.rv rv2
  have kp:=u2.keep
  have hl2:σ2.length=(compσ n ix σ).length:=by rw [kp.1,hl]
  have hk2:∀ j,n<=j->σ2.getD j none=(compσ n ix σ).getD j none:=λ j hj=>by rw [kp.2 j hj,hk j hj]
  refine ht ex2.fh rv3 hd2 λ b hb F4 H4 e4=>?_
  have e24:=ex2.trans e4
  have hD4:H4 D=some (.lst acc):=e24.h _ _ hDD
  have fD4:F4 D=none:=e24.nw D (by rw [hDD];simp) fD
  cases b with
 |true =>
   rw [if_pos rfl] at hb ⊢
   refine he e4.fh (rv3.ext e4) hb λ r hr v F5 H5 e5 i5=>?_
   have e25:=e24.trans e5
   have hD5:H5 D=some (.lst acc):=e25.h _ _ hDD
   have fD5:F5 D=none:=e25.nw D (by rw [hDD];simp) fD
   have hlen:acc.length<=i:=by
    rw [hall.dlen,<- hos];exact List.length_filterMap_le _ _
   have e15:=ex.trans e25
   refine ⟨hD5,by lia,hlt,hl2,hk2,F5,os++[some r],⟨λ b o hb=>?_,e15.f,λ b o hb=>?_,e15.nw⟩,fD5,zp0,by simp [hos],hRn _ hr,?_⟩
   ·have:b≠D:=λ z=>by subst z;rw [hD] at hb;cases hb
    rw [zw0 this];exact e15.h b o hb
   ·have:b≠D:=λ z=>by subst z;rw [fD5] at hb;cases hb
    rw [zw0 this];exact e15.fh b o hb
   ·rw [List.filterMap_append]
    exact (hall.mono e25.f).dapp (.cons i5 .nil)
 |false =>
   rw [if_neg Bool.false_ne_true] at hb ⊢
   refine ⟨hlt,hl2,hk2,F4,os++[none],ex.trans e24,fD4,hD4,by simp [hos],hRn _ hb,?_⟩
   rw [List.filterMap_append]
   have:List.filterMap id [(none:Option PyData)]=[]:=rfl
   rw [this,List.append_nil]
   exact hall.mono e24.f
 ·have e:i=items.length:=by lia
  refine .inl ⟨by rw [e];exact stop,k _ (hQ os (by lia) hRs) D acc F' H' (e1.trans ex) ?_ hDD fD hall⟩
  exact zb3 e1 hD
end
inductive Stp where
|ix (j:Nat)|fl (f:Str)
abbrev Pth:=List Stp
def putA (f:Str) (t:T):List (Str×T)->List (Str×T)
|[]=>[(f,t)]
|(g,x) :: r=>if g=f then (g,t) :: r else (g,x) :: putA f t r
def setP:T->Pth->T->T
|_,[],u=>u
|.ls ts,.ix j :: p,u=>match ts[j]? with
 |some t=>.ls (ts.set j (setP t p u))
 |none=>.ls ts
|.ob C fs,.fl f :: p,u=>match fs.lookup f with
 |some t=>.ob C (putA f (setP t p u) fs)
 |none=>.ob C fs
|t,_,_=>t
inductive At (H:Hp):V->T->Pth->V->T->Prop
|nil {v:V} {t:T}:At H v t [] v t
|ix {a:Addr} {xs:List V} {ts:List T} {j:Nat} {x v:V} {t u:T} {p:Pth}:H a=some (.lst xs)->xs[j]?=some x->ts[j]?=some t->At H x t p v u->At H (.ref a) (.ls ts) (.ix j :: p) v u
|fl {a C dx:Addr} {fs:List (Str×V)} {ts:List (Str×T)} {f:Str} {x v:V} {t u:T} {p:Pth}:H a=some (.ins C dx fs)->fs.lookup f=some x->ts.lookup f=some t->At H x t p v u->At H (.ref a) (.ob C ts) (.fl f :: p) v u
theorem At.mono {H H':Hp} (s:Same H H') {v v':V} {t t':T} {p:Pth} (h:At H v t p v' t'):At H' v t p v' t':=by
 induction h with
|nil=>exact .nil
|ix h1 h2 h3 _ ih=>exact .ix (s _ _ h1) h2 h3 ih
|fl h1 h2 h3 _ ih=>exact .fl (s _ _ h1) h2 h3 ih
theorem At.snoc_ix {H:Hp} {v x y:V} {t u:T} {ts:List T} {a:Addr} {xs:List V} {j:Nat} {p:Pth} (h:At H v t p (.ref a) (.ls ts)) (h1:H a=some (.lst xs)) (h2:xs[j]?=some x) (h3:ts[j]?=some u):At H v t (p++[.ix j]) x u:=by
 generalize e:V.ref a=w at h
 generalize e2:T.ls ts=z at h
 induction h with
|nil=>subst e e2;exact .ix h1 h2 h3 .nil
|ix g1 g2 g3 _ ih=>exact .ix g1 g2 g3 (ih e e2)
|fl g1 g2 g3 _ ih=>exact .fl g1 g2 g3 (ih e e2)
theorem At.snoc_fl {H:Hp} {v x:V} {t u:T} {ts:List (Str×T)} {a C dx:Addr} {fs:List (Str×V)} {f:Str} {p:Pth} (h:At H v t p (.ref a) (.ob C ts)) (h1:H a=some (.ins C dx fs)) (h2:fs.lookup f=some x) (h3:ts.lookup f=some u):At H v t (p++[.fl f]) x u:=by
 generalize e:V.ref a=w at h
 generalize e2:T.ob C ts=z at h
 induction h with
|nil=>subst e e2;exact .fl h1 h2 h3 .nil
|ix g1 g2 g3 _ ih=>exact .ix g1 g2 g3 (ih e e2)
|fl g1 g2 g3 _ ih=>exact .fl g1 g2 g3 (ih e e2)
section
variable {K:Fg}
theorem RtAll.len {F H:Hp}:∀ {xs:List V} {ts:List T} {fp:List Addr},RtAll K F H xs ts fp->xs.length=ts.length
|_,_,_,.nil=>rfl
|_,_,_,.cons _ r=>congrArg (·+1) (RtAll.len r)
theorem RtAll.split {F H:Hp}:∀ {xs:List V} {ts:List T} {fp:List Addr} {j:Nat} {x:V} {t:T},RtAll K F H xs ts fp->xs[j]?=some x->ts[j]?=some t ->
  ∃ fA fj fB,fp=fA++(fj++fB)/\Rt K F H x t fj/\∀ {F2 H2:Hp} {u:T} {fq:List Addr},Same F F2->(∀ b∈fA++fB,H2 b=H b/\F2 b=none)->Rt K F2 H2 x u fq->RtAll K F2 H2 xs (ts.set j u) (fA++(fq++fB))
|_,_,_,_,_,_,.nil,e,_=>by simp at e
|_,_,_,0,x,t,.cons (fp:=fp) (fq:=fq) h r,e1,e2=>by
  simp at e1 e2;subst e1 e2
  exact ⟨[],fp,fq,rfl,h,λ s k g=>(by have z:=RtAll.cons g (r.frame s λ b hb=>k b (by simp [hb]));exact z)⟩
|_,_,_,j+1,x,t,.cons (fp:=fp) (fq:=fq) h r,e1,e2=>by
  obtain ⟨fA,fj,fB,e,hr,g⟩:=RtAll.split (j:=j) r (by simpa using e1) (by simpa using e2)
  refine ⟨fp++fA,fj,fB,by rw [e,List.append_assoc],hr,λ s k hu=>?_⟩
  rw [List.append_assoc]
  exact .cons (h.frame s λ b hb=>k b (by simp [hb])) (g s (λ b hb=>k b (by rcases List.mem_append.mp hb with z|z <;> simp [z])) hu)
theorem RtFs.split {F H:Hp}:∀ {xs:List (Str×V)} {ts:List (Str×T)} {fp:List Addr} {f:Str} {x:V} {t:T},RtFs K F H xs ts fp->xs.lookup f=some x->ts.lookup f=some t ->
  ∃ fA fj fB,fp=fA++(fj++fB)/\Rt K F H x t fj/\(∀ {F2 H2:Hp} {u:T} {fq:List Addr},Same F F2->(∀ b∈fA++fB,H2 b=H b/\F2 b=none)->Rt K F2 H2 x u fq->RtFs K F2 H2 xs (putA f u ts) (fA++(fq++fB))) /\
   (∀ {F2 H2:Hp} {y:V} {u:T} {fq:List Addr},Same F F2->(∀ b∈fA++fB,H2 b=H b/\F2 b=none)->Rt K F2 H2 y u fq->RtFs K F2 H2 (putF f y xs) (putA f u ts) (fA++(fq++fB)))
|_,_,_,_,_,_,.nil,e,_=>by cases e
|_,_,_,f,x,t,.cons (f:=g) (x:=x') (t:=t') (fp:=fp) (fq:=fq) h r,e1,e2=>by
  by_cases hg:f=g
  ·subst hg
   simp [List.lookup] at e1 e2
   subst e1 e2
   refine ⟨[],fp,fq,rfl,h,λ s k u=>?_,λ s k u=>?_⟩
   ·show RtFs K _ _ _ (putA f _ ((f,_) :: _)) _
    rw [show putA f _ ((f,t') :: _)=(f,_) :: _ from if_pos rfl]
    have z:=RtFs.cons (f:=f) u (r.frame s λ b hb=>k b (by simp [hb]));exact z
   ·rw [show putA f _ ((f,t') :: _)=(f,_) :: _ from if_pos rfl,show putF f _ ((f,x') :: _)=(f,_) :: _ from if_pos rfl]
    have z:=RtFs.cons (f:=f) u (r.frame s λ b hb=>k b (by simp [hb]));exact z
  ·have hb:(f == g)=false:=beq_eq_false_iff_ne.mpr hg
   simp only [List.lookup,hb] at e1 e2
   obtain ⟨fA,fj,fB,e,hr,q1,q2⟩:=RtFs.split r e1 e2
   have hgf:¬g=f:=λ z=>hg z.symm
   refine ⟨fp++fA,fj,fB,by rw [e,List.append_assoc],hr,λ s k u=>?_,λ s k u=>?_⟩
   ·rw [show putA f _ ((g,t') :: _)=(g,t') :: putA f _ _ from if_neg hgf,List.append_assoc]
    exact .cons (h.frame s λ b hb=>k b (by simp [hb])) (q1 s (λ b hb=>k b (by rcases List.mem_append.mp hb with z|z <;> simp [z])) u)
   ·rw [show putA f _ ((g,t') :: _)=(g,t') :: putA f _ _ from if_neg hgf,show putF f _ ((g,x') :: _)=(g,x') :: putF f _ _ from if_neg hgf,List.append_assoc]
    exact .cons (h.frame s λ b hb=>k b (by simp [hb])) (q2 s (λ b hb=>k b (by rcases List.mem_append.mp hb with z|z <;> simp [z])) u)
theorem RtFs.add {F H F2 H2:Hp} {y:V} {u:T} {fq:List Addr} (s:Same F F2) (hu:Rt K F2 H2 y u fq):∀ {xs:List (Str×V)} {ts:List (Str×T)} {fp:List Addr} {f:Str},RtFs K F H xs ts fp->ts.lookup f=none->(∀ b∈fp,H2 b=H b/\F2 b=none)->RtFs K F2 H2 (putF f y xs) (putA f u ts) (fp++fq)
|_,_,_,f,.nil,_,_=>by
  show RtFs K F2 H2 [(f,y)] [(f,u)] fq
  have:=RtFs.cons (f:=f) hu (.nil (K:=K) (F:=F2) (H:=H2))
  rwa [List.append_nil] at this
|_,_,_,f,.cons (f:=g) (x:=x') (t:=t') (fp:=fp) (fq:=fq') h r,e,k=>by
  have hg:¬f=g:=λ z=>by subst z;simp [List.lookup] at e
  have hb:(f == g)=false:=beq_eq_false_iff_ne.mpr hg
  simp only [List.lookup,hb] at e
  have hgf:¬g=f:=λ z=>hg z.symm
  rw [show putA f u ((g,t') :: _)=(g,t') :: putA f u _ from if_neg hgf,show putF f y ((g,x') :: _)=(g,x') :: putF f y _ from if_neg hgf,List.append_assoc]
  exact .cons (h.frame s λ b hb=>k b (by simp [hb])) (RtFs.add s hu r e λ b hb=>k b (by simp [hb]))
theorem RtFs.keys {F H:Hp} {xs:List (Str×V)} {ts:List (Str×T)} {fp:List Addr} (f:Str) (h:RtFs K F H xs ts fp):(ts.lookup f=none->xs.lookup f=none)/\(∀ t,ts.lookup f=some t->∃ x,xs.lookup f=some x)/\xs.length=ts.length :=
 (Rt.ind (P:=λ _ _ _=>True) (Q:=λ _ _ _=>True) (R:=λ xs ts _=>(ts.lookup f=none->xs.lookup f=none)/\(∀ t,ts.lookup f=some t->∃ x,xs.lookup f=some x)/\xs.length=ts.length)
  (λ _=>trivial) (λ _ _ _=>trivial) (λ _ _ _=>trivial) (λ _ _ _ _ _=>trivial) (λ _ _ _=>trivial) (λ _ _ _=>trivial) (λ _ _ _=>trivial) trivial (λ _ _=>trivial) ⟨λ _=>rfl,(λ t e=>by cases e),rfl⟩
  λ {g x _ _ _ _ _} _ ⟨k1,k2,k3⟩=>by
   rw [List.length_cons,List.length_cons,k3,List.lookup_cons,List.lookup_cons]
   cases f == g with
  |true=>exact ⟨(λ e=>by cases e),λ _ _=>⟨x,rfl⟩,rfl⟩
  |false=>exact ⟨k1,k2,rfl⟩).2.2 h
theorem zo51 {F H:Hp} {x v:V} {t u:T} {p:Pth} (h:At H x t p v u):∀ {fp:List Addr},Rt K F H x t fp->fp.Nodup->∃ fn,Rt K F H v u fn/\(∀ a∈fn,a∈fp)/\fn.Nodup /\
  ∀ {F2 H2:Hp} {u2:T} {fq:List Addr},Same F F2->(∀ b∈fp,b ∉ fn->H2 b=H b/\F2 b=none)->Rt K F2 H2 v u2 fq->fq.Nodup->(∀ b∈fq,b∈fn \/ b ∉ fp)->∃ fp2,Rt K F2 H2 x (setP t p u2) fp2/\fp2.Nodup/\∀ b∈fp2,(b∈fp/\b ∉ fn) \/ b∈fq:=by
 induction h with
|nil =>
  intro fp hr nd
  refine ⟨fp,hr,λ a z=>z,nd,λ {F2 H2 u2 fq} _ _ h2 n2 _=>⟨fq,?_,n2,λ b hb=>.inr hb⟩⟩
  cases u2 <;> exact h2
|@ix a0 xs0 ts0 j0 x0 v0 t0 u0 p0 h1 h2 h3 _ ih =>
  intro fp hr nd
  cases hr with
 |ls g1 g2 g3 =>
   rw [h1] at g1;cases g1
   obtain ⟨fA,fj,fB,e,hj,rep⟩:=g3.split h2 h3
   subst e
   have ndR:=(List.nodup_cons.mp nd).2
   have nA:=(List.nodup_cons.mp nd).1
   obtain ⟨ndA,ndJB,djA⟩:=List.nodup_append.mp ndR
   obtain ⟨ndj,ndB,djB⟩:=List.nodup_append.mp ndJB
   obtain ⟨fn,hn,sub,ndn,back⟩:=ih hj ndj
   refine ⟨fn,hn,λ a ha=>by simp [sub a ha],ndn,λ {F2 H2 u2 fq} s k hu nq hq=>?_⟩
   obtain ⟨f2,r2,n2,m2⟩:=back s (λ b hb hnb=>k b (by simp [hb]) hnb) hu nq λ b hb=>by
    rcases hq b hb with z|z
    ·exact .inl z
    ·exact .inr λ y=>z (by simp [y])
   have notin:∀ b,b∈fA \/ b∈fB->b ∉ fn:=λ b hb hn'=>by
    have:=sub b hn'
    rcases hb with z|z
    ·exact djA b z b (by simp [this]) rfl
    ·exact djB b this b z rfl
   have rA:=rep s (λ b hb=>by
    have hb':=List.mem_append.mp hb
    refine k b (by rcases hb' with z|z <;> simp [z]) (notin b hb')) r2
   have hnotq:∀ b,(b∈fA \/ b∈fB \/ b=a0)->b ∉ fq:=λ b hb hbq=>by
    rcases hq b hbq with z|z
    ·rcases hb with y|y|y
     ·exact notin b (.inl y) z
     ·exact notin b (.inr y) z
     ·subst y;exact nA (by simp [sub _ z])
    ·apply z
     rcases hb with y|y|y
     ·simp [y]
     ·simp [y]
     ·simp [y]
   have ha2:=k _ (List.mem_cons_self) (λ z=>nA (by simp [sub _ z]))
   refine ⟨a0 :: (fA++(f2++fB)),?_,?_,?_⟩
   ·unfold setP
    rw [h3]
    exact .ls (by rw [ha2.1];exact h1) ha2.2 rA
   ·refine List.nodup_cons.mpr ⟨λ z=>?_,?_⟩
    ·rcases List.mem_append.mp z with y|y
     ·exact nA (by simp [y])
     ·rcases List.mem_append.mp y with y|y
      ·rcases m2 _ y with ⟨y1,_⟩|y1
       ·exact nA (by simp [y1])
       ·exact hnotq _ (.inr (.inr rfl)) y1
      ·exact nA (by simp [y])
    ·refine List.nodup_append.mpr ⟨ndA,List.nodup_append.mpr ⟨n2,ndB,λ a ha b hb=>?_⟩,λ a ha b hb=>?_⟩
     ·rcases m2 a ha with ⟨y,_⟩|y
      ·exact djB a y b hb
      ·intro z;subst z;exact hnotq a (.inr (.inl hb)) y
     ·rcases List.mem_append.mp hb with y|y
      ·rcases m2 b y with ⟨y,_⟩|y
       ·exact djA a ha b (by simp [y])
       ·intro z;subst z;exact hnotq a (.inl ha) y
      ·exact djA a ha b (by simp [y])
   ·intro b hb
    rcases List.mem_cons.mp hb with y|y
    ·subst y;exact .inl ⟨by simp,λ z=>nA (by simp [sub _ z])⟩
    ·rcases List.mem_append.mp y with y|y
     ·exact .inl ⟨by simp [y],notin b (.inl y)⟩
     ·rcases List.mem_append.mp y with y|y
      ·rcases m2 b y with ⟨y1,y2⟩|y1
       ·exact .inl ⟨by simp [y1],y2⟩
       ·exact .inr y1
      ·exact .inl ⟨by simp [y],notin b (.inr y)⟩
|@fl a0 C0 dx0 fs0 ts0 f0 x0 v0 t0 u0 p0 h1 h2 h3 _ ih =>
  intro fp hr nd
  cases hr with
 |ob g1 g2 g3 g4 g5 =>
   rw [h1] at g1;cases g1
   obtain ⟨fA,fj,fB,e,hj,rep,_⟩:=g5.split h2 h3
   subst e
   have nd1:=List.nodup_cons.mp nd
   have nd2:=List.nodup_cons.mp nd1.2
   have ndR:=nd2.2
   have nA:_ ∉ fA++(fj++fB):=λ z=>nd1.1 (List.mem_cons_of_mem _ z)
   have nX:=nd2.1
   obtain ⟨ndA,ndJB,djA⟩:=List.nodup_append.mp ndR
   obtain ⟨ndj,ndB,djB⟩:=List.nodup_append.mp ndJB
   obtain ⟨fn,hn,sub,ndn,back⟩:=ih hj ndj
   refine ⟨fn,hn,λ a ha=>by simp [sub a ha],ndn,λ {F2 H2 u2 fq} s k hu nq hq=>?_⟩
   obtain ⟨f2,r2,n2,m2⟩:=back s (λ b hb hnb=>k b (by simp [hb]) hnb) hu nq λ b hb=>by
    rcases hq b hb with z|z
    ·exact .inl z
    ·exact .inr λ y=>z (by simp [y])
   have notin:∀ b,b∈fA \/ b∈fB->b ∉ fn:=λ b hb hn'=>by
    have:=sub b hn'
    rcases hb with z|z
    ·exact djA b z b (by simp [this]) rfl
    ·exact djB b this b z rfl
   have rA:=rep s (λ b hb=>by
    have hb':=List.mem_append.mp hb
    refine k b (by rcases hb' with z|z <;> simp [z]) (notin b hb')) r2
   have hnotq:∀ b,(b∈fA \/ b∈fB)->b ∉ fq:=λ b hb hbq=>by
    rcases hq b hbq with z|z
    ·exact notin b hb z
    ·apply z
     rcases hb with y|y <;> simp [y]
   have hnq2:∀ b,b∈fn->b∈fA++(fj++fB):=λ b hb=>by simp [sub _ hb]
   have ha2:=k _ (List.mem_cons_self) (λ z=>nA (hnq2 _ z))
   have hx2:=k _ (List.mem_cons_of_mem _ List.mem_cons_self) (λ z=>nX (hnq2 _ z))
   have hf2:∀ b∈f2,b∈fj \/ b∈fq:=λ b hb=>by
    rcases m2 b hb with ⟨y,_⟩|y
    ·exact .inl y
    ·exact .inr y
   refine ⟨a0 :: dx0 :: (fA++(f2++fB)),?_,?_,?_⟩
   ·unfold setP
    rw [h3]
    exact .ob (by rw [ha2.1];exact h1) (by rw [hx2.1];exact g2) ha2.2 hx2.2 rA
   ·have inR:∀ b,b∈fA++(f2++fB)->b∈fA++(fj++fB) \/ b∈fq:=λ b hb=>by
     rcases List.mem_append.mp hb with y|y
     ·exact .inl (by simp [y])
     ·rcases List.mem_append.mp y with y|y
      ·rcases hf2 b y with y|y
       ·exact .inl (by simp [y])
       ·exact .inr y
      ·exact .inl (by simp [y])
    refine List.nodup_cons.mpr ⟨λ z=>?_,List.nodup_cons.mpr ⟨λ z=>?_,?_⟩⟩
    ·rcases List.mem_cons.mp z with y|y
     ·exact nd1.1 (by rw [y];simp)
     ·rcases inR _ y with y|y
      ·exact nA y
      ·rcases hq _ y with w|w
       ·exact nA (hnq2 _ w)
       ·exact w (by simp)
    ·rcases inR _ z with y|y
     ·exact nX y
     ·rcases hq _ y with w|w
      ·exact nX (hnq2 _ w)
      ·exact w (by simp)
    ·refine List.nodup_append.mpr ⟨ndA,List.nodup_append.mpr ⟨n2,ndB,λ a ha b hb=>?_⟩,λ a ha b hb=>?_⟩
     ·rcases m2 a ha with ⟨y,_⟩|y
      ·exact djB a y b hb
      ·intro z;subst z;exact hnotq a (.inr hb) y
     ·rcases List.mem_append.mp hb with y|y
      ·rcases m2 b y with ⟨y,_⟩|y
       ·exact djA a ha b (by simp [y])
       ·intro z;subst z;exact hnotq a (.inl ha) y
      ·exact djA a ha b (by simp [y])
   ·intro b hb
    rcases List.mem_cons.mp hb with y|y
    ·subst y;exact .inl ⟨by simp,λ z=>nA (hnq2 _ z)⟩
    ·rcases List.mem_cons.mp y with y|y
     ·subst y;exact .inl ⟨by simp,λ z=>nX (hnq2 _ z)⟩
     ·rcases List.mem_append.mp y with y|y
      ·exact .inl ⟨by simp [y],notin b (.inl y)⟩
      ·rcases List.mem_append.mp y with y|y
       ·rcases m2 b y with ⟨y1,y2⟩|y1
        ·exact .inl ⟨by simp [y1],y2⟩
        ·exact .inr y1
       ·exact .inl ⟨by simp [y],notin b (.inr y)⟩
end
def AtS (H:Hp) (σ:L2.St) (δ:DSt) (i:Nat) (p:Pth) (v:V) (u:T):Prop:=∃ s t x,δ[i]?=some s/\s.tree=some t/\σ.getD i none=some x/\At H x t p v u
abbrev DP:=DSt->(Nat->Pth->T->Prop)->Prop
def RfP (K:Fg) (te:TE) (dp:DP):Prop:=∀ {F H:Hp} {σ:L2.St} {δ:DSt} {Qd:Nat->Pth->T->Prop} {Q:VK},Same F H->RV K F H σ δ->dp δ Qd->(∀ i p u,Qd i p u->∀ v F' H',Ext F H F' H'->AtS H' σ δ i p v u->Q v H')->te σ H Q
section
variable {K:Fg} {te ti:TE} {dp:DP} {di:DE}
theorem zga1 {F H:Hp} {x v:V} {t u:T} {p:Pth} (h:At H x t p v u):∀ {fp:List Addr},Rt K F H x t fp->∃ fn,Rt K F H v u fn:=by
 induction h with
|nil=>intro fp hr;exact ⟨fp,hr⟩
|ix h1 h2 h3 _ ih =>
  intro fp hr
  cases hr with
 |ls g1 g2 g3 =>
   rw [h1] at g1;cases g1
   obtain ⟨fA,fj,fB,e,hj,_⟩:=g3.split h2 h3
   exact ih hj
|fl h1 h2 h3 _ ih =>
  intro fp hr
  cases hr with
 |ob g1 g2 g3 g4 g5 =>
   rw [h1] at g1;cases g1
   obtain ⟨fA,fj,fB,e,hj,_⟩:=g5.split h2 h3
   exact ih hj
theorem AtS.rt {F H:Hp} {σ:L2.St} {δ:DSt} {i:Nat} {p:Pth} {v:V} {u:T} (h:AtS H σ δ i p v u) (r:RV K F H σ δ):∃ fn,Rt K F H v u fn:=by
 obtain ⟨s,t,x,h1,h2,h3,h4⟩:=h
 obtain ⟨y,fp,e,hr,_⟩:=(r.sl i s h1).rt h2
 rw [h3] at e;cases e
 exact zga1 h4 hr
theorem AtS.mono {H H':Hp} {σ:L2.St} {δ:DSt} {i:Nat} {p:Pth} {v:V} {u:T} (s:Same H H') (h:AtS H σ δ i p v u):AtS H' σ δ i p v u:=by
 obtain ⟨s',t,x,h1,h2,h3,h4⟩:=h
 exact ⟨s',t,x,h1,h2,h3,h4.mono s⟩
def pVar (i:Nat):DP:=λ δ Q=>∃ s t,δ[i]?=some s/\s.tree=some t/\Q i [] t
theorem zx0 (i:Nat):RfP K (tVar i) (pVar i):=by
 intro F H σ δ Qd Q s r h k
 obtain ⟨sl,t,q,et,f⟩:=h
 obtain ⟨x,fp,e,hr,_⟩:=(r.sl i _ q).rt et
 exact ⟨x,zp7 (F:=F) (H:=H) (δ:=δ) e,k i [] t f x F H (Ext.refl s) ⟨sl,t,x,q,et,e,.nil⟩⟩
def nFld (f:Str) (u:T) (Q:T->Prop):Prop:=match u with
|.ob _ fs=>∃ t,fs.lookup f=some t/\Q t
|_=>False
def nCls (C:Addr) (u:T):Prop:=match u with
|.ob C' _=>C'=C
|_=>False
def pFld (C:Addr) (f:Str) (dp:DP):DP:=λ δ Q=>dp δ λ i p u=>nCls C u/\nFld f u λ t=>Q i (p++[.fl f]) t
theorem zc2 {C:Addr} {f:Str} (c:Cls K C) (na:zk1 K C f) (h:RfP K te dp):RfP K (za91 K te f) (pFld C f dp):=by
 intro F H σ δ Qd Q s r hd k
 refine h s r hd λ i p u hu v F1 H1 e1 at1=>?_
 obtain ⟨hc,hf⟩:=hu
 obtain ⟨fn,hr⟩:=at1.rt (r.ext e1)
 cases hr with
|ob g1 g2 g3 g4 g5 =>
  cases (show _=C from hc)
  obtain ⟨t,et,q⟩:=hf
  obtain ⟨y,ey⟩:=(g5.keys f).2.1 t et
  refine ⟨_,_,_,_,y,rfl,g1,c,na,ey,k i _ t q y F1 H1 e1 ?_⟩
  obtain ⟨sl,t0,x,a1,a2,a3,a4⟩:=at1
  exact ⟨sl,t0,x,a1,a2,a3,a4.snoc_fl g1 ey et⟩
|fz _=>exact hc.elim
|li _ _ _=>exact hc.elim
|ls _ _ _=>exact hc.elim
|dk _ _ _=>exact hc.elim
|dt _ _ _=>exact hc.elim
|tp _ _ _=>exact hc.elim
def nIx (u:T) (k:D) (Q:Nat->T->Prop):Prop:=match u,k with
|.ls ts,.int z=>∃ j t,ixN ts.length z=some j/\ts[j]?=some t/\Q j t
|_,_=>False
def pIx (dp:DP) (di:DE):DP:=λ δ Q=>dp δ λ i p u=>di δ λ k=>nIx u k λ j t=>Q i (p++[.ix j]) t
theorem zg81 {w:World} (h:RfP K te dp) (hi:RfE K ti di):RfP K (tOp (rIxV w K) te ti) (pIx dp di):=by
 intro F H σ δ Qd Q s r hd k
 refine h s r hd λ i p u hu v F1 H1 e1 at1=>hi e1.fh (r.ext e1) hu λ kd hk kv F2 H2 e2 i2=>?_
 have e12:=e1.trans e2
 have at2:=at1.mono e2.h
 obtain ⟨fn,hr⟩:=at2.rt (r.ext e12)
 unfold nIx at hk
 split at hk
 ·rename_i ts z
  obtain ⟨j,t,ej,et,q⟩:=hk
  cases i2.int_inv
  cases hr with
 |ls g1 g2 g3 =>
   have el:=g3.len
   have hj:j < ts.length:=by
    rcases Nat.lt_or_ge j ts.length with y|y
    ·exact y
    ·rw [List.getElem?_eq_none y] at et;cases et
   rename_i a xs fp
   obtain ⟨y,hx⟩:∃ y,xs[j]?=some y:=⟨xs[j]'(by lia),List.getElem?_eq_getElem _⟩
   refine .inl (.inl (.inl ⟨a,xs,z,y,rfl,rfl,SqL.of g1,?_,k i _ t q _ F2 H2 e12 ?_⟩))
   ·unfold atI
    rw [el,ej]
    exact hx
   ·obtain ⟨sl,t0,x,a1,a2,a3,a4⟩:=at2
    exact ⟨sl,t0,x,a1,a2,a3,a4.snoc_ix (y:=x) g1 hx et⟩
 ·exact hk.elim
def dPV (dp:DP):DE:=λ δ Q=>dp δ λ _ _ u=>vwT u Q
def dPE (dp:DP):DE:=λ δ Q=>dp δ λ _ _ u=>fzT u Q
theorem RfP.v (h:RfP K te dp):RfV K te (dPV dp):=λ s r d k=>h s r d λ i p u hu v F1 H1 e1 at1=>by
 obtain ⟨fn,hr⟩:=at1.rt (r.ext e1)
 obtain ⟨d,qd,vw⟩:=zw71 hr hu
 exact k d qd v F1 H1 e1 vw
theorem RfP.e (h:RfP K te dp):RfE K te (dPE dp):=λ s r d k=>h s r d λ i p u hu v F1 H1 e1 at1=>by
 obtain ⟨fn,hr⟩:=at1.rt (r.ext e1)
 obtain ⟨d,qd,vw⟩:=zby hr hu
 exact k d qd v F1 H1 e1 vw
end
structure Bs where
 F0:Hp
 H0:Hp
 G:List Addr
def Sl.own:Sl->Bool
|.ow _=>true
|.io _ _=>true
|_=>false
def Sl.has:Sl->Bool
|.ow _=>true
|.io _ _=>true
|.bo _=>true
|_=>false
def Sl.wth:Sl->T->Sl
|.ow _,u=>.ow u
|.io a _,u=>.io a u
|s,_=>s
structure RS (K:Fg) (B:Bs) (F H:Hp) (σ:L2.St) (δ:DSt) (fps:Nat->List Addr):Prop where
 hh:∀ b o,b ∉ B.G->B.H0 b=some o->H b=some o
 ff:Same B.F0 F
 fh:Same F H
 nw:∀ b,B.H0 b≠none->B.F0 b=none->F b=none
 al:∀ b,B.H0 b≠none->H b≠none
 len:σ.length=δ.length
 sh:∀ (i:Nat) d,δ[i]?=some (.sh d)->∃ x,σ.getD i none=some x/\Is K F x d
 rt:∀ (i:Nat) s,δ[i]?=some s->s.has=true->∃ x t,σ.getD i none=some x/\s.tree=some t/\Rt K F H x t (fps i)/\(∀ a u,s=.io a u->x=.ref a)/\(fps i).Nodup
 fr:∀ (i:Nat) s,δ[i]?=some s->s.own=true->∀ a∈fps i,B.H0 a=none \/ (a∈B.G/\∀ t,s≠.ow t)
 dj:∀ (i j:Nat) s s',i≠j->δ[i]?=some s->δ[j]?=some s'->s.own=true->s'.has=true->∀ a∈fps i,a ∉ fps j
section
variable {K:Fg} {B:Bs} {F H F' H':Hp} {σ:L2.St} {δ:DSt} {fps:Nat->List Addr}
theorem zn6:∀ {s:Sl},s.own=true->s.has=true
|.ow _,_=>rfl
|.io _ _,_=>rfl
|.un,e=>by cases e
|.sh _,e=>by cases e
|.bo _,e=>by cases e
theorem RS.rv (r:RS K B F H σ δ fps):RV K F H σ δ:=⟨r.len,λ i s e=>by
 cases s with
|un=>trivial
|sh d=>exact r.sh i d e
|ow t =>
  obtain ⟨x,t',h1,h2,h3,h4,h5⟩:=r.rt i _ e rfl
  cases h2;exact ⟨x,_,h1,h3,h5⟩
|bo t =>
  obtain ⟨x,t',h1,h2,h3,h4,h5⟩:=r.rt i _ e rfl
  cases h2;exact ⟨x,_,h1,h3,h5⟩
|io a t =>
  obtain ⟨x,t',h1,h2,h3,h4,h5⟩:=r.rt i _ e rfl
  cases h2
  cases h4 a t rfl
  exact ⟨_,h1,h3,h5⟩⟩
theorem RS.grow (r:RS K B F H σ δ fps) (e:Ext F H F' H'):RS K B F' H' σ δ fps where
 hh:=λ b o hb ho=>e.h b o (r.hh b o hb ho)
 ff:=r.ff.trans e.f
 fh:=e.fh
 nw:=λ b hb fb=>e.nw b (r.al b hb) (r.nw b hb fb)
 al:=λ b hb z=>by
  cases q:H b with
 |none=>exact r.al b hb q
 |some o=>rw [e.h b o q] at z;cases z
 len:=r.len
 sh:=λ i d h=>by obtain ⟨x,h1,h2⟩:=r.sh i d h;exact ⟨x,h1,h2.mono e.f⟩
 rt:=λ i s h1 h2=>by obtain ⟨x,t,a1,a2,a3,a4,a5⟩:=r.rt i s h1 h2;exact ⟨x,t,a1,a2,a3.ext e,a4,a5⟩
 fr:=r.fr
 dj:=r.dj
theorem RS.setS (r:RS K B F H σ δ fps) {i:Nat} {v:V} {d:D} (h:Is K F v d):RS K B F H (σ.set i (some v)) (δ.set i (.sh d)) fps:=by
 have key:∀ (j:Nat) s,(δ.set i (.sh d))[j]?=some s->(j=i/\s=.sh d/\(σ.set i (some v)).getD j none=some v) \/ (j≠i/\δ[j]?=some s/\(σ.set i (some v)).getD j none=σ.getD j none):=λ j s e=>by
  rw [List.getElem?_set] at e
  by_cases hij:i=j
  ·subst hij
   by_cases hl:i < δ.length
   ·simp [hl] at e;exact .inl ⟨rfl,e.symm,by rw [zt3,r.len,if_pos ⟨rfl,hl⟩]⟩
   ·simp [hl] at e
  ·simp [hij] at e
   exact .inr ⟨λ z=>hij z.symm,e,by rw [zt3,if_neg (by lia)]⟩
 refine ⟨r.hh,r.ff,r.fh,r.nw,r.al,by rw [List.length_set,List.length_set];exact r.len,λ j d' e=>?_,λ j s e hs=>?_,λ j s e hs=>?_,λ j k s s' hjk e1 e2 o1 o2=>?_⟩
 ·rcases key j _ e with ⟨_,e2,e3⟩|⟨_,e2,e3⟩
  ·cases e2;exact ⟨v,e3,h⟩
  ·obtain ⟨x,h1,h2⟩:=r.sh j d' e2;exact ⟨x,by rw [e3];exact h1,h2⟩
 ·rcases key j _ e with ⟨_,e2,e3⟩|⟨_,e2,e3⟩
  ·rw [e2] at hs;cases hs
  ·rw [e3];exact r.rt j s e2 hs
 ·rcases key j _ e with ⟨_,e2,e3⟩|⟨_,e2,e3⟩
  ·rw [e2] at hs;cases hs
  ·exact r.fr j s e2 hs
 ·rcases key j _ e1 with ⟨_,z,_⟩|⟨_,z1,_⟩
  ·rw [z] at o1;cases o1
  ·rcases key k _ e2 with ⟨_,z,_⟩|⟨_,z2,_⟩
   ·rw [z] at o2;cases o2
   ·exact r.dj j k s s' hjk z1 z2 o1 o2
theorem RS.byUpd {n:Nat} {σ':L2.St} {δ':DSt} (u:Upd K F n σ δ σ' δ') (r:RS K B F H σ δ fps):RS K B F H σ' δ' fps:=by
 induction u with
|refl=>exact r
|set hi hv _ ih=>exact ih (r.setS hv)
theorem RS.forget (r:RS K B F H σ δ fps) (i:Nat):RS K B F H σ (δ.set i .un) fps:=by
 have key:∀ (j:Nat) s,(δ.set i .un)[j]?=some s->s=.un \/ (j≠i/\δ[j]?=some s):=λ j s e=>by
  rw [List.getElem?_set] at e
  by_cases hij:i=j
  ·subst hij
   by_cases hl:i < δ.length
   ·simp [hl] at e;exact .inl e.symm
   ·simp [hl] at e
  ·simp [hij] at e;exact .inr ⟨λ z=>hij z.symm,e⟩
 refine ⟨r.hh,r.ff,r.fh,r.nw,r.al,by rw [List.length_set];exact r.len,λ j d' e=>?_,λ j s e hs=>?_,λ j s e hs=>?_,λ j k s s' hjk e1 e2 o1 o2=>?_⟩
 ·rcases key j _ e with z|⟨_,z⟩
  ·cases z
  ·exact r.sh j d' z
 ·rcases key j _ e with z|⟨_,z⟩
  ·rw [z] at hs;cases hs
  ·exact r.rt j s z hs
 ·rcases key j _ e with z|⟨_,z⟩
  ·rw [z] at hs;cases hs
  ·exact r.fr j s z hs
 ·rcases key j _ e1 with z|⟨_,z1⟩
  ·rw [z] at o1;cases o1
  ·rcases key k _ e2 with z|⟨_,z2⟩
   ·rw [z] at o2;cases o2
   ·exact r.dj j k s s' hjk z1 z2 o1 o2
def zr21 (B:Bs) (δ:DSt) (fps:Nat->List Addr) (b:Addr):Prop:=B.H0 b=none/\∀ (j:Nat) s,δ[j]?=some s->s.has=true->b ∉ fps j
theorem RS.newOk (r:RS K B F H σ δ fps) {b:Addr} (h:H b=none):zr21 B δ fps b:=by
 refine ⟨?_,λ j s ej hs hb=>?_⟩
 ·by_cases z:B.H0 b=none
  ·exact z
  ·exact absurd h (r.al b z)
 ·obtain ⟨x,t,a1,a2,a3,a4,a5⟩:=r.rt j s ej hs
  exact (a3.dom b hb).1 h
theorem RS.upd2 (r:RS K B F H σ δ fps) {i:Nat} {s:Sl} {x:V} {t2:T} {fp2:List Addr} {F2 H2:Hp} (hi:δ[i]?=some s) (ho:s.own=true) (hx:σ.getD i none=some x)
  (c1:∀ b o,b ∉ fps i->H b=some o->H2 b=some o) (c2:Same F F2) (c3:Same F2 H2) (c4:∀ b,H b≠none->F b=none->b ∉ fps i->F2 b=none) (c5:∀ b,H b≠none->H2 b≠none)
  (h2:Rt K F2 H2 x t2 fp2) (n2:fp2.Nodup) (m2:∀ b∈fp2,b∈fps i \/ zr21 B δ fps b) (c6:∀ b∈fps i,F2 b≠none->B.H0 b=none) :
  RS K B F2 H2 σ (δ.set i (s.wth t2)) (λ j=>if j=i then fp2 else fps j):=by
 have hlt:i < δ.length:=by
  rcases Nat.lt_or_ge i δ.length with z|z
  ·exact z
  ·rw [List.getElem?_eq_none z] at hi;cases hi
 have hs:=zn6 ho
 have wo:(s.wth t2).own=true/\(s.wth t2).has=true/\(s.wth t2).tree=some t2:=by
  cases s with
 |ow _=>exact ⟨rfl,rfl,rfl⟩
 |io _ _=>exact ⟨rfl,rfl,rfl⟩
 |un=>cases ho
 |sh _=>cases ho
 |bo _=>cases ho
 have key:∀ (j:Nat) s',(δ.set i (s.wth t2))[j]?=some s'->(j=i/\s'=s.wth t2) \/ (j≠i/\δ[j]?=some s'):=λ j s' e=>by
  rw [List.getElem?_set] at e
  by_cases hij:i=j
  ·subst hij;simp [hlt] at e;exact .inl ⟨rfl,e.symm⟩
  ·simp [hij] at e;exact .inr ⟨λ z=>hij z.symm,e⟩
 have old:∀ b∈fps i,H b≠none/\F b=none:=by
  obtain ⟨x',t',a1,a2,a3,a4,a5⟩:=r.rt i s hi hs
  exact a3.dom
 have own0:=r.fr i s hi ho
 refine ⟨λ b o hb h0=>?_,r.ff.trans c2,c3,λ b hb fb=>?_,λ b hb=>c5 b (r.al b hb),by rw [List.length_set];exact r.len,λ j d e=>?_,λ j s' e hs'=>?_,λ j s' e ho' a ha=>?_,λ j k s1 s2 hjk e1 e2 o1 o2 a ha=>?_⟩
 ·refine c1 b o (λ z=>?_) (r.hh b o hb h0)
  rcases own0 b z with y|y
  ·rw [y] at h0;cases h0
  ·exact hb y.1
 ·by_cases hbi:b∈fps i
  ·cases z:F2 b with
  |none=>rfl
  |some o=>exact absurd (c6 b hbi (by rw [z];simp)) hb
  ·exact c4 b (r.al b hb) (r.nw b hb fb) hbi
 ·rcases key j _ e with ⟨_,z⟩|⟨_,z⟩
  ·rw [<- z] at wo;cases wo.1
  ·obtain ⟨y,h1,h2⟩:=r.sh j d z;exact ⟨y,h1,h2.mono c2⟩
 ·rcases key j _ e with ⟨zj,z⟩|⟨zj,z⟩
  ·subst zj
   rw [if_pos rfl]
   refine ⟨x,t2,hx,by rw [z];exact wo.2.2,h2,λ a u e'=>?_,n2⟩
   obtain ⟨x',t',a1,a2,a3,a4,a5⟩:=r.rt j s hi hs
   rw [hx] at a1;cases a1
   cases s with
  |ow _=>rw [z] at e';cases e'
  |io a' u'=>rw [z] at e';cases e';exact a4 _ _ rfl
  |un=>cases ho
  |sh _=>cases ho
  |bo _=>cases ho
  ·rw [if_neg zj]
   obtain ⟨y,t',a1,a2,a3,a4,a5⟩:=r.rt j s' z hs'
   refine ⟨y,t',a1,a2,a3.frame c2 λ a ha=>?_,a4,a5⟩
   obtain ⟨d1,d2⟩:=a3.dom a ha
   have na:a ∉ fps i:=λ w=>r.dj i j s s' (λ q=>zj q.symm) hi z ho hs' a w ha
   cases q:H a with
  |none=>exact absurd q d1
  |some o=>exact ⟨c1 a o na q,c4 a d1 d2 na⟩
 ·rcases key j _ e with ⟨zj,z⟩|⟨zj,z⟩
  ·rw [if_pos zj] at ha
   rcases m2 a ha with y|y
   ·rcases own0 a y with w|⟨w1,w2⟩
    ·exact .inl w
    ·refine .inr ⟨w1,λ t et=>?_⟩
     rw [z] at et
     cases s with
    |ow t'=>exact w2 t' rfl
    |io _ _=>cases et
    |un=>cases ho
    |sh _=>cases ho
    |bo _=>cases ho
   ·exact .inl y.1
  ·rw [if_neg zj] at ha;exact r.fr j s' z ho' a ha
 ·rcases key j _ e1 with ⟨zj,z1⟩|⟨zj,z1⟩ <;> rcases key k _ e2 with ⟨zk,z2⟩|⟨zk,z2⟩
  ·exact absurd (zj.trans zk.symm) hjk
  ·rw [if_pos zj] at ha;rw [if_neg zk]
   subst zj
   rcases m2 a ha with y|y
   ·exact r.dj j k s s2 hjk hi z2 ho o2 a y
   ·exact y.2 k s2 z2 o2
  ·rw [if_neg zj] at ha;rw [if_pos zk]
   subst zk
   intro w
   rcases m2 a w with y|y
   ·exact r.dj j k s1 s hjk z1 hi o1 hs a ha y
   ·exact y.2 j s1 z1 (zn6 o1) ha
  ·rw [if_neg zj] at ha;rw [if_neg zk]
   exact r.dj j k s1 s2 hjk z1 z2 o1 o2 a ha
theorem RS.setT (r:RS K B F H σ δ fps) {i:Nat} {v:V} {t:T} {fp:List Addr} (h:Rt K F H v t fp) (nd:fp.Nodup) (hf:∀ a∈fp,B.H0 a=none) (hd:∀ (j:Nat) s,δ[j]?=some s->s.has=true->∀ a∈fps j,a ∉ fp) :
  RS K B F H (σ.set i (some v)) (δ.set i (.ow t)) (λ j=>if j=i then fp else fps j):=by
 have key:∀ (j:Nat) s,(δ.set i (.ow t))[j]?=some s->(j=i/\s=.ow t/\(σ.set i (some v)).getD j none=some v) \/ (j≠i/\δ[j]?=some s/\(σ.set i (some v)).getD j none=σ.getD j none):=λ j s e=>by
  rw [List.getElem?_set] at e
  by_cases hij:i=j
  ·subst hij
   by_cases hl:i < δ.length
   ·simp [hl] at e;exact .inl ⟨rfl,e.symm,by rw [zt3,r.len,if_pos ⟨rfl,hl⟩]⟩
   ·simp [hl] at e
  ·simp [hij] at e
   exact .inr ⟨λ z=>hij z.symm,e,by rw [zt3,if_neg (by lia)]⟩
 refine ⟨r.hh,r.ff,r.fh,r.nw,r.al,by rw [List.length_set,List.length_set];exact r.len,λ j d' e=>?_,λ j s e hs=>?_,λ j s e hs a ha=>?_,λ j k s s' hjk e1 e2 o1 o2 a ha=>?_⟩
 ·rcases key j _ e with ⟨_,e2,e3⟩|⟨_,e2,e3⟩
  ·cases e2
  ·obtain ⟨x,h1,h2⟩:=r.sh j d' e2;exact ⟨x,by rw [e3];exact h1,h2⟩
 ·rcases key j _ e with ⟨zj,e2,e3⟩|⟨zj,e2,e3⟩
  ·rw [if_pos zj,e3,e2];exact ⟨v,t,rfl,rfl,h,λ a u z=>(by cases z),nd⟩
  ·rw [if_neg zj,e3];exact r.rt j s e2 hs
 ·rcases key j _ e with ⟨zj,e2,e3⟩|⟨zj,e2,e3⟩
  ·rw [if_pos zj] at ha;exact .inl (hf a ha)
  ·rw [if_neg zj] at ha;exact r.fr j s e2 hs a ha
 ·rcases key j _ e1 with ⟨zj,z1,_⟩|⟨zj,z1,_⟩ <;> rcases key k _ e2 with ⟨zk,z2,_⟩|⟨zk,z2,_⟩
  ·exact absurd (zj.trans zk.symm) hjk
  ·rw [if_pos zj] at ha;rw [if_neg zk]
   exact λ w=>hd k s' z2 o2 a w ha
  ·rw [if_neg zj] at ha;rw [if_pos zk]
   exact hd j s z1 (zn6 o1) a ha
  ·rw [if_neg zj] at ha;rw [if_neg zk]
   exact r.dj j k s s' hjk z1 z2 o1 o2 a ha
theorem RS.put (r:RS K B F H σ δ fps) {i:Nat} {s:Sl} {p:Pth} {v:V} {u:T} (hi:δ[i]?=some s) (ho:s.own=true) (ha:AtS H σ δ i p v u) :
  ∃ fn t,s.tree=some t/\Rt K F H v u fn/\fn.Nodup/\(∀ a∈fn,a∈fps i)/\∀ {F2 H2:Hp} {u2:T} {fq:List Addr},
   (∀ b o,b ∉ fn->H b=some o->H2 b=some o)->Same F F2->Same F2 H2->(∀ b,H b≠none->F b=none->b ∉ fn->F2 b=none)->(∀ b,H b≠none->H2 b≠none)->(∀ b∈fn,F2 b≠none->B.H0 b=none) ->
   Rt K F2 H2 v u2 fq->fq.Nodup->(∀ b∈fq,b∈fn \/ zr21 B δ fps b)->∃ fps2,RS K B F2 H2 σ (δ.set i (s.wth (setP t p u2))) fps2/\(∀ j,j≠i->fps2 j=fps j)/\∀ b∈fps2 i,b∈fps i \/ b∈fq:=by
 obtain ⟨s',t,x,h1,h2,h3,h4⟩:=ha
 rw [hi] at h1;cases h1
 obtain ⟨x',t',a1,a2,a3,a4,a5⟩:=r.rt i s hi (zn6 ho)
 rw [h3] at a1;cases a1
 rw [h2] at a2;cases a2
 obtain ⟨fn,hn,sub,ndn,back⟩:=zo51 h4 a3 a5
 refine ⟨fn,t,h2,hn,ndn,sub,λ {F2 H2 u2 fq} c1 c2 c3 c4 c5 c6 hu nq mq=>?_⟩
 obtain ⟨fp2,r2,n2,m2⟩:=back c2 (λ b hb hnb=>by
  obtain ⟨d1,d2⟩:=a3.dom b hb
  cases q:H b with
 |none=>exact absurd q d1
 |some o=>exact ⟨c1 b o hnb q,c4 b d1 d2 hnb⟩) hu nq λ b hb=>by
   rcases mq b hb with z|z
   ·exact .inl z
   ·exact .inr (z.2 i s hi (zn6 ho))
 refine ⟨_,r.upd2 hi ho h3 (λ b o hb=>c1 b o λ z=>hb (sub b z)) c2 c3 (λ b hb fb hbi=>c4 b hb fb λ z=>hbi (sub b z)) c5 r2 n2 (λ b hb=>?_) (λ b hb f2=>?_),λ j hj=>if_neg hj,λ b hb=>?_⟩
 ·rcases m2 b hb with ⟨y,_⟩|y
  ·exact .inl y
  ·rcases mq b y with z|z
   ·exact .inl (sub b z)
   ·exact .inr z
 ·by_cases z:b∈fn
  ·exact c6 b z f2
  ·obtain ⟨d1,d2⟩:=a3.dom b hb
   exact absurd (c4 b d1 d2 z) f2
 ·rw [if_pos rfl] at hb
  rcases m2 b hb with ⟨y,_⟩|y
  ·exact .inl y
  ·exact .inr y
end
structure Res (K:Fg) (B:Bs) (F H:Hp) (σ:L2.St) (δ:DSt) (fps:Nat->List Addr) (v:V) (r:T) (fpr:List Addr):Prop where
 rs:RS K B F H σ δ fps
 rt:Rt K F H v r fpr
 nd:fpr.Nodup
 fr:∀ a∈fpr,B.H0 a=none
 dj:∀ (j:Nat) s,δ[j]?=some s->s.has=true->∀ a∈fps j,a ∉ fpr
abbrev DC:=DSt->(T->DSt->Prop)->Prop
def RfC (K:Fg) (te:TE) (dc:DC):Prop:=∀ {B:Bs} {F H:Hp} {σ:L2.St} {δ:DSt} {fps:Nat->List Addr} {Qd:T->DSt->Prop} {Q:VK},RS K B F H σ δ fps->dc δ Qd->(∀ r δ',Qd r δ'->∀ v F' H' fps' fpr,Res K B F' H' σ δ' fps' v r fpr->Q v H')->te σ H Q
structure DEnds where
 nx:DSt->Prop
 rt:T->DSt->Prop
 bk:DSt->Prop:=λ _=>False
 ct:DSt->Prop:=λ _=>False
abbrev DS:=DEnds->DSt->Prop
structure En (K:Fg) (B:Bs) (E:DEnds) (Z:Ends):Prop where
 nx:∀ {F H:Hp} {σ:L2.St} {δ:DSt} {fps:Nat->List Addr},RS K B F H σ δ fps->E.nx δ->Z.nx σ H
 bk:∀ {F H:Hp} {σ:L2.St} {δ:DSt} {fps:Nat->List Addr},RS K B F H σ δ fps->E.bk δ->Z.bk σ H
 ct:∀ {F H:Hp} {σ:L2.St} {δ:DSt} {fps:Nat->List Addr},RS K B F H σ δ fps->E.ct δ->Z.ct σ H
 rt:∀ {F H:Hp} {σ:L2.St} {δ:DSt} {fps:Nat->List Addr} {v:V} {r:T} {fpr:List Addr},Res K B F H σ δ fps v r fpr->E.rt r δ->Z.rt v H
def RfS (K:Fg) (ts:TS) (ds:DS):Prop:=∀ {B:Bs} {F H:Hp} {σ:L2.St} {δ:DSt} {fps:Nat->List Addr} {E:DEnds} {Z:Ends},RS K B F H σ δ fps->ds E δ->En K B E Z->ts Z σ H
section
variable {K:Fg} {te ta ti:TE} {de da di:DE} {dc:DC} {tt:TT} {dt:DT} {t u tb:TS} {d e db:DS} {tA:TA} {dA:DF} {g:TG} {dg:DG} {n:Nat} {dp:DP}
def cE (de:DE):DC:=λ δ Q=>de δ λ d=>Q (.fz d) δ
theorem RfE.c (h:RfE K te de):RfC K te (cE de):=by
 intro B F H σ δ fps Qd Q r hd k
 exact h r.fh r.rv hd λ d q v F1 H1 e1 i1=>k _ _ q v F1 H1 fps [] ⟨r.grow e1,.fz i1,.nil,λ a ha=>by simp at ha,λ _ _ _ _ a _ ha=>by simp at ha⟩
def cF (df:DF):DC:=λ δ Q=>df δ λ ds=>Q (.li ds) δ
theorem RfF.c {df:DF} (h:RfF K te df):RfC K te (cF df):=by
 intro B F H σ δ fps Qd Q r hd k
 refine h r.fh r.rv hd λ ds q a xs F1 H1 e1 hn h1 h2 h3=>k _ _ q (.ref a) F1 H1 fps [a] ⟨r.grow e1,.li h1 h2 h3,by simp,λ b hb=>?_,λ j s ej hs b hb hb2=>?_⟩
 ·simp at hb;subst hb
  by_cases z:B.H0 b=none
  ·exact z
  ·exact absurd hn (r.al b z)
 ·simp at hb2;subst hb2
  obtain ⟨x,t,a1,a2,a3,a4,a5⟩:=r.rt j s ej hs
  exact (a3.dom b hb).1 hn
def slot:T->Sl
|.fz d=>.sh d
|t=>.ow t
theorem Res.set {B:Bs} {F H:Hp} {σ:L2.St} {δ:DSt} {fps:Nat->List Addr} {v:V} {r:T} {fpr:List Addr} (h:Res K B F H σ δ fps v r fpr) (i:Nat):∃ fps',RS K B F H (σ.set i (some v)) (δ.set i (slot r)) fps':=by
 cases r with
|fz d=>cases h.rt with
 |fz hi=>exact ⟨_,h.rs.setS hi⟩
|li ds=>exact ⟨_,h.rs.setT h.rt h.nd h.fr h.dj⟩
|ls ds=>exact ⟨_,h.rs.setT h.rt h.nd h.fr h.dj⟩
|ob C ds=>exact ⟨_,h.rs.setT h.rt h.nd h.fr h.dj⟩
|dk ds=>exact ⟨_,h.rs.setT h.rt h.nd h.fr h.dj⟩
|dt ds=>exact ⟨_,h.rs.setT h.rt h.nd h.fr h.dj⟩
|tp ds=>exact ⟨_,h.rs.setT h.rt h.nd h.fr h.dj⟩
def zpl:DS:=λ E δ=>E.nx δ
theorem zb1:RfS K zc81 zpl:=λ r h k=>k.nx r h
def dSeq (a b:DS):DS:=λ E δ=>∃ J:DSt->Prop,a { E with nx:=J } δ/\∀ δ',J δ'->b E δ'
theorem zm0 (h1:RfS K t d) (h2:RfS K u e):RfS K (tSeq t u) (dSeq d e):=by
 intro B F H σ δ fps E Z r h k
 obtain ⟨J,ha,hb⟩:=h
 exact h1 r ha ⟨λ r' q=>h2 r' (hb _ q) k,k.bk,k.ct,k.rt⟩
def dAsg (de:DE) (dg:DG):DS:=λ E δ=>de δ λ d=>dg d δ E.nx
theorem za1 (he:RfE K te de) (hg:RfG K n g dg):RfS K (tAsg te g) (dAsg de dg):=by
 intro B F H σ δ fps E Z r h k
 exact he r.fh r.rv h λ d hd v F1 H1 e1 i1=>hg e1.fh i1 hd λ σ' δ' q u=>k.nx ((r.grow e1).byUpd u) q
def dSet (i:Nat) (dc:DC):DS:=λ E δ=>dc δ λ r δ'=>E.nx (δ'.set i (slot r))
theorem zr7 {i:Nat} (hc:RfC K te dc):RfS K (tAsg te (znd i)) (dSet i dc):=by
 intro B F H σ δ fps E Z r h k
 refine hc r h λ r2 δ' q v F1 H1 fps1 fpr res=>?_
 obtain ⟨fps2,r3⟩:=res.set i
 exact k.nx r3 q
def ztv (dc:DC):DS:=λ E δ=>dc δ λ _ δ'=>E.nx δ'
theorem zug (hc:RfC K te dc):RfS K (zh21 te) (ztv dc):=by
 intro B F H σ δ fps E Z r h k
 exact hc r h λ r2 δ' q v F1 H1 fps1 fpr res=>k.nx res.rs q
def dRet (dc:DC):DS:=λ E δ=>dc δ E.rt
theorem zj1 (hc:RfC K te dc):RfS K (tRet te) (dRet dc):=by
 intro B F H σ δ fps E Z r h k
 exact hc r h λ r2 δ' q v F1 H1 fps1 fpr res=>k.rt res q
def zgz (i:Nat):DS:=λ E δ=>match δ[i]? with
|some (.ow t)=>E.rt t (δ.set i .un)
|some (.sh d)=>E.rt (.fz d) δ
|_=>False
theorem zks {i:Nat}:RfS K (tRet (tVar i)) (zgz i):=by
 intro B F H σ δ fps E Z r h k
 unfold zgz at h
 split at h
 ·rename_i t q
  obtain ⟨x,t',a1,a2,a3,a4,a5⟩:=r.rt i _ q rfl
  cases a2
  refine ⟨x,zp7 (F:=F) (H:=H) (δ:=δ) a1,k.rt ⟨r.forget i,a3,a5,λ a ha=>(r.fr i _ q rfl a ha).elim id λ z=>absurd rfl (z.2 t),λ j s ej hs a ha hb=>?_⟩ h⟩
  rw [List.getElem?_set] at ej
  by_cases hij:i=j
  ·subst hij
   split at ej
   ·split at ej
    ·cases ej;cases hs
    ·cases ej
   ·rename_i z;exact absurd rfl z
  ·simp [hij] at ej
   exact r.dj i j _ s hij q ej rfl hs a hb ha
 ·rename_i d q
  obtain ⟨x,h1,h2⟩:=r.sh i d q
  exact ⟨x,zp7 (F:=F) (H:=H) (δ:=δ) h1,k.rt ⟨r,.fz h2,.nil,λ a ha=>by simp at ha,λ _ _ _ _ a _ ha=>by simp at ha⟩ h⟩
 ·exact h.elim
def dIf (dt:DT) (d e:DS):DS:=λ E δ=>dt δ λ b=>if b=true then d E δ else e E δ
theorem zo6 (ht:RfT K tt dt) (h1:RfS K t d) (h2:RfS K u e):RfS K (tIfS tt t u) (dIf dt d e):=by
 intro B F H σ δ fps E Z r h k
 refine ht r.fh r.rv h λ b hb F1 H1 e1=>?_
 cases b with
|true=>rw [if_pos rfl] at hb ⊢;exact h1 (r.grow e1) hb k
|false=>rw [if_neg Bool.false_ne_true] at hb ⊢;exact h2 (r.grow e1) hb k
def dFor (di:DF) (dg:DG) (db:DS):DS:=λ E δ=>di δ λ items=>∃ W:Nat->DSt->Prop,W 0 δ /\
 (∀ i d δ',items[i]?=some d->W i δ'->dg d δ' λ δ2=>db { E with nx:=W (i+1),ct:=W (i+1),bk:=E.nx } δ2)/\∀ δ',W items.length δ'->E.nx δ'
def Bs.rem (B:Bs) (F1:Hp):Bs:=⟨F1,B.H0,B.G⟩
theorem RS.rem {B:Bs} {F H F1:Hp} {σ:L2.St} {δ:DSt} {fps:Nat->List Addr} (r:RS K B F H σ δ fps) (s0:Same B.F0 F1) (s:Same F1 F):RS K (B.rem F1) F H σ δ fps :=
 ⟨r.hh,s,r.fh,λ b hb fb=>r.nw b hb (by
  cases q:B.F0 b with
 |none=>rfl
 |some o=>rw [show (B.rem F1).F0 b=F1 b from rfl,s0 b o q] at fb;cases fb),r.al,r.len,r.sh,r.rt,r.fr,r.dj⟩
theorem RS.unrem {B:Bs} {F H F1:Hp} {σ:L2.St} {δ:DSt} {fps:Nat->List Addr} (r:RS K (B.rem F1) F H σ δ fps) (s0:Same B.F0 F1) (n0:∀ b,B.H0 b≠none->B.F0 b=none->F1 b=none):RS K B F H σ δ fps :=
 ⟨r.hh,s0.trans r.ff,r.fh,λ b hb fb=>r.nw b hb (n0 b hb fb),r.al,r.len,r.sh,r.rt,r.fr,r.dj⟩
theorem zsh {wi:TI} {di:DF} (hi:RfI K wi di) (hg:RfG K n g dg) (hb:RfS K tb db):RfS K (tFor wi g tb) (dFor di dg db):=by
 intro B F H σ δ fps E Z r h k
 refine hi r.fh r.rv h λ items hx J F1 H1 e1 wj=>?_
 obtain ⟨W,w0,ws,we⟩:=hx
 have r1:=r.grow e1
 have s0:=r1.ff
 have n0:=r1.nw
 refine ⟨λ i m σ' H'=>m=items.length - i/\i<=items.length/\∃ F' δ' fps',RS K (B.rem F1) F' H' σ' δ' fps'/\W i δ',⟨items.length,rfl,Nat.zero_le _,F1,δ,fps,r1.rem s0 (λ _ _ z=>z),w0⟩,?_⟩
 rintro i m σ' H' ⟨rfl,hi',F',δ',fps',r',w'⟩
 obtain ⟨go,stop,yld⟩:=wj F' H' r'.ff r'.fh
 by_cases hlt:i < items.length
 ·refine .inr ⟨go i hlt,λ σ2 H2=>i+1<=items.length/\∃ F2 δ2 fps2,RS K (B.rem F1) F2 H2 σ2 δ2 fps2/\W (i+1) δ2,λ σ2 H2 p=>⟨_,by lia,rfl,p⟩,λ x H2 y=>?_⟩
  have hit:items[i]?=some items[i]:=List.getElem?_eq_getElem hlt
  obtain ⟨F2,ex2,ix2⟩:=yld i x H2 _ hit y
  refine hg ex2.fh ix2 (ws i _ δ' hit w') λ σ2 δ2 hd2 u2=>?_
  refine hb ((r'.grow ex2).byUpd u2) hd2 ⟨λ r3 q=>⟨hlt,_,_,_,r3,q⟩,λ r3 q=>k.nx (r3.unrem s0 n0) q,λ r3 q=>⟨hlt,_,_,_,r3,q⟩,λ res q=>k.rt ⟨res.rs.unrem s0 n0,res.rt,res.nd,res.fr,res.dj⟩ q⟩
 ·have e:i=items.length:=by lia
  subst e
  exact .inl ⟨stop,k.nx (r'.unrem s0 n0) (we _ w')⟩
def mutS (δ:DSt) (i:Nat) (p:Pth) (u:T) (N:DSt->Prop):Prop:=match δ[i]? with
|some (.ow t)=>N (δ.set i (.ow (setP t p u)))
|some (.io a t)=>N (δ.set i (.io a (setP t p u)))
|_=>False
theorem RS.mut {B:Bs} {F H:Hp} {σ:L2.St} {δ:DSt} {fps:Nat->List Addr} {i:Nat} {p:Pth} {v:V} {u u2:T} {N:DSt->Prop} (r:RS K B F H σ δ fps) (ha:AtS H σ δ i p v u) (hm:mutS δ i p u2 N) :
  ∃ fn,Rt K F H v u fn/\fn.Nodup/\(∀ a∈fn,a∈fps i)/\∀ {F2 H2:Hp} {fq:List Addr},
   (∀ b o,b ∉ fn->H b=some o->H2 b=some o)->Same F F2->Same F2 H2->(∀ b,H b≠none->F b=none->b ∉ fn->F2 b=none)->(∀ b,H b≠none->H2 b≠none)->(∀ b∈fn,F2 b≠none->B.H0 b=none) ->
   Rt K F2 H2 v u2 fq->fq.Nodup->(∀ b∈fq,b∈fn \/ zr21 B δ fps b)->∃ δ2 fps2,RS K B F2 H2 σ δ2 fps2/\N δ2/\(∀ j,j≠i->fps2 j=fps j/\δ2[j]?=δ[j]?)/\(∀ b∈fps2 i,b∈fps i \/ b∈fq)/\(∃ s,δ[i]?=some s/\s.own=true):=by
 obtain ⟨s,hi,ho,hN⟩:∃ s,δ[i]?=some s/\s.own=true/\∀ t,s.tree=some t->N (δ.set i (s.wth (setP t p u2))):=by
  unfold mutS at hm
  split at hm
  ·rename_i t q
   exact ⟨_,q,rfl,λ t' e=>by cases e;exact hm⟩
  ·rename_i a t q
   exact ⟨_,q,rfl,λ t' e=>by cases e;exact hm⟩
  ·exact hm.elim
 obtain ⟨fn,t,h1,h2,h3,h4,h5⟩:=r.put hi ho ha
 refine ⟨fn,h2,h3,h4,λ {F2 H2 fq} c1 c2 c3 c4 c5 c6 hu nq mq=>?_⟩
 obtain ⟨fps2,r2,e2⟩:=h5 c1 c2 c3 c4 c5 c6 hu nq mq
 refine ⟨_,fps2,r2,hN t h1,λ j hj=>⟨e2.1 j hj,?_⟩,e2.2,s,hi,ho⟩
 rw [List.getElem?_set_ne (λ z=>hj z.symm)]
theorem RS.one {B:Bs} {F H:Hp} {σ:L2.St} {δ:DSt} {fps:Nat->List Addr} {i:Nat} {p:Pth} {a:Addr} {u u2:T} {o o2:HO} {N:DSt->Prop} (r:RS K B F H σ δ fps) (ha:AtS H σ δ i p (.ref a) u) (hm:mutS δ i p u2 N) (ho:H a=some o)
  (hu:∀ fn,Rt K F H (.ref a) u fn->fn=[a]) (h2:F a=none->Rt K F (upd H a o2) (.ref a) u2 [a]):∃ δ2 fps2,RS K B F (upd H a o2) σ δ2 fps2/\N δ2/\(∀ j,j≠i->fps2 j=fps j/\δ2[j]?=δ[j]?):=by
 obtain ⟨fn,hr,nd,sub,back⟩:=r.mut ha hm
 have e:=hu fn hr
 subst e
 have fa:F a=none:=(hr.dom a (by simp)).2
 obtain ⟨δ2,fps2,g1,g2,g3,_⟩:=back (F2:=F) (H2:=upd H a o2) (fq:=[a]) (λ b o' hb ho'=>by rw [zw0 (λ z=>hb (by simp [z]))];exact ho') (λ _ _ z=>z) (λ b o' z=>by
   have:b≠a:=λ w=>by subst w;rw [fa] at z;cases z
   rw [zw0 this];exact r.fh b o' z) (λ b _ fb _=>fb) (λ b hb=>by
   by_cases z:b=a
   ·rw [z,zp0];simp
   ·rw [zw0 z];exact hb) (λ b hb f=>by simp at hb;subst hb;exact absurd fa f) (h2 fa) (by simp) (λ b hb=>.inl hb)
 exact ⟨δ2,fps2,g1,g2,g3⟩
abbrev FM:=T->List D->(T->D->Prop)->Prop
def MO (K:Fg) (r:V->List V->Hp->VK->Prop) (f:FM):Prop:=∀ {F H:Hp} {v:V} {u:T} {fn:List Addr} {vs:List V} {ds:List D} {Kd:T->D->Prop} {Q:VK},Same F H->Rt K F H v u fn->IsAll K F vs ds->f u ds Kd ->
 ∃ u2 d y o o2 a,Kd u2 d/\v=.ref a/\fn=[a]/\H a=some o/\Is K F y d/\Rt K F (upd H a o2) (.ref a) u2 [a]/\(Q y (upd H a o2)->r v vs H Q)
def tyN (T:String):L4.T->Prop
|.li _=>T = "list"
|.ls _=>T = "list"
|.dk _=>T = "dict"
|.dt _=>T = "dict"
|_=>False
theorem zn21 {F H:Hp} {T:String} {v:V} {u:L4.T} {fn:List Addr} (h:Rt K F H v u fn) (k:tyN T u):tyV K T v H:=by
 cases h with
|fz _=>exact k.elim
|li h1 _ _=>exact .inl ⟨k,_,SqL.of h1⟩
|ls h1 _ _=>exact .inl ⟨k,_,SqL.of h1⟩
|ob _ _ _ _ _=>exact k.elim
|tp _ _ _=>exact k.elim
|dk h1 _ _=>exact .inr (.inr (.inl ⟨k,.inl ⟨_,h1⟩⟩))
|dt h1 _ _=>exact .inr (.inr (.inl ⟨k,.inr ⟨_,h1⟩⟩))
theorem zw91 {F H:Hp} {v:V} {u:T} {fn:List Addr} {r:V->List V->Hp->VK->Prop} {f:FM} (hm:MO K r f) {vs:List V} {ds:List D} {Kd:T->D->Prop} {B:Bs} {σ:L2.St} {δ:DSt} {fps:Nat->List Addr} {i:Nat} {p:Pth} {Qd:T->DSt->Prop} {Q:VK}
  (rs:RS K B F H σ δ fps) (ha:AtS H σ δ i p v u) (hv:IsAll K F vs ds) (hf:f u ds λ u2 d=>mutS δ i p u2 λ δ'=>Qd (.fz d) δ')
  (k:∀ r δ',Qd r δ'->∀ v F' H' fps' fpr,Res K B F' H' σ δ' fps' v r fpr->Q v H'):r v vs H Q:=by
 obtain ⟨fn,hr⟩:=ha.rt rs.rv
 obtain ⟨u2,d,y,o,o2,a,kd,rfl,e2,h3,h4,h5,h6⟩:=hm (Q:=Q) rs.fh hr hv hf
 refine h6 ?_
 obtain ⟨δ2,fps2,r2,q2,_⟩:=rs.one ha kd h3 (λ fn' hr'=>by
  obtain ⟨_,_,_,_,_,a',_,e1,e2',_⟩:=hm (Q:=Q) rs.fh hr' hv hf
  cases e1;exact e2') (λ _=>h5)
 exact k _ _ q2 _ _ _ fps2 [] ⟨r2,.fz h4,.nil,λ a ha=>by simp at ha,λ _ _ _ _ a _ ha=>by simp at ha⟩
def cBM (ty:String) (f:FM) (dp:DP) (dA:DF):DC:=λ δ Q=>dp δ λ i p u=>tyN ty u/\dA δ λ ds=>f u ds λ u2 d=>mutS δ i p u2 λ δ'=>Q (.fz d) δ'
theorem zj61 {T:String} {r:V->List V->Hp->VK->Prop} {f:FM} (hm:MO K r f) (hp:RfP K te dp) (hA:RfA K tA dA):RfC K (tBMU K T r te tA) (cBM T f dp dA):=by
 intro B F H σ δ fps Qd Q rs hd k
 refine hp rs.fh rs.rv hd λ i p u hu v F1 H1 e1 at1=>?_
 have r1:=rs.grow e1
 obtain ⟨fn,hr⟩:=at1.rt r1.rv
 refine ⟨zn21 hr hu.1,hA e1.fh r1.rv hu.2 λ ds hds vs F2 H2 e2 i2=>?_⟩
 exact zw91 hm (fn:=fn) (Kd:=λ _ _=>True) (r1.grow e2) (at1.mono e2.h) i2 hds k
def mApp:FM:=λ u ds N=>match u,ds with
|.li xs,[d]=>xs.length < sizeLine/\N (.li (xs++[d])) .none
|_,_=>False
theorem zst:MO K zwm mApp:=by
 intro F H v u fn vs ds Kd Q s hr hv hf
 unfold mApp at hf
 split at hf
 ·obtain ⟨y,rfl,iy⟩:=all1 hv
  cases hr with
 |li h1 h2 h3 =>
   have el:=h3.dlen
   exact ⟨_,_,.non,_,.lst (_++[y]),_,hf.2,rfl,rfl,h1,.non,.li zp0 h2 (h3.dapp (.cons iy .nil)),λ q=>⟨_,_,y,rfl,rfl,h1,by lia,q⟩⟩
 ·exact hf.elim
end
section
variable {K:Fg} {te ta ti tv:TE} {de da di dk:DE} {dc:DC} {tt:TT} {dt:DT} {t u tb:TS} {d e db:DS} {tA:TA} {dA:DF} {g:TG} {dg:DG} {n:Nat} {dp:DP} {w:World}
def keyD:D->Option Key
|.int i=>some (.inl i)
|.str x=>some (.inr x)
|_=>none
theorem zfp {F:Hp} {v:V} {d:D} {k:Key} (h:Is K F v d) (e:keyD d=some k):v=kV k:=by
 cases h <;> simp [keyD] at e <;> subst e <;> rfl
def zrn:List D->Option (List Key)
|[]=>some []
|d :: ds=>match keyD d,zrn ds with
 |some k,some ks=>some (k :: ks)
 |_,_=>none
def keyT:D->Option (List Key)
|.tuple ds=>zrn ds
|_=>none
theorem zga {F:Hp}:∀ {xs:List V} {ds:List D} {k:List Key},IsAll K F xs ds->zrn ds=some k->xs=k.map kV/\ds.all zi11=true
|_,_,_,.nil,e=>by simp [zrn] at e;subst e;exact ⟨rfl,rfl⟩
|_,_,_,.cons (d:=d) h r,e=>by
  unfold zrn at e
  split at e
  ·rename_i k ks h1 h2
   cases e
   obtain ⟨e1,e2⟩:=zga r h2
   have:=zfp h h1
   rw [List.map_cons,this,e1,List.all_cons,e2]
   refine ⟨rfl,?_⟩
   cases d <;> simp [keyD] at h1 <;> rfl
  ·cases e
theorem zsj {F:Hp} {v:V} {d:D} {k:List Key} (h:Is K F v d) (e:keyT d=some k):∃ b,v=.ref b/\F b=some (.tup (k.map kV)):=by
 cases h with
|tup h1 h2 =>
  obtain ⟨e1,_⟩:=zga h2 e
  subst e1
  exact ⟨_,rfl,h1⟩
|tuc h1 h2 h3 =>
  obtain ⟨_,e2⟩:=zga h2 e
  rw [e2] at h3;cases h3
|_=>simp [keyT] at e
def getA {κ:Type} [DecidableEq κ] (kvs:List (κ×D)) (k:κ):Option D:=(kvs.find? λ kv=>decide (kv.1=k)).map (·.2)
def putD {κ:Type} [DecidableEq κ] (kvs:List (κ×D)) (k:κ) (d:D):List (κ×D) :=
 if (kvs.any λ kv=>decide (kv.1=k))=true then kvs.map (λ kv=>if kv.1=k then (kv.1,d) else kv) else kvs++[(k,d)]
theorem KvIs.len {F:Hp} {κ:Type}:∀ {r:List (κ×V)} {s:List (κ×D)},KvIs K F r s->r.length=s.length
|_,_,.nil=>rfl
|_,_,.cons _ r=>congrArg (·+1) (KvIs.len r)
theorem KvIs.get {F:Hp} {κ:Type} [DecidableEq κ] {k:κ}:∀ {r:List (κ×V)} {s:List (κ×D)},KvIs K F r s->(getA s k=none/\valV r k=none) \/ ∃ d v,getA s k=some d/\valV r k=some v/\Is K F v d
|_,_,.nil=>.inl ⟨rfl,rfl⟩
|_,_,.cons (k:=k') (v:=v) (d:=d) h r=>by
  by_cases e:k'=k
  ·exact .inr ⟨d,v,by simp [getA,e],by simp [valV,e],h⟩
  ·rcases KvIs.get (k:=k) r with ⟨h1,h2⟩|⟨d',v',h1,h2,h3⟩
   ·exact .inl ⟨by simp [getA,e];simpa [getA] using h1,by simp [valV,e];simpa [valV] using h2⟩
   ·refine .inr ⟨d',v',?_,?_,h3⟩
    ·simp [getA,e];simpa [getA] using h1
    ·simp [valV,e];simpa [valV] using h2
theorem KvIs.any {F:Hp} {κ:Type} [DecidableEq κ] {k:κ}:∀ {r:List (κ×V)} {s:List (κ×D)},KvIs K F r s->(r.any λ kv=>decide (kv.1=k))=(s.any λ kv=>decide (kv.1=k))
|_,_,.nil=>rfl
|_,_,.cons _ r=>by rw [List.any_cons,List.any_cons,KvIs.any r]
theorem KvIs.app {F:Hp} {κ:Type}:∀ {r r':List (κ×V)} {s s':List (κ×D)},KvIs K F r s->KvIs K F r' s'->KvIs K F (r++r') (s++s')
|_,_,_,_,.nil,h=>h
|_,_,_,_,.cons h r,h'=>.cons h (r.app h')
theorem KvIs.map {F:Hp} {κ:Type} [DecidableEq κ] {k:κ} {v:V} {d:D} (hv:Is K F v d):∀ {r:List (κ×V)} {s:List (κ×D)},KvIs K F r s->KvIs K F (r.map λ kv=>if kv.1=k then (kv.1,v) else kv) (s.map λ kv=>if kv.1=k then (kv.1,d) else kv)
|_,_,.nil=>.nil
|_,_,.cons (k:=k') h r=>by
  by_cases e:k'=k
  ·simp only [List.map_cons,e,if_true];exact .cons hv (r.map hv)
  ·simp only [List.map_cons,e,if_false];exact .cons h (r.map hv)
theorem KvIs.put {F:Hp} {κ:Type} [DecidableEq κ] {k:κ} {v:V} {d:D} (hv:Is K F v d) {r:List (κ×V)} {s:List (κ×D)} (h:KvIs K F r s):KvIs K F (putK r k v) (putD s k d):=by
 unfold putK putD
 rw [h.any]
 split
 ·exact h.map hv
 ·exact h.app (.cons hv .nil)
def fPut (u:T) (k d:D) (N:T->Prop):Prop:=match u with
|.li ds=>match k with
 |.int z=>∃ j,ixN ds.length z=some j/\N (.li (ds.set j d))
 |_=>False
|.dk kvs=>∃ key,keyD k=some key/\kvs.length < sizeLine/\N (.dk (putD kvs key d))
|.dt kvs=>∃ key,keyT k=some key/\kvs.length < sizeLine/\N (.dt (putD kvs key d))
|_=>False
theorem zjt {B:Bs} {F H:Hp} {σ:L2.St} {δ:DSt} {fps:Nat->List Addr} {i:Nat} {p:Pth} {v kv y:V} {u:T} {k d:D} {N:DSt->Prop} {Q:Hp->Prop} (rs:RS K B F H σ δ fps) (ha:AtS H σ δ i p v u) (hk:Is K F kv k) (hy:Is K F y d)
  (hf:fPut u k d λ u2=>mutS δ i p u2 N) (q:∀ δ2 fps2 H2,RS K B F H2 σ δ2 fps2->N δ2->Q H2):zqs v kv y H Q:=by
 obtain ⟨fn,hr⟩:=ha.rt rs.rv
 cases hr with
|li h1 h2 h3 =>
  simp only [fPut] at hf
  split at hf
  ·rename_i z
   obtain ⟨j,ej,hm⟩:=hf
   cases hk.int_inv
   have el:=h3.dlen
   obtain ⟨δ2,fps2,r2,n2,_⟩:=rs.one (o2:=.lst (_)) ha hm h1 (λ fn' hr'=>by cases hr';rfl) (λ fa=>.li zp0 fa (h3.dset hy j))
   exact .inl ⟨_,_,z,j,rfl,rfl,h1,by rw [el];exact ej,q _ _ _ r2 n2⟩
  ·exact hf.elim
|dk h1 h2 h3 =>
  simp only [fPut] at hf
  obtain ⟨key,ek,hl,hm⟩:=hf
  have:=zfp hk ek
  subst this
  have el:=h3.len
  obtain ⟨δ2,fps2,r2,n2,_⟩:=rs.one (o2:=.dK _) ha hm h1 (λ fn' hr'=>by cases hr';rfl) (λ fa=>.dk zp0 fa (h3.put (k:=key) hy))
  exact .inr ⟨_,_,rfl,DPut.k h1 (by lia),q _ _ _ r2 n2⟩
|fz _=>exact hf.elim
|ls _ _ _=>exact hf.elim
|ob _ _ _ _ _=>exact hf.elim
|tp _ _ _=>exact hf.elim
|dt h1 h2 h3 =>
  simp only [fPut] at hf
  obtain ⟨key,ek,hl,hm⟩:=hf
  obtain ⟨kb,rfl,hb⟩:=zsj hk ek
  have el:=h3.len
  obtain ⟨δ2,fps2,r2,n2,_⟩:=rs.one (o2:=.dT _) ha hm h1 (λ fn' hr'=>by cases hr';rfl) (λ fa=>.dt zp0 fa (h3.put (k:=key) hy))
  exact .inr ⟨_,_,rfl,DPut.t h1 (rs.fh _ _ hb) (by lia),q _ _ _ r2 n2⟩
def dPut (dp:DP) (dk de:DE):DS:=λ E δ=>de δ λ d=>dp δ λ i p u=>dk δ λ k=>fPut u k d λ u2=>mutS δ i p u2 E.nx
theorem zrc (he:RfE K te de) (hp:RfP K ta dp) (hk:RfE K ti dk):RfS K (tAsg te (gSub ta ti zqs)) (dPut dp dk de):=by
 intro B F H σ δ fps E Z r h k
 refine he r.fh r.rv h λ d hd y F1 H1 e1 i1=>?_
 have r1:=r.grow e1
 refine hp r1.fh r1.rv hd λ i p u hu v F2 H2 e2 at2=>?_
 have r2:=r1.grow e2
 refine hk r2.fh r2.rv hu λ kd hkd kv F3 H3 e3 i3=>?_
 exact zjt (r2.grow e3) (at2.mono e3.h) i3 (i1.mono (e2.f.trans e3.f)) hkd λ δ2 fps2 H4 r4 n4=>k.nx r4 n4
def fGet (u:T) (k:D) (Q:D->Prop):Prop:=match u with
|.li ds=>match k with
 |.int z=>0<=z/\∃ d,ds[z.toNat]?=some d/\Q d
 |_=>False
|.dk kvs=>∃ key d,keyD k=some key/\getA kvs key=some d/\Q d
|.dt kvs=>∃ key d,keyT k=some key/\getA kvs key=some d/\Q d
|_=>False
theorem zsw {F H:Hp} {v kv:V} {u:T} {fn:List Addr} {k:D} {Qd:D->Prop} {Q:VK} (s:Same F H) (hr:Rt K F H v u fn) (hk:Is K F kv k) (hf:fGet u k Qd) (q:∀ d y,Qd d->Is K F y d->Q y H):zq21 K v kv H Q:=by
 cases hr with
|li h1 h2 h3 =>
  simp only [fGet] at hf
  split at hf
  ·rename_i z
   obtain ⟨z0,d,ed,qd⟩:=hf
   cases hk.int_inv
   obtain ⟨y,hy,iy⟩:=h3.dget ed
   exact .inl ⟨_,_,z,y,rfl,rfl,z0,SqL.of h1,hy,q d y qd iy⟩
  ·exact hf.elim
|dk h1 h2 h3 =>
  simp only [fGet] at hf
  obtain ⟨key,d,ek,ed,qd⟩:=hf
  have:=zfp hk ek
  subst this
  rcases h3.get (k:=key) with ⟨g1,_⟩|⟨d',y,g1,g2,g3⟩
  ·rw [g1] at ed;cases ed
  ·rw [g1] at ed;cases ed
   exact .inr ⟨_,y,rfl,by rw [<- g2];exact DGet.k h1,q d y qd g3⟩
|fz _=>exact hf.elim
|ls _ _ _=>exact hf.elim
|ob _ _ _ _ _=>exact hf.elim
|tp _ _ _=>exact hf.elim
|dt h1 h2 h3 =>
  simp only [fGet] at hf
  obtain ⟨key,d,ek,ed,qd⟩:=hf
  obtain ⟨kb,rfl,hb⟩:=zsj hk ek
  rcases h3.get (k:=key) with ⟨g1,_⟩|⟨d',y,g1,g2,g3⟩
  ·rw [g1] at ed;cases ed
  ·rw [g1] at ed;cases ed
   exact .inr ⟨_,y,rfl,by rw [<- g2];exact DGet.t h1 (s _ _ hb),q d y qd g3⟩
def fII (f:Int->Int->Int) (x y:D) (Q:D->Prop):Prop:=match x,y with
|.int i,.int j=>Q (.int (f i j))
|_,_=>False
def zk21 (f:Int->Int->Int) (dp:DP) (dk de:DE):DS:=λ E δ=>dp δ λ i p u=>dk δ λ k=>fGet u k λ x=>de δ λ y=>fII f x y λ z=>fPut u k z λ u2=>mutS δ i p u2 E.nx
theorem zqr {f:Int->Int->Int} (hp:RfP K ta dp) (hk:RfE K ti dk) (he:RfE K te de):RfS K (zh51 ta ti te (zq21 K) (ipI f) zqs) (zk21 f dp dk de):=by
 intro B F H σ δ fps E Z r h k
 refine hp r.fh r.rv h λ i p u hu v F1 H1 e1 at1=>?_
 have r1:=r.grow e1
 refine hk r1.fh r1.rv hu λ kd hkd kv F2 H2 e2 i2=>?_
 have r2:=r1.grow e2
 have at2:=at1.mono e2.h
 obtain ⟨fn,hr⟩:=at2.rt r2.rv
 refine zsw r2.fh hr i2 hkd λ x xv hx ix=>he r2.fh r2.rv hx λ y hy yv F3 H3 e3 i3=>?_
 unfold fII at hy
 split at hy
 ·cases ix.int_inv
  cases i3.int_inv
  refine ⟨_,_,rfl,rfl,?_⟩
  exact zjt (r2.grow e3) (at2.mono e3.h) (i2.mono e3.f) (.int _) hy λ δ2 fps2 H4 r4 n4=>k.nx r4 n4
 ·exact hy.elim
end
section
variable {K:Fg} {te ta ti tv:TE} {de da di dk:DE} {dc:DC} {tt:TT} {dt:DT} {t u tb:TS} {d e db:DS} {tA:TA} {dA:DF} {g:TG} {dg:DG} {n:Nat} {dp:DP} {w:World}
theorem zes {F H:Hp} {p:Addr} {o:HO} (s:Same F H) (hn:H p=none):Ext F H F (upd H p o) :=
 ⟨zp2 hn _,λ _ _ z=>z,λ b o z=>zp2 hn _ b o (s b o z),λ _ _ z=>z⟩
def cDT:DC:=λ δ Q=>Q (.dt []) δ
theorem zmb1:RfC K zdx cDT:=by
 intro B F H σ δ fps Qd Q r hd k
 intro p hp
 have fn:F p=none:=by
  cases e:F p with
 |none=>rfl
 |some o=>rw [r.fh p o e] at hp;cases hp
 refine k _ _ hd (.ref p) F _ fps [p] ⟨r.grow (zes r.fh hp),.dt zp0 fn .nil,by simp,λ b hb=>?_,λ j s ej hs b hb hb2=>?_⟩
 ·simp at hb;subst hb
  by_cases z:B.H0 b=none
  ·exact z
  ·exact absurd hp (r.al b z)
 ·simp at hb2;subst hb2
  obtain ⟨x,t,a1,a2,a3,a4,a5⟩:=r.rt j s ej hs
  exact (a3.dom b hb).1 hp
abbrev DN:=DSt->(T->Prop)->Prop
def RfN (K:Fg) (te:TE) (dn:DN):Prop:=∀ {F H:Hp} {σ:L2.St} {δ:DSt} {Qd:T->Prop} {Q:VK},Same F H->RV K F H σ δ->dn δ Qd->(∀ r,Qd r->∀ v F' H' fp,Ext F H F' H'->Rt K F' H' v r fp->fp.Nodup->(∀ a∈fp,H a=none)->Q v H')->te σ H Q
def nE (de:DE):DN:=λ δ Q=>de δ λ d=>Q (.fz d)
def nF (df:DF):DN:=λ δ Q=>df δ λ ds=>Q (.li ds)
theorem RfE.new (h:RfE K te de):RfN K te (nE de):=λ s r d k=>h s r d λ x q v F' H' e i=>k _ q v F' H' [] e (.fz i) .nil λ a ha=>by simp at ha
theorem RfF.new {df:DF} (h:RfF K te df):RfN K te (nF df):=λ s r d k=>h s r d λ ds q a xs F' H' e hn h1 h2 h3=>k _ q (.ref a) F' H' [a] e (.li h1 h2 h3) (by simp) λ b hb=>by simp at hb;subst hb;exact hn
def cN (dn:DN):DC:=λ δ Q=>dn δ λ r=>Q r δ
theorem RfN.c {dn:DN} (h:RfN K te dn):RfC K te (cN dn):=by
 intro B F H σ δ fps Qd Q r hd k
 refine h r.fh r.rv hd λ r2 q v F1 H1 fp e1 hr nd fr=>k _ _ q v F1 H1 fps fp ⟨r.grow e1,hr,nd,λ a ha=>?_,λ j s ej hs b hb hb2=>?_⟩
 ·by_cases z:B.H0 a=none
  ·exact z
  ·exact absurd (fr a ha) (r.al a z)
 ·obtain ⟨x,t,a1,a2,a3,a4,a5⟩:=r.rt j s ej hs
  exact (a3.dom b hb).1 (fr b hb2)
theorem RtAll.app {F H:Hp}:∀ {xs ys:List V} {ts us:List T} {fp fq:List Addr},RtAll K F H xs ts fp->RtAll K F H ys us fq->RtAll K F H (xs++ys) (ts++us) (fp++fq)
|_,_,_,_,_,_,.nil,h=>h
|_,_,_,_,_,_,.cons h r,h'=>by rw [List.append_assoc];exact .cons h (r.app h')
def zd61 (di:DF) (n:Nat) (ix:List Nat) (dg:DG) (dn:DN):DN:=λ δ Q=>di δ λ items=>items.length<=sizeLine/\∃ R:Nat->T->Prop,
 (∀ i d,items[i]?=some d->dg d (cST n ix δ) λ δ'=>dn δ' λ r=>R i r)/\∀ rs:List T,rs.length=items.length->(∀ (j:Nat) r,rs[j]?=some r->R j r)->Q (.ls rs)
theorem zkr {wi:TI} {di:DF} {ix:List Nat} {dn:DN} (hi:RfJ K wi di) (hg:RfG K n g dg) (he:RfN K te dn):RfN K (zb21 wi n ix g zj31 te) (zd61 di n ix dg dn):=by
 intro F H σ δ Qd Q s rv hd k
 refine hi s rv hd λ items hx J F1 H1 e1 wj D hD=>?_
 obtain ⟨hz,R,hR,hQ⟩:=hx
 have rv1:=zl11 n ix (rv.ext e1)
 have F1D:F1 D=none:=by
  cases q:F1 D with
 |none=>rfl
 |some o=>rw [e1.fh D o q] at hD;cases hD
 refine ⟨λ i m acc σ' H'=>m=items.length - i/\i<=items.length/\σ'.length=(compσ n ix σ).length/\(∀ j,n<=j->σ'.getD j none=(compσ n ix σ).getD j none)/\∃ (F':Hp) (rs:List T) (fpA:List Addr),Ext F1 H1 F' H'/\F' D=none/\H' D=some (.lst acc)/\rs.length=i/\(∀ (j:Nat) r,rs[j]?=some r->R j r)/\RtAll K F' H' acc rs fpA/\fpA.Nodup/\(∀ a∈fpA,H1 a=none/\a≠D),
  ⟨items.length,rfl,Nat.zero_le _,rfl,λ _ _=>rfl,F1,[],[],?_,F1D,zp0,rfl,λ j o e=>by simp at e,.nil,.nil,λ a ha=>by simp at ha⟩,?_⟩
 ·exact (zt7 (xs:=[]) e1.fh hD).1
 rintro i m acc σ' H' ⟨rfl,hi',hl,hk,F',rs,fpA,ex,fD,hDD,hrs,hRs,hall,ndA,frA⟩
 obtain ⟨go,stop,yld⟩:=wj F' H' ex
 by_cases hlt:i < items.length
 ·refine .inr ⟨go i hlt,λ acc' σ2 H2=>i+1<=items.length/\σ2.length=(compσ n ix σ).length/\(∀ j,n<=j->σ2.getD j none=(compσ n ix σ).getD j none)/\∃ (F':Hp) (rs:List T) (fpA:List Addr),Ext F1 H1 F' H2/\F' D=none/\H2 D=some (.lst acc')/\rs.length=i+1/\(∀ (j:Nat) r,rs[j]?=some r->R j r)/\RtAll K F' H2 acc' rs fpA/\fpA.Nodup/\(∀ a∈fpA,H1 a=none/\a≠D),λ acc' σ2 H2 p=>⟨items.length - (i+1),by lia,rfl,p⟩,λ x H2 y=>?_⟩
  have hit:items[i]?=some items[i]:=List.getElem?_eq_getElem hlt
  obtain ⟨F2,ex2,ix2⟩:=yld i x H2 _ hit y
  have rv2:RV K F2 H2 σ' (cST n ix δ):=RV.caps (rv1.ext (ex.trans ex2)) hl hk
  refine hg ex2.fh ix2 (hR i _ hit) λ σ2 δ2 hd2 u2=>?_
  have rv3:=u2.rv rv2
  have kp:=u2.keep
  have hl2:σ2.length=(compσ n ix σ).length:=by rw [kp.1,hl]
  have hk2:∀ j,n<=j->σ2.getD j none=(compσ n ix σ).getD j none:=λ j hj=>by rw [kp.2 j hj,hk j hj]
  show te σ2 H2 _
  refine he ex2.fh rv3 hd2 λ r hr v F5 H5 fp e5 i5 nd5 fr5=>?_
  have e25:=ex2.trans e5
  have hD2:H2 D=some (.lst acc):=ex2.h _ _ hDD
  have hD5:H5 D=some (.lst acc):=e25.h _ _ hDD
  have fD5:F5 D=none:=e25.nw D (by rw [hDD];simp) fD
  have hlen:acc.length<=i:=by rw [hall.len,hrs];exact Nat.le_refl _
  have e15:=ex.trans e25
  have hall5:RtAll K F5 H5 acc rs fpA:=hall.frame e25.f λ a ha=>by
   obtain ⟨d1,d2⟩:=hall.dom a ha
   cases q:H' a with
  |none=>exact absurd q d1
  |some o=>exact ⟨e25.h a o q,e25.nw a d1 d2⟩
  have frN:∀ a∈fp,H1 a=none/\a≠D:=λ a ha=>⟨zb3 (ex.trans ex2) (fr5 a ha),λ z=>by subst z;rw [fr5 a ha] at hD2;cases hD2⟩
  refine ⟨hD5,by lia,hlt,hl2,hk2,F5,rs++[r],fpA++fp,⟨λ b o hb=>?_,e15.f,λ b o hb=>?_,e15.nw⟩,fD5,zp0,by simp [hrs],λ j r' e=>?_,?_,?_,λ a ha=>?_⟩
  ·have:b≠D:=λ z=>by subst z;rw [hD] at hb;cases hb
   rw [zw0 this];exact e15.h b o hb
  ·have:b≠D:=λ z=>by subst z;rw [fD5] at hb;cases hb
   rw [zw0 this];exact e15.fh b o hb
  ·rcases Nat.lt_trichotomy j rs.length with h|h|h
   ·rw [List.getElem?_append_left h] at e;exact hRs j r' e
   ·subst h;rw [List.getElem?_append_right (Nat.le_refl _)] at e;simp at e;subst e;rw [hrs];exact hr
   ·rw [List.getElem?_append_right (Nat.le_of_lt h)] at e
    cases q:j - rs.length with
   |zero=>lia
   |succ z=>rw [q] at e;simp at e
  ·have z1:RtAll K F5 (upd H5 D (.lst (acc++[v]))) acc rs fpA:=hall5.frame (λ _ _ z=>z) λ a ha=>⟨zw0 (frA a ha).2,(hall5.dom a ha).2⟩
   have z2:Rt K F5 (upd H5 D (.lst (acc++[v]))) v r fp:=i5.frame (λ _ _ z=>z) λ a ha=>⟨zw0 (frN a ha).2,(i5.dom a ha).2⟩
   have:=z1.app (RtAll.cons z2 .nil)
   rwa [List.append_nil] at this
  ·refine List.nodup_append.mpr ⟨ndA,nd5,λ a ha b hb z=>?_⟩
   subst z
   have:=(hall.dom a ha).1
   exact this (zb3 ex2 (fr5 a hb))
  ·rcases List.mem_append.mp ha with z|z
   ·exact frA a z
   ·exact frN a z
 ·have e:i=items.length:=by lia
  refine .inl ⟨by rw [e];exact stop,k _ (hQ rs (by lia) hRs) (.ref D) F' H' (D :: fpA) (e1.trans ex) (.ls hDD fD hall) (List.nodup_cons.mpr ⟨λ z=>(frA D z).2 rfl,ndA⟩) λ a ha=>?_⟩
  rcases List.mem_cons.mp ha with z|z
  ·rw [z];exact zb3 e1 hD
  ·exact zb3 e1 (frA a z).1
end
section
variable {K:Fg} {te ta ti tv:TE} {de da di dk:DE} {dc:DC} {tt:TT} {dt:DT} {t u tb:TS} {d e db:DS} {tA:TA} {dA:DF} {g:TG} {dg:DG} {n:Nat} {dp:DP} {w:World}
def nSet (f:Str) (u r:T) (N:T->Prop):Prop:=match u with
|.ob C fs=>fs.length < 1000/\N (.ob C (putA f r fs))
|_=>False
theorem Res.grow {B:Bs} {F H F' H':Hp} {σ:L2.St} {δ:DSt} {fps:Nat->List Addr} {v:V} {r:T} {fpr:List Addr} (h:Res K B F H σ δ fps v r fpr) (e:Ext F H F' H'):Res K B F' H' σ δ fps v r fpr :=
 ⟨h.rs.grow e,h.rt.ext e,h.nd,h.fr,h.dj⟩
theorem zdz {B:Bs} {F H:Hp} {σ:L2.St} {δ:DSt} {fps:Nat->List Addr} {y:V} {r:T} {fpr:List Addr} {i:Nat} {p:Pth} {a C dx:Addr} {fs:List (Str×V)} {ts:List (Str×T)} {f:Str} {N:DSt->Prop}
  (res:Res K B F H σ δ fps y r fpr) (ha:AtS H σ δ i p (.ref a) (.ob C ts)) (hH:H a=some (.ins C dx fs)) (hm:mutS δ i p (.ob C (putA f r ts)) N):∃ δ2 fps2,RS K B F (upd H a (.ins C dx (putF f y fs))) σ δ2 fps2/\N δ2:=by
 obtain ⟨fn,hr,nd,sub,back⟩:=res.rs.mut ha hm
 obtain ⟨s,hs,ho⟩:∃ s,δ[i]?=some s/\s.own=true:=by
  unfold mutS at hm
  split at hm
  ·rename_i t q;exact ⟨_,q,rfl⟩
  ·rename_i a t q;exact ⟨_,q,rfl⟩
  ·exact hm.elim
 have dis:∀ b∈fn,b ∉ fpr:=λ b hb=>res.dj i s hs (zn6 ho) b (sub b hb)
 cases hr with
|ob g1 g2 g3 g4 g5 =>
  rename_i dx' fs' fp
  rw [hH] at g1;cases g1
  have nd1:=List.nodup_cons.mp nd
  have nd2:=List.nodup_cons.mp nd1.2
  have na:a ∉ fp:=λ z=>nd1.1 (List.mem_cons_of_mem _ z)
  have nx:dx≠a:=λ z=>nd1.1 (by rw [z];simp)
  have nxf:dx ∉ fp:=nd2.1
  have dp':∀ b∈fp,b ∉ fpr:=λ b hb=>dis b (by simp [hb])
  have ra:a ∉ fpr:=dis a (by simp)
  have rx:dx ∉ fpr:=dis dx (by simp)
  have hy:Rt K F (upd H a (.ins C dx (putF f y fs))) y r fpr:=res.rt.frame (λ _ _ z=>z) λ b hb=>⟨zw0 λ z=>by subst z;exact ra hb,(res.rt.dom b hb).2⟩
  have fr0:∀ b∈fp,upd H a (.ins C dx (putF f y fs)) b=H b/\F b=none:=λ b hb=>⟨zw0 λ z=>by subst z;exact na hb,(g5.dom b hb).2⟩
  obtain ⟨fq,hq,ndq,mq⟩:∃ fq,RtFs K F (upd H a (.ins C dx (putF f y fs))) (putF f y fs) (putA f r ts) fq/\fq.Nodup/\∀ b∈fq,b∈fp \/ b∈fpr:=by
   cases q:ts.lookup f with
  |none =>
    refine ⟨fp++fpr,RtFs.add (λ _ _ z=>z) hy g5 q fr0,List.nodup_append.mpr ⟨nd2.2,res.nd,λ b hb c hc z=>?_⟩,λ b hb=>List.mem_append.mp hb⟩
    subst z;exact dp' b hb hc
  |some t0 =>
    obtain ⟨x0,ex⟩:=(g5.keys f).2.1 t0 q
    obtain ⟨fA,fj,fB,e,hj,_,rep⟩:=g5.split ex q
    subst e
    obtain ⟨ndA,ndJB,djA⟩:=List.nodup_append.mp nd2.2
    obtain ⟨ndj,ndB,djB⟩:=List.nodup_append.mp ndJB
    refine ⟨fA++(fpr++fB),rep (λ _ _ z=>z) (λ b hb=>fr0 b (by rcases List.mem_append.mp hb with z|z <;> simp [z])) hy,List.nodup_append.mpr ⟨ndA,List.nodup_append.mpr ⟨res.nd,ndB,λ b hb c hc z=>?_⟩,λ b hb c hc z=>?_⟩,λ b hb=>?_⟩
    ·subst z;exact dp' b (by simp [hc]) hb
    ·subst z
     rcases List.mem_append.mp hc with z|z
     ·exact dp' b (by simp [hb]) z
     ·exact djA b hb b (by simp [z]) rfl
    ·rcases List.mem_append.mp hb with z|z
     ·exact .inl (by simp [z])
     ·rcases List.mem_append.mp z with z|z
      ·exact .inr z
      ·exact .inl (by simp [z])
  obtain ⟨δ2,fps2,r2,n2,_⟩:=back (F2:=F) (H2:=upd H a (.ins C dx (putF f y fs))) (fq:=a :: dx :: fq) (λ b o hb hbo=>by rw [zw0 (λ z=>hb (by simp [z]))];exact hbo) (λ _ _ z=>z) (λ b o z=>by
    have:b≠a:=λ q=>by subst q;rw [g3] at z;cases z
    rw [zw0 this];exact res.rs.fh b o z) (λ b _ fb _=>fb) (λ b hb=>by
    by_cases z:b=a
    ·rw [z,zp0];simp
    ·rw [zw0 z];exact hb) (λ b hb hf=>by
    have:F b=none:=by
     rcases List.mem_cons.mp hb with z|z
     ·rw [z];exact g3
     ·rcases List.mem_cons.mp z with z|z
      ·rw [z];exact g4
      ·exact (g5.dom b z).2
    exact absurd this hf) (.ob zp0 (by rw [zw0 nx];exact g2) g3 g4 hq) (List.nodup_cons.mpr ⟨λ z=>by
    rcases List.mem_cons.mp z with y|y
    ·exact nx y.symm
    ·rcases mq a y with y|y
     ·exact na y
     ·exact ra y,List.nodup_cons.mpr ⟨λ z=>by
    rcases mq dx z with y|y
    ·exact nxf y
    ·exact rx y,ndq⟩⟩) (λ b hb=>by
    rcases List.mem_cons.mp hb with z|z
    ·exact .inl (by simp [z])
    ·rcases List.mem_cons.mp z with z|z
     ·exact .inl (by simp [z])
     ·rcases mq b z with z|z
      ·exact .inl (by simp [z])
      ·exact .inr ⟨res.fr b z,λ j s' ej hs' hbj=>res.dj j s' ej hs' b hbj z⟩)
  exact ⟨δ2,fps2,r2,n2⟩
def dFld (C:Addr) (f:Str) (dc:DC) (dp:DP):DS:=λ E δ=>dc δ λ r δ1=>dp δ1 λ i p u=>nCls C u/\nSet f u r λ u2=>mutS δ1 i p u2 E.nx
theorem zh7 {C:Addr} {f:Str} (c:Cls K C) (na:zk1 K C f) (hc:RfC K tv dc) (hp:RfP K ta dp):RfS K (sFld K ta tv f) (dFld C f dc dp):=by
 intro B F H σ δ fps E Z r h k
 refine hc r h λ r2 δ1 q y F1 H1 fps1 fpr res=>hp res.rs.fh res.rs.rv q λ i p u hu v F2 H2 e2 at2=>?_
 have res2:=res.grow e2
 obtain ⟨fn,hr⟩:=at2.rt res2.rs.rv
 cases hr with
|ob g1 g2 g3 g4 g5 =>
  obtain ⟨hcl,hl,hm⟩:=hu
  cases (show _=C from hcl)
  have len:=(g5.keys f).2.2
  obtain ⟨δ2,fps2,r3,n3⟩:=zdz res2 at2 g1 hm
  exact ⟨_,_,_,_,rfl,g1,c,na,by lia,k.nx r3 n3⟩
|fz _=>exact hu.1.elim
|li _ _ _=>exact hu.1.elim
|ls _ _ _=>exact hu.1.elim
|dk _ _ _=>exact hu.1.elim
|dt _ _ _=>exact hu.1.elim
|tp _ _ _=>exact hu.1.elim
def nFII (f:Str) (fn:Int->Int->Int) (x:D) (u:T) (y:D) (N:T->Prop):Prop:=match u with
|.ob C fs=>fs.length < 1000/\fII fn x y λ z=>N (.ob C (putA f (.fz z) fs))
|_=>False
def zzm (C:Addr) (f:Str) (fn:Int->Int->Int) (dp:DP) (de:DE):DS:=λ E δ=>dp δ λ i p u=>nCls C u/\nFld f u λ t=>fzT t λ x=>de δ λ y=>nFII f fn x u y λ u2=>mutS δ i p u2 E.nx
theorem zhq {C:Addr} {f:Str} {fn:Int->Int->Int} (c:Cls K C) (na:zk1 K C f) (hp:RfP K ta dp) (he:RfE K tv de):RfS K (zlr K ta tv (λ x y H Q=>∃ i j,x=.int i/\y=.int j/\Q (.int (fn i j)) H) f) (zzm C f fn dp de):=by
 intro B F H σ δ fps E Z r h k
 refine hp r.fh r.rv h λ i p u hu v F1 H1 e1 at1=>?_
 have r1:=r.grow e1
 obtain ⟨fq,hr⟩:=at1.rt r1.rv
 cases hr with
|ob g1 g2 g3 g4 g5 =>
  obtain ⟨hcl,t0,et,hd⟩:=hu
  cases (show _=C from hcl)
  obtain ⟨x0,ex⟩:=(g5.keys f).2.1 t0 et
  obtain ⟨fA,fj,fB,_,hj,_⟩:=g5.split ex et
  obtain ⟨x,hx,ix⟩:=zby hj hd
  refine ⟨_,_,_,_,x0,rfl,g1,c,na,ex,he r1.fh r1.rv hx λ y hy yv F2 H2 e2 i2=>?_⟩
  have g1':=e2.h _ _ g1
  obtain ⟨hl,hf⟩:=hy
  unfold fII at hf
  split at hf
  ·cases ix.int_inv
   cases i2.int_inv
   have r2:=r1.grow e2
   have len:=(g5.keys f).2.2
   obtain ⟨δ2,fps2,r3,n3⟩:=zdz (y:=.int _) (r:=.fz (.int _)) (fpr:=[]) ⟨r2,.fz (.int _),.nil,λ a ha=>by simp at ha,λ _ _ _ _ a _ ha=>by simp at ha⟩ (at1.mono e2.h) g1' hf
   exact ⟨_,_,rfl,rfl,_,_,g1',by lia,k.nx r3 n3⟩
  ·exact hf.elim
|fz _=>exact hu.1.elim
|li _ _ _=>exact hu.1.elim
|ls _ _ _=>exact hu.1.elim
|dk _ _ _=>exact hu.1.elim
|dt _ _ _=>exact hu.1.elim
|tp _ _ _=>exact hu.1.elim
def zap:List T->Option (List (List D))
|[]=>some []
|.li ds :: r=>(zap r).map (ds :: ·)
|_ :: _=>none
def toD:T->Option D
|.fz d=>some d
|.li ds=>some (.list ds)
|.ls ts=>(zap ts).map λ dss=>.list (dss.map PyData.list)
|_=>none
theorem zir {F H:Hp} (s:Same F H):∀ {xs:List V} {ts:List T} {fp:List Addr} {dss:List (List D)},RtAll K F H xs ts fp->zap ts=some dss->fp.Nodup->∃ F2,Same F F2/\Same F2 H/\(∀ b,b ∉ fp->F2 b=F b)/\IsAll K F2 xs (dss.map PyData.list)
|_,_,_,_,.nil,e,_=>by cases e;exact ⟨F,λ _ _ z=>z,s,λ _ _=>rfl,.nil⟩
|_,_,_,_,.cons (fp:=fp) (fq:=fq) h r,e,nd=>by
  cases h with
 |li h1 h2 h3 =>
   rename_i a xs0 ds0
   unfold zap at e
   obtain ⟨dss',e1,rfl⟩:=Option.map_eq_some_iff.mp e
   have nd':=List.nodup_cons.mp nd
   obtain ⟨F1,s1,s2,s3,s4⟩:=zir s r e1 nd'.2
   have fa:F1 a=none:=by rw [s3 a nd'.1];exact h2
   have sn:Same F1 (upd F1 a (.lst xs0)):=zp2 fa _
   refine ⟨upd F1 a (.lst xs0),s1.trans sn,λ b o z=>?_,λ b hb=>?_,.cons (.lst (SqL.of zp0) (h3.mono (s1.trans sn))) (s4.mono sn)⟩
   ·by_cases q:b=a
    ·subst q;rw [zp0] at z;cases z;exact h1
    ·rw [zw0 q] at z;exact s2 b o z
   ·have hb1:b≠a:=λ z=>hb (by simp [z])
    rw [zw0 hb1];exact s3 b λ z=>hb (by simp [z])
 |_=>cases e
theorem zc51 {F H:Hp} (s:Same F H) {v:V} {t:T} {fp:List Addr} {d:D} (h:Rt K F H v t fp) (e:toD t=some d) (nd:fp.Nodup):∃ F2,Same F F2/\Same F2 H/\(∀ b,b ∉ fp->F2 b=F b)/\Is K F2 v d:=by
 cases h with
|fz i=>cases e;exact ⟨F,λ _ _ z=>z,s,λ _ _=>rfl,i⟩
|li h1 h2 h3 =>
  cases e
  rename_i a xs ds
  have sn:=zp2 (H:=F) h2 (.lst xs)
  refine ⟨_,sn,λ b o z=>?_,λ b hb=>zw0 λ q=>hb (by simp [q]),.lst (SqL.of zp0) (h3.mono sn)⟩
  by_cases q:b=a
  ·subst q;rw [zp0] at z;cases z;exact h1
  ·rw [zw0 q] at z;exact s b o z
|ls h1 h2 h3 =>
  rename_i a xs ts fp
  unfold toD at e
  obtain ⟨dss,e1,rfl⟩:=Option.map_eq_some_iff.mp e
  have nd':=List.nodup_cons.mp nd
  obtain ⟨F1,s1,s2,s3,s4⟩:=zir s h3 e1 nd'.2
  have fa:F1 a=none:=by rw [s3 a nd'.1];exact h2
  have sn:Same F1 (upd F1 a (.lst xs)):=zp2 fa _
  refine ⟨upd F1 a (.lst xs),s1.trans sn,λ b o z=>?_,λ b hb=>?_,.lst (SqL.of zp0) (s4.mono sn)⟩
  ·by_cases q:b=a
   ·subst q;rw [zp0] at z;cases z;exact h1
   ·rw [zw0 q] at z;exact s2 b o z
  ·have hb1:b≠a:=λ z=>hb (by simp [z])
   rw [zw0 hb1];exact s3 b λ z=>hb (by simp [z])
|ob _ _ _ _ _=>cases e
|dk _ _ _=>cases e
|dt _ _ _=>cases e
|tp _ _ _=>cases e
def getP:T->Pth->Option T
|t,[]=>some t
|.ls ts,.ix j :: p=>(ts[j]?).bind λ t=>getP t p
|.ob _ fs,.fl f :: p=>(fs.lookup f).bind λ t=>getP t p
|_,_=>none
theorem zj71 {F H:Hp} {p:Pth}:∀ {x:V} {t u:T} {fp:List Addr},Rt K F H x t fp->getP t p=some u->∃ v,At H x t p v u:=by
 induction p with
|nil=>intro x t u fp _ e;unfold getP at e;cases e;exact ⟨x,.nil⟩
|cons q p ih =>
  intro x t u fp h e
  cases h with
 |ls h1 h2 h3 =>
   cases q with
  |ix j =>
    unfold getP at e
    obtain ⟨t1,e1,e2⟩:=Option.bind_eq_some_iff.mp e
    rename_i xs ts fp'
    have el:=h3.len
    have hj:j < ts.length:=by
     rcases Nat.lt_or_ge j ts.length with y|y
     ·exact y
     ·rw [List.getElem?_eq_none y] at e1;cases e1
    obtain ⟨y,hy⟩:∃ y,xs[j]?=some y:=⟨xs[j]'(by lia),List.getElem?_eq_getElem _⟩
    obtain ⟨fA,fj,fB,_,hr,_⟩:=h3.split hy e1
    obtain ⟨v,hv⟩:=ih hr e2
    exact ⟨v,.ix h1 hy e1 hv⟩
  |fl f=>cases e
 |ob h1 h2 h3 h4 h5 =>
   cases q with
  |fl f =>
    unfold getP at e
    obtain ⟨t1,e1,e2⟩:=Option.bind_eq_some_iff.mp e
    obtain ⟨y,hy⟩:=(h5.keys f).2.1 t1 e1
    obtain ⟨fA,fj,fB,_,hr,_⟩:=h5.split hy e1
    obtain ⟨v,hv⟩:=ih hr e2
    exact ⟨v,.fl h1 hy e1 hv⟩
  |ix j=>cases e
 |fz _=>cases q <;> cases e
 |li _ _ _=>cases q <;> cases e
 |dk _ _ _=>cases q <;> cases e
 |dt _ _ _=>cases q <;> cases e
 |tp _ _ _=>cases q <;> cases e
def fzS (δ:DSt) (i:Nat) (p:Pth) (N:DSt->Prop):Prop:=match δ[i]? with
|some (.ow t)=>∃ u d,getP t p=some u/\toD u=some d/\N (δ.set i (slot (setP t p (.fz d))))
|some (.sh _)=>N δ
|_=>False
def dFrz (i:Nat) (p:Pth) (d:DS):DS:=λ E δ=>fzS δ i p λ δ'=>d E δ'
theorem RS.frz {B:Bs} {F H:Hp} {σ:L2.St} {δ:DSt} {fps:Nat->List Addr} {i:Nat} {p:Pth} {N:DSt->Prop} (r:RS K B F H σ δ fps) (h:fzS δ i p N):∃ F2 δ2 fps2,RS K B F2 H σ δ2 fps2/\N δ2:=by
 unfold fzS at h
 split at h
 ·rename_i t q
  obtain ⟨u,d,eg,ed,hN⟩:=h
  obtain ⟨x,t',a1,a2,a3,a4,a5⟩:=r.rt i _ q rfl
  cases a2
  obtain ⟨v,hv⟩:=zj71 a3 eg
  obtain ⟨fn,t1,h1,h2,h3,h4,back⟩:=r.put q rfl ⟨_,_,x,q,rfl,a1,hv⟩
  cases h1
  obtain ⟨F2,s1,s2,s3,s4⟩:=zc51 r.fh h2 ed h3
  obtain ⟨fps2,r2,_⟩:=back (F2:=F2) (H2:=H) (fq:=[]) (λ _ _ _ z=>z) s1 s2 (λ b _ fb hb=>by rw [s3 b hb];exact fb) (λ _ z=>z) (λ b hb _=>(r.fr i _ q rfl b (h4 b hb)).elim id λ z=>absurd rfl (z.2 t)) (.fz s4) .nil (λ b hb=>by simp at hb)
  have hw:(Sl.ow t).wth (setP t p (.fz d))=.ow (setP t p (.fz d)):=rfl
  rw [hw] at r2
  -- a slot whose whole is frozen becomes a plain one
  cases hs:setP t p (.fz d) with
 |fz d' =>
   rw [hs] at r2 hN
   obtain ⟨x',t'',b1,b2,b3,b4,b5⟩:=r2.rt i _ (List.getElem?_set_self (by
    rcases Nat.lt_or_ge i δ.length with z|z
    ·exact z
    ·rw [List.getElem?_eq_none z] at q;cases q)) rfl
   cases b2
   obtain ⟨d2,hd2,hi⟩:=zby (Q:=λ z=>z=d') b3 rfl
   subst hd2
   ·have r3:=r2.setS (i:=i) hi
    rw [List.set_set] at r3
    have eσ:σ.set i (some x')=σ:=by
     apply List.ext_getElem?
     intro j
     rw [List.getElem?_set]
     by_cases hij:i=j
     ·subst hij
      have hlt:i < σ.length:=by
       rw [r.len]
       rcases Nat.lt_or_ge i δ.length with z|z
       ·exact z
       ·rw [List.getElem?_eq_none z] at q;cases q
      simp [hlt]
      have:=zp7 (F:=F) (H:=H) (δ:=δ) b1
      rw [List.getElem?_eq_getElem hlt] at this
      exact (Option.some.inj this).symm
     ·simp [hij]
    rw [eσ] at r3
    exact ⟨F2,_,fps2,r3,hN⟩
 |li _=>rw [hs] at r2 hN;exact ⟨F2,_,fps2,r2,hN⟩
 |ls _=>rw [hs] at r2 hN;exact ⟨F2,_,fps2,r2,hN⟩
 |ob _ _=>rw [hs] at r2 hN;exact ⟨F2,_,fps2,r2,hN⟩
 |dk _=>rw [hs] at r2 hN;exact ⟨F2,_,fps2,r2,hN⟩
 |dt _=>rw [hs] at r2 hN;exact ⟨F2,_,fps2,r2,hN⟩
 |tp _=>rw [hs] at r2 hN;exact ⟨F2,_,fps2,r2,hN⟩
 ·exact ⟨F,δ,fps,r,h⟩
 ·exact h.elim
theorem zcl (i:Nat) (p:Pth) (h:RfS K t d):RfS K t (dFrz i p d):=by
 intro B F H σ δ fps E Z r hd k
 obtain ⟨F2,δ2,fps2,r2,h2⟩:=r.frz hd
 exact h r2 h2 k
end
inductive Arg where
|d (d:D)|b (t:T)|o (t:T)
inductive ArgP where
|d (d:D)|b (i:Nat) (p:Pth) (t:T)|o (i:Nat) (p:Pth) (t:T)
def ArgP.arg:ArgP->Arg
|.d x=>.d x
|.b _ _ x=>.b x
|.o _ _ x=>.o x
inductive ArgsR (K:Fg) (F H:Hp):List V->List Arg->List Addr->Option (Addr×List Addr)->Prop
|nil:ArgsR K F H [] [] [] none
|d {v:V} {d:D} {vs:List V} {as:List Arg} {bf:List Addr} {oo:Option (Addr×List Addr)}:Is K F v d->ArgsR K F H vs as bf oo->ArgsR K F H (v :: vs) (.d d :: as) bf oo
|b {v:V} {t:T} {fp:List Addr} {vs:List V} {as:List Arg} {bf:List Addr} {oo:Option (Addr×List Addr)}:Rt K F H v t fp->fp.Nodup->ArgsR K F H vs as bf oo->ArgsR K F H (v :: vs) (.b t :: as) (fp++bf) oo
|o {a:Addr} {t:T} {fp:List Addr} {vs:List V} {as:List Arg} {bf:List Addr}:Rt K F H (.ref a) t fp->fp.Nodup->ArgsR K F H vs as bf none->ArgsR K F H (.ref a :: vs) (.o t :: as) bf (some (a,fp))
def ofp:Option (Addr×List Addr)->List Addr
|none=>[]
|some x=>x.2
structure Post (K:Fg) (F H:Hp) (oo:Option (Addr×List Addr)) (F' H':Hp) (v:V) (r:T) (fpr:List Addr) (t':T) (fpo:List Addr):Prop where
 hh:∀ b o,b ∉ ofp oo->H b=some o->H' b=some o
 ff:Same F F'
 fh:Same F' H'
 nw:∀ b,H b≠none->F b=none->F' b=none
 al:∀ b,H b≠none->H' b≠none
 rt:Rt K F' H' v r fpr
 nd:fpr.Nodup
 fr:∀ a∈fpr,H a=none
 io:∀ a fp,oo=some (a,fp)->Rt K F' H' (.ref a) t' fpo/\fpo.Nodup/\(∀ b∈fpo,b∈fp \/ H b=none)/\∀ b∈fpo,b ∉ fpr
abbrev DSpT:=List Arg->(T->T->Prop)->Prop
def spT (K:Fg) (p:DSpT):Sp:=λ vs H Q _=>∃ F as bf oo Qd,Same F H/\ArgsR K F H vs as bf oo/\(∀ b∈ofp oo,b ∉ bf)/\p as Qd/\∀ r t',Qd r t'->∀ v F' H' fpr fpo,Post K F H oo F' H' v r fpr t' fpo->Q v H'
section
variable {K:Fg} {te ta ti tv:TE} {de da di dk:DE} {dc:DC} {tt:TT} {dt:DT} {t u tb:TS} {d e db:DS} {tA:TA} {dA:DF} {g:TG} {dg:DG} {n:Nat} {dp:DP} {w:World}
inductive ArgsP (K:Fg) (F H:Hp) (σ:L2.St) (δ:DSt):List V->List ArgP->Prop
|nil:ArgsP K F H σ δ [] []
|d {v:V} {d:D} {vs:List V} {as:List ArgP}:Is K F v d->ArgsP K F H σ δ vs as->ArgsP K F H σ δ (v :: vs) (.d d :: as)
|b {v:V} {i:Nat} {p:Pth} {t:T} {vs:List V} {as:List ArgP}:AtS H σ δ i p v t->ArgsP K F H σ δ vs as->ArgsP K F H σ δ (v :: vs) (.b i p t :: as)
|o {v:V} {i:Nat} {p:Pth} {t:T} {vs:List V} {as:List ArgP}:AtS H σ δ i p v t->ArgsP K F H σ δ vs as->ArgsP K F H σ δ (v :: vs) (.o i p t :: as)
abbrev DAT:=DSt->(List ArgP->Prop)->Prop
def RfAT (K:Fg) (ta:TA) (da:DAT):Prop:=∀ {F H:Hp} {σ:L2.St} {δ:DSt} {Qd:List ArgP->Prop} {Q:List V->Hp->Prop},Same F H->RV K F H σ δ->da δ Qd->(∀ as,Qd as->∀ vs F' H',Ext F H F' H'->ArgsP K F' H' σ δ vs as->Q vs H')->ta σ H Q
variable {dA':DAT}
def aNil:DAT:=λ _ Q=>Q []
def aD (de:DE) (dr:DAT):DAT:=λ δ Q=>de δ λ x=>dr δ λ as=>Q (.d x :: as)
def aB (dp:DP) (dr:DAT):DAT:=λ δ Q=>dp δ λ i p t=>dr δ λ as=>Q (.b i p t :: as)
def aO (dp:DP) (dr:DAT):DAT:=λ δ Q=>dp δ λ i p t=>dr δ λ as=>Q (.o i p t :: as)
theorem zu4:RfAT K tNil aNil:=λ s rv h k=>k _ h _ _ _ (Ext.refl s) .nil
theorem at_d (ha:RfE K ta da) (hr:RfAT K tA dA'):RfAT K (zw2 ta tA) (aD da dA'):=by
 intro F H σ δ Qd Q s rv h k
 refine ha s rv h λ x hx v F1 H1 e1 i1=>hr e1.fh (rv.ext e1) hx λ as has vs F2 H2 e2 i2=>?_
 exact k _ has _ F2 H2 (e1.trans e2) (.d (i1.mono e2.f) i2)
theorem at_b (ha:RfP K ta dp) (hr:RfAT K tA dA'):RfAT K (zw2 ta tA) (aB dp dA'):=by
 intro F H σ δ Qd Q s rv h k
 refine ha s rv h λ i p t hx v F1 H1 e1 i1=>hr e1.fh (rv.ext e1) hx λ as has vs F2 H2 e2 i2=>?_
 exact k _ has _ F2 H2 (e1.trans e2) (.b (i1.mono e2.h) i2)
theorem at_o (ha:RfP K ta dp) (hr:RfAT K tA dA'):RfAT K (zw2 ta tA) (aO dp dA'):=by
 intro F H σ δ Qd Q s rv h k
 refine ha s rv h λ i p t hx v F1 H1 e1 i1=>hr e1.fh (rv.ext e1) hx λ as has vs F2 H2 e2 i2=>?_
 exact k _ has _ F2 H2 (e1.trans e2) (.o (i1.mono e2.h) i2)
def noO:List ArgP->Prop
|[]=>True
|.o _ _ _ :: _=>False
|.d _ :: r=>noO r
|.b _ _ _ :: r=>noO r
def noS (i:Nat):List ArgP->Prop
|[]=>True
|.b j _ _ :: r=>j≠i/\noS i r
|.d _ :: r=>noS i r
|.o _ _ _ :: r=>noS i r
def zvr:List ArgP->Option (Nat×Pth×T)
|[]=>none
|.o i p t :: _=>some (i,p,t)
|.d _ :: r=>zvr r
|.b _ _ _ :: r=>zvr r
def oneO (i:Nat):List ArgP->Prop
|[]=>False
|.o _ _ _ :: r=>noO r/\noS i r
|.d _ :: r=>oneO i r
|.b j _ _ :: r=>j≠i/\oneO i r
def zmt (δ:DSt) (i:Nat):Prop:=match δ[i]? with
|some (.ow _)=>True
|some (.io _ _)=>True
|_=>False
def zuv:T->Prop
|.fz _=>False
|_=>True
theorem ztg {F H:Hp} {σ:L2.St} {δ:DSt} {fps:Nat->List Addr} (rt:∀ {i:Nat} {p:Pth} {v:V} {u:T},AtS H σ δ i p v u->∃ fn,Rt K F H v u fn/\fn.Nodup/\∀ a∈fn,a∈fps i/\∃ s,δ[i]?=some s/\s.has=true):∀ {vs:List V} {as:List ArgP},ArgsP K F H σ δ vs as->noO as->∃ bf,ArgsR K F H vs (as.map ArgP.arg) bf none/\∀ i,noS i as->∀ b∈bf,∃ j,j≠i/\b∈fps j/\∃ s,δ[j]?=some s/\s.has=true
|_,_,.nil,_=>⟨[],.nil,λ i _ b hb=>by simp at hb⟩
|_,_,.d h r,hn=>by
  obtain ⟨bf,h1,h2⟩:=ztg rt r hn
  exact ⟨bf,.d h h1,h2⟩
|_,_,.b (i:=i') h r,hn=>by
  obtain ⟨bf,h1,h2⟩:=ztg rt r hn
  obtain ⟨fn,g1,g2,g3⟩:=rt h
  refine ⟨fn++bf,.b g1 g2 h1,λ i hi b hb=>?_⟩
  rcases List.mem_append.mp hb with z|z
  ·exact ⟨i',hi.1,(g3 b z).1,(g3 b z).2⟩
  ·exact h2 i hi.2 b z
|_,_,.o h r,hn=>hn.elim
theorem zbf {F H:Hp} {σ:L2.St} {δ:DSt} {fps:Nat->List Addr} (rt:∀ {i:Nat} {p:Pth} {v:V} {u:T},AtS H σ δ i p v u->∃ fn,Rt K F H v u fn/\fn.Nodup/\∀ a∈fn,a∈fps i/\∃ s,δ[i]?=some s/\s.has=true) {i:Nat} {p:Pth} {u:T}:∀ {vs:List V} {as:List ArgP},ArgsP K F H σ δ vs as->zvr as=some (i,p,u)->oneO i as->zuv u ->
  ∃ a,AtS H σ δ i p (.ref a) u/\∀ fn,Rt K F H (.ref a) u fn->fn.Nodup->∃ bf,ArgsR K F H vs (as.map ArgP.arg) bf (some (a,fn))/\∀ b∈bf,∃ j,j≠i/\b∈fps j/\∃ s,δ[j]?=some s/\s.has=true
|_,_,.nil,e,_,_=>by cases e
|_,_,.d h r,e,hn,hf=>by
  obtain ⟨a,h1,h2⟩:=zbf rt r e hn hf
  refine ⟨a,h1,λ fn g1 g2=>?_⟩
  obtain ⟨bf,k1,k2⟩:=h2 fn g1 g2
  exact ⟨bf,.d h k1,k2⟩
|_,_,.b (i:=i') h r,e,hn,hf=>by
  obtain ⟨a,h1,h2⟩:=zbf rt r e hn.2 hf
  obtain ⟨fb,g1,g2,g3⟩:=rt h
  refine ⟨a,h1,λ fn k1 k2=>?_⟩
  obtain ⟨bf,m1,m2⟩:=h2 fn k1 k2
  refine ⟨fb++bf,.b g1 g2 m1,λ b hb=>?_⟩
  rcases List.mem_append.mp hb with z|z
  ·exact ⟨i',hn.1,(g3 b z).1,(g3 b z).2⟩
  ·exact m2 b z
|_,_,.o h r,e,hn,hf=>by
  cases e
  obtain ⟨bf,m1,m2⟩:=ztg rt r hn.1
  obtain ⟨fn0,g1,_,_⟩:=rt h
  cases g1 with
 |fz _=>exact hf.elim
 |li _ _ _=>exact ⟨_,h,λ fn k1 k2=>⟨bf,.o k1 k2 m1,m2 i hn.2⟩⟩
 |ls _ _ _=>exact ⟨_,h,λ fn k1 k2=>⟨bf,.o k1 k2 m1,m2 i hn.2⟩⟩
 |ob _ _ _ _ _=>exact ⟨_,h,λ fn k1 k2=>⟨bf,.o k1 k2 m1,m2 i hn.2⟩⟩
 |dk _ _ _=>exact ⟨_,h,λ fn k1 k2=>⟨bf,.o k1 k2 m1,m2 i hn.2⟩⟩
 |dt _ _ _=>exact ⟨_,h,λ fn k1 k2=>⟨bf,.o k1 k2 m1,m2 i hn.2⟩⟩
 |tp _ _ _=>exact ⟨_,h,λ fn k1 k2=>⟨bf,.o k1 k2 m1,m2 i hn.2⟩⟩
theorem RS.rtS {B:Bs} {F H:Hp} {σ:L2.St} {δ:DSt} {fps:Nat->List Addr} (r:RS K B F H σ δ fps) {i:Nat} {p:Pth} {v:V} {u:T} (h:AtS H σ δ i p v u):∃ fn,Rt K F H v u fn/\fn.Nodup/\∀ a∈fn,a∈fps i/\∃ s,δ[i]?=some s/\s.has=true:=by
 obtain ⟨s,t,x,h1,h2,h3,h4⟩:=h
 by_cases hs:s.has=true
 ·obtain ⟨x',t',a1,a2,a3,a4,a5⟩:=r.rt i s h1 hs
  rw [h3] at a1;cases a1
  rw [h2] at a2;cases a2
  obtain ⟨fn,g1,g2,g3,_⟩:=zo51 h4 a3 a5
  exact ⟨fn,g1,g3,λ a ha=>⟨g2 a ha,s,h1,hs⟩⟩
 ·cases s with
 |sh d =>
   cases h2
   obtain ⟨y,b1,b2⟩:=r.sh i d h1
   rw [h3] at b1;cases b1
   cases h4
   exact ⟨[],.fz b2,.nil,λ a ha=>by simp at ha⟩
 |un=>cases h2
 |ow _=>exact absurd rfl hs
 |bo _=>exact absurd rfl hs
 |io _ _=>exact absurd rfl hs
theorem zki {δ:DSt} {i:Nat} {p:Pth} {u t0:T} {s:Sl} {N:DSt->Prop} (hi:δ[i]?=some s) (ho:s.own=true) (ht:s.tree=some t0) (h:mutS δ i p u N):N (δ.set i (s.wth (setP t0 p u))):=by
 unfold mutS at h
 rw [hi] at h
 cases s with
|ow t=>cases ht;exact h
|io a t=>cases ht;exact h
|un=>cases ho
|sh _=>cases ho
|bo _=>cases ho
def zbv (p:DSpT) (δ:DSt) (as:List ArgP) (Q:T->DSt->Prop):Prop:=match zvr as with
|some (i,q,t)=>zmt δ i/\oneO i as/\zuv t/\p (as.map ArgP.arg) λ r t2=>mutS δ i q t2 λ δ'=>Q r δ'
|none=>noO as/\p (as.map ArgP.arg) λ r _=>Q r δ
theorem zin {B:Bs} {F H:Hp} {σ:L2.St} {δ:DSt} {fps:Nat->List Addr} {p:DSpT} {vs:List V} {as:List ArgP} {Qd:T->DSt->Prop} {Q:VK} {E:XK} (r:RS K B F H σ δ fps) (ha:ArgsP K F H σ δ vs as) (hc:zbv p δ as Qd)
  (k:∀ r δ',Qd r δ'->∀ v F' H' fps' fpr,Res K B F' H' σ δ' fps' v r fpr->Q v H'):spT K p vs H Q E:=by
 unfold zbv at hc
 split at hc
 ·rename_i i q t0 eo
  obtain ⟨ho,h1,hf,hp⟩:=hc
  obtain ⟨s,hs,hso⟩:∃ s,δ[i]?=some s/\s.own=true:=by
   unfold zmt at ho
   split at ho
   ·rename_i q;exact ⟨_,q,rfl⟩
   ·rename_i q;exact ⟨_,q,rfl⟩
   ·exact ho.elim
  obtain ⟨a,hat,hargs⟩:=zbf (λ h=>r.rtS h) ha eo h1 hf
  obtain ⟨fn,t1,g1,g2,g3,g4,back⟩:=r.put hs hso hat
  obtain ⟨bf,m1,m2⟩:=hargs fn g2 g3
  refine ⟨F,_,bf,some (a,fn),_,r.fh,m1,λ b hb hbf=>?_,hp,λ r2 t2 q2 v F' H' fpr fpo post=>?_⟩
  ·obtain ⟨j,hj,hbj,sj,e1,hh⟩:=m2 b hbf
   exact r.dj i j s sj (λ z=>hj z.symm) hs e1 hso hh b (g4 b hb) hbj
  ·obtain ⟨io1,io2,io3,io4⟩:=post.io a fn rfl
   obtain ⟨fps2,r2',e2,e3⟩:=back (F2:=F') (H2:=H') (u2:=t2) (fq:=fpo) post.hh post.ff post.fh (λ b hb fb _=>post.nw b hb fb) post.al (λ b hb f=>absurd (post.nw b (g2.dom b hb).1 (g2.dom b hb).2) f) io1 io2 (λ b hb=>(io3 b hb).elim .inl λ z=>.inr (r.newOk z))
   have qd:=zki hs hso g1 q2
   refine k _ _ qd v F' H' fps2 fpr ⟨r2',post.rt,post.nd,λ b hb=>(r.newOk (post.fr b hb)).1,λ j s' ej hs' b hb hbr=>?_⟩
   have fresh:=post.fr b hbr
   by_cases hji:j=i
   ·subst hji
    rcases e3 b hb with z|z
    ·obtain ⟨x',t',a1,a2,a3,a4,a5⟩:=r.rt j s hs (zn6 hso)
     exact (a3.dom b z).1 fresh
    ·exact io4 b z hbr
   ·rw [e2 j hji] at hb
    rw [List.getElem?_set_ne (λ z=>hji z.symm)] at ej
    exact (r.newOk fresh).2 j s' ej hs' hb
 ·rename_i eo
  obtain ⟨hn,hp⟩:=hc
  obtain ⟨bf,m1,_⟩:=ztg (λ h=>r.rtS h) ha hn
  refine ⟨F,_,bf,none,_,r.fh,m1,λ b hb=>by simp [ofp] at hb,hp,λ r2 t2 q2 v F' H' fpr fpo post=>?_⟩
  have ex:Ext F H F' H':=⟨λ b o hb=>post.hh b o (by simp [ofp]) hb,post.ff,post.fh,post.nw⟩
  exact k _ _ q2 v F' H' fps fpr ⟨r.grow ex,post.rt,post.nd,λ b hb=>(r.newOk (post.fr b hb)).1,λ j s' ej hs' b hb hbr=>(r.newOk (post.fr b hbr)).2 j s' ej hs' hb⟩
def zj21 (p:DSpT) (da:DAT):DC:=λ δ Q=>da δ λ as=>zbv p δ as Q
theorem zhm {p:DSpT} {E:XK} (h:RfAT K tA dA'):RfC K (zet (spT K p) [] E tA) (zj21 p dA'):=by
 intro B F H σ δ fps Qd Q r hd k
 refine h r.fh r.rv hd λ as has vs F1 H1 e1 i1=>?_
 rw [List.append_nil]
 exact zin (r.grow e1) i1 has k
def noM (m:Str) (u:T):Prop:=match u with
|.ob _ fs=>fs.lookup m=none
|_=>False
def zx01 (o:Bool) (C:Addr) (m:Str) (p:DSpT) (dp:DP) (da:DAT):DC:=λ δ Q=>dp δ λ i q u=>nCls C u/\noM m u/\da δ λ as=>zbv p δ ((if o then .o i q u else .b i q u) :: as) Q
theorem zyj {F H:Hp} {v:V} {u:T} {fn:List Addr} {C:Addr} {m:Str} (hr:Rt K F H v u fn) (hc:nCls C u) (hm:noM m u):∃ a dx fs,v=.ref a/\H a=some (.ins C dx fs)/\fs.lookup m=none:=by
 cases hr with
|ob g1 g2 g3 g4 g5 =>
  cases (show _=C from hc)
  exact ⟨_,_,_,rfl,g1,(g5.keys m).1 hm⟩
|fz _=>exact hc.elim
|li _ _ _=>exact hc.elim
|ls _ _ _=>exact hc.elim
|dk _ _ _=>exact hc.elim
|dt _ _ _=>exact hc.elim
|tp _ _ _=>exact hc.elim
theorem zbn {p:DSpT} {E:XK} {C:Addr} {m:Str} (o:Bool) (hp:RfP K ta dp) (h:RfAT K tA dA'):RfC K (zs51 C m (spT K p) [] E ta tA) (zx01 o C m p dp dA'):=by
 intro B F H σ δ fps Qd Q r hd k
 refine hp r.fh r.rv hd λ i q u hu v F1 H1 e1 at1=>?_
 have r1:=r.grow e1
 obtain ⟨fn,hr⟩:=at1.rt r1.rv
 obtain ⟨a,dx,fs,rfl,h1,h2⟩:=zyj hr hu.1 hu.2.1
 refine ⟨a,dx,fs,rfl,h1,h2,h r1.fh r1.rv hu.2.2 λ as has vs F2 H2 e2 i2=>?_⟩
 rw [List.append_nil]
 have at2:=at1.mono e2.h
 cases o with
|true=>exact zin (r1.grow e2) (.o at2 i2) has k
|false=>exact zin (r1.grow e2) (.b at2 i2) has k
def zf21 (p:DSpT) (as:List ArgP) (Q:T->Prop):Prop:=noO as/\p (as.map ArgP.arg) λ r _=>Q r
theorem AtS.rtV {F H:Hp} {σ:L2.St} {δ:DSt} (r:RV K F H σ δ) {i:Nat} {p:Pth} {v:V} {u:T} (h:AtS H σ δ i p v u):∃ fn,Rt K F H v u fn/\fn.Nodup:=by
 obtain ⟨s,t,x,h1,h2,h3,h4⟩:=h
 obtain ⟨y,fp,e,hr,nd⟩:=(r.sl i s h1).rt h2
 rw [h3] at e;cases e
 obtain ⟨fn,g1,_,g3,_⟩:=zo51 h4 hr nd
 exact ⟨fn,g1,g3⟩
theorem zoj {F H:Hp} {σ:L2.St} {δ:DSt} (r:RV K F H σ δ):∀ {vs:List V} {as:List ArgP},ArgsP K F H σ δ vs as->noO as->∃ bf,ArgsR K F H vs (as.map ArgP.arg) bf none
|_,_,.nil,_=>⟨[],.nil⟩
|_,_,.d h q,hn=>by
  obtain ⟨bf,h1⟩:=zoj r q hn
  exact ⟨bf,.d h h1⟩
|_,_,.b h q,hn=>by
  obtain ⟨bf,h1⟩:=zoj r q hn
  obtain ⟨fn,g1,g2⟩:=h.rtV r
  exact ⟨fn++bf,.b g1 g2 h1⟩
|_,_,.o h r,hn=>hn.elim
theorem zit {F H:Hp} {σ:L2.St} {δ:DSt} {p:DSpT} {vs:List V} {as:List ArgP} {Qd:T->Prop} {Q:VK} {E:XK} (s:Same F H) (r:RV K F H σ δ) (ha:ArgsP K F H σ δ vs as) (hc:zf21 p as Qd)
  (k:∀ r,Qd r->∀ v F' H' fp,Ext F H F' H'->Rt K F' H' v r fp->fp.Nodup->(∀ a∈fp,H a=none)->Q v H'):spT K p vs H Q E:=by
 obtain ⟨bf,m1⟩:=zoj r ha hc.1
 refine ⟨F,_,bf,none,_,s,m1,λ b hb=>by simp [ofp] at hb,hc.2,λ r2 t2 q2 v F' H' fpr fpo post=>?_⟩
 exact k _ q2 v F' H' fpr ⟨λ b o hb=>post.hh b o (by simp [ofp]) hb,post.ff,post.fh,post.nw⟩ post.rt post.nd post.fr
def zm81 (p:DSpT) (da:DAT):DN:=λ δ Q=>da δ λ as=>zf21 p as Q
theorem zdw {p:DSpT} {E:XK} (h:RfAT K tA dA'):RfN K (zet (spT K p) [] E tA) (zm81 p dA'):=by
 intro F H σ δ Qd Q s rv hd k
 refine h s rv hd λ as has vs F1 H1 e1 i1=>?_
 rw [List.append_nil]
 exact zit e1.fh (rv.ext e1) i1 has λ r q v F' H' fp e2 h1 h2 h3=>k r q v F' H' fp (e1.trans e2) h1 h2 λ a ha=>zb3 e1 (h3 a ha)
def eN (dn:DN):DE:=λ δ Q=>dn δ λ r=>fzT r Q
theorem RfN.ex {dn:DN} (h:RfN K te dn):RfE K te (eN dn):=λ s rv hd k=>h s rv hd λ r q v F' H' fp e1 h1 h2 h3=>by
 obtain ⟨d,qd,i⟩:=zby h1 q
 exact k d qd v F' H' e1 i
def zb31 (C:Addr) (p:DSpT) (da:DAT):DN:=λ δ Q=>da δ λ as=>noO as/\p (.o (.ob C []) :: as.map ArgP.arg) λ r t2=>(match r with|.fz .none=>True|_=>False)/\Q t2
theorem zck {p:DSpT} {E:XK} {C:Addr} (h:RfAT K tA dA'):RfN K (zq41 C (spT K p) [] E tA) (zb31 C p dA'):=by
 intro F H σ δ Qd Q s rv hd k
 refine h s rv hd λ as has vs F1 H1 e1 i1=>?_
 intro x dx hx hdx hne
 obtain ⟨bf,m1⟩:=zoj (rv.ext e1) i1 has.1
 have hH:∀ b,b≠x->b≠dx->upd (upd H1 dx (.own x)) x (.ins C dx []) b=H1 b:=λ b h1 h2=>by rw [zw0 h1,zw0 h2]
 have s2:Same H1 (upd (upd H1 dx (.own x)) x (.ins C dx [])):=λ b o z=>by
  rw [hH b (λ q=>by subst q;rw [hx] at z;cases z) (λ q=>by subst q;rw [hdx] at z;cases z)];exact z
 have fx:F1 x=none:=by
  cases q:F1 x with
 |none=>rfl
 |some o=>rw [e1.fh x o q] at hx;cases hx
 have fdx:F1 dx=none:=by
  cases q:F1 dx with
 |none=>rfl
 |some o=>rw [e1.fh dx o q] at hdx;cases hdx
 have m2:ArgsR K F1 (upd (upd H1 dx (.own x)) x (.ins C dx [])) vs (as.map ArgP.arg) bf none/\∀ b∈bf,H1 b≠none:=by
  have key:∀ {vs:List V} {as:List Arg} {bf:List Addr} {oo:Option (Addr×List Addr)},ArgsR K F1 H1 vs as bf oo->oo=none->ArgsR K F1 (upd (upd H1 dx (.own x)) x (.ins C dx [])) vs as bf none/\∀ b∈bf,H1 b≠none:=λ {vs as bf oo} hh=>by
   induction hh with
  |nil=>intro _;exact ⟨.nil,λ b hb=>by simp at hb⟩
  |d h1 _ ih=>intro e;exact ⟨.d h1 (ih e).1,(ih e).2⟩
  |b h1 h2 _ ih =>
    intro e
    refine ⟨.b (h1.frame (λ _ _ z=>z) λ b hb=>⟨?_,(h1.dom b hb).2⟩) h2 (ih e).1,λ b hb=>?_⟩
    ·exact hH b (λ q=>by subst q;exact (h1.dom b hb).1 hx) (λ q=>by subst q;exact (h1.dom b hb).1 hdx)
    ·rcases List.mem_append.mp hb with z|z
     ·exact (h1.dom b z).1
     ·exact (ih e).2 b z
  |o _ _ _ _=>intro e;cases e
  exact key m1 rfl
 refine ⟨F1,_,bf,some (x,[x,dx]),_,e1.fh.trans s2,.o (.ob zp0 (by rw [zw0 hne,zp0]) fx fdx .nil) (by simp [Ne.symm hne]) (by rw [List.append_nil];exact m2.1),λ b hb hbf=>?_,has.2,λ r t2 q2 v F' H' fpr fpo post=>?_⟩
 ·have:=m2.2 b hbf
  simp [ofp] at hb
  rcases hb with z|z
  ·exact this (by rw [z];exact hx)
  ·exact this (by rw [z];exact hdx)
 ·obtain ⟨q0,q1⟩:=q2
  obtain ⟨io1,io2,io3,io4⟩:=post.io x [x,dx] rfl
  refine ⟨?_,k _ q1 (.ref x) F' H' fpo (e1.trans ⟨λ b o z=>?_,post.ff,post.fh,λ b hb fb=>post.nw b (λ z=>?_) fb⟩) io1 io2 λ b hb=>zb3 e1 ?_⟩
  ·split at q0
   ·cases post.rt with
   |fz i=>exact i.non_inv
   ·exact q0.elim
  ·refine post.hh b o (λ w=>?_) (s2 b o z)
   simp [ofp] at w
   rcases w with w|w
   ·rw [w,hx] at z;cases z
   ·rw [w,hdx] at z;cases z
  ·cases q:H1 b with
  |none=>exact hb q
  |some o=>rw [s2 b o q] at z;cases z
  ·rcases io3 b hb with z|z
   ·simp at z
    rcases z with z|z
    ·rw [z];exact hx
    ·rw [z];exact hdx
   ·cases q:H1 b with
   |none=>rfl
   |some o=>rw [s2 b o q] at z;cases z
end
section
variable {P:Program} {w:World} {K:Fg} {mg:Str->Option Value} {base:Heap}
def zs21 (a:Addr):Arg->Sl
|.d x=>.sh x
|.b x=>.bo x
|.o x=>.io a x
def zzb (N:List Str) (a:Addr) (as:List Arg):DSt:=as.map (zs21 a)++List.replicate (N.length - as.length) .un
def oIx:List Arg->Option Nat
|[]=>none
|.o _ :: _=>some 0
|.d _ :: r=>(oIx r).map (·+1)
|.b _ :: r=>(oIx r).map (·+1)
def exA (as:List Arg) (a:Addr) (Qd:T->T->Prop) (r:T) (δ:DSt):Prop:=match oIx as with
|none=>Qd r (.fz .none)
|some k=>∃ t',δ[k]?=some (.io a t')/\Qd r t'
def zk51 (as:List Arg) (a:Addr) (Qd:T->T->Prop):DEnds:={ nx:=exA as a Qd (.fz .none),rt:=exA as a Qd }
theorem zgd {F H:Hp}:∀ {vs:List V} {as:List Arg} {bf:List Addr} {oo:Option (Addr×List Addr)},ArgsR K F H vs as bf oo->vs.length=as.length/\∃ fl:Nat->List Addr,
  (∀ (k:Nat) x,as[k]?=some (.d x)->∃ v,vs[k]?=some v/\Is K F v x) /\
  (∀ (k:Nat) x,as[k]?=some (.b x)->∃ v,vs[k]?=some v/\Rt K F H v x (fl k)/\(fl k).Nodup/\∀ b∈fl k,b∈bf) /\
  (∀ (k:Nat) x,as[k]?=some (.o x)->∃ a,vs[k]?=some (.ref a)/\oo=some (a,fl k)/\Rt K F H (.ref a) x (fl k)/\(fl k).Nodup/\oIx as=some k)/\(oo=none->oIx as=none)/\(∀ a fp,oo=some (a,fp)->∃ k x,as[k]?=some (.o x)/\fl k=fp/\oIx as=some k)
|_,_,_,_,.nil=>⟨rfl,λ _=>[],λ k x e=>by simp at e,λ k x e=>by simp at e,λ k x e=>by simp at e,λ _=>rfl,λ a fp e=>by cases e⟩
|_,_,_,_,.d h r=>by
  obtain ⟨hl,fl,h1,h2,h3,h4,h5⟩:=zgd r
  refine ⟨by simp [hl],λ k=>fl (k - 1),λ k x e=>?_,λ k x e=>?_,λ k x e=>?_,λ e=>?_,λ a fp e=>?_⟩
  ·cases k with
  |zero=>simp at e;subst e;exact ⟨_,rfl,h⟩
  |succ k=>obtain ⟨v,g1,g2⟩:=h1 k x (by simpa using e);exact ⟨v,by simpa using g1,g2⟩
  ·cases k with
  |zero=>simp at e
  |succ k=>obtain ⟨v,g1,g2⟩:=h2 k x (by simpa using e);exact ⟨v,by simpa using g1,g2⟩
  ·cases k with
  |zero=>simp at e
  |succ k=>obtain ⟨v,g1,g2,g3,g4,g5⟩:=h3 k x (by simpa using e);exact ⟨v,by simpa using g1,g2,g3,g4,by simp [oIx,g5]⟩
  ·simp [oIx,h4 e]
  ·obtain ⟨k,x,g1,g2,g3⟩:=h5 a fp e
   exact ⟨k+1,x,by simpa using g1,g2,by simp [oIx,g3]⟩
|_,_,_,_,.b (fp:=fp) (bf:=bf) h nd r=>by
  obtain ⟨hl,fl,h1,h2,h3,h4,h5⟩:=zgd r
  refine ⟨by simp [hl],λ k=>if k=0 then fp else fl (k - 1),λ k x e=>?_,λ k x e=>?_,λ k x e=>?_,λ e=>?_,λ a fp' e=>?_⟩
  ·cases k with
  |zero=>simp at e
  |succ k=>obtain ⟨v,g1,g2⟩:=h1 k x (by simpa using e);exact ⟨v,by simpa using g1,g2⟩
  ·cases k with
  |zero=>simp at e;subst e;exact ⟨_,rfl,h,nd,λ b hb=>by simp at hb ⊢;exact .inl hb⟩
  |succ k=>obtain ⟨v,g1,g2,g3,g4⟩:=h2 k x (by simpa using e);exact ⟨v,by simpa using g1,g2,g3,λ b hb=>by have:=g4 b (by simpa using hb);simp [this]⟩
  ·cases k with
  |zero=>simp at e
  |succ k=>obtain ⟨v,g1,g2,g3,g4,g5⟩:=h3 k x (by simpa using e);exact ⟨v,by simpa using g1,g2,g3,g4,by simp [oIx,g5]⟩
  ·simp [oIx,h4 e]
  ·obtain ⟨k,x,g1,g2,g3⟩:=h5 a fp' e
   exact ⟨k+1,x,by simpa using g1,by simpa using g2,by simp [oIx,g3]⟩
|_,_,_,_,.o (a:=a) (fp:=fp) h nd r=>by
  obtain ⟨hl,fl,h1,h2,h3,h4,h5⟩:=zgd r
  refine ⟨by simp [hl],λ k=>if k=0 then fp else fl (k - 1),λ k x e=>?_,λ k x e=>?_,λ k x e=>?_,λ e=>(by cases e),λ a' fp' e=>?_⟩
  ·cases k with
  |zero=>simp at e
  |succ k=>obtain ⟨v,g1,g2⟩:=h1 k x (by simpa using e);exact ⟨v,by simpa using g1,g2⟩
  ·cases k with
  |zero=>simp at e
  |succ k=>obtain ⟨v,g1,g2,g3,g4⟩:=h2 k x (by simpa using e);exact ⟨v,by simpa using g1,g2,g3,λ b hb=>g4 b (by simpa using hb)⟩
  ·cases k with
  |zero=>simp at e;subst e;exact ⟨a,rfl,rfl,h,nd,rfl⟩
  |succ k =>
    obtain ⟨v,g1,g2,g3,g4,g5⟩:=h3 k x (by simpa using e)
    cases g2
  ·cases e
   exact ⟨0,_,rfl,rfl,rfl⟩
theorem zp8 {qual:Str} {st:Stmt} {N:List Str} {k:Nat} {p:DSpT}
  (body:∀ (f:Addr) (cdv:Value) (A:Around) (outer:List Env) (s:Shared) (H:Hp) (E:XK),Room k (A.deeper (envOfC qual (zh0 st) s.heap.objs.size f cdv))->∃ t d,PSs (cxOf CX0 P w K mg base N qual (zh0 st) f cdv A outer s H E).nox (zj2 st) t/\RfS K t d/\∀ as Qd a,p as Qd->d (zk51 as a Qd) (zzb N a as)) :
  zr6 P w K mg base qual st N k (spT K p):=by
 intro f cdv A outer s H vs Q E hr h
 obtain ⟨F,as,bf,oo,Qd,sf,ha,hd,hp,hq⟩:=h
 obtain ⟨t,d,h1,h2,h3⟩:=body f cdv A outer s H E hr
 obtain ⟨hl,fl,a1,a2,a3,a4,a5⟩:=zgd ha
 obtain ⟨a,haa⟩:∃ a:Addr,∀ a' fp,oo=some (a',fp)->a'=a:=by
  cases oo with
 |none=>exact ⟨0,λ a' fp e=>by cases e⟩
 |some x=>exact ⟨x.1,λ a' fp e=>by cases e;rfl⟩
 have slot:∀ (i:Nat) sl,(zzb N a as)[i]?=some sl->(sl=.un/\as.length<=i) \/ ∃ g,as[i]?=some g/\sl=zs21 a g:=λ i sl e=>by
  unfold zzb at e
  by_cases hi:i < as.length
  ·rw [List.getElem?_append_left (by simpa using hi),List.getElem?_map] at e
   obtain ⟨g,h1,h2⟩:=Option.map_eq_some_iff.mp e
   exact .inr ⟨g,h1,h2.symm⟩
  ·rw [List.getElem?_append_right (by simpa using hi),List.getElem?_replicate] at e
   split at e
   ·cases e;exact .inl ⟨rfl,by lia⟩
   ·cases e
 have val:∀ (i:Nat) v,vs[i]?=some v->(L2.start N vs).getD i none=some v:=λ i v e=>by
  have hi:i < vs.length:=by
   rcases Nat.lt_or_ge i vs.length with z|z
   ·exact z
   ·rw [List.getElem?_eq_none z] at e;cases e
  unfold L2.start
  rw [List.getD_eq_getElem?_getD,List.getElem?_append_left (by simpa using hi),List.getElem?_map,e]
  rfl
 have rs:RS K ⟨F,H,ofp oo⟩ F H (L2.start N vs) (zzb N a as) fl:=by
  refine ⟨λ b o _ z=>z,λ _ _ z=>z,sf,λ b _ z=>z,λ b z=>z,by simp [L2.start,zzb,hl],λ i x e=>?_,λ i sl e hs=>?_,λ i sl e ho b hb=>?_,λ i j sl sl' hij e1 e2 o1 o2 b hb hb2=>?_⟩
  ·rcases slot i _ e with ⟨z,_⟩|⟨g,e1,e2⟩
   ·cases z
   ·cases g with
   |d x'=>cases e2;obtain ⟨v,g1,g2⟩:=a1 i x e1;exact ⟨v,val i v g1,g2⟩
   |b _=>cases e2
   |o _=>cases e2
  ·rcases slot i _ e with ⟨z,_⟩|⟨g,e1,e2⟩
   ·rw [z] at hs;cases hs
   ·cases g with
   |d x'=>rw [e2] at hs;cases hs
   |b x' =>
     obtain ⟨v,g1,g2,g3,g4⟩:=a2 i x' e1
     rw [e2]
     exact ⟨v,x',val i v g1,rfl,g2,λ a u z=>(by cases z),g3⟩
   |o x' =>
     obtain ⟨a',g1,g2,g3,g4,g5⟩:=a3 i x' e1
     have:=haa a' _ g2
     subst this
     rw [e2]
     exact ⟨_,x',val i _ g1,rfl,g3,λ a u z=>(by cases z;rfl),g4⟩
  ·rcases slot i _ e with ⟨z,_⟩|⟨g,e1,e2⟩
   ·rw [z] at ho;cases ho
   ·cases g with
   |d x'=>rw [e2] at ho;cases ho
   |b x'=>rw [e2] at ho;cases ho
   |o x' =>
     obtain ⟨a',g1,g2,g3,g4,g5⟩:=a3 i x' e1
     refine .inr ⟨?_,λ t z=>?_⟩
     ·show b∈ofp oo
      rw [g2];exact hb
     ·rw [e2] at z;cases z
  ·rcases slot i _ e1 with ⟨z,_⟩|⟨g,f1,f2⟩
   ·rw [z] at o1;cases o1
   ·cases g with
   |d x'=>rw [f2] at o1;cases o1
   |b x'=>rw [f2] at o1;cases o1
   |o x' =>
     obtain ⟨a',g1,g2,g3,g4,g5⟩:=a3 i x' f1
     rcases slot j _ e2 with ⟨z,_⟩|⟨g',f1',f2'⟩
     ·rw [z] at o2;cases o2
     ·cases g' with
     |d x''=>rw [f2'] at o2;cases o2
     |b x'' =>
       obtain ⟨v,k1,k2,k3,k4⟩:=a2 j x'' f1'
       exact hd b (by rw [g2];exact hb) (k4 b hb2)
     |o x'' =>
       obtain ⟨a'',k1,k2,k3,k4,k5⟩:=a3 j x'' f1'
       rw [g5] at k5
       exact hij (Option.some.inj k5)
 have fin:∀ {F' H':Hp} {σ':L2.St} {δ':DSt} {fps':Nat->List Addr} {v:V} {r:T} {fpr:List Addr},Res K ⟨F,H,ofp oo⟩ F' H' σ' δ' fps' v r fpr->exA as a Qd r δ'->Q v H':=λ {F' H' σ' δ' fps' v r fpr} res ex=>by
  unfold exA at ex
  split at ex
  ·rename_i eo
   refine hq r (.fz .none) ex v F' H' fpr [] ⟨res.rs.hh,res.rs.ff,res.rs.fh,res.rs.nw,res.rs.al,res.rt,res.nd,res.fr,λ a' fp e=>?_⟩
   obtain ⟨k,x,g1,g2,g3⟩:=a5 a' fp e
   rw [eo] at g3;cases g3
  ·rename_i ko eo
   obtain ⟨t',et,qd⟩:=ex
   obtain ⟨x',t'',b1,b2,b3,b4,b5⟩:=res.rs.rt ko _ et rfl
   cases b2
   have:=b4 a t' rfl
   subst this
   refine hq r t' qd v F' H' fpr (fps' ko) ⟨res.rs.hh,res.rs.ff,res.rs.fh,res.rs.nw,res.rs.al,res.rt,res.nd,res.fr,λ a' fp e=>?_⟩
   have ea:=haa a' fp e
   subst ea
   refine ⟨b3,b5,λ b hb=>?_,λ b hb=>res.dj ko _ et rfl b hb⟩
   rcases res.rs.fr ko _ et rfl b hb with z|⟨z,_⟩
   ·exact .inr z
   ·have:b∈ofp oo:=z
    rw [e] at this
    exact .inl this
 refine ⟨t,h1,h2 rs (h3 as Qd a hp) ⟨λ r q=>fin ⟨r,.fz .non,.nil,λ a ha=>by simp at ha,λ _ _ _ _ a _ ha=>by simp at ha⟩ q,λ _ z=>z.elim,λ _ z=>z.elim,λ res q=>fin res q⟩⟩
theorem ztm {F H:Hp} {vs:List V} {as:List Arg} {bf:List Addr} {oo:Option (Addr×List Addr)} (h:ArgsR K F H vs as bf oo):vs.length=as.length:=(zgd h).1
theorem zel {p:DSpT} {ps:List Str} (h:∀ as Qd,p as Qd->as.length=ps.length):∀ vs H Q E,spT K p vs H Q E->vs.length=ps.length:=λ vs H Q E z=>by
 obtain ⟨F,as,bf,oo,Qd,_,ha,_,hp,_⟩:=z
 rw [ztm ha];exact h as Qd hp
def zpf (N:List Str) (ds:List D):DSt:=ds.map Sl.sh++List.replicate (N.length - ds.length) .un
def rD (Qd:D->Prop) (r:T) (_:DSt):Prop:=match r with
|.fz d=>Qd d
|.li ds=>Qd (.list ds)
|.ls ts=>∃ d,toD (.ls ts)=some d/\Qd d
|_=>False
theorem zgw {Qd:D->Prop} {r:T} {δ:DSt} (h:rD Qd r δ):∃ d,toD r=some d/\Qd d:=by
 cases r with
|fz d=>exact ⟨d,rfl,h⟩
|li ds=>exact ⟨_,rfl,h⟩
|ls ts=>exact h
|ob _ _=>exact h.elim
|dk _=>exact h.elim
|dt _=>exact h.elim
|tp _=>exact h.elim
theorem zjo {F H:Hp} {N:List Str} {vs:List V} {ds:List D} (s:Same F H) (h:IsAll K F vs ds):RS K ⟨F,H,[]⟩ F H (L2.start N vs) (zpf N ds) (λ _=>[]):=by
 have el:=h.dlen
 have no:∀ (i:Nat) sl,(zpf N ds)[i]?=some sl->sl.has=true->False:=λ i sl e hs=>by
  unfold zpf at e
  by_cases hi:i < ds.length
  ·rw [List.getElem?_append_left (by simpa using hi),List.getElem?_map] at e
   obtain ⟨x,_,z⟩:=Option.map_eq_some_iff.mp e
   subst z;cases hs
  ·rw [List.getElem?_append_right (by simpa using hi),List.getElem?_replicate] at e
   split at e
   ·cases e;cases hs
   ·cases e
 refine ⟨λ b o _ z=>z,λ _ _ z=>z,s,λ b _ z=>z,λ b z=>z,by simp [L2.start,zpf,el],λ i x e=>?_,λ i sl e hs=>(no i sl e hs).elim,λ i sl e ho=>(no i sl e (zn6 ho)).elim,λ i j sl sl' _ e _ o _=>(no i sl e (zn6 o)).elim⟩
 unfold zpf at e
 unfold L2.start
 by_cases hi:i < ds.length
 ·rw [List.getElem?_append_left (by simpa using hi),List.getElem?_map] at e
  obtain ⟨y,hx,z⟩:=Option.map_eq_some_iff.mp e
  cases z
  obtain ⟨v,hv,iv⟩:=h.dget hx
  refine ⟨v,?_,iv⟩
  rw [List.getD_eq_getElem?_getD,List.getElem?_append_left (by simp;lia),List.getElem?_map,hv]
  rfl
 ·rw [List.getElem?_append_right (by simpa using hi),List.getElem?_replicate] at e
  split at e <;> cases e
theorem zj81 {F0 H0 F H:Hp} {σ:L2.St} {δ:DSt} {fps:Nat->List Addr} {v:V} {r:T} {fpr:List Addr} {d:D} (res:Res K ⟨F0,H0,[]⟩ F H σ δ fps v r fpr) (e:toD r=some d):∃ F',Ext F0 H0 F' H/\Is K F' v d:=by
 obtain ⟨F2,s1,s2,s3,s4⟩:=zc51 res.rs.fh res.rt e res.nd
 refine ⟨F2,⟨λ b o z=>res.rs.hh b o (by simp) z,res.rs.ff.trans s1,s2,λ b hb fb=>?_⟩,s4⟩
 have:b ∉ fpr:=λ z=>hb (res.fr b z)
 rw [s3 b this]
 exact res.rs.nw b hb fb
theorem zz5 {qual:Str} {st:Stmt} {N:List Str} {k:Nat} {p:DSp}
  (body:∀ (f:Addr) (cdv:Value) (A:Around) (outer:List Env) (s:Shared) (H:Hp) (E:XK),Room k (A.deeper (envOfC qual (zh0 st) s.heap.objs.size f cdv))->∃ t d,PSs (cxOf CX0 P w K mg base N qual (zh0 st) f cdv A outer s H E).nox (zj2 st) t/\RfS K t d/\∀ ds Qd,p ds Qd->d { nx:=λ _=>Qd .none,rt:=rD Qd } (zpf N ds)) :
  zr6 P w K mg base qual st N k (spD K p):=by
 intro f cdv A outer s H vs Q E hr h
 obtain ⟨F,ds,Qd,sf,i,hp,hq⟩:=h
 obtain ⟨t,d,h1,h2,h3⟩:=body f cdv A outer s H E hr
 refine ⟨t,h1,h2 (zjo sf i) (h3 ds Qd hp) ⟨λ r q=>hq _ q _ _ _ ⟨λ b o z=>r.hh b o (by simp) z,r.ff,r.fh,r.nw⟩ .non,λ _ z=>z.elim,λ _ z=>z.elim,λ res q=>?_⟩⟩
 obtain ⟨d',e1,e2⟩:=zgw (δ:=[]) q
 obtain ⟨F',ex,is⟩:=zj81 res e1
 exact hq _ e2 _ _ _ ex is
theorem zty {F:Hp} {vs:List V} {ds:List D} (h:IsAll K F vs ds):vs.length=ds.length:=h.dlen
theorem zth {p:DSp} {ps:List Str} (h:∀ ds Qd,p ds Qd->ds.length=ps.length):∀ vs H Q E,spD K p vs H Q E->vs.length=ps.length:=λ vs H Q E z=>by
 obtain ⟨F,ds,Qd,_,i,hp,_⟩:=z
 rw [zty i];exact h ds Qd hp
theorem zfs {F:Hp}:∀ ns:List Int,IsAll K F (ns.map V.int) (ns.map PyData.int)
|[]=>.nil
|n :: r=>.cons (.int n) (zfs r)
theorem zz91 {st:Stmt} {N:List Str} {k:Nat} {fa:Addr} (M:Md K mg) (T:TopDef K "law" st) (hfa:mg "law"=some (.ref fa)) (S:FnScope N ["script"] (zh0 st)) (hb:zt6 "law" "law" st ["script"])
  (body:∀ base:Heap,K.In base->base.Ns mainGlobals mg->∀ (f:Addr) (cdv:Value) (A:Around) (outer:List Env) (s:Shared) (H:Hp) (E:XK),Room k (A.deeper (envOfC "law" (zh0 st) s.heap.objs.size f cdv)) ->
   ∃ t d,PSs (cxOf CX0 P w K mg base N "law" (zh0 st) f cdv A outer s H E).nox (zj2 st) t/\RfS K t d/\∀ (ns:List Int) (Qd:D->Prop),ns.length<=63->Qd (.bool true)->d { nx:=λ _=>Qd .none,rt:=rD Qd } (zpf N [.list (ns.map .int)])) :
  ∃ fd:FuncData,(∀ (s:Shared) (v:Value),BindsTo s fd ⟨[v],[]⟩ [("script",v)])/\∀ base:Heap,K.In base->base.Ns mainGlobals mg->FnOk P w K mg base CX0 (k+1) fa fd ["script"] (zp21 K):=by
 refine zd31 M T hfa S hb (λ vs H Q E h=>by obtain ⟨a,ns,rfl,_⟩:=h;rfl) λ base kb nb=>?_
 intro f cdv A outer s H vs Q E hr h
 obtain ⟨a,ns,rfl,hS,hl,hq⟩:=h
 obtain ⟨t,d,h1,h2,h3⟩:=body base kb nb f cdv A outer s H E hr
 refine ⟨t,h1,h2 (zjo (F:=H) (λ _ _ z=>z) (.cons (.lst hS (zfs ns)) .nil)) (h3 ns (λ d=>d=.bool true) hl rfl) ⟨λ r q=>(by cases q),λ _ z=>z.elim,λ _ z=>z.elim,λ res q=>?_⟩⟩
 obtain ⟨d',e1,e2⟩:=zgw (δ:=[]) q
 obtain ⟨F',ex,is⟩:=zj81 res e1
 subst e2
 cases is
 exact hq _
end
end L4
namespace L3
open PySem PySem.Spec PyProof.Rows L2
section
variable {X:Cx} {tg:Expr}
end
end L3
namespace L4
open PySem PySem.Spec PyProof.Rows L2 L3
section
variable {K:Fg} {tA:TA} {dA:DF}
def zf91 (lo st:Int) (n:Nat):List D:=(List.range n).map λ i=>.int (lo+(i:Nat) * st)
def zfa1 (dA:DF):DF:=λ δ Q=>dA δ λ ds=>match ds with
|[.int i,.int j,.int c]=>c≠0/\(-(2 ^ 40)<=i/\i < 2 ^ 40/\-(2 ^ 40)<=j/\j < 2 ^ 40/\-(2 ^ 20)<=c/\c < 2 ^ 20)/\∃ n:Nat,Builtin.Range.rangeSize i j c=(n:Int)/\n < 2 ^ 41/\Q (zf91 i c n)
|_=>False
def zw61:List D->(D->Prop)->Prop
|[.int i,.int j],Q=>Q (.int (if j < i then j else i))
|_,_=>False
theorem zm41:CB K (λ xs H Q=>∃ i j,xs=[V.int i,V.int j]/\Q (V.int (if j < i then j else i)) H) zw61:=by
 intro F H vs ds Qd Q s hv h k
 unfold zw61 at h
 split at h
 ·obtain ⟨v,u,rfl,h1,h2⟩:=vw2 hv
  cases h1.int;cases h2.int
  exact ⟨_,_,rfl,k _ h _ F H (Ext.refl s) (.int _)⟩
 ·exact h.elim
def fAbs:List D->(D->Prop)->Prop
|[.int i],Q=>Q (.int (if i < 0 then -i else i))
|_,_=>False
theorem zna1:CB K (λ xs H Q=>∃ i,xs=[V.int i]/\Q (V.int (if i < 0 then -i else i)) H) fAbs:=by
 intro F H vs ds Qd Q s hv h k
 unfold fAbs at h
 split at h
 ·obtain ⟨v,rfl,h1⟩:=vw1 hv
  cases h1.int
  exact ⟨_,rfl,k _ h _ F H (Ext.refl s) (.int _)⟩
 ·exact h.elim
end
theorem e_dF (df:DF) (δ:DSt) (Q:D->Prop):dF df δ Q=( df δ λ ds=>Q (.list ds)):=rfl
theorem e_dC (d:D) (x_0:DSt) (Q:D->Prop):dC d x_0 Q=( Q d):=rfl
theorem zj91 (f:D->D->(D->Prop)->Prop) (da db:DE) (δ:DSt) (Q:D->Prop):dOp f da db δ Q=( da δ λ x=>db δ λ y=>f x y Q):=rfl
theorem zl51 (f:D->D->(List D->Prop)->Prop) (da db:DE) (δ:DSt) (Q:List D->Prop):dOpF f da db δ Q=( da δ λ x=>db δ λ y=>f x y Q):=rfl
theorem ze71 (df:DF) (db:DE) (δ:DSt) (Q:List D->Prop):dRep df db δ Q=( df δ λ ds=>db δ λ y=>fRep ds y Q):=rfl
theorem zs91 (f:D->(D->Prop)->Prop) (da:DE) (δ:DSt) (Q:D->Prop):dUn f da δ Q=( da δ λ x=>f x Q):=rfl
theorem zwz (da:DE) (δ:DSt) (Q:D->Prop):zn31 da δ Q=( da δ λ x=>fB x λ b=>Q (.bool (!b))):=rfl
theorem zry (da db:DE) (δ:DSt) (Q:D->Prop):zu41 da db δ Q=( da δ λ x=>fB x λ b=>if b=true then db δ Q else Q (.bool false)):=rfl
theorem za61 (da db:DE) (δ:DSt) (Q:D->Prop):dOrV da db δ Q=( da δ λ x=>fB x λ b=>if b=true then Q (.bool true) else db δ Q):=rfl
theorem zh01 (de:DE) (δ:DSt) (Q:Bool->Prop):zpi de δ Q=( de δ λ d=>fB d Q):=rfl
theorem zr51 (de:DE) (δ:DSt) (Q:Bool->Prop):dTru de δ Q=( de δ λ d=>fTru d Q):=rfl
theorem zj51 (dt du:DT) (δ:DSt) (Q:Bool->Prop):dAnd dt du δ Q=( dt δ λ b=>if b=true then du δ Q else Q false):=rfl
theorem zia1 (dt du:DT) (δ:DSt) (Q:Bool->Prop):dOr dt du δ Q=( dt δ λ b=>if b=true then Q true else du δ Q):=rfl
theorem zf61 (dt:DT) (δ:DSt) (Q:Bool->Prop):dNot dt δ Q=( dt δ λ b=>Q (!b)):=rfl
theorem za71 (dt:DT) (da db:DE) (δ:DSt) (Q:D->Prop):dIfE dt da db δ Q=( dt δ λ b=>if b=true then da δ Q else db δ Q):=rfl
theorem zwu (f g:D->D->(D->Prop)->Prop) (da db dc:DE) (δ:DSt) (Q:D->Prop):zzq f g da db dc δ Q=( da δ λ x=>db δ λ y=>f x y λ u=>fB u λ b=>if b=true then dc δ λ z=>g y z Q else Q (.bool false)):=rfl
theorem zw31 (x_0:DSt) (Q:List D->Prop):dNil x_0 Q=( Q []):=rfl
theorem zbx (da:DE) (dr:DF) (δ:DSt) (Q:List D->Prop):zl1 da dr δ Q=( da δ λ x=>dr δ λ xs=>Q (x :: xs)):=rfl
theorem zn61 (dA:DF) (δ:DSt) (Q:D->Prop):dTup dA δ Q=( dA δ λ xs=>xs.length<=sizeLine/\Q (.tuple xs)):=rfl
theorem zh61 (dA:DF) (δ:DSt) (Q:List D->Prop):dLst dA δ Q=( dA δ λ xs=>xs.length<=sizeLine/\Q xs):=rfl
theorem zcx (p:DSp) (dA:DF) (δ:DSt) (Q:D->Prop):zql p dA δ Q=( dA δ λ ds=>p ds Q):=rfl
theorem zrv (p:DSp) (dA:DF) (δ:DSt) (Q:D->Prop):zht p dA δ Q=( dA δ λ ds=>p ds λ d=>zut d=true/\Q d):=rfl
theorem zha1 (f:List D->(D->Prop)->Prop) (dA:DF) (δ:DSt) (Q:D->Prop):dCB f dA δ Q=( dA δ λ ds=>f ds Q):=rfl
theorem zo91 (f:List D->(List D->Prop)->Prop) (dA:DF) (δ:DSt) (Q:List D->Prop):dCF f dA δ Q=( dA δ λ ds=>f ds Q):=rfl
theorem zra1 (T:String) (da:DE) (δ:DSt) (Q:D->Prop):dIs T da δ Q=( da δ λ d=>(∀ kvs,d≠.dict kvs)/\Q (.bool (isT T d))):=rfl
theorem zyo (x_0:DSt) (Q:Option Int->Prop):zxn x_0 Q=( Q none):=rfl
theorem zox (de:DE) (δ:DSt) (Q:Option Int->Prop):zx31 de δ Q=( de δ λ d=>match d with
|.int i=>Q (some i)
|_=>False):=rfl
theorem zaa1 (de:DE) (dl dh:DO) (δ:DSt) (Q:D->Prop):dSl de dl dh δ Q=( de δ λ d=>dl δ λ lo=>dh δ λ hi=>fSl d lo hi Q):=rfl
theorem zj41 (de:DE) (dl dh dk:DO) (δ:DSt) (Q:List D->Prop):dSl3 de dl dh dk δ Q=( de δ λ d=>dl δ λ lo=>dh δ λ hi=>dk δ λ st=>match d with
|.list ds=>st≠some 0/\Q (znl ds lo hi st)
|_=>False):=rfl
theorem zh91 (de:DE) (δ:DSt) (Q:List D->Prop):dIt de δ Q=( de δ λ d=>zg11 d Q):=rfl
theorem znw (dA:DF) (δ:DSt) (Q:List D->Prop):zdt dA δ Q=( dA δ λ ds=>match ds with
|[.int j]=>-(2 ^ 62)<=j/\j < 2 ^ 62/\Q (rngD 0 j.toNat)
|_=>False):=rfl
theorem zf11 (dA:DF) (δ:DSt) (Q:List D->Prop):ze21 dA δ Q=( dA δ λ ds=>match ds with
|[.list a]=>Q (zqp a)
|_=>False):=rfl
theorem e_gN (i:Nat) (d:D) (δ:DSt) (G:DSt->Prop):gN i d δ G=( G (δ.set i (.sh d))):=rfl
theorem zu11 (ds:List D) (δ:DSt) (G:DSt->Prop):zo21 ds δ G=( match ds with
|[]=>G δ
|_=>False):=rfl
theorem ziu (g:DG) (gs:DGs) (ds:List D) (δ:DSt) (G:DSt->Prop):zdo g gs ds δ G=( match ds with
|d :: r=>g d δ λ δ'=>gs r δ' G
|[]=>False):=rfl
theorem e_gT (n:Nat) (gs:DGs) (d:D) (δ:DSt) (G:DSt->Prop):gT n gs d δ G=( match d with
|.tuple ds=>ds.length=n/\gs ds δ G
|_=>False):=rfl
theorem zxx (x_0:DSt) (Q:Bool->Prop):zjr x_0 Q=( Q true):=rfl
theorem ze61 (C:Addr) (f:Str) (dp:DP) (δ:DSt) (Q:Nat->Pth->T->Prop):pFld C f dp δ Q=( dp δ λ i p u=>nCls C u/\nFld f u λ t=>Q i (p++[.fl f]) t):=rfl
theorem zda1 (dp:DP) (di:DE) (δ:DSt) (Q:Nat->Pth->T->Prop):pIx dp di δ Q=( dp δ λ i p u=>di δ λ k=>nIx u k λ j t=>Q i (p++[.ix j]) t):=rfl
theorem zcb1 (dp:DP) (δ:DSt) (Q:D->Prop):dPV dp δ Q=( dp δ λ _ _ u=>vwT u Q):=rfl
theorem zdb1 (dp:DP) (δ:DSt) (Q:D->Prop):dPE dp δ Q=( dp δ λ _ _ u=>fzT u Q):=rfl
theorem e_cE (de:DE) (δ:DSt) (Q:T->DSt->Prop):cE de δ Q=( de δ λ d=>Q (.fz d) δ):=rfl
theorem e_cF (df:DF) (δ:DSt) (Q:T->DSt->Prop):cF df δ Q=( df δ λ ds=>Q (.li ds) δ):=rfl
theorem zuz (E:DEnds) (δ:DSt):zpl E δ=( E.nx δ):=rfl
theorem zi41 (de:DE) (dg:DG) (E:DEnds) (δ:DSt):dAsg de dg E δ=( de δ λ d=>dg d δ E.nx):=rfl
theorem zc41 (i:Nat) (dc:DC) (E:DEnds) (δ:DSt):dSet i dc E δ=( dc δ λ r δ'=>E.nx (δ'.set i (slot r))):=rfl
theorem zlw (dc:DC) (E:DEnds) (δ:DSt):ztv dc E δ=( dc δ λ _ δ'=>E.nx δ'):=rfl
theorem zy61 (dc:DC) (E:DEnds) (δ:DSt):dRet dc E δ=( dc δ E.rt):=rfl
theorem zv01 (i:Nat) (E:DEnds) (δ:DSt):zgz i E δ=( match δ[i]? with
|some (.ow t)=>E.rt t (δ.set i .un)
|some (.sh d)=>E.rt (.fz d) δ
|_=>False):=rfl
theorem zq91 (dt:DT) (d e:DS) (E:DEnds) (δ:DSt):dIf dt d e E δ=( dt δ λ b=>if b=true then d E δ else e E δ):=rfl
theorem zhb1 (ty:String) (f:FM) (dp:DP) (dA:DF) (δ:DSt) (Q:T->DSt->Prop):cBM ty f dp dA δ Q=( dp δ λ i p u=>tyN ty u/\dA δ λ ds=>f u ds λ u2 d=>mutS δ i p u2 λ δ'=>Q (.fz d) δ'):=rfl
theorem zm51 (dp:DP) (dk de:DE) (E:DEnds) (δ:DSt):dPut dp dk de E δ=( de δ λ d=>dp δ λ i p u=>dk δ λ k=>fPut u k d λ u2=>mutS δ i p u2 E.nx):=rfl
theorem zvx (f:Int->Int->Int) (dp:DP) (dk de:DE) (E:DEnds) (δ:DSt):zk21 f dp dk de E δ=( dp δ λ i p u=>dk δ λ k=>fGet u k λ x=>de δ λ y=>fII f x y λ z=>fPut u k z λ u2=>mutS δ i p u2 E.nx):=rfl
theorem zp91 (δ:DSt) (Q:T->DSt->Prop):cDT δ Q=( Q (.dt []) δ):=rfl
theorem e_nE (de:DE) (δ:DSt) (Q:T->Prop):nE de δ Q=( de δ λ d=>Q (.fz d)):=rfl
theorem e_nF (df:DF) (δ:DSt) (Q:T->Prop):nF df δ Q=( df δ λ ds=>Q (.li ds)):=rfl
theorem e_cN (dn:DN) (δ:DSt) (Q:T->DSt->Prop):cN dn δ Q=( dn δ λ r=>Q r δ):=rfl
theorem zq51 (C:Addr) (f:Str) (dc:DC) (dp:DP) (E:DEnds) (δ:DSt):dFld C f dc dp E δ=( dc δ λ r δ1=>dp δ1 λ i p u=>nCls C u/\nSet f u r λ u2=>mutS δ1 i p u2 E.nx):=rfl
theorem znp (C:Addr) (f:Str) (fn:Int->Int->Int) (dp:DP) (de:DE) (E:DEnds) (δ:DSt):zzm C f fn dp de E δ=( dp δ λ i p u=>nCls C u/\nFld f u λ t=>fzT t λ x=>de δ λ y=>nFII f fn x u y λ u2=>mutS δ i p u2 E.nx):=rfl
theorem ze31 (i:Nat) (p:Pth) (d:DS) (E:DEnds) (δ:DSt):dFrz i p d E δ=( fzS δ i p λ δ'=>d E δ'):=rfl
theorem zs41 (x_0:DSt) (Q:List ArgP->Prop):aNil x_0 Q=( Q []):=rfl
theorem e_aD (de:DE) (dr:DAT) (δ:DSt) (Q:List ArgP->Prop):aD de dr δ Q=( de δ λ x=>dr δ λ as=>Q (.d x :: as)):=rfl
theorem e_aB (dp:DP) (dr:DAT) (δ:DSt) (Q:List ArgP->Prop):aB dp dr δ Q=( dp δ λ i p t=>dr δ λ as=>Q (.b i p t :: as)):=rfl
theorem e_aO (dp:DP) (dr:DAT) (δ:DSt) (Q:List ArgP->Prop):aO dp dr δ Q=( dp δ λ i p t=>dr δ λ as=>Q (.o i p t :: as)):=rfl
theorem zuy (p:DSpT) (da:DAT) (δ:DSt) (Q:T->DSt->Prop):zj21 p da δ Q=( da δ λ as=>zbv p δ as Q):=rfl
theorem zzz (o:Bool) (C:Addr) (m:Str) (p:DSpT) (dp:DP) (da:DAT) (δ:DSt) (Q:T->DSt->Prop):zx01 o C m p dp da δ Q=( dp δ λ i q u=>nCls C u/\noM m u/\da δ λ as=>zbv p δ ((if o then .o i q u else .b i q u) :: as) Q):=rfl
theorem zmz (p:DSpT) (da:DAT) (δ:DSt) (Q:T->Prop):zm81 p da δ Q=( da δ λ as=>zf21 p as Q):=rfl
theorem e_eN (dn:DN) (δ:DSt) (Q:D->Prop):eN dn δ Q=( dn δ λ r=>fzT r Q):=rfl
theorem zvy (C:Addr) (p:DSpT) (da:DAT) (δ:DSt) (Q:T->Prop):zb31 C p da δ Q=( da δ λ as=>noO as/\p (.o (.ob C []) :: as.map ArgP.arg) λ r t2=>(match r with|.fz .none=>True|_=>False)/\Q t2):=rfl
theorem zlx (dA:DF) (δ:DSt) (Q:List D->Prop):zfa1 dA δ Q=(dA δ λ ds=>match ds with
|[.int i,.int j,.int c]=>c≠0/\(-(2 ^ 40)<=i/\i < 2 ^ 40/\-(2 ^ 40)<=j/\j < 2 ^ 40/\-(2 ^ 20)<=c/\c < 2 ^ 20)/\∃ n:Nat,Builtin.Range.rangeSize i j c=(n:Int)/\n < 2 ^ 41/\Q (zf91 i c n)
|_=>False):=rfl
def slT:Sl->(T->Prop)->Prop
|.sh d,N=>N (.fz d)
|.ow t,N=>N t
|.bo t,N=>N t
|.io _ t,N=>N t
|.un,_=>False
def pAt (δ:DSt) (i:Nat) (N:T->Prop):Prop:=∃ s t,δ[i]?=some s/\s.tree=some t/\N t
theorem zz21 (i:Nat) (δ:DSt) (Q:D->Prop):dVar i δ Q=pAt δ i λ t=>fzT t Q:=rfl
theorem zy01 (i:Nat) (δ:DSt) (Q:D->Prop):zy1 i δ Q=pAt δ i λ t=>vwT t Q:=rfl
theorem zb41 (i:Nat) (δ:DSt) (Q:Nat->Pth->T->Prop):pVar i δ Q=pAt δ i λ t=>Q i [] t:=rfl
theorem zg71 (s:Sl) (δ:DSt) (N:T->Prop):pAt (s :: δ) 0 N=slT s N:=by
 apply propext
 cases s <;> simp [pAt,slT,Sl.tree]
theorem zx61 (i:Nat) (s:Sl) (δ:DSt) (N:T->Prop):pAt (s :: δ) (i+1) N=pAt δ i N:=by simp [pAt]
theorem zl41 (δ:DSt) (i:Nat) (p:Pth) (u:T) (N:DSt->Prop):mutS δ i p u N=(match δ[i]? with
|some (.ow t)=>N (δ.set i (.ow (setP t p u)))
|some (.io a t)=>N (δ.set i (.io a (setP t p u)))
|_=>False):=rfl
theorem zy91 (δ:DSt) (i:Nat) (p:Pth) (N:DSt->Prop):fzS δ i p N=(match δ[i]? with
|some (.ow t)=>∃ u d,getP t p=some u/\toD u=some d/\N (δ.set i (slot (setP t p (.fz d))))
|some (.sh _)=>N δ
|_=>False):=rfl
theorem zjy (δ:DSt) (i:Nat):zmt δ i=(match δ[i]? with
|some (.ow _)=>True
|some (.io _ _)=>True
|_=>False):=rfl
theorem zz01 (t u:T):setP t [] u=u:=by cases t <;> rfl
theorem zc61 (ds:List D):tyN "list" (.li ds)=True:=by simp [tyN]
theorem zr61 (ds:List T):tyN "list" (.ls ds)=True:=by simp [tyN]
theorem zm71 (ds:List (Key×D)):tyN "dict" (.dk ds)=True:=by simp [tyN]
theorem zh41 (ds:List (List Key×D)):tyN "dict" (.dt ds)=True:=by simp [tyN]
theorem zgb1 (Qd:D->Prop) (d:D) (δ:DSt):rD Qd (.fz d) δ=Qd d:=rfl
theorem zn91 (Qd:D->Prop) (d:List D) (δ:DSt):rD Qd (.li d) δ=Qd (.list d):=rfl
theorem zib1 (Qd:D->Prop) (d:List T) (δ:DSt):rD Qd (.ls d) δ=∃ e,toD (.ls d)=some e/\Qd e:=rfl
theorem zpz (p:DSpT) (δ:DSt) (as:List ArgP) (Q:T->DSt->Prop):zbv p δ as Q=(match zvr as with
|some (i,q,t)=>zmt δ i/\oneO i as/\zuv t/\p (as.map ArgP.arg) λ r t2=>mutS δ i q t2 λ δ'=>Q r δ'
|none=>noO as/\p (as.map ArgP.arg) λ r _=>Q r δ):=rfl
theorem zaz (p:DSpT) (as:List ArgP) (Q:T->Prop):zf21 p as Q=(noO as/\p (as.map ArgP.arg) λ r _=>Q r):=rfl
def zjx (items:List D) (n:Nat) (ix:List Nat) (dg:DG) (dn:DN) (δ:DSt) (Q:T->Prop):Prop:=items.length<=sizeLine/\∃ R:Nat->T->Prop,
 (∀ i d,items[i]?=some d->dg d (cST n ix δ) λ δ'=>dn δ' λ r=>R i r)/\∀ rs:List T,rs.length=items.length->(∀ (j:Nat) r,rs[j]?=some r->R j r)->Q (.ls rs)
theorem zsz (di:DF) (n:Nat) (ix:List Nat) (dg:DG) (dn:DN) (δ:DSt) (Q:T->Prop):zd61 di n ix dg dn δ Q=di δ λ items=>zjx items n ix dg dn δ Q:=rfl
theorem zwx {α:Type} {xs:List α} {enc:α->D} (f:α->T) {n:Nat} {ix:List Nat} {dg:DG} {dn:DN} {δ:DSt} {Q:T->Prop} (hz:xs.length<=sizeLine)
  (h:∀ x∈xs,dg (enc x) (cST n ix δ) λ δ'=>dn δ' λ r=>r=f x) (q:Q (.ls (xs.map f))):zjx (xs.map enc) n ix dg dn δ Q:=by
 refine ⟨by rw [List.length_map];exact hz,λ i r=>∀ x,xs[i]?=some x->r=f x,λ i d e=>?_,λ rs hl hR=>?_⟩
 ·rw [List.getElem?_map] at e
  obtain ⟨x,hx,rfl⟩:=Option.map_eq_some_iff.mp e
  have e1:(λ r=>∀ y,xs[i]?=some y->r=f y)=λ r=>r=f x:=by funext r;rw [hx];simp
  show dg (enc x) (cST n ix δ) λ δ'=>dn δ' λ r=>∀ y,xs[i]?=some y->r=f y
  rw [e1]
  exact h x (List.mem_of_getElem? hx)
 ·rw [List.length_map] at hl
  have:rs=xs.map f:=by
   apply List.ext_getElem?
   intro i
   rw [List.getElem?_map]
   by_cases hi:i < rs.length
   ·have e1:rs[i]?=some rs[i]:=List.getElem?_eq_getElem hi
    have e2:xs[i]?=some (xs[i]'(by lia)):=List.getElem?_eq_getElem _
    rw [e1,e2,hR i _ e1 _ e2];rfl
   ·rw [List.getElem?_eq_none (by lia),List.getElem?_eq_none (by lia)];rfl
  rw [this];exact q
def za01 (items:List D) (n:Nat) (ix:List Nat) (dg:DG) (dt:DT) (de:DE) (δ:DSt) (Q:List D->Prop):Prop:=items.length<=sizeLine/\∃ R:Nat->Option D->Prop,
 (∀ i d,items[i]?=some d->dg d (cST n ix δ) λ δ'=>dt δ' λ b=>if b=true then de δ' λ r=>R i (some r) else R i none) /\
 ∀ os:List (Option D),os.length=items.length->(∀ (j:Nat) o,os[j]?=some o->R j o)->Q (os.filterMap id)
theorem zk41 (di:DF) (n:Nat) (ix:List Nat) (dg:DG) (dt:DT) (de:DE) (δ:DSt) (Q:List D->Prop):zxv di n ix dg dt de δ Q=di δ λ items=>za01 items n ix dg dt de δ Q:=rfl
def ForB (items:List D) (dg:DG) (db:DS) (E:DEnds) (δ:DSt):Prop:=∃ W:Nat->DSt->Prop,W 0 δ /\
 (∀ i d δ',items[i]?=some d->W i δ'->dg d δ' λ δ2=>db { E with nx:=W (i+1),ct:=W (i+1),bk:=E.nx } δ2)/\∀ δ',W items.length δ'->E.nx δ'
theorem zt91 (di:DF) (dg:DG) (db:DS) (E:DEnds) (δ:DSt):dFor di dg db E δ=di δ λ items=>ForB items dg db E δ:=rfl
theorem zab {a b:DS} {E:DEnds} {δ:DSt} (J:DSt->Prop) (h:a { E with nx:=J } δ) (hj:∀ δ',J δ'->b E δ'):dSeq a b E δ:=⟨J,h,hj⟩
theorem ze0 {a b:DS} {E:DEnds} {δ:DSt} (h:∀ J:DSt->Prop,(∀ δ',b E δ'->J δ')->a { E with nx:=J } δ):dSeq a b E δ:=⟨b E,h (b E) λ _ z=>z,λ _ z=>z⟩
theorem zy71 {α:Type} {f:α->Option D}:∀ {xs:List α} {os:List (Option D)},os.length=xs.length->(∀ (j:Nat) o x,os[j]?=some o->xs[j]?=some x->o=f x)->os.filterMap id=xs.filterMap f
|[],[],_,_=>rfl
|x :: xs,o :: os,hl,h=>by
  have e:o=f x:=h 0 o x rfl rfl
  have ih:=zy71 (f:=f) (xs:=xs) (os:=os) (by simpa using hl) λ j o' x' h1 h2=>h (j+1) o' x' (by simpa using h1) (by simpa using h2)
  rw [List.filterMap_cons,List.filterMap_cons,e,ih]
  rfl
theorem zmv {α:Type} {xs:List α} {enc:α->D} (f:α->Option D) {n:Nat} {ix:List Nat} {dg:DG} {dt:DT} {de:DE} {δ:DSt} {Q:List D->Prop} (hz:xs.length<=sizeLine)
  (h:∀ x∈xs,dg (enc x) (cST n ix δ) λ δ'=>dt δ' λ b=>if b=true then de δ' λ r=>some r=f x else none=f x) (q:Q (xs.filterMap f)):za01 (xs.map enc) n ix dg dt de δ Q:=by
 refine ⟨by rw [List.length_map];exact hz,λ i o=>∀ x,xs[i]?=some x->o=f x,λ i d e=>?_,λ os hl hR=>?_⟩
 ·rw [List.getElem?_map] at e
  obtain ⟨x,hx,rfl⟩:=Option.map_eq_some_iff.mp e
  have:=h x (List.mem_of_getElem? hx)
  have e1:(λ r=>∀ y,xs[i]?=some y->some r=f y)=λ r=>some r=f x:=by
   funext r;rw [hx];simp
  have e2:(∀ y,xs[i]?=some y->(none:Option D)=f y)=(none=f x):=by rw [hx];simp
  show dg (enc x) (cST n ix δ) λ δ'=>dt δ' λ b=>if b=true then de δ' λ r=>∀ y,xs[i]?=some y->some r=f y else ∀ y,xs[i]?=some y->(none:Option D)=f y
  rw [e1,e2]
  exact this
 ·rw [List.length_map] at hl
  rw [zy71 hl λ j o x h1 h2=>hR j o h1 x h2]
  exact q
theorem zhp {α:Type} {xs:List α} {enc:α->D} (g:α->D) {n:Nat} {ix:List Nat} {dg:DG} {de:DE} {δ:DSt} {Q:List D->Prop} (hz:xs.length<=sizeLine)
  (h:∀ x∈xs,dg (enc x) (cST n ix δ) λ δ'=>de δ' λ r=>r=g x) (q:Q (xs.map g)):za01 (xs.map enc) n ix dg zjr de δ Q:=by
 refine zmv (λ x=>some (g x)) hz (λ x hx=>?_) ?_
 ·have:=h x hx
  have e:(λ r=>some r=some (g x))=λ r=>r=g x:=by funext r;simp
  show dg (enc x) (cST n ix δ) λ δ'=>if true=true then de δ' λ r=>some r=some (g x) else none=some (g x)
  rw [e]
  simp only [if_true]
  exact this
 ·rw [show xs.filterMap (λ x=>some (g x))=xs.map g from congrFun List.filterMap_eq_map' xs]
  exact q
theorem zt81 {α:Type} {xs:List α} {enc:α->D} (R:α->D->Prop) {n:Nat} {ix:List Nat} {dg:DG} {de:DE} {δ:DSt} {Q:List D->Prop} (hz:xs.length<=sizeLine)
  (h:∀ x∈xs,dg (enc x) (cST n ix δ) λ δ'=>de δ' (R x)) (q:∀ rs:List D,rs.length=xs.length->(∀ (j:Nat) r x,rs[j]?=some r->xs[j]?=some x->R x r)->Q rs):za01 (xs.map enc) n ix dg zjr de δ Q:=by
 refine ⟨by rw [List.length_map];exact hz,λ i o=>∃ r,o=some r/\∀ x,xs[i]?=some x->R x r,λ i d e=>?_,λ os hl hR=>?_⟩
 ·rw [List.getElem?_map] at e
  obtain ⟨x,hx,rfl⟩:=Option.map_eq_some_iff.mp e
  have:=h x (List.mem_of_getElem? hx)
  have e1:(λ r=>∃ r',some r=some r'/\∀ y,xs[i]?=some y->R y r')=R x:=by
   funext r;rw [hx];simp
  show dg (enc x) (cST n ix δ) λ δ'=>if true=true then de δ' λ r=>∃ r',some r=some r'/\∀ y,xs[i]?=some y->R y r' else ∃ r',none=some r'/\∀ y,xs[i]?=some y->R y r'
  rw [e1]
  simp only [if_true]
  exact this
 ·rw [List.length_map] at hl
  have key:∀ (os:List (Option D)),(∀ o∈os,∃ r,o=some r)->∃ rs:List D,os=rs.map some:=λ os=>by
   induction os with
  |nil=>intro _;exact ⟨[],rfl⟩
  |cons o os ih =>
    intro h
    obtain ⟨r,rfl⟩:=h o (by simp)
    obtain ⟨rs,e⟩:=ih λ o' ho=>h o' (List.mem_cons_of_mem _ ho)
    exact ⟨r :: rs,by rw [e];rfl⟩
  obtain ⟨rs,rfl⟩:=key os λ o ho=>by
   obtain ⟨j,hj,e⟩:=List.getElem_of_mem ho
   obtain ⟨r,e2,_⟩:=hR j o (by rw [<- e];exact List.getElem?_eq_getElem hj)
   exact ⟨r,e2⟩
  have e:(rs.map some).filterMap id=rs:=by
   rw [List.filterMap_map]
   simp
  rw [e]
  rw [List.length_map] at hl
  refine q rs hl λ j r x h1 h2=>?_
  obtain ⟨r',e1,e2⟩:=hR j (some r) (by rw [List.getElem?_map,h1];rfl)
  cases e1
  exact e2 x h2
theorem zh5 {α:Type} {xs:List α} {enc:α->D} (W:Nat->DSt->Prop) {dg:DG} {db:DS} {E:DEnds} {δ:DSt} (h0:W 0 δ)
  (hs:∀ (i:Nat) x δ',xs[i]?=some x->W i δ'->dg (enc x) δ' λ δ2=>db { E with nx:=W (i+1),ct:=W (i+1),bk:=E.nx } δ2) (he:∀ δ',W xs.length δ'->E.nx δ'):ForB (xs.map enc) dg db E δ:=by
 refine ⟨W,h0,λ i d δ' e w=>?_,λ δ' w=>he δ' (by rw [List.length_map] at w;exact w)⟩
 rw [List.getElem?_map] at e
 obtain ⟨x,hx,rfl⟩:=Option.map_eq_some_iff.mp e
 exact hs i x δ' hx w
theorem two {c:Prop} [Decidable c] {A B:Prop} (h1:c->A) (h2:¬c->B):if c then A else B:=by
 by_cases h:c
 ·rw [if_pos h];exact h1 h
 ·rw [if_neg h];exact h2 h
def cutG {α:Type} (xs:List α) (lo hi:Option Int):List α:=(xs.drop (HT.sIx xs.length 0 lo)).take (HT.sIx xs.length xs.length hi - HT.sIx xs.length 0 lo)
theorem zzh {α:Type} (f:α->D) (xs:List α) (lo hi:Option Int):cutD (xs.map f) lo hi=(cutG xs lo hi).map f:=by
 unfold cutD cutG
 rw [List.length_map,List.map_take,List.map_drop]
theorem zkk {α:Type} (f:α->D) (xs:List α):zqp (xs.map f)=(xs.mapIdx λ i x=>(i,x)).map λ p=>.tuple [.int (p.1:Nat),f p.2]:=by
 unfold zqp
 apply List.ext_getElem?
 intro i
 rw [List.getElem?_mapIdx,List.getElem?_map,List.getElem?_map,List.getElem?_mapIdx]
 cases xs[i]? <;> rfl
theorem zi2 {α:Type} {xs:List α} {i:Int} {x:α} (h0:0<=i) (h:xs[i.toNat]?=some x):atI xs i=some x:=by
 have e:((i.toNat:Nat):Int)=i:=by lia
 have:=zu01 (xs:=xs) (j:=i.toNat) (v:=x) h
 rwa [e] at this
theorem zbb1 {α:Type} {xs:List α} {i:Int} (h0:0<=i) (h1:i < (xs.length:Int)):∃ x,xs[i.toNat]?=some x/\atI xs i=some x:=by
 have h:i.toNat < xs.length:=by lia
 exact ⟨xs[i.toNat],List.getElem?_eq_getElem h,zi2 h0 (List.getElem?_eq_getElem h)⟩
section
variable (K:Fg)
def RfH (te:TE) (de:DE):Prop:=∀ {F H:Hp} {σ:L2.St} {δ:DSt} {Qd:D->Prop} {Q:VK},Same F H->RV K F H σ δ->de δ Qd->(∀ d,Qd d->∀ v F' H',Ext F H F' H'->Is K H' v d->Q v H')->te σ H Q
def RfAH (ta:TA) (da:DF):Prop:=∀ {F H:Hp} {σ:L2.St} {δ:DSt} {Qd:List D->Prop} {Q:List V->Hp->Prop},Same F H->RV K F H σ δ->da δ Qd->(∀ ds,Qd ds->∀ vs F' H',Ext F H F' H'->IsAll K H' vs ds->Q vs H')->ta σ H Q
end
section
variable {K:Fg} {te ta tb:TE} {de da db:DE} {tA:TA} {dA:DF}
theorem RfV.h (h:RfV K te de):RfH K te de:=λ s r d k=>h s r d λ x q v F' H' e i=>k x q v F' H' e (i.is e.fh)
theorem zhl:RfAH K tNil dNil:=λ s rv h k=>k _ h _ _ _ (Ext.refl s) .nil
theorem zhr (ha:RfH K ta da) (hr:RfAH K tA dA):RfAH K (zw2 ta tA) (zl1 da dA):=by
 intro F H σ δ Qd Q s rv h k
 refine ha s rv h λ x hx v F1 H1 e1 i1=>hr e1.fh (rv.ext e1) hx λ xs hxs vs F2 H2 e2 i2=>?_
 exact k _ hxs _ F2 H2 (e1.trans e2) (.cons (i1.mono e2.h) i2)
theorem zvn {F H:Hp} {p:Addr} {o:HO} (s:Same F H) (hn:H p=none):Ext F H F (upd H p o) :=
 ⟨zp2 hn _,λ _ _ z=>z,λ b o z=>zp2 hn _ b o (s b o z),λ _ _ z=>z⟩
theorem zu51 (h:RfAH K tA dA):RfH K (zt21 tA) (dTup dA):=by
 intro F H σ δ Qd Q s rv hd k
 refine h s rv hd λ xs hx vs F1 H1 e1 i1=>⟨by rw [i1.dlen];exact hx.1,λ p hp=>?_⟩
 exact k _ hx.2 _ _ _ (e1.trans (zvn e1.fh hp)) (.tup zp0 (i1.mono (zp2 hp _)))
theorem zlm (h:RfAH K tA dA):RfH K (zgr tA) (dF (dLst dA)):=by
 intro F H σ δ Qd Q s rv hd k
 refine h s rv hd λ xs hx vs F1 H1 e1 i1=>⟨by rw [i1.dlen];exact hx.1,λ p hp=>?_⟩
 exact k _ hx.2 _ _ _ (e1.trans (zvn e1.fh hp)) (.lst (SqL.of zp0) (i1.mono (zp2 hp _)))
def R2H (K:Fg) (r:R2) (f:D->D->(D->Prop)->Prop):Prop:=∀ {F H:Hp} {x y:V} {d e:D} {Qd:D->Prop} {Q:VK},Same F H->Is K H x d->Is K H y e->f d e Qd->(∀ z,Qd z->∀ v F' H',Ext F H F' H'->Is K F' v z->Q v H')->r x y H Q
theorem zu1 {r:R2} {f:D->D->(D->Prop)->Prop} (hr:R2H K r f) (ha:RfH K ta da) (hb:RfH K tb db):RfE K (tOp r ta tb) (dOp f da db):=by
 intro F H σ δ Qd Q s rv h k
 refine ha s rv h λ x hx v F1 H1 e1 i1=>hb e1.fh (rv.ext e1) hx λ y hy u F2 H2 e2 i2=>?_
 exact hr e2.fh (i1.mono e2.h) i2 hy λ z hz w F3 H3 e3 i3=>k z hz w F3 H3 ((e1.trans e2).trans e3) i3
theorem q_eq:R2H K (rEqU K) fEq:=by
 intro F H x y d e Qd Q s hx hy h k
 unfold fEq at h
 split at h
 ·cases hx.int_inv;cases hy.int_inv
  refine .inl ⟨rfl,k _ h _ F H (Ext.refl s) ?_⟩
  rw [zvg];exact .bl _
 ·cases hx.str_inv;cases hy.str_inv
  refine .inl ⟨rfl,k _ h _ F H (Ext.refl s) ?_⟩
  rw [zzf];exact .bl _
 ·cases hx.bl_inv;cases hy.bl_inv
  refine .inl ⟨rfl,k _ h _ F H (Ext.refl s) ?_⟩
  rw [zqn];exact .bl _
 ·exact .inr ⟨_,_,hx,hy,h.1,h.2.1,k _ h.2.2 _ F H (Ext.refl s) (.bl _)⟩
theorem q_ne:R2H K (rNeU K) fNe:=by
 intro F H x y d e Qd Q s hx hy h k
 unfold fNe at h
 split at h
 ·cases hx.int_inv;cases hy.int_inv
  refine .inl ⟨rfl,k _ h _ F H (Ext.refl s) ?_⟩
  rw [zvg];exact .bl _
 ·cases hx.str_inv;cases hy.str_inv
  refine .inl ⟨rfl,k _ h _ F H (Ext.refl s) ?_⟩
  rw [zzf];exact .bl _
 ·cases hx.bl_inv;cases hy.bl_inv
  refine .inl ⟨rfl,k _ h _ F H (Ext.refl s) ?_⟩
  rw [zqn];exact .bl _
 ·exact .inr ⟨_,_,hx,hy,h.1,h.2.1,k _ h.2.2 _ F H (Ext.refl s) (.bl _)⟩
end
theorem zg41 (i:Int):isT "int" (.int i)=true:=rfl
theorem ze41 (i:Int):isT "bool" (.int i)=false:=by simp [isT,tyD]
theorem zk31 (i:List D):isT "list" (.list i)=true:=rfl
theorem zy31 (i:List D):isT "tuple" (.tuple i)=true:=rfl
theorem za51 (i:Str):isT "str" (.str i)=true:=rfl
theorem zz51 (i:Int):(∀ kvs,PyData.int i≠.dict kvs)=True:=by simp
theorem zc11 (i:List D):(∀ kvs,PyData.list i≠.dict kvs)=True:=by simp
theorem zo31 (i:List D):(∀ kvs,PyData.tuple i≠.dict kvs)=True:=by simp
theorem zo71 (i:Str):(∀ kvs,PyData.str i≠.dict kvs)=True:=by simp
theorem zla1 (i:Bool):(∀ kvs,PyData.bool i≠.dict kvs)=True:=by simp
theorem zu71:(∀ kvs,PyData.none≠.dict kvs)=True:=by simp
theorem eqv_refl {n:Nat} {d:D} (h:Fit n d):PyData.eqv d d=true:=h.eqv
theorem zfk {α:Type} {xs:List α} {f:α->D} {n:Nat} (h:∀ x∈xs,Fit n (f x)):Fit (n+1) (.list (xs.map f)):=Fit.lst λ d hd=>by
 obtain ⟨x,hx,rfl⟩:=List.mem_map.mp hd
 exact h x hx
theorem zqk (ds:List D):PyData.eqv (.list ds) (.list [])=ds.isEmpty:=by cases ds <;> simp [PyData.eqv,PyData.eqvAll]
end L4
namespace L3
open PySem PySem.Spec PyProof.Rows L2
section
variable {X:Cx}
theorem zle {C:Addr} {m:Str} {k:Nat} {ps:List Str} {sp:Sp} {o:Expr} {ta:TE} {apos pos:Pos} {pl:Sem Bool} (d:ztf X.prog X.w X.K X.mg X.base C m k ps sp) (hr:Room k X.A) (he:PE X o ta)
  (ht:eval (.Call (.Attribute o m apos) [] [] pos) X.env=(do
   let ov <- eval o X.env
   standAt apos.atName
   let (f,first) <- holding [ov] (getMethod ov m pl)
   callWith pos f first (backTo pos (starEach [] X.env)) (backToKw pos (keywordEach [] X.env))):=by rfl) :
  PE X (.Call (.Attribute o m apos) [] [] pos) (zs51 C m sp [] E0 ta tNil):=by
 obtain ⟨f,fd,c,M,F,b⟩:=d
 exact zyt he c M F hr b .nil zv21 ht
def zx51 (K:Fg) (le:Int->Int->Prop):List V->Hp->VK->Prop:=λ vs H Q=>∃ (a:Addr) (ns:List Int),vs=[.ref a]/\SqL K H a (ns.map V.int)/\ns≠[]/\∀ M∈ns,(∀ x∈ns,le M x)->Q (.int M) H
theorem zx11 {K:Fg} (h:X.K=K) (hc:X.calm=true):zg9 X (.builtin "min") (zx51 K λ M x=>M<=x):=by
 subst h
 intro pins s σ H xs us Q I r h
 obtain ⟨a,ns,rfl,hx,hne,q⟩:=h
 obtain ⟨u,rfl,r1⟩:=zmr r
 cases r1
 obtain ⟨its,rv,p,hz⟩:=I.list hx
 have hi:IntsAre its ns:=zfh rv
 obtain ⟨ys,hy⟩:=hi.allInts.items
 have hl:s.heap.IsList a (intItems ys):=hy ▸ p.isList
 have e1:ns=ys.toList.map (·.1):=by
  rw [<- nums_intItems,<- hy]
  exact (show numsOf its.toArray.toList=ns from hi.numsOf).symm
 have hsz:0 < ys.size:=by
  rcases Nat.eq_zero_or_pos ys.size with z|z
  ·exact absurd (by rw [e1];exact List.map_eq_nil_iff.mpr (List.eq_nil_of_length_eq_zero (by simpa using z))) hne
  ·exact z
 refine min_intList (I.ok.hd hc) hl hsz λ v h' tk hv hk=>?_
 obtain ⟨t,rfl⟩:=intItems_at hv
 obtain ⟨h1,h2⟩:=argBest_lt (numAt ys) (ys.size - 1)
 refine ⟨.int _,H,I.kept hk,⟨_,rfl⟩,q _ ?_ λ x hx'=>?_⟩
 ·rw [numAt_eq,e1];exact getD_mem (by rw [List.length_map,Array.length_toList];lia)
 ·rw [e1] at hx'
  obtain ⟨j,hj,rfl⟩:=mem_getD hx'
  rw [List.length_map,Array.length_toList] at hj
  rw [<- numAt_eq];exact h2 j (by lia)
theorem znq {K:Fg} (h:X.K=K) (hc:X.calm=true):zg9 X (.builtin "max") (zx51 K λ M x=>x<=M):=by
 subst h
 intro pins s σ H xs us Q I r h
 obtain ⟨a,ns,rfl,hx,hne,q⟩:=h
 obtain ⟨u,rfl,r1⟩:=zmr r
 cases r1
 obtain ⟨its,rv,p,hz⟩:=I.list hx
 have hi:IntsAre its ns:=zfh rv
 obtain ⟨ys,hy⟩:=hi.allInts.items
 have hl:s.heap.IsList a (intItems ys):=hy ▸ p.isList
 have e1:ns=ys.toList.map (·.1):=by
  rw [<- nums_intItems,<- hy]
  exact (show numsOf its.toArray.toList=ns from hi.numsOf).symm
 have hsz:0 < ys.size:=by
  rcases Nat.eq_zero_or_pos ys.size with z|z
  ·exact absurd (by rw [e1];exact List.map_eq_nil_iff.mpr (List.eq_nil_of_length_eq_zero (by simpa using z))) hne
  ·exact z
 refine max_intList (I.ok.hd hc) hl hsz λ v h' tk hv hk=>?_
 obtain ⟨t,rfl⟩:=intItems_at hv
 obtain ⟨h1,h2⟩:=argBest_gt (numAt ys) (ys.size - 1)
 refine ⟨.int _,H,I.kept hk,⟨_,rfl⟩,q _ ?_ λ x hx'=>?_⟩
 ·rw [numAt_eq,e1];exact getD_mem (by rw [List.length_map,Array.length_toList];lia)
 ·rw [e1] at hx'
  obtain ⟨j,hj,rfl⟩:=mem_getD hx'
  rw [List.length_map,Array.length_toList] at hj
  rw [<- numAt_eq];exact h2 j (by lia)
end
end L3
namespace L4
open PySem PySem.Spec PyProof.Rows L2 L3
section
variable {K:Fg} {te ta ti tv tk tb:TE} {de da di dk db:DE} {dc:DC} {tA:TA} {dA:DF}
theorem zcz (x:Int):Builtin.bitXor x 1=x+1 - 2 * (x % 2):=by
 rw [PyProof.Rows.bitXor_and,PyProof.Rows.bitAnd_m1]
def zab1:List D->(D->Prop)->Prop
|[.list ds],Q=>∃ ns,zgt ds=some ns/\ns≠[]/\∀ M∈ns,(∀ x∈ns,M<=x)->Q (.int M)
|_,_=>False
def zk71:List D->(D->Prop)->Prop
|[.list ds],Q=>∃ ns,zgt ds=some ns/\ns≠[]/\∀ M∈ns,(∀ x∈ns,x<=M)->Q (.int M)
|_,_=>False
theorem zk61:CB K (zx51 K λ M x=>x<=M) zk71:=by
 intro F H vs ds Qd Q s hv h k
 unfold zk71 at h
 split at h
 ·obtain ⟨v,rfl,hw⟩:=vw1 hv
  obtain ⟨p,xs,rfl,h1,i1⟩:=hw.list s
  obtain ⟨ns,e,hne,q⟩:=h
  have:=zmm i1 e
  subst this
  exact ⟨p,ns,rfl,h1,hne,λ M hM hx=>k _ (q M hM hx) _ F H (Ext.refl s) (.int _)⟩
 ·exact h.elim
end
end L4
namespace L3
open PySem PySem.Spec PyProof.Rows L2
section
variable {X:Cx}
end
end L3
namespace L4
open PySem PySem.Spec PyProof.Rows L2 L3
section
variable {K:Fg} {te ta ti tv tk tb:TE} {de da di dk db:DE} {dc:DC} {dp:DP} {tA:TA} {dA:DF}
end
end L4
namespace L3
open PySem PySem.Spec PyProof.Rows L2
structure TopDefN (K:Fg) (x:Str) (st:Stmt):Prop where
 ex:∃ (f T:Addr) (oc:Value) (od:Option Addr) (kV doc pm:Value) (an:Option Addr) (cdv ct:Value) (osl:Array (Option Value)) (o:Obj) (n:Nat),PySem.W.nsIn K mainGlobals x=some (some (.ref f)) /\
  K.lookup f=some ⟨oc,od,.func (PySem.W.fnOf x x (za7 st) (zj2 st) (zh0 st) (.ref T) kV doc pm an cdv ct),osl⟩/\PySem.W.codeIn K cdv x=true/\PySem.W.keepIn K (.ref f)=true/\K.lookup T=some o/\o.data=.seq #[.none] n
theorem zkm {K:Fg} {x:Str} {st:Stmt} {f T:Addr} {oc:Value} {od an:Option Addr} {osl:Array (Option Value)} {kV doc pm cdv ct:Value} {o:Obj} {n:Nat} (a:PySem.W.nsIn K mainGlobals x=some (some (.ref f)))
  (l:K.lookup f=some ⟨oc,od,.func (PySem.W.fnOf x x (za7 st) (zj2 st) (zh0 st) (.ref T) kV doc pm an cdv ct),osl⟩) (c:PySem.W.codeIn K cdv x=true) (k:PySem.W.keepIn K (.ref f)=true) (lt:K.lookup T=some o) (hd:o.data=.seq #[.none] n):TopDefN K x st :=
 ⟨f,T,oc,od,kV,doc,pm,an,cdv,ct,osl,o,n,a,l,c,k,lt,hd⟩
def DefN (P:Program) (w:World) (K:Fg) (mg:Str->Option Value) (base:Heap) (x:Str) (k:Nat) (ps:List Str) (sp:Sp):Prop :=
 ∃ f fd,FnOk P w K mg base CX0 k f fd ps sp/\zvh K fd ps []/\zvh K fd ps [.none]/\PySem.W.keepIn K (.ref f)=true/\mg x=some (.ref f)
theorem DefN.d {P:Program} {w:World} {K:Fg} {mg:Str->Option Value} {base:Heap} {x:Str} {k:Nat} {ps:List Str} {sp:Sp} (h:DefN P w K mg base x k ps sp):Def P w K mg base x k ps sp:=by
 obtain ⟨f,fd,F,b,_,kp,m⟩:=h
 exact ⟨f,fd,F,b,kp,m⟩
section
variable {P:Program} {w:World} {K:Fg} {mg:Str->Option Value} {base:Heap}
end
section
variable {X:Cx} {k:Nat} {C:Addr} {ps:List Str} {sp:Sp} {x m:Str} {p pos apos:Pos} {e o:Expr} {es:List Expr} {ta:TE} {t:TA}
end
end L3
namespace L4
open PySem PySem.Spec PyProof.Rows L2 L3
section
variable {K:Fg} {te ta ti tv tk tb:TE} {de da di dk db:DE} {dc:DC} {dp:DP} {tA:TA} {dA:DF}
end
section
variable {K:Fg} {tA:TA} {dA:DF}
end
end L4
namespace L5
open PySem PySem.Spec PyProof.Rows L2 L3 L4
theorem ar1 {α:Type} {us:List α} (h:us.length=1):∃ a,us=[a]:=by
 rcases us with _|⟨a,_|⟨b,us⟩⟩
 ·cases h
 ·exact ⟨a,rfl⟩
 ·cases h
theorem ars {α:Type} {n:Nat} {us:List α} (h:us.length=n+1):∃ a r,us=a :: r/\r.length=n:=by
 rcases us with _|⟨a,us⟩
 ·cases h
 ·exact ⟨a,us,rfl,Nat.succ.inj h⟩
theorem ar2 {α:Type} {us:List α} (h:us.length=2):∃ a b,us=[a,b]:=by
 obtain ⟨a,r,rfl,k⟩:=ars h
 obtain ⟨b,rfl⟩:=ar1 k
 exact ⟨a,b,rfl⟩
theorem ar3 {α:Type} {us:List α} (h:us.length=3):∃ a b c,us=[a,b,c]:=by
 obtain ⟨a,r,rfl,k⟩:=ars h
 obtain ⟨b,c,rfl⟩:=ar2 k
 exact ⟨a,b,c,rfl⟩
theorem ar4 {α:Type} {us:List α} (h:us.length=4):∃ a b c d,us=[a,b,c,d]:=by
 obtain ⟨a,r,rfl,k⟩:=ars h
 obtain ⟨b,c,d,rfl⟩:=ar3 k
 exact ⟨a,b,c,d,rfl⟩
theorem ar5 {α:Type} {us:List α} (h:us.length=5):∃ a b c d e,us=[a,b,c,d,e]:=by
 obtain ⟨a,r,rfl,k⟩:=ars h
 obtain ⟨b,c,d,e,rfl⟩:=ar4 k
 exact ⟨a,b,c,d,e,rfl⟩
section
variable {prog:Program} {w:World} {A:Around} {E:Value->Shared->Prop}
end
section
variable {prog:Program} {w:World} {A:Around} {R:Result->Shared->Prop} {I:Addr} {fp wr:List Addr} {n:Nat} {P:Nat->Value->Prop} {St:Nat->Heap->Prop} {d:Value}
end
section
variable {X:Cx} {x:Str} {p pos kp:Pos} {e e2:Expr} {te te2:TE}
end
section
variable {K:Fg} {te te2:TE} {df:DE} {dd:DE}
end
section
variable {P:Program} {w:World} {K:Fg} {mg:Str->Option Value} {base:Heap} {m:Str} {k:Nat} {ta:TE} {tA:TA} {dn:DN} {dA:DF}
abbrev Tab:=List (Addr×DSpT)
theorem zt01 {F H:Hp}:∀ {vs:List V} {ds:List D},IsAll K F vs ds->ArgsR K F H vs (ds.map .d) [] none
|_,_,.nil=>.nil
|_,_,.cons h r=>.d h (zt01 r)
theorem tab3 {C1 C2 C3:Addr} {p1 p2 p3:DSpT} (h1:∃ ps,ztf P w K mg base C1 m k ps (spT K p1)) (h2:∃ ps,ztf P w K mg base C2 m k ps (spT K p2)) (h3:∃ ps,ztf P w K mg base C3 m k ps (spT K p3)) :
  ∀ C p,(C,p)∈[(C1,p1),(C2,p2),(C3,p3)]->∃ ps,ztf P w K mg base C m k ps (spT K p):=λ C p h=>by
 rcases List.mem_cons.mp h with e|h
 ·cases e;exact h1
 rcases List.mem_cons.mp h with e|h
 ·cases e;exact h2
 rcases List.mem_cons.mp h with e|h
 ·cases e;exact h3
 ·simp at h
end
section
variable {P:Program} {w:World} {K:Fg} {mg:Str->Option Value} {base:Heap} {m:Str} {k:Nat} {ta tk tx:TE} {tA:TA} {dp:DP} {dk dx:DE} {dA:DF}
def zx21 (u:T) (k x:D) (Q:D->Prop):Prop:=match u with
|.dk kvs=>∃ key,keyD k=some key/\Q ((getA kvs key).getD x)
|.dt kvs=>∃ key,keyT k=some key/\Q ((getA kvs key).getD x)
|_=>False
def zi61 (dp:DP) (dk dx:DE):DE:=λ δ Q=>dp δ λ _ _ u=>tyN "dict" u/\dk δ λ k=>dx δ λ x=>zx21 u k x Q
theorem zj01 (dp:DP) (dk dx:DE) (δ:DSt) (Q:D->Prop):zi61 dp dk dx δ Q=(dp δ λ _ _ u=>tyN "dict" u/\dk δ λ k=>dx δ λ x=>zx21 u k x Q):=rfl
theorem zfx {F H:Hp} {v kv xv:V} {u:T} {fn:List Addr} {k x:D} {Qd:D->Prop} {Q:VK} (s:Same F H) (hr:Rt K F H v u fn) (hk:Is K F kv k) (hx:Is K F xv x) (hf:zx21 u k x Qd) (q:∀ d y,Qd d->Is K F y d->Q y H):zgv v [kv,xv] H Q:=by
 cases hr with
|dk h1 h2 h3 =>
  obtain ⟨key,ek,qd⟩:=hf
  have:=zfp hk ek
  subst this
  rcases h3.get (k:=key) with ⟨g1,g2⟩|⟨d',y,g1,g2,g3⟩
  ·rw [g1] at qd
   exact ⟨_,_,_,none,rfl,rfl,by rw [<- g2];exact DGet.k h1,q _ _ qd hx⟩
  ·rw [g1] at qd
   exact ⟨_,_,_,some y,rfl,rfl,by rw [<- g2];exact DGet.k h1,q _ _ qd g3⟩
|dt h1 h2 h3 =>
  obtain ⟨key,ek,qd⟩:=hf
  obtain ⟨kb,rfl,hb⟩:=zsj hk ek
  rcases h3.get (k:=key) with ⟨g1,g2⟩|⟨d',y,g1,g2,g3⟩
  ·rw [g1] at qd
   exact ⟨_,_,_,none,rfl,rfl,by rw [<- g2];exact DGet.t h1 (s _ _ hb),q _ _ qd hx⟩
  ·rw [g1] at qd
   exact ⟨_,_,_,some y,rfl,rfl,by rw [<- g2];exact DGet.t h1 (s _ _ hb),q _ _ qd g3⟩
|fz _=>exact hf.elim
|li _ _ _=>exact hf.elim
|ls _ _ _=>exact hf.elim
|ob _ _ _ _ _=>exact hf.elim
|tp _ _ _=>exact hf.elim
theorem zpy (hp:RfP K ta dp) (hk:RfE K tk dk) (hx:RfE K tx dx):RfE K (tBMU K "dict" zgv ta (zw2 tk (zw2 tx tNil))) (zi61 dp dk dx):=by
 intro F H σ δ Qd Q s rv hd kk
 refine hp s rv hd λ i p u hu v F1 H1 e1 at1=>?_
 have rv1:=rv.ext e1
 obtain ⟨fn,hr⟩:=at1.rt rv1
 refine ⟨zn21 hr hu.1,hk e1.fh rv1 hu.2 λ kd hkd kv F2 H2 e2 i2=>hx e2.fh (rv1.ext e2) hkd λ xd hxd xv F3 H3 e3 i3=>?_⟩
 have e13:=(e1.trans e2).trans e3
 exact zfx e3.fh ((hr.ext e2).ext e3) (i2.mono e3.f) i3 hxd λ d y qd iy=>kk d qd y F3 H3 e13 iy
def zeu (m:Str) (tab:Tab) (dp:DP) (dA:DF):DN:=λ δ Q=>dp δ λ _ _ u=>match u with
|.ob C fs=>noM m (.ob C fs)/\∃ p,(C,p)∈tab/\dA δ λ ds=>p (.b (.ob C fs) :: ds.map .d) λ r _=>Q r
|_=>False
theorem zfv (m:Str) (tab:Tab) (dp:DP) (dA:DF) (δ:DSt) (Q:T->Prop):zeu m tab dp dA δ Q=(dp δ λ _ _ u=>match u with
|.ob C fs=>noM m (.ob C fs)/\∃ p,(C,p)∈tab/\dA δ λ ds=>p (.b (.ob C fs) :: ds.map .d) λ r _=>Q r
|_=>False):=rfl
theorem zvu {tab:Tab} (ht:∀ C p,(C,p)∈tab->∃ ps,ztf P w K mg base C m k ps (spT K p)) (h1:RfP K ta dp) (h2:RfA K tA dA):RfN K (zqx P w K mg base m k ta tA) (zeu m tab dp dA):=by
 intro F H σ δ Qd Q s rv hd kk
 refine h1 s rv hd λ i q u hu v F1 H1 e1 at1=>?_
 have rv1:=rv.ext e1
 obtain ⟨fn,r1,nd1⟩:=at1.rtV rv1
 cases r1 with
|ob g1 g2 g3 g4 g5 =>
  rename_i a C dx' kvs fs fp'
  obtain ⟨nm,p,hp,hq⟩:=hu
  obtain ⟨ps,md⟩:=ht C p hp
  refine ⟨a,C,dx',kvs,ps,_,rfl,g1,(g5.keys m).1 nm,md,h2 e1.fh rv1 hq λ ds hds vs F2 H2 e2 i2=>?_⟩
  have r2:Rt K F2 H2 (.ref a) (.ob C fs) (a :: dx' :: fp'):=(Rt.ob g1 g2 g3 g4 g5).ext e2
  have e12:=e1.trans e2
  refine ⟨F2,_,_,none,_,e2.fh,.b r2 nd1 (zt01 i2),(λ b hb=>by simp [ofp] at hb),hds,λ r2 t2 q2 v F' H' fpr fpo post=>?_⟩
  exact kk _ q2 v F' H' fpr (e12.trans ⟨λ b o hb=>post.hh b o (by simp [ofp]) hb,post.ff,post.fh,post.nw⟩) post.rt post.nd λ b hb=>zb3 e12 (post.fr b hb)
|fz _=>exact hu.elim
|li _ _ _=>exact hu.elim
|ls _ _ _=>exact hu.elim
|dk _ _ _=>exact hu.elim
|dt _ _ _=>exact hu.elim
|tp _ _ _=>exact hu.elim
end
end L5
namespace L5
open PySem
theorem zc9:((Str.ofString "wide") == (Str.ofString "since"))=false:=by decide +kernel
theorem zy8:((Str.ofString "wide") == (Str.ofString "other"))=false:=by decide +kernel
theorem zda:((Str.ofString "wide") == (Str.ofString "turn"))=false:=by decide +kernel
theorem zqg:((Str.ofString "since") == (Str.ofString "wide"))=false:=by decide +kernel
theorem zoh:((Str.ofString "other") == (Str.ofString "wide"))=false:=by decide +kernel
theorem zj9:((Str.ofString "other") == (Str.ofString "turn"))=false:=by decide +kernel
theorem zej:((Str.ofString "turn") == (Str.ofString "wide"))=false:=by decide +kernel
theorem zwf:((Str.ofString "turn") == (Str.ofString "other"))=false:=by decide +kernel
theorem zca:((Str.ofString "width_at") == (Str.ofString "wide"))=false:=by decide +kernel
theorem zq9:((Str.ofString "width_at") == (Str.ofString "since"))=false:=by decide +kernel
theorem zv9:((Str.ofString "width_at") == (Str.ofString "other"))=false:=by decide +kernel
theorem zlb:((Str.ofString "width_at") == (Str.ofString "turn"))=false:=by decide +kernel
theorem zyg:((Str.ofString "wide")=(Str.ofString "since"))=False:=eq_false (by intro h;have:=zc9;rw [h] at this;simp at this)
theorem zhg:((Str.ofString "wide")=(Str.ofString "other"))=False:=eq_false (by intro h;have:=zy8;rw [h] at this;simp at this)
theorem zgj:((Str.ofString "wide")=(Str.ofString "turn"))=False:=eq_false (by intro h;have:=zda;rw [h] at this;simp at this)
theorem zbg:((Str.ofString "other")=(Str.ofString "turn"))=False:=eq_false (by intro h;have:=zj9;rw [h] at this;simp at this)
theorem zl7:((Str.ofString "rooms") == (Str.ofString "lying"))=false:=by decide +kernel
theorem zn7:((Str.ofString "rooms") == (Str.ofString "pipes"))=false:=by decide +kernel
theorem zj7:((Str.ofString "rooms") == (Str.ofString "gates"))=false:=by decide +kernel
theorem zm6:((Str.ofString "rooms") == (Str.ofString "moment"))=false:=by decide +kernel
theorem zj5:((Str.ofString "rooms") == (Str.ofString "entered"))=false:=by decide +kernel
theorem zd6:((Str.ofString "rooms") == (Str.ofString "coming"))=false:=by decide +kernel
theorem zzd:((Str.ofString "lying") == (Str.ofString "rooms"))=false:=by decide +kernel
theorem zu7:((Str.ofString "lying") == (Str.ofString "pipes"))=false:=by decide +kernel
theorem zd7:((Str.ofString "lying") == (Str.ofString "gates"))=false:=by decide +kernel
theorem zf6:((Str.ofString "lying") == (Str.ofString "moment"))=false:=by decide +kernel
theorem zn5:((Str.ofString "lying") == (Str.ofString "entered"))=false:=by decide +kernel
theorem zc6:((Str.ofString "lying") == (Str.ofString "coming"))=false:=by decide +kernel
theorem zaf:((Str.ofString "pipes") == (Str.ofString "rooms"))=false:=by decide +kernel
theorem zm7:((Str.ofString "pipes") == (Str.ofString "lying"))=false:=by decide +kernel
theorem zf7:((Str.ofString "pipes") == (Str.ofString "gates"))=false:=by decide +kernel
theorem zb6:((Str.ofString "pipes") == (Str.ofString "moment"))=false:=by decide +kernel
theorem zm5:((Str.ofString "pipes") == (Str.ofString "entered"))=false:=by decide +kernel
theorem zh6:((Str.ofString "pipes") == (Str.ofString "coming"))=false:=by decide +kernel
theorem zxe:((Str.ofString "gates") == (Str.ofString "rooms"))=false:=by decide +kernel
theorem zc7:((Str.ofString "gates") == (Str.ofString "lying"))=false:=by decide +kernel
theorem zwe:((Str.ofString "gates") == (Str.ofString "pipes"))=false:=by decide +kernel
theorem zg6:((Str.ofString "gates") == (Str.ofString "moment"))=false:=by decide +kernel
theorem zz4:((Str.ofString "gates") == (Str.ofString "entered"))=false:=by decide +kernel
theorem zi6:((Str.ofString "gates") == (Str.ofString "coming"))=false:=by decide +kernel
theorem zad:((Str.ofString "moment") == (Str.ofString "rooms"))=false:=by decide +kernel
theorem za6:((Str.ofString "moment") == (Str.ofString "lying"))=false:=by decide +kernel
theorem zkc:((Str.ofString "moment") == (Str.ofString "pipes"))=false:=by decide +kernel
theorem zoc:((Str.ofString "moment") == (Str.ofString "gates"))=false:=by decide +kernel
theorem zm4:((Str.ofString "moment") == (Str.ofString "entered"))=false:=by decide +kernel
theorem zo5:((Str.ofString "moment") == (Str.ofString "coming"))=false:=by decide +kernel
theorem zgb:((Str.ofString "entered") == (Str.ofString "rooms"))=false:=by decide +kernel
theorem zq5:((Str.ofString "entered") == (Str.ofString "lying"))=false:=by decide +kernel
theorem zza:((Str.ofString "entered") == (Str.ofString "pipes"))=false:=by decide +kernel
theorem zna:((Str.ofString "entered") == (Str.ofString "gates"))=false:=by decide +kernel
theorem zr4:((Str.ofString "entered") == (Str.ofString "moment"))=false:=by decide +kernel
theorem zl4:((Str.ofString "entered") == (Str.ofString "coming"))=false:=by decide +kernel
theorem zhc:((Str.ofString "coming") == (Str.ofString "rooms"))=false:=by decide +kernel
theorem ze6:((Str.ofString "coming") == (Str.ofString "lying"))=false:=by decide +kernel
theorem zgc:((Str.ofString "coming") == (Str.ofString "pipes"))=false:=by decide +kernel
theorem zvc:((Str.ofString "coming") == (Str.ofString "gates"))=false:=by decide +kernel
theorem zw4:((Str.ofString "coming") == (Str.ofString "moment"))=false:=by decide +kernel
theorem zo4:((Str.ofString "coming") == (Str.ofString "entered"))=false:=by decide +kernel
theorem zne:((Str.ofString "holds") == (Str.ofString "rooms"))=false:=by decide +kernel
theorem zdf:((Str.ofString "holds") == (Str.ofString "lying"))=false:=by decide +kernel
theorem zee:((Str.ofString "holds") == (Str.ofString "pipes"))=false:=by decide +kernel
theorem zqe:((Str.ofString "holds") == (Str.ofString "gates"))=false:=by decide +kernel
theorem zsc:((Str.ofString "holds") == (Str.ofString "moment"))=false:=by decide +kernel
theorem zra:((Str.ofString "holds") == (Str.ofString "entered"))=false:=by decide +kernel
theorem zjc:((Str.ofString "holds") == (Str.ofString "coming"))=false:=by decide +kernel
theorem zeb:((Str.ofString "room_in") == (Str.ofString "rooms"))=false:=by decide +kernel
theorem zcb:((Str.ofString "room_in") == (Str.ofString "lying"))=false:=by decide +kernel
theorem zia:((Str.ofString "room_in") == (Str.ofString "pipes"))=false:=by decide +kernel
theorem zrb:((Str.ofString "room_in") == (Str.ofString "gates"))=false:=by decide +kernel
theorem zw9:((Str.ofString "room_in") == (Str.ofString "moment"))=false:=by decide +kernel
theorem zz7:((Str.ofString "room_in") == (Str.ofString "entered"))=false:=by decide +kernel
theorem zy9:((Str.ofString "room_in") == (Str.ofString "coming"))=false:=by decide +kernel
theorem zag:((Str.ofString "full") == (Str.ofString "rooms"))=false:=by decide +kernel
theorem zxf:((Str.ofString "full") == (Str.ofString "lying"))=false:=by decide +kernel
theorem zmh:((Str.ofString "full") == (Str.ofString "pipes"))=false:=by decide +kernel
theorem zmg:((Str.ofString "full") == (Str.ofString "gates"))=false:=by decide +kernel
theorem zae:((Str.ofString "full") == (Str.ofString "moment"))=false:=by decide +kernel
theorem zlc:((Str.ofString "full") == (Str.ofString "entered"))=false:=by decide +kernel
theorem zfe:((Str.ofString "full") == (Str.ofString "coming"))=false:=by decide +kernel
theorem zmi:((Str.ofString "let") == (Str.ofString "rooms"))=false:=by decide +kernel
theorem zni:((Str.ofString "let") == (Str.ofString "lying"))=false:=by decide +kernel
theorem zii:((Str.ofString "let") == (Str.ofString "pipes"))=false:=by decide +kernel
theorem zfj:((Str.ofString "let") == (Str.ofString "gates"))=false:=by decide +kernel
theorem zdh:((Str.ofString "let") == (Str.ofString "moment"))=false:=by decide +kernel
theorem zpe:((Str.ofString "let") == (Str.ofString "entered"))=false:=by decide +kernel
theorem zfg:((Str.ofString "let") == (Str.ofString "coming"))=false:=by decide +kernel
theorem zue:((Str.ofString "go_on") == (Str.ofString "rooms"))=false:=by decide +kernel
theorem zme:((Str.ofString "go_on") == (Str.ofString "lying"))=false:=by decide +kernel
theorem zmf:((Str.ofString "go_on") == (Str.ofString "pipes"))=false:=by decide +kernel
theorem zre:((Str.ofString "go_on") == (Str.ofString "gates"))=false:=by decide +kernel
theorem zic:((Str.ofString "go_on") == (Str.ofString "moment"))=false:=by decide +kernel
theorem zfb:((Str.ofString "go_on") == (Str.ofString "entered"))=false:=by decide +kernel
theorem zyc:((Str.ofString "go_on") == (Str.ofString "coming"))=false:=by decide +kernel
theorem zze:((Str.ofString "rooms")=(Str.ofString "lying"))=False:=eq_false (by intro h;have:=zl7;rw [h] at this;simp at this)
theorem zqf:((Str.ofString "rooms")=(Str.ofString "pipes"))=False:=eq_false (by intro h;have:=zn7;rw [h] at this;simp at this)
theorem zce:((Str.ofString "rooms")=(Str.ofString "gates"))=False:=eq_false (by intro h;have:=zj7;rw [h] at this;simp at this)
theorem zdc:((Str.ofString "rooms")=(Str.ofString "moment"))=False:=eq_false (by intro h;have:=zm6;rw [h] at this;simp at this)
theorem zoa:((Str.ofString "rooms")=(Str.ofString "entered"))=False:=eq_false (by intro h;have:=zj5;rw [h] at this;simp at this)
theorem zzc:((Str.ofString "rooms")=(Str.ofString "coming"))=False:=eq_false (by intro h;have:=zd6;rw [h] at this;simp at this)
theorem zhf:((Str.ofString "lying")=(Str.ofString "pipes"))=False:=eq_false (by intro h;have:=zu7;rw [h] at this;simp at this)
theorem zkf:((Str.ofString "lying")=(Str.ofString "gates"))=False:=eq_false (by intro h;have:=zd7;rw [h] at this;simp at this)
theorem zqc:((Str.ofString "lying")=(Str.ofString "moment"))=False:=eq_false (by intro h;have:=zf6;rw [h] at this;simp at this)
theorem zsb:((Str.ofString "lying")=(Str.ofString "entered"))=False:=eq_false (by intro h;have:=zn5;rw [h] at this;simp at this)
theorem znc:((Str.ofString "lying")=(Str.ofString "coming"))=False:=eq_false (by intro h;have:=zc6;rw [h] at this;simp at this)
theorem zof:((Str.ofString "pipes")=(Str.ofString "lying"))=False:=eq_false (by intro h;have:=zm7;rw [h] at this;simp at this)
theorem zte:((Str.ofString "pipes")=(Str.ofString "gates"))=False:=eq_false (by intro h;have:=zf7;rw [h] at this;simp at this)
theorem zbc:((Str.ofString "pipes")=(Str.ofString "moment"))=False:=eq_false (by intro h;have:=zb6;rw [h] at this;simp at this)
theorem zbb:((Str.ofString "pipes")=(Str.ofString "entered"))=False:=eq_false (by intro h;have:=zm5;rw [h] at this;simp at this)
theorem zcd:((Str.ofString "pipes")=(Str.ofString "coming"))=False:=eq_false (by intro h;have:=zh6;rw [h] at this;simp at this)
theorem zjf:((Str.ofString "gates")=(Str.ofString "lying"))=False:=eq_false (by intro h;have:=zc7;rw [h] at this;simp at this)
theorem zmc:((Str.ofString "gates")=(Str.ofString "moment"))=False:=eq_false (by intro h;have:=zg6;rw [h] at this;simp at this)
theorem zua:((Str.ofString "gates")=(Str.ofString "entered"))=False:=eq_false (by intro h;have:=zz4;rw [h] at this;simp at this)
theorem zfc:((Str.ofString "gates")=(Str.ofString "coming"))=False:=eq_false (by intro h;have:=zi6;rw [h] at this;simp at this)
theorem zbd:((Str.ofString "moment")=(Str.ofString "lying"))=False:=eq_false (by intro h;have:=za6;rw [h] at this;simp at this)
theorem zz9:((Str.ofString "moment")=(Str.ofString "entered"))=False:=eq_false (by intro h;have:=zm4;rw [h] at this;simp at this)
theorem zea:((Str.ofString "moment")=(Str.ofString "coming"))=False:=eq_false (by intro h;have:=zo5;rw [h] at this;simp at this)
theorem zxa:((Str.ofString "entered")=(Str.ofString "lying"))=False:=eq_false (by intro h;have:=zq5;rw [h] at this;simp at this)
theorem zu9:((Str.ofString "entered")=(Str.ofString "moment"))=False:=eq_false (by intro h;have:=zr4;rw [h] at this;simp at this)
theorem zr9:((Str.ofString "entered")=(Str.ofString "coming"))=False:=eq_false (by intro h;have:=zl4;rw [h] at this;simp at this)
theorem zwc:((Str.ofString "coming")=(Str.ofString "lying"))=False:=eq_false (by intro h;have:=ze6;rw [h] at this;simp at this)
theorem zfa:((Str.ofString "coming")=(Str.ofString "moment"))=False:=eq_false (by intro h;have:=zw4;rw [h] at this;simp at this)
theorem zo9:((Str.ofString "coming")=(Str.ofString "entered"))=False:=eq_false (by intro h;have:=zo4;rw [h] at this;simp at this)
end L5
namespace L3
open PySem PySem.Spec PyProof.Rows L2
section
variable {s:Shared} {w:World} {prog:Program} {E:Value->Shared->Prop} {A:Around}
end
section
variable {X:Cx} {pins:List (Addr×Obj)} {σ:L2.St} {H:Hp} {s:Shared} {a:Addr} {u:HO} {o:Obj}
end
section
variable {X:Cx} {elts:List Expr}
end
end L3
namespace L4
open PySem PySem.Spec PyProof.Rows L2 L3
section
variable {K:Fg} {ta:TE} {dp:DP}
theorem KvIs.at {κ:Type} {F:Hp}:∀ {r:List (κ×V)} {t:List (κ×D)} {i:Nat} {k:κ} {v:V},KvIs K F r t->r[i]?=some (k,v)->∃ d,t[i]?=some (k,d)/\Is K F v d:=by
 intro r t i k v h
 induction h generalizing i with
|nil=>intro e;simp at e
|cons h1 h2 ih =>
  intro e
  cases i with
 |zero=>simp at e;obtain ⟨rfl,rfl⟩:=e;exact ⟨_,rfl,h1⟩
 |succ i=>simp at e ⊢;exact ih e
end
end L4
namespace L3
open PySem PySem.Spec PyProof.Rows L2
section
variable {s:Shared} {w:World} {prog:Program} {E:Value->Shared->Prop} {A:Around}
end
end L3
namespace L4
open PySem PySem.Spec PyProof.Rows L2 L3
section
variable {K:Fg}
end
end L4
namespace L3
open PySem PySem.Spec PyProof.Rows L2
section
variable {s:Shared} {w:World} {prog:Program} {E:Value->Shared->Prop} {A:Around} {Ky:Type} [DecidableEq Ky] {knd:HeapKind prog w Ky}
theorem zbt {d b:Addr} {od:Obj} {es:Array DictEntry} {ep:Nat} {xs:List (Ky×Addr×Value)} {k:Ky} {x:Value} {Q:Value->Shared->Prop} (ru:knd.room A.in1) (hk:knd.is s.heap k b) (gs:(d == sysModules)=false)
  (go:s.heap.get? d=some od) (gx:od.ExactDict) (gd:od.data=.dict es ep) (ge:es.toList=xs.map (entryOfKey knd)) (gi:∀ x∈xs,knd.is s.heap x.1 x.2.1) (gn:(xs.map (·.1)).Nodup) (gz:xs.length<=sizeLine)
  (q1:∀ (j:Nat) (p:Addr×Value),xs[j]?=some (k,p)->∀ t,Q p.2 { s with heap:=s.heap.update d (Obj.mapDictKeys (·.eraseIdxIfInBounds j)),toks:=t })
  (q2:(∀ (j:Nat) (p:Addr×Value),xs[j]?≠some (k,p))->∀ t,Q x { s with toks:=t }):wpAny (model prog w) A (call (.builtin "dict.pop") [.ref d,.ref b,x]) Q E s:=by
 have ty:s.TypeIs (.ref d) "dict":=⟨od,go,gx.1⟩
 have sz:es.size=xs.length:=size_of_entries ge
 refine wpAny_call_entry PySem.F.slot_dict_pop ty PySem.F.entry_dict_pop ?_ (PySem.F.args_dict_pop_3 _ _ _)
 unfold Builtin.«dict.pop» Builtin.Dict.keyAndDefault
 refine wpAny_bind (wpAny_bind (wpAny_notOrdered_dict ty (show wpAny _ _ (pure (d,Value.ref b,some x)) _ _ _ from wpAny_pure ?_)))
 have np:(keyPart (Value.ref b)).isSome=false:=rfl
 simp only [np,Bool.false_eq_true,if_false]
 refine wpAny_bind (wpAny_dictEntries go gd (wpAny_bind (wpAny_pure ?_)))
 by_cases em:es.isEmpty=true
 ·rw [if_pos em]
  have xe:xs=[]:=by
   have:es.size=0:=by simpa using em
   exact List.length_eq_zero_iff.mp (by lia)
  refine wpAny_bind (wpAny_rule (wpAny_bind (wpAny_pure ?_)))
  rw [if_pos Option.isNone_none]
  exact wpAny_bind (wpAny_missedRemoval_other gs (wpAny_bind (wpAny_rule (wpAny_pure ⟨x,rfl,q2 (by rw [xe];intro j p;simp) s.toks⟩))))
 ·rw [if_neg em]
  unfold Builtin.Dict.takeOut
  refine wpAny_bind (wpAny_holding (wpAny_bind (knd.pyHash ru hk (wpAny_bind (wpAny_dictFind_heap (s:={ s with toks:=s.toks+knd.draws k }) ru hk go gd ge gi gn (λ no=>wpAny_pure ?_) λ j p hj=>?_)))))
  ·rw [if_pos Option.isNone_none]
   exact wpAny_bind (wpAny_missedRemoval_other gs (wpAny_bind (wpAny_rule (wpAny_pure ⟨x,rfl,q2 no _⟩))))
  ·refine wpAny_bind (wpAny_dictEntries (s:={ s with toks:=s.toks+knd.draws k }) go gd ?_)
   rw [entry_at ge j,hj]
   refine wpAny_bind (wpAny_updateDictKeys (hz:=by lia) (hf:=by rw [Array.eraseIdxIfInBounds];split <;> simp <;> lia) (s:={ s with toks:=s.toks+knd.draws k }) go gd (wpAny_pure ?_))
   rw [if_neg (by simp)]
   exact wpAny_bind (wpAny_letGo (wpAny_pure ⟨p.2,rfl,q1 j p hj _⟩))
end
theorem zhe {α β:Type} (f:α->β):∀ (l:List α) (j:Nat),(l.map f).eraseIdx j=(l.eraseIdx j).map f
|[],_=>rfl
|_ :: _,0=>rfl
|x :: r,j+1=>by rw [List.map_cons,List.eraseIdx_cons_succ,List.eraseIdx_cons_succ,List.map_cons,zhe f r j]
theorem zm11 {H:Hp} {kvs:List (List Key×V)} {xs:List (List Key×Addr×Value)} {k:List Key} (r:KT H kvs xs) (h:∀ (j:Nat) (p:Addr×Value),xs[j]?≠some (k,p)):valV kvs k=none:=by
 have:=r.val k
 rw [atKey_none_of_get h] at this
 cases e:valV kvs k with
|none=>rfl
|some v=>rw [e] at this;exact this.elim
theorem ztw {H:Hp} {kvs:List (List Key×V)} {xs:List (List Key×Addr×Value)} {k:List Key} {j:Nat} {p:Addr×Value} (r:KT H kvs xs) (hn:(xs.map (·.1)).Nodup) (h:xs[j]?=some (k,p)):∃ v,valV kvs k=some v/\RelV v p.2:=by
 have:=r.val k
 rw [atKey_of_get hn h] at this
 cases e:valV kvs k with
|none=>rw [e] at this;exact this.elim
|some v=>rw [e] at this;exact ⟨v,rfl,this⟩
theorem zkz {H:Hp} {k:List Key}:∀ {kvs:List (List Key×V)} {xs:List (List Key×Addr×Value)} {j:Nat} {p:Addr×Value},KT H kvs xs->(xs.map (·.1)).Nodup->xs[j]?=some (k,p)->KT H (znh kvs k) (xs.eraseIdx j):=by
 intro kvs xs j p r
 induction r generalizing j with
|nil=>intro _ h;simp at h
|@cons a b as bs hq t ih =>
  intro hn h
  rw [List.map_cons] at hn
  have hn':=List.nodup_cons.mp hn
  unfold znh at ih ⊢
  cases j with
 |zero =>
   simp at h
   subst h
   have e1:a.1=k:=hq.1
   rw [List.filter_cons_of_neg (by simp [e1]),List.eraseIdx_zero,List.tail_cons]
   have all:∀ {l:List (List Key×V)} {m:List (List Key×Addr×Value)},KT H l m->k ∉ m.map (·.1)->l.filter (λ kv=>decide (kv.1≠k))=l:=by
    intro l m q
    induction q with
   |nil=>intro _;rfl
   |cons hq' t' ih' =>
     intro nk
     simp at nk
     rw [List.filter_cons_of_pos (by simp;rw [hq'.1];exact λ z=>nk.1 z.symm),ih' (by simpa using nk.2)]
   rw [all t hn'.1]
   exact t
 |succ j =>
   simp at h
   have ne:a.1≠k:=λ z=>by
    have:b.1∈bs.map (·.1):=by
     rw [<- hq.1,z]
     exact List.mem_map_of_mem (f:=(·.1)) (List.mem_of_getElem? h)
    exact hn'.1 this
   rw [List.filter_cons_of_pos (by simp [ne]),List.eraseIdx_cons_succ]
   exact .cons hq (ih hn'.2 h)
def zc91:V->List V->Hp->VK->Prop:=λ x vs H Q=>∃ a b kvs k z,x=.ref a/\vs=[.ref b,z]/\H a=some (.dT kvs)/\H b=some (.tup (k.map kV))/\(∀ v,valV kvs k=some v->Q v (upd H a (.dT (znh kvs k))))/\(valV kvs k=none->Q z H)
theorem zny {X:Cx} (hu:X.A.units+64 < cLine):MtM X "dict.pop" zc91:=by
 intro pins s σ H x xs v us Q I rx rv h
 obtain ⟨a,b,kvs,k,z,rfl,rfl,e,eb,q1,q2⟩:=h
 obtain ⟨u,r,rfl,ru,rr⟩:=zz11 rv
 obtain rfl:v=Value.ref a:=rx
 cases (show u=Value.ref b from ru)
 obtain ⟨hz,hd,ys,rel,o,es,ep,h1,h2,h3,h4,h5,h6⟩:=zo81 I.hok e
 have hl:ys.length<=sizeLine:=by rw [<- Paired.length rel];exact hz
 refine zbt (tupleKind_room_in1 (by lia)) (zdl I.hok eb) hd h1 h2 h3 h4 h5 h6 hl (λ j p hj t=>?_) λ no t=>⟨z,H,I.kept (t':=t) λ _ _ q=>q,rr,q2 (zm11 rel no)⟩
 obtain ⟨v,hv,rv'⟩:=ztw rel h6 hj
 have sb:Heap.SameBut a s.heap (s.heap.update a (Obj.mapDictKeys (·.eraseIdxIfInBounds j))):=Heap.SameBut.update ..
 have gq:=Heap.get?_update_self (Obj.mapDictKeys (·.eraseIdxIfInBounds j)) h1 (Obj.isFreed_of_dict (Obj.data_mapDictKeys h3 _))
 refine ⟨v,upd H a (.dT (znh kvs k)),zyn (t':=t) (ob:=.dT (znh kvs k)) I (by rw [e];exact True.intro) sb ⟨_,gq⟩ ⟨Nat.le_trans (zzs kvs k) hz,hd,ys.eraseIdx j,(zkz rel h6 hj).keeps λ c zs ec=>?_,_,_,ep+1,gq,h2.mapDictKeys _,Obj.data_mapDictKeys h3 _,?_,?_⟩,rv',q1 v hv⟩
 ·rw [zw0 (zl61 ec e (λ z=>nomatch z))];exact ec
 ·have jl:j < es.size:=by rw [size_of_entries h4];exact (List.getElem?_eq_some_iff.mp hj).1
  rw [Array.eraseIdxIfInBounds,dif_pos jl,Array.toList_eraseIdx,h4,zhe]
 ·rw [<- zhe]
  exact List.Nodup.sublist (List.eraseIdx_sublist _ _) h6
end L3
namespace L4
open PySem PySem.Spec PyProof.Rows L2 L3
section
variable {K:Fg} {ta tb ti tk tx:TE} {dp dq:DP} {dk dy dz:DE}
def zx7 {κ:Type} [DecidableEq κ] (kvs:List (κ×D)) (k:κ):List (κ×D):=kvs.filter λ kv=>decide (kv.1≠k)
theorem KvIs.drop {κ:Type} [DecidableEq κ] {F:Hp} {k:κ}:∀ {r:List (κ×V)} {s:List (κ×D)},KvIs K F r s->KvIs K F (znh r k) (zx7 s k)
|_,_,.nil=>.nil
|_,_,.cons (k:=k') (r:=r) (s:=s) h t=>by
  unfold znh zx7
  by_cases e:k'=k
  ·rw [List.filter_cons_of_neg (by simp [e]),List.filter_cons_of_neg (by simp [e])]
   exact t.drop
  ·rw [List.filter_cons_of_pos (by simp [e]),List.filter_cons_of_pos (by simp [e])]
   exact .cons h t.drop
def zi51 (u:T) (y z:D) (N:D->T->Prop):Prop:=match u with
|.dt kvs=>∃ key,keyT y=some key/\N ((getA kvs key).getD z) (.dt (zx7 kvs key))
|_=>False
def sepP (i:Nat) (p:Pth) (j:Nat) (q:Pth):Prop:=j=i/\∃ g h,p=[.fl g]/\q=[.fl h]/\g≠h
def zuj (f:Int->Int->Int) (dp:DP) (dk:DE) (dq:DP) (dy dz:DE):DS:=λ E δ=>dp δ λ i p u=>dk δ λ k=>fGet u k λ x=>dq δ λ j q t=>tyN "dict" t/\dy δ λ y=>dz δ λ z=>zi51 t y z λ c t2 =>
 fII f x c λ n=>fPut u k n λ u2=>sepP i p j q/\mutS δ j q t2 λ δ1=>mutS δ1 i p u2 E.nx
theorem zu8 {f g:Str} {u:T} (n:g≠f):∀ (ts:List (Str×T)),(putA f u ts).lookup g=ts.lookup g
|[]=>by
  have hb:(g == f)=false:=beq_eq_false_iff_ne.mpr n
  show List.lookup g [(f,u)]=_
  simp [List.lookup,hb]
|(h,t) :: r=>by
  have hb:(g == f)=false:=beq_eq_false_iff_ne.mpr n
  by_cases e:h=f
  ·subst e
   rw [show putA h u ((h,t) :: r)=(h,u) :: r from if_pos rfl]
   simp [List.lookup,hb]
  ·rw [show putA f u ((h,t) :: r)=(h,t) :: putA f u r from if_neg e]
   simp only [List.lookup]
   rw [zu8 n r]
theorem zn81 {H:Hp} {x v:V} {t u:T} {g:Str} (h:At H x t [.fl g] v u):∃ a C dx fs ts,x=.ref a/\t=.ob C ts/\H a=some (.ins C dx fs)/\fs.lookup g=some v/\ts.lookup g=some u:=by
 cases h with
|fl h1 h2 h3 h4 =>
  cases h4
  exact ⟨_,_,_,_,_,rfl,rfl,h1,h2,h3⟩
theorem zsq {u:T} {k d:D} {N M:T->Prop} (h:fPut u k d N) (m:∀ u2,N u2->M u2):fPut u k d M:=by
 unfold fPut at h ⊢
 split at h
 ·split at h
  ·obtain ⟨j,e,n⟩:=h;exact ⟨j,e,m _ n⟩
  ·exact h.elim
 ·obtain ⟨key,e,l,n⟩:=h;exact ⟨key,e,l,m _ n⟩
 ·obtain ⟨key,e,l,n⟩:=h;exact ⟨key,e,l,m _ n⟩
 ·exact h.elim
theorem zcs {u:T} {k d:D} {N:T->Prop} (h:fPut u k d N):∃ u2,N u2:=by
 unfold fPut at h
 split at h
 ·split at h
  ·obtain ⟨j,e,n⟩:=h;exact ⟨_,n⟩
  ·exact h.elim
 ·obtain ⟨key,e,l,n⟩:=h;exact ⟨_,n⟩
 ·obtain ⟨key,e,l,n⟩:=h;exact ⟨_,n⟩
 ·exact h.elim
theorem zgn {κ:Type} [DecidableEq κ] {k:κ}:∀ {r:List (κ×V)},valV r k=none->znh r k=r:=by
 intro r h
 unfold znh
 rw [List.filter_eq_self]
 intro x hx
 unfold valV at h
 have:=List.find?_eq_none.mp (Option.map_eq_none_iff.mp h) x hx
 simpa using this
theorem zlq {f:Int->Int->Int} (hp:RfP K ta dp) (hk:RfE K ti dk) (hq:RfP K tb dq) (hy:RfE K tk dy) (hz:RfE K tx dz) :
  RfS K (zh51 ta ti (tBMU K "dict" zc91 tb (zw2 tk (zw2 tx tNil))) (zq21 K) (ipI f) zqs) (zuj f dp dk dq dy dz):=by
 intro B F H σ δ fps E Z r h k
 refine hp r.fh r.rv h λ i p u hu v F1 H1 e1 at1=>?_
 have r1:=r.grow e1
 refine hk r1.fh r1.rv hu λ kd hkd kv F2 H2 e2 i2=>?_
 have r2:=r1.grow e2
 have at2:=at1.mono e2.h
 obtain ⟨fn,hr⟩:=at2.rt r2.rv
 refine zsw r2.fh hr i2 hkd λ x xv hx ix=>hq r2.fh r2.rv hx λ j q t ht w F3 H3 e3 at3=>?_
 have r3:=r2.grow e3
 obtain ⟨fn3,hr3⟩:=at3.rt r3.rv
 refine ⟨zn21 hr3 ht.1,hy r3.fh r3.rv ht.2 λ yd hyd yv F4 H4 e4 i4=>hz (r3.grow e4).fh (r3.grow e4).rv hyd λ zd hzd zv F5 H5 e5 i5=>?_⟩
 have e35:=e3.trans (e4.trans e5)
 have r5:RS K B F5 H5 σ δ fps:=(r3.grow e4).grow e5
 have at5:=at3.mono (e4.h.trans e5.h)
 have at25:=at2.mono e35.h
 obtain ⟨fn5,hr5⟩:=at5.rt r5.rv
 cases hr5 with
|dt g1 g2 g3 =>
  rename_i b kvs ds
  obtain ⟨key,ek,hN⟩:=hzd
  obtain ⟨kb,rfl,hb⟩:=zsj (i4.mono e5.f) ek
  have put:∀ (nv:V) (nd:D),Is K F5 nv nd->(fPut u kd nd λ u2=>sepP i p j q/\mutS δ j q (.dt (zx7 ds key)) λ δ1=>mutS δ1 i p u2 E.nx) ->
    zqs v kv nv (upd H5 b (.dT (znh kvs key))) λ H8=>Z.nx σ H8:=by
   intro nv nd inv hf
   obtain ⟨_,⟨rfl,g,h',rfl,rfl,ne⟩,_⟩:=zcs hf
   have one:∀ δ1,(∀ N:DSt->Prop,mutS δ j [.fl h'] (.dt (zx7 ds key)) N=N δ1)->(∃ s,δ1[j]?=some s/\s.tree=(match δ[j]? with
    |some s=>s.tree.map λ t=>setP t [.fl h'] (.dt (zx7 ds key))
    |none=>none))->zqs v kv nv (upd H5 b (.dT (znh kvs key))) λ H8=>Z.nx σ H8:=by
    intro δ1 em es
    obtain ⟨δ2,fps2,r6,n6,_⟩:=r5.one (o2:=.dT (znh kvs key)) (N:=λ δ'=>δ'=δ1) at5 (u2:=.dt (zx7 ds key)) (by rw [em]) g1 (λ fn' hr'=>by cases hr';rfl) (λ fa=>.dt zp0 fa g3.drop)
    subst n6
    obtain ⟨s0,t0,x0,a1,a2,a3,a4⟩:=at25
    obtain ⟨s5,t5,x5,b1,b2,b3,b4⟩:=at5
    rw [a1] at b1;cases b1
    rw [a2] at b2;cases b2
    rw [a3] at b3;cases b3
    obtain ⟨aa,C,dx,fs,ts,rfl,rfl,c1,c2,c3⟩:=zn81 a4
    obtain ⟨_,_,_,_,_,z1,z2,d1,d2,d3⟩:=zn81 b4
    cases z1
    cases z2
    rw [c1] at d1
    cases d1
    obtain ⟨s6,es1,es2⟩:=es
    rw [a1] at es2
    simp only [a2,Option.map_some] at es2
    have et:setP (.ob C ts) [.fl h'] (.dt (zx7 ds key))=.ob C (putA h' (.dt (zx7 ds key)) ts):=by
     simp only [setP,d3]
    have at6:AtS (upd H5 b (.dT (znh kvs key))) σ δ2 j [.fl g] v u:=⟨s6,_,_,es1,es2,a3,by
     rw [et]
     exact .fl (by rw [zw0 (zl61 c1 g1 (λ z=>nomatch z))];exact c1) c2 (by rw [zu8 ne];exact c3) .nil⟩
    exact zjt r6 at6 (i2.mono e35.f) inv (zsq hf λ u2 hu2=>by have:=hu2.2;rw [em] at this;exact this) λ δ3 fps3 H8 r8 n8=>k.nx r8 n8
   obtain ⟨s0,t0,x0,a1,a2,a3,a4⟩:=at5
   have hl:j < δ.length:=(List.getElem?_eq_some_iff.mp a1).1
   obtain ⟨u2,_,hm⟩:=zcs hf
   cases s0 with
  |ow t1=>exact one (δ.set j (.ow (setP t1 [.fl h'] (.dt (zx7 ds key))))) (λ N=>by simp only [mutS,a1]) ⟨_,List.getElem?_set_self hl,by rw [a1];rfl⟩
  |io a' t1=>exact one (δ.set j (.io a' (setP t1 [.fl h'] (.dt (zx7 ds key))))) (λ N=>by simp only [mutS,a1]) ⟨_,List.getElem?_set_self hl,by rw [a1];rfl⟩
  |un=>simp only [mutS,a1] at hm
  |sh d=>simp only [mutS,a1] at hm
  |bo t1=>simp only [mutS,a1] at hm
  have go:∀ (cv:V) (c:D),Is K F5 cv c->(fII f x c λ n=>fPut u kd n λ u2=>sepP i p j q/\mutS δ j q (.dt (zx7 ds key)) λ δ1=>mutS δ1 i p u2 E.nx) ->
    (ipI f) xv cv (upd H5 b (.dT (znh kvs key))) λ z H7=>zqs v kv z H7 λ H8=>Z.nx σ H8:=by
   intro cv c ic hf
   unfold fII at hf
   split at hf
   ·cases ix.int_inv
    cases ic.int_inv
    exact ⟨_,_,rfl,rfl,put _ _ (.int _) hf⟩
   ·exact hf.elim
  refine ⟨b,kb,kvs,key,zv,rfl,rfl,g1,r5.fh _ _ hb,λ cv hcv=>?_,λ hno=>?_⟩
  ·rcases g3.get (k:=key) with ⟨q1,q2⟩|⟨d',y',q1,q2,q3⟩
   ·rw [q2] at hcv;cases hcv
   ·rw [q2] at hcv;cases hcv
    rw [q1] at hN
    exact go _ _ q3 hN
  ·rcases g3.get (k:=key) with ⟨q1,q2⟩|⟨d',y',q1,q2,q3⟩
   ·rw [q1] at hN
    have:=go _ _ i5 hN
    rw [zgn q2] at this
    have eH:upd H5 b (.dT kvs)=H5:=by
     funext c
     by_cases z:c=b
     ·subst z;rw [zp0,g1]
     ·rw [zw0 z]
    rw [eH] at this
    exact this
   ·rw [q2] at hno;cases hno
|fz _=>exact hzd.elim
|li _ _ _=>exact hzd.elim
|ls _ _ _=>exact hzd.elim
|ob _ _ _ _ _=>exact hzd.elim
|tp _ _ _=>exact hzd.elim
|dk _ _ _=>exact hzd.elim
theorem ztq (f:Int->Int->Int) (dp:DP) (dk:DE) (dq:DP) (dy dz:DE) (E:DEnds) (δ:DSt):zuj f dp dk dq dy dz E δ=(dp δ λ i p u=>dk δ λ k=>fGet u k λ x=>dq δ λ j q t=>tyN "dict" t/\dy δ λ y=>dz δ λ z=>zi51 t y z λ c t2 =>
 fII f x c λ n=>fPut u k n λ u2=>sepP i p j q/\mutS δ j q t2 λ δ1=>mutS δ1 i p u2 E.nx):=rfl
theorem zq01 (kvs:List (List Key×D)) (y z:D) (N:D->T->Prop):zi51 (.dt kvs) y z N=∃ key,keyT y=some key/\N ((getA kvs key).getD z) (.dt (zx7 kvs key)):=rfl
end
end L4
namespace L5
def xr (s:Nat):Nat:=if s % 2=0 then s+1 else s - 1
def hd (E:List Nat) (s:Nat):Nat:=E.getD s 0
def tl (E:List Nat) (s:Nat):Nat:=hd E (xr s)
def lf (L:List Int) (s:Nat):Int:=L.getD s 0
structure Net (n m:Nat) (E:List Nat) (S:List (List Nat)):Prop where
 lE:E.length=2 * m
 bE:∀ s,s < 2 * m->hd E s < n
 lS:S.length=n
 s1:∀ (v:Nat) l,S[v]?=some l->∀ s∈l,s < 2 * m/\tl E s=v
 s2:∀ s,s < 2 * m->∃ l,S[tl E s]?=some l/\s∈l
def lkp (lv:List (Nat×Nat)) (v:Nat):Option Nat:=(lv.find? λ p=>decide (p.1=v)).map (·.2)
structure Lev (n m:Nat) (E:List Nat) (L:List Int) (src:Nat) (lv:List (Nat×Nat)):Prop where
 nd:(lv.map (·.1)).Nodup
 bd:∀ p∈lv,p.1 < n
 l0:lkp lv src=some 0
 z0:∀ v,lkp lv v=some 0->v=src
 cl:∀ s,s < 2 * m->0 < lf L s->(lkp lv (tl E s)).isSome=true->(lkp lv (hd E s)).isSome=true
 pr:∀ v a,lkp lv v=some (a+1)->∃ s,s < 2 * m/\0 < lf L s/\hd E s=v/\lkp lv (tl E s)=some a
def Adm (E:List Nat) (L:List Int) (lv:List (Nat×Nat)) (s:Nat):Prop:=0 < lf L s/\∃ a,lkp lv (tl E s)=some a/\lkp lv (hd E s)=some (a+1)
inductive Rch (m:Nat) (E:List Nat) (L:List Int) (lv:List (Nat×Nat)) (t:Nat):Nat->Prop
|here:Rch m E L lv t t
|step {s:Nat}:s < 2 * m->Adm E L lv s->Rch m E L lv t (hd E s)->Rch m E L lv t (tl E s)
theorem Rch.mono {m:Nat} {E:List Nat} {L L':List Int} {lv:List (Nat×Nat)} {t v:Nat} (h:∀ s,s < 2 * m->Adm E L' lv s->Adm E L lv s) (r:Rch m E L' lv t v):Rch m E L lv t v:=by
 induction r with
|here=>exact .here
|step h1 h2 _ ih=>exact .step h1 (h _ h1 h2) ih
structure Tri (m:Nat) (E:List Nat) (S:List (List Nat)) (L:List Int) (lv:List (Nat×Nat)) (t:Nat) (TT:List (List Nat)):Prop where
 len:TT.length=S.length
 pre:∀ (v:Nat) l,TT[v]?=some l->∃ k,S[v]?=some k/\l <+: k
 vain:∀ (v:Nat) l k,TT[v]?=some l->S[v]?=some k->∀ (j:Nat) s,l.length<=j->k[j]?=some s->¬(Adm E L lv s/\Rch m E L lv t (hd E s))
theorem Tri.mono {m:Nat} {E:List Nat} {S:List (List Nat)} {L L':List Int} {lv:List (Nat×Nat)} {t:Nat} {TT:List (List Nat)} (h:∀ s,s < 2 * m->Adm E L' lv s->Adm E L lv s) (hS:∀ (v:Nat) k,S[v]?=some k->∀ s∈k,s < 2 * m) (r:Tri m E S L lv t TT):Tri m E S L' lv t TT :=
 ⟨r.len,r.pre,λ v l k h1 h2 j s hj hs z=>r.vain v l k h1 h2 j s hj hs ⟨h s (hS v k h2 s (List.mem_of_getElem? hs)) z.1,z.2.mono h⟩⟩
theorem Tri.all {m:Nat} {E:List Nat} {S:List (List Nat)} {L:List Int} {lv:List (Nat×Nat)} {t:Nat}:Tri m E S L lv t S :=
 ⟨rfl,λ v l h=>⟨l,h,List.prefix_refl _⟩,λ v l k h1 h2 j s hj hs=>by
  rw [h1] at h2;cases h2
  rw [List.getElem?_eq_none hj] at hs;cases hs⟩
end L5
namespace L5
def term (E:List Nat) (L:List Int) (v k:Nat):Int:=(if hd E (2 * k)=v then lf L (2 * k+1) else 0) - (if hd E (2 * k+1)=v then lf L (2 * k+1) else 0)
def bal (m:Nat) (E:List Nat) (L:List Int) (v:Nat):Int:=((List.range m).map (term E L v)).sum
structure Cap (m:Nat) (most:Nat->Int) (L:List Int):Prop where
 len:L.length=2 * m
 nn:∀ s,s < 2 * m->0<=lf L s
 sm:∀ k,k < m->lf L (2 * k)+lf L (2 * k+1)=most k
end L5
namespace L5
open PySem PySem.Spec PyProof.Rows L2 L3 L4
def nI (x:Nat):D:=.int (x:Int)
end L5
namespace L5
structure Bfs (n m:Nat) (E:List Nat) (L:List Int) (src:Nat) (lv:List (Nat×Nat)) (row:List Nat) (lev:Nat):Prop where
 nd:(lv.map (·.1)).Nodup
 bd:∀ p∈lv,p.1 < n
 l0:lkp lv src=some 0
 z0:∀ v,lkp lv v=some 0->v=src
 ro:∀ v∈row,lkp lv v=some lev
 le:∀ v b,lkp lv v=some b->b<=lev/\(b=lev->v∈row)
 cl:∀ v b,lkp lv v=some b->b < lev->∀ s,s < 2 * m->tl E s=v->0 < lf L s->(lkp lv (hd E s)).isSome=true
 pr:∀ v a,lkp lv v=some (a+1)->∃ s,s < 2 * m/\0 < lf L s/\hd E s=v/\lkp lv (tl E s)=some a
theorem Bfs.start {n m:Nat} {E:List Nat} {L:List Int} {src:Nat} (h:src < n):Bfs n m E L src [(src,0)] [src] 0:=by
 have e:∀ v,lkp [(src,0)] v=if src=v then some 0 else none:=λ v=>by
  by_cases z:src=v
  ·simp [lkp,z]
  ·simp [lkp,z]
 refine ⟨by simp,λ p hp=>?_,by rw [e];simp,λ v hv=>?_,λ v hv=>?_,λ v b hv=>?_,λ v b _ hb=>by lia,λ v a hv=>?_⟩
 ·simp at hp;subst hp;exact h
 ·rw [e] at hv
  split at hv
  ·rename_i z;exact z.symm
  ·cases hv
 ·simp at hv;subst hv;rw [e];simp
 ·rw [e] at hv
  split at hv
  ·rename_i z;cases hv;exact ⟨Nat.le_refl _,λ _=>by simp [z]⟩
  ·cases hv
 ·rw [e] at hv
  split at hv <;> cases hv
structure Mid (n m:Nat) (E:List Nat) (L:List Int) (lv:List (Nat×Nat)) (lev:Nat) (lv1:List (Nat×Nat)) (beh:List Nat):Prop where
 nd:(lv1.map (·.1)).Nodup
 bd:∀ p∈lv1,p.1 < n
 old:∀ v b,lkp lv v=some b->lkp lv1 v=some b
 new:∀ v b,lkp lv1 v=some b->lkp lv v=some b \/ (b=lev+1/\v∈beh)
 ro:∀ v∈beh,lkp lv1 v=some (lev+1)
 pr:∀ v a,lkp lv1 v=some (a+1)->∃ s,s < 2 * m/\0 < lf L s/\hd E s=v/\lkp lv1 (tl E s)=some a
 len:lv1.length=lv.length+beh.length
theorem Mid.start {n m:Nat} {E:List Nat} {L:List Int} {src:Nat} {lv:List (Nat×Nat)} {row:List Nat} {lev:Nat} (h:Bfs n m E L src lv row lev):Mid n m E L lv lev lv [] :=
 ⟨h.nd,h.bd,λ _ _ z=>z,λ _ _ z=>.inl z,λ v hv=>by simp at hv,h.pr,by simp⟩
end L5
namespace L5
open PySem PySem.Spec PyProof.Rows L2 L3 L4
end L5
namespace L5
structure Up (m:Nat) (most:Nat->Int) (E:List Nat) (L L':List Int) (src snk:Nat):Prop where
 cap:Cap m most L'
 eqb:∀ v,v≠src->v≠snk->bal m E L' v=bal m E L v
 out:∀ k,k < m->hd E (2 * k+1)=src->lf L (2 * k+1)<=lf L' (2 * k+1)
 inn:∀ k,k < m->hd E (2 * k)=snk->lf L (2 * k+1)<=lf L' (2 * k+1)
 bs:bal m E L' src<=bal m E L src
 bt:bal m E L snk<=bal m E L' snk
theorem Up.trans {m:Nat} {most:Nat->Int} {E:List Nat} {L L' L2:List Int} {src snk:Nat} (h:Up m most E L L' src snk) (k:Up m most E L' L2 src snk):Up m most E L L2 src snk :=
 ⟨k.cap,λ v a b=>(k.eqb v a b).trans (h.eqb v a b),λ i a b=>Int.le_trans (h.out i a b) (k.out i a b),λ i a b=>Int.le_trans (h.inn i a b) (k.inn i a b),Int.le_trans k.bs h.bs,Int.le_trans h.bt k.bt⟩
end L5
namespace L5
open PySem PySem.Spec PyProof.Rows L2 L3 L4
abbrev Ar:=Nat×Nat×Int
def zko (A:List Ar):List Nat:=A.flatMap λ a=>[a.2.1,a.1]
def zu91 (A:List Ar) (f:List Int):List Int:=(A.zip f).flatMap λ x=>[x.1.2.2 - x.2,x.2]
theorem Net.nil (n:Nat):Net n 0 [] (List.replicate n []):=⟨rfl,λ s hs=>by lia,by simp,(λ v l h s hs=>by
 rw [List.getElem?_replicate] at h
 split at h
 ·cases h;simp at hs
 ·cases h),λ s hs=>by lia⟩
theorem zfo:∀ {A:List Ar} {k:Nat} {a:Ar},A[k]?=some a->hd (zko A) (2 * k)=a.2.1/\hd (zko A) (2 * k+1)=a.1
|[],k,a,h=>by simp at h
|b :: r,0,a,h=>by simp at h;subst h;simp [zko,hd]
|b :: r,k+1,a,h=>by
  have:=zfo (A:=r) (k:=k) (by simpa using h)
  rw [show 2 * (k+1)=2 * k+1+1 by lia]
  simp [zko,hd] at this ⊢;exact this
def zlb1 (A:List Ar) (k:Nat):Int:=((A[k]?).map λ a=>a.2.2).getD 0
structure Best (n:Nat) (A:List Ar) (f:List Int) (src snk:Nat) (L:List Int) (side:List Nat):Prop where
 up:Up A.length (zlb1 A) (zko A) (zu91 A f) L src snk
 inn:src∈side
 out:snk ∉ side
 bd:∀ v∈side,v < n
 ris:side.Pairwise (· < ·)
 cl:∀ s,s < 2 * A.length->0 < lf L s->tl (zko A) s∈side->hd (zko A) s∈side
 rc:∃ lv,Lev n A.length (zko A) L src lv/\∀ v,v∈side ↔ (lkp lv v).isSome=true
def sm (m:Nat) (g:Nat->Int):Int:=((List.range m).map g).sum
theorem zsd (m:Nat) (g:Nat->Int):sm (m+1) g=sm m g+g m:=by
 unfold sm
 rw [List.range_succ,List.map_append,List.sum_append]
 simp
theorem zs6 {m:Nat} {g h:Nat->Int} (e:∀ k,k < m->g k=h k):sm m g=sm m h:=by
 unfold sm
 rw [List.map_congr_left λ k hk=>e k (List.mem_range.mp hk)]
theorem zxt (g h:Nat->Int):∀ m,sm m (λ k=>g k+h k)=sm m g+sm m h
|0=>rfl
|m+1=>by rw [zsd,zsd,zsd,zxt g h m];lia
theorem zrk:∀ m,sm m (λ _=>0)=0
|0=>rfl
|m+1=>by rw [zsd,zrk m];rfl
theorem ze01 {j:Nat} (d:Int):∀ {m:Nat},j < m->sm m (λ k=>if k=j then d else 0)=d
|0,h=>by lia
|m+1,h=>by
  rw [zsd]
  by_cases z:m=j
  ·subst z
   rw [if_pos rfl,zs6 (h:=λ _=>0) λ k hk=>if_neg (by lia),zrk];lia
  ·rw [ze01 d (m:=m) (by lia),if_neg z];lia
def trm (u v:Nat) (x:Int) (w:Nat):Int:=(if v=w then x else 0) - (if u=w then x else 0)
def bl (m:Nat) (eu ev:Nat->Nat) (x:Nat->Int) (w:Nat):Int:=sm m λ k=>trm (eu k) (ev k) (x k) w
def flux (m:Nat) (eu ev:Nat->Nat) (x:Nat->Int) (side:List Nat):Int:=sm m λ k=>(if ev k∈side then x k else 0) - (if eu k∈side then x k else 0)
theorem zem (m:Nat) (eu ev:Nat->Nat) (x:Nat->Int):∀ {side:List Nat},side.Nodup->flux m eu ev x side=(side.map (bl m eu ev x)).sum
|[],_=>by
  unfold flux
  rw [zs6 (h:=λ _=>0) λ k _=>by simp,zrk];rfl
|w :: r,h=>by
  obtain ⟨h1,h2⟩:=List.nodup_cons.mp h
  rw [List.map_cons,List.sum_cons,<- zem m eu ev x h2]
  unfold bl flux
  rw [<- zxt]
  refine zs6 λ k _=>?_
  unfold trm
  have a:∀ z:Nat,(if z∈w :: r then x k else 0)=(if z=w then x k else 0)+(if z∈r then x k else 0):=λ z=>by
   by_cases e:z=w
   ·subst e;simp [h1]
   ·simp [e]
  rw [a,a];lia
theorem zsr {g:Nat->Int} {s:Nat}:∀ {side:List Nat},side.Nodup->s∈side->(∀ w∈side,w≠s->g w=0)->(side.map g).sum=g s
|[],_,h,_=>by simp at h
|w :: r,nd,h,z=>by
  obtain ⟨h1,h2⟩:=List.nodup_cons.mp nd
  rw [List.map_cons,List.sum_cons]
  by_cases e:w=s
  ·subst e
   have:∀ l:List Nat,(∀ y∈l,g y=0)->(l.map g).sum=0:=by
    intro l
    induction l with
   |nil=>intro _;rfl
   |cons y t ih=>intro k;rw [List.map_cons,List.sum_cons,k y (by simp),ih λ u hu=>k u (by simp [hu])];rfl
   rw [this r λ y hy=>z y (by simp [hy]) λ q=>h1 (q ▸ hy)];lia
  ·have hs:s∈r:=by
    rcases List.mem_cons.mp h with q|q
    ·exact absurd q.symm e
    ·exact q
   rw [zsr h2 hs λ y hy=>z y (by simp [hy]),z w (by simp) e];lia
theorem zl01 {m:Nat} {eu ev:Nat->Nat} {x:Nat->Int} {s t:Nat} {side:List Nat} (nd:side.Nodup) (hs:s∈side) (ht:t ∉ side) (h:∀ w,w≠s->w≠t->bl m eu ev x w=0):bl m eu ev x s=flux m eu ev x side:=by
 rw [zem m eu ev x nd,zsr nd hs λ w hw hn=>h w hn λ q=>ht (q ▸ hw)]
def zwa1 (m:Nat) (cap x:Nat->Int):Prop:=∀ k,k < m->0<=x k/\x k<=cap k
def aU (A:List Ar) (k:Nat):Nat:=((A[k]?).map λ a=>a.1).getD 0
def aV (A:List Ar) (k:Nat):Nat:=((A[k]?).map λ a=>a.2.1).getD 0
theorem zd71 {A:List Ar} {L:List Int} (w:Nat):bal A.length (zko A) L w=bl A.length (aU A) (aV A) (λ k=>lf L (2 * k+1)) w:=by
 show sm _ _=sm _ _
 refine zs6 λ k hk=>?_
 have ga:A[k]?=some A[k]:=List.getElem?_eq_getElem hk
 obtain ⟨e1,e2⟩:=zfo ga
 unfold term trm aU aV
 rw [e1,e2,ga];rfl
theorem zqq {l:List Nat} (h:l.Pairwise (· < ·)):l.Nodup:=h.imp λ h=>by lia
theorem Best.bl {n:Nat} {A:List Ar} {f L:List Int} {src snk:Nat} {side:List Nat} (b:Best n A f src snk L side) (h:∀ v,v≠src->v≠snk->bal A.length (zko A) L v=0):L5.bl A.length (aU A) (aV A) (λ k=>lf L (2 * k+1)) src=flux A.length (aU A) (aV A) (λ k=>lf L (2 * k+1)) side :=
 zl01 (zqq b.ris) b.inn b.out λ w h1 h2=>by rw [<- zd71];exact h w h1 h2
abbrev Pr:=Nat×Nat
def pU (P:List Pr) (k:Nat):Nat:=((P[k]?).map λ a=>a.1).getD 0
def pV (P:List Pr) (k:Nat):Nat:=((P[k]?).map λ a=>a.2).getD 0
def fx (f:List Int) (k:Nat):Int:=(f[k]?).getD 0
def nb (P:List Pr) (f:List Int) (w:Nat):Int:=bl P.length (pU P) (pV P) (fx f) w
theorem zc3 {κ:Type} [DecidableEq κ] (p:κ×D) (r:List (κ×D)) (k:κ):getA (p :: r) k=if p.1=k then some p.2 else getA r k:=by
 unfold getA
 rw [List.find?_cons]
 by_cases e:p.1=k
 ·simp [e]
 ·simp [e]
theorem zmj {κ:Type} [DecidableEq κ] (k k':κ) (d:D):∀ l:List (κ×D),getA (l++[(k,d)]) k'=match getA l k' with|some x=>some x|none=>if k=k' then some d else none
|[]=>by
  rw [List.nil_append,zc3]
  rfl
|p :: r=>by
  rw [List.cons_append,zc3,zc3,zmj k k' d r]
  by_cases e:p.1=k'
  ·rw [if_pos e,if_pos e]
  ·rw [if_neg e,if_neg e]
theorem zvl {κ:Type} [DecidableEq κ] (k:κ):∀ l:List (κ×D),(l.any λ kv=>decide (kv.1=k))=(getA l k).isSome
|[]=>rfl
|p :: r=>by
  rw [List.any_cons,zc3,zvl k r]
  by_cases e:p.1=k
  ·simp [e]
  ·simp [e]
theorem zwi {κ:Type} [DecidableEq κ] (k k':κ) (d:D):∀ l:List (κ×D),getA (l.map λ kv=>if kv.1=k then (kv.1,d) else kv) k'=if k=k' then (getA l k').map (λ _=>d) else getA l k'
|[]=>by simp [getA]
|p :: r=>by
  rw [List.map_cons,zc3,zc3,zwi k k' d r]
  by_cases e1:p.1=k
  ·rw [if_pos e1]
   by_cases e2:k=k'
   ·rw [if_pos (e1.trans e2),if_pos e2,if_pos (e1.trans e2)];rfl
   ·have:¬ p.1=k':=λ z=>e2 (e1.symm.trans z)
    rw [if_neg this,if_neg e2,if_neg e2,if_neg this]
  ·rw [if_neg e1]
   by_cases e2:p.1=k'
   ·have:¬ k=k':=λ z=>e1 (e2.trans z.symm)
    rw [if_pos e2,if_neg this,if_pos e2]
   ·rw [if_neg e2,if_neg e2]
theorem zho {κ:Type} [DecidableEq κ] (kvs:List (κ×D)) (k k':κ) (d:D):getA (putD kvs k d) k'=if k=k' then some d else getA kvs k':=by
 unfold putD
 rw [zvl]
 by_cases e:k=k'
 ·subst e
  rw [if_pos rfl]
  cases h:getA kvs k with
 |some x=>rw [if_pos (by simp),zwi,if_pos rfl,h];rfl
 |none=>rw [if_neg (by simp),zmj,h];simp
 ·rw [if_neg e]
  split
  ·rw [zwi,if_neg e]
  ·rw [zmj]
   cases getA kvs k' with
  |none=>simp [e]
  |some y=>rfl
theorem zhw {κ:Type} [DecidableEq κ] (kvs:List (κ×D)) (k:κ) (d:D):(putD kvs k d).length<=kvs.length+1:=by
 unfold putD
 split
 ·rw [List.length_map];lia
 ·simp
def kP (u v:Nat):List Key:=[.inl (u:Int),.inl (v:Int)]
def Th (kvs:List (List Key×D)) (P:List Pr):Prop:=∀ (u v:Nat) d,getA kvs (kP u v)=some d->∃ j:Nat,d=nI j/\P[j]?=some (u,v)
theorem Th.nil:Th [] []:=λ u v d h=>by simp [getA] at h
structure Dr (n src snk:Nat) (P:List Pr) (f sl:List Int) (kvs:List (List Key×D)):Prop where
 lf:f.length=P.length
 ls:sl.length=P.length
 lk:kvs.length<=P.length
 bd:∀ p∈P,p.1 < n/\p.2 < n
 f0:∀ x∈f,0<=x
 s0:∀ x∈sl,0<=x
 th:Th kvs P
theorem Dr.nil (n src snk:Nat):Dr n src snk [] [] [] []:=⟨rfl,rfl,Nat.le_refl _,λ p h=>by simp at h,λ p h=>by simp at h,λ p h=>by simp at h,Th.nil⟩
theorem zrq {f:Int->Int->Int} {fl gl:Str} {C a:Addr} {ts:List (Str×T)} {di dy dz:DE} {E:DEnds} {δ:DSt} {ds:List D} {kvs:List (List Key×D)} {z y c:Int} {yd zd:D} {key:List Key} {j:Nat}
  (h0:δ[0]?=some (.io a (.ob C ts))) (hl:ts.lookup fl=some (.li ds)) (hg:ts.lookup gl=some (.dt kvs)) (ne:fl≠gl) (hi:∀ Q:D->Prop,Q (.int z)->di δ Q) (hy:∀ Q:D->Prop,Q yd->dy δ Q) (hz:∀ Q:D->Prop,Q zd->dz δ Q)
  (z0:0<=z) (gy:ds[z.toNat]?=some (.int y)) (hj:ixN ds.length z=some j) (hk:keyT yd=some key) (hc:(getA kvs key).getD zd=.int c)
  (q:E.nx (δ.set 0 (.io a (.ob C (putA fl (.li (ds.set j (.int (f y c)))) (putA gl (.dt (zx7 kvs key)) ts)))))) :
  zuj f (pFld C fl (pVar 0)) di (pFld C gl (pVar 0)) dy dz E δ:=by
 have l0:0 < δ.length:=(List.getElem?_eq_some_iff.mp h0).1
 have m1:∀ (p:Pth) (u:T) (N:DSt->Prop),mutS δ 0 p u N=N (δ.set 0 (.io a (setP (.ob C ts) p u))):=λ p u N=>by simp only [mutS,h0]
 have e1:setP (.ob C ts) [.fl gl] (.dt (zx7 kvs key))=.ob C (putA gl (.dt (zx7 kvs key)) ts):=by simp only [setP,hg]
 have e2:∀ u,setP (.ob C (putA gl (.dt (zx7 kvs key)) ts)) [.fl fl] u=.ob C (putA fl u (putA gl (.dt (zx7 kvs key)) ts)):=λ u=>by
  simp only [setP,zu8 ne,hl]
 have fin:mutS δ 0 [.fl gl] (.dt (zx7 kvs key)) λ δ1=>mutS δ1 0 [.fl fl] (.li (ds.set j (.int (f y c)))) E.nx:=by
  rw [m1,e1]
  have:(δ.set 0 (.io a (.ob C (putA gl (.dt (zx7 kvs key)) ts))))[0]?=some (.io a (.ob C (putA gl (.dt (zx7 kvs key)) ts))):=List.getElem?_set_self l0
  simp only [mutS,this,e2,List.set_set]
  exact q
 have pv:∀ (g:Str) (u:T) (Q:Nat->Pth->T->Prop),ts.lookup g=some u->Q 0 [.fl g] u->pFld C g (pVar 0) δ Q:=λ g u Q hu hq=>⟨_,_,h0,rfl,rfl,u,hu,hq⟩
 refine pv fl _ _ hl (hi _ ⟨z0,_,gy,pv gl _ _ hg ⟨rfl,hy _ (hz _ ⟨key,hk,?_⟩)⟩⟩)
 rw [hc]
 exact ⟨j,hj,⟨rfl,fl,gl,rfl,rfl,ne⟩,fin⟩
end L5
namespace L4
open PySem PySem.Spec PyProof.Rows L2 L3
abbrev DSp2:=D->List D->List D->List D->(D->List D->List D->Prop)->Prop
def spL2 (K:Fg) (p:DSp2):Sp:=λ vs H Q _=>∃ (F:Hp) (v0:V) (a b:Addr) (ws xs ys:List V) (d0:D) (X Y es:List D) (Qd:D->List D->List D->Prop),vs=v0 :: .ref a :: .ref b :: ws/\Same F H/\Is K F v0 d0/\IsAll K F ws es/\a≠b /\
 H a=some (.lst xs)/\F a=none/\IsAll K F xs X/\H b=some (.lst ys)/\F b=none/\IsAll K F ys Y/\p d0 X Y es Qd/\∀ r X' Y',Qd r X' Y'->∀ v F' H' xs' ys',(∀ c o,c≠a->c≠b->H c=some o->H' c=some o)->Same F F'->Same F' H' ->
  (∀ c,H c≠none->F c=none->F' c=none)->H' a=some (.lst xs')->IsAll K F' xs' X'->H' b=some (.lst ys')->IsAll K F' ys' Y'->Is K F' v r->Q v H'
def zyk (N:List Str) (a b:Addr) (d0:D) (X Y es:List D):DSt:=.sh d0 :: .io a (.li X) :: .io b (.li Y) :: (es.map Sl.sh++List.replicate (N.length - (es.length+3)) .un)
def ret2 (a b:Addr) (Qd:D->List D->List D->Prop) (r:T) (δ:DSt):Prop:=∃ rd X' Y',toD r=some rd/\δ[1]?=some (.io a (.li X'))/\δ[2]?=some (.io b (.li Y'))/\Qd rd X' Y'
section
variable {P:Program} {w:World} {K:Fg} {mg:Str->Option Value} {base:Heap}
theorem ztx {qual:Str} {st:Stmt} {N:List Str} {k:Nat} {p:DSp2}
  (body:∀ (f:Addr) (cdv:Value) (A:Around) (outer:List Env) (s:Shared) (H:Hp) (E:XK),Room k (A.deeper (envOfC qual (zh0 st) s.heap.objs.size f cdv))->∃ t d,PSs (cxOf CX0 P w K mg base N qual (zh0 st) f cdv A outer s H E).nox (zj2 st) t/\RfS K t d/\∀ d0 X Y es Qd a b,p d0 X Y es Qd->d { nx:=λ _=>False,rt:=ret2 a b Qd } (zyk N a b d0 X Y es)) :
  zr6 P w K mg base qual st N k (spL2 K p):=by
 intro f cdv A outer s H vs Q E hr h
 obtain ⟨F,v0,a,b,ws,xs,ys,d0,X,Y,es,Qd,rfl,sf,i0,iw,ne,ha,fa,ia,hb,fb,ib,hp,hq⟩:=h
 obtain ⟨t,d,h1,h2,h3⟩:=body f cdv A outer s H E hr
 have el:=iw.dlen
 have rs:RS K ⟨F,H,[a,b]⟩ F H (L2.start N (v0 :: .ref a :: .ref b :: ws)) (zyk N a b d0 X Y es) (λ i=>if i=1 then [a] else if i=2 then [b] else []):=by
  have slot:∀ (i:Nat) sl,(zyk N a b d0 X Y es)[i]?=some sl->(i=0/\sl=.sh d0) \/ (i=1/\sl=.io a (.li X)) \/ (i=2/\sl=.io b (.li Y)) \/ (3<=i/\((∃ d v,sl=.sh d/\ws[i - 3]?=some v/\Is K F v d) \/ sl=.un)):=λ i sl e=>by
   unfold zyk at e
   match i,e with
  |0,e=>cases e;exact .inl ⟨rfl,rfl⟩
  |1,e=>cases e;exact .inr (.inl ⟨rfl,rfl⟩)
  |2,e=>cases e;exact .inr (.inr (.inl ⟨rfl,rfl⟩))
  |i+3,e =>
    simp only [List.getElem?_cons_succ] at e
    refine .inr (.inr (.inr ⟨by lia,?_⟩))
    by_cases hi:i < es.length
    ·rw [List.getElem?_append_left (by simpa using hi),List.getElem?_map] at e
     obtain ⟨d,hd,rfl⟩:=Option.map_eq_some_iff.mp e
     obtain ⟨v,hv,iv⟩:=iw.dget hd
     exact .inl ⟨d,v,rfl,by simpa using hv,iv⟩
    ·rw [List.getElem?_append_right (by simpa using hi),List.getElem?_replicate] at e
     split at e
     ·cases e;exact .inr rfl
     ·cases e
  have val:∀ (i:Nat) v,ws[i]?=some v->(L2.start N (v0 :: .ref a :: .ref b :: ws)).getD (i+3) none=some v:=λ i v e=>by
   have hi:=(List.getElem?_eq_some_iff.mp e).1
   unfold L2.start
   rw [List.getD_eq_getElem?_getD,List.getElem?_append_left (by simp;lia)]
   simp [e]
  have v1:∀ (i:Nat) v,(v0 :: .ref a :: .ref b :: ws)[i]?=some v->(L2.start N (v0 :: .ref a :: .ref b :: ws)).getD i none=some v:=λ i v e=>by
   have hi:=(List.getElem?_eq_some_iff.mp e).1
   unfold L2.start
   rw [List.getD_eq_getElem?_getD,List.getElem?_append_left (by simpa using hi),List.getElem?_map,e];rfl
  refine ⟨λ c o _ z=>z,λ _ _ z=>z,sf,λ c _ z=>z,λ c z=>z,by simp [L2.start,zyk,el],λ i x e=>?_,λ i sl e hs=>?_,λ i sl e ho c hc=>?_,λ i j sl sl' hij e1 e2 o1 o2 c hc hc2=>?_⟩
  ·rcases slot i _ e with ⟨rfl,z⟩|⟨rfl,z⟩|⟨rfl,z⟩|⟨hi,⟨d,v,z,hv,iv⟩|z⟩
   ·cases z;exact ⟨v0,v1 0 _ rfl,i0⟩
   ·cases z
   ·cases z
   ·cases z
    have:=val (i - 3) v hv
    rw [show i - 3+3=i by lia] at this
    exact ⟨v,this,iv⟩
   ·cases z
  ·rcases slot i _ e with ⟨rfl,z⟩|⟨rfl,z⟩|⟨rfl,z⟩|⟨hi,⟨d,v,z,hv,iv⟩|z⟩
   ·rw [z] at hs;cases hs
   ·rw [z];exact ⟨_,_,v1 1 _ rfl,rfl,.li ha fa ia,λ a' u z'=>by cases z';rfl,by simp⟩
   ·rw [z];exact ⟨_,_,v1 2 _ rfl,rfl,.li hb fb ib,λ a' u z'=>by cases z';rfl,by simp⟩
   ·rw [z] at hs;cases hs
   ·rw [z] at hs;cases hs
  ·rcases slot i _ e with ⟨rfl,z⟩|⟨rfl,z⟩|⟨rfl,z⟩|⟨hi,⟨d,v,z,hv,iv⟩|z⟩
   ·rw [z] at ho;cases ho
   ·simp at hc;subst hc;exact .inr ⟨by simp,λ t' z'=>by rw [z] at z';cases z'⟩
   ·simp at hc;subst hc;exact .inr ⟨by simp,λ t' z'=>by rw [z] at z';cases z'⟩
   ·rw [z] at ho;cases ho
   ·rw [z] at ho;cases ho
  ·rcases slot i _ e1 with ⟨rfl,z⟩|⟨rfl,z⟩|⟨rfl,z⟩|⟨hi,⟨d,v,z,hv,iv⟩|z⟩
   ·rw [z] at o1;cases o1
   ·simp at hc
    subst hc
    by_cases j2:j=2
    ·subst j2;simp at hc2;exact ne hc2
    ·simp [j2,Ne.symm hij] at hc2
   ·simp at hc
    subst hc
    by_cases j1:j=1
    ·subst j1;simp at hc2;exact ne hc2.symm
    ·simp [j1,Ne.symm hij] at hc2
   ·rw [z] at o1;cases o1
   ·rw [z] at o1;cases o1
 refine ⟨t,h1,h2 rs (h3 d0 X Y es Qd a b hp) ⟨λ _ z=>z.elim,λ _ z=>z.elim,λ _ z=>z.elim,λ {F' H' σ' δ' fps' v r fpr} res q=>?_⟩⟩
 obtain ⟨rd,X',Y',e0,e1,e2,qd⟩:=q
 obtain ⟨x1,t1,b1,b2,b3,b4,b5⟩:=res.rs.rt 1 _ e1 rfl
 obtain ⟨x2,t2,c1,c2,c3,c4,c5⟩:=res.rs.rt 2 _ e2 rfl
 cases b2
 cases c2
 have:=b4 a _ rfl
 subst this
 have:=c4 b _ rfl
 subst this
 obtain ⟨F2,s1,s2,s3,s4⟩:=zc51 res.rs.fh res.rt e0 res.nd
 generalize fps' 1=g1 at b3
 generalize fps' 2=g2 at c3
 cases b3 with
|li p1 p2 p3 =>
  cases c3 with
 |li q1 q2 q3 =>
   refine hq rd X' Y' qd v F2 H' _ _ (λ c o n1 n2 z=>res.rs.hh c o (by simp [n1,n2]) z) (res.rs.ff.trans s1) s2 (λ c hc fc=>?_) p1 (p3.mono s1) q1 (q3.mono s1) s4
   have:c ∉ fpr:=λ z=>hc (res.fr c z)
   rw [s3 c this]
   exact res.rs.nw c hc fc
theorem zl31 {p:DSp2} {ps:List Str} (h:∀ d0 X Y es Qd,p d0 X Y es Qd->es.length+3=ps.length):∀ vs H Q E,spL2 K p vs H Q E->vs.length=ps.length:=λ vs H Q E z=>by
 obtain ⟨F,v0,a,b,ws,xs,ys,d0,X,Y,es,Qd,rfl,sf,i0,iw,ne,ha,fa,ia,hb,fb,ib,hp,hq⟩:=z
 rw [<- h d0 X Y es Qd hp]
 simp [iw.dlen]
def zbm (n i j:Nat) (p:DSp2) (d0:DE) (dR:DF):DS:=λ E δ=>d0 δ λ x0=>∃ X Y,δ[i]?=some (.ow (.li X))/\δ[j]?=some (.ow (.li Y))/\i≠j/\dR δ λ es=>p x0 X Y es λ r X' Y'=>E.nx (((δ.set i (.ow (.li X'))).set j (.ow (.li Y'))).set n (.sh r))
theorem zqo {n i j:Nat} {p:DSp2} {E:XK} {t0:TE} {tR:TA} {d0:DE} {dR:DF} (h0:RfE K t0 d0) (hR:RfA K tR dR):RfS K (tAsg (zet (spL2 K p) [] E (zw2 t0 (zw2 (tVar i) (zw2 (tVar j) tR)))) (znd n)) (zbm n i j p d0 dR):=by
 intro B F H σ δ fps E' Z r h k
 refine h0 r.fh r.rv h λ x0 hx v0 F1 H1 e1 i1=>?_
 have r1:=r.grow e1
 obtain ⟨X,Y,ei,ej,nij,hx⟩:=hx
 obtain ⟨xa,ta,ga1,ga2,ga3,ga4,ga5⟩:=r1.rt i _ ei rfl
 obtain ⟨xb,tb,gb1,gb2,gb3,gb4,gb5⟩:=r1.rt j _ ej rfl
 cases ga2
 cases gb2
 have dj:=r1.dj i j _ _ nij ei ej rfl rfl
 generalize hfa:fps i=fa at ga3 dj
 generalize hfb:fps j=fb at gb3 dj
 cases ga3 with
|li a1 a2 a3 =>
  cases gb3 with
 |li b1 b2 b3 =>
   rename_i a xs b ys
   have ne:a≠b:=λ z=>dj a (by simp) (by simp [z])
   refine ⟨_,zp7 (F:=F) (H:=H) (δ:=δ) ga1,_,zp7 (F:=F) (H:=H) (δ:=δ) gb1,hR r1.fh r1.rv hx λ es hes ws F2 H2 e2 iw=>?_⟩
   have r2:=r1.grow e2
   have a2':F2 a=none:=e2.nw a (by rw [a1];simp) a2
   have b2':F2 b=none:=e2.nw b (by rw [b1];simp) b2
   have a1':=e2.h _ _ a1
   have b1':=e2.h _ _ b1
   refine ⟨F2,v0,a,b,ws,xs,ys,x0,X,Y,es,_,by simp,e2.fh,i1.mono e2.f,iw,ne,a1',a2',a3.mono e2.f,b1',b2',b3.mono e2.f,hes,λ rd X' Y' q v F3 H3 xs' ys' c1 c2 c3 c4 c5 c6 c7 c8 c9=>?_⟩
   have fa3:F3 a=none:=c4 a (by rw [a1'];simp) a2'
   have fb3:F3 b=none:=c4 b (by rw [b1'];simp) b2'
   have r3:=r2.upd2 (F2:=F3) (H2:=upd H3 b (.lst ys)) (t2:=.li X') (fp2:=[a]) ei rfl ga1 (λ c o hc z=>by
     rw [hfa] at hc
     by_cases cb:c=b
     ·subst cb;rw [zp0,<- b1'];exact z
     ·rw [zw0 cb];exact c1 c o (λ z'=>hc (by simp [z'])) cb z) c2 (λ c o z=>by
     have cb:c≠b:=λ z'=>by subst z';rw [fb3] at z;cases z
     rw [zw0 cb];exact c3 c o z) (λ c hc fc _=>c4 c hc fc) (λ c hc=>by
     by_cases cb:c=b
     ·subst cb;rw [zp0];simp
     ·rw [zw0 cb]
      by_cases ca:c=a
      ·subst ca;rw [c5];simp
      ·cases z:H2 c with
      |none=>exact absurd z hc
      |some o=>rw [c1 c o ca cb z];simp) (.li (by rw [zw0 ne];exact c5) fa3 c6) (by simp) (λ c hc=>.inl (by rw [hfa];exact hc)) (λ c hc z=>by
     rw [hfa] at hc
     simp at hc
     subst hc
     exact absurd fa3 z)
   have ej3:(δ.set i ((Sl.ow (.li X)).wth (.li X')))[j]?=some (.ow (.li Y)):=by rw [List.getElem?_set_ne nij];exact ej
   have fj:(if j=i then [a] else fps j)=[b]:=by simp [Ne.symm nij,hfb]
   have r4:=r3.upd2 (F2:=F3) (H2:=H3) (t2:=.li Y') (fp2:=[b]) ej3 rfl gb1 (λ c o hc z=>by
     rw [fj] at hc
     rw [zw0 (λ z'=>hc (by simp [z']))] at z
     exact z) (λ _ _ z=>z) c3 (λ c _ fc _=>fc) (λ c hc=>by
     by_cases cb:c=b
     ·subst cb;rw [c7];simp
     ·rw [zw0 cb] at hc;exact hc) (.li c7 fb3 c8) (by simp) (λ c hc=>.inl (by rw [fj];exact hc)) (λ c hc z=>by
     rw [fj] at hc
     simp at hc
     subst hc
     exact absurd fb3 z)
   exact k.nx (r4.setS c9) q
theorem zkp (n i j:Nat) (p:DSp2) (d0:DE) (dR:DF) (E:DEnds) (δ:DSt):zbm n i j p d0 dR E δ=(d0 δ λ x0=>∃ X Y,δ[i]?=some (.ow (.li X))/\δ[j]?=some (.ow (.li Y))/\i≠j/\dR δ λ es=>p x0 X Y es λ r X' Y'=>E.nx (((δ.set i (.ow (.li X'))).set j (.ow (.li Y'))).set n (.sh r))):=rfl
end
section
variable {K:Fg} {g:TG} {dg:DG} {tb:TS} {db:DS} {n:Nat}
end
section
variable {K:Fg} {t1 t2 t3 te:TE} {d1 d2 d3:DE} {dn:DN}
end
end L4
namespace L5
open PySem PySem.W PyProof.Rows
def zb81 (n:Nat) (p:Array Nat):Prop:=p.toList.Perm (List.range n)
section
variable {n:Nat} {lt:Nat->Nat->Bool} {cmp:Nat->Nat->(Bool->Shared->Prop)->Shared->Prop} {s:Shared} {p:Array Nat}
theorem zb81.size (h:zb81 n p):p.size=n:=by have:=h.length_eq;simpa using this
end
end L5
namespace L3
open PySem PySem.W PySem.Spec PyProof.Rows L2 L5
section
variable {s:Shared} {w:World} {prog:Program} {E:Value->Shared->Prop} {A:Around}
inductive TupRows (h:Heap):List Value->List (List Int)->Prop
|nil:TupRows h [] []
|cons {v:Value} {r:List Int} {vs:List Value} {rows:List (List Int)}:(∃ b o its k,v=.ref b/\h.get? b=some o/\o.cls=.type "tuple"/\o.data=.seq its k/\IntsAre its.toList r/\r≠[])->TupRows h vs rows->TupRows h (v :: vs) (r :: rows)
theorem TupRows.mono {h h':Heap} {vs:List Value} {rows:List (List Int)} (t:TupRows h vs rows) (k:∀ b o,h.get? b=some o->o.cls=.type "tuple"->h'.get? b=some o):TupRows h' vs rows:=by
 induction t with
|nil=>exact .nil
|cons a t ih =>
  obtain ⟨b,o,its,n,e1,e2,e3,e4,e5,e6⟩:=a
  exact .cons ⟨b,o,its,n,e1,k b o e2 e3,e3,e4,e5,e6⟩ ih
theorem TupRows.at {h:Heap}:∀ {vs:List Value} {rows:List (List Int)},TupRows h vs rows->∀ {i:Nat},i < vs.length->∃ b o its k,vs.getD i .none=.ref b/\h.get? b=some o/\o.cls=.type "tuple"/\o.data=.seq its k/\IntsAre its.toList (rows.getD i [])/\rows.getD i []≠[]
|_,_,.nil,i,hi=>by simp at hi
|_,_,.cons a t,0,_=>a
|_,_,.cons a t,i+1,hi=>by simpa using TupRows.at t (i:=i) (by simpa using hi)
end
inductive RowsV (K:Fg) (H:Hp):List V->List (List Int)->Prop
|nil:RowsV K H [] []
|cons {b:Addr} {r:List Int} {xs:List V} {rows:List (List Int)}:SqT K H b (r.map V.int)->r≠[]->RowsV K H xs rows->RowsV K H (.ref b :: xs) (r :: rows)
theorem RowsV.len {K:Fg} {H:Hp} {xs:List V} {rows:List (List Int)} (h:RowsV K H xs rows):xs.length=rows.length:=by
 induction h with
|nil=>rfl
|cons _ _ _ ih=>simp [ih]
theorem Vals.getP {xs:List V} {us:List Value} (h:Vals xs us) {i:Nat} (hi:i < xs.length):RelV (xs.getD i .non) (us.getD i .none):=by
 obtain ⟨u,e,r⟩:=Vals.get h (List.getElem?_eq_getElem hi)
 rw [List.getD_eq_getElem?_getD,List.getD_eq_getElem?_getD,List.getElem?_eq_getElem hi,e]
 exact r
end L3
namespace L4
open PySem PySem.Spec PyProof.Rows L2 L3
section
variable {K:Fg}
end
end L4
namespace L3
open PySem PySem.Spec PyProof.Rows L2
section
variable {s:Shared} {w:World} {prog:Program} {E:Value->Shared->Prop} {A:Around}
end
section
variable {X:Cx} {tg:Expr}
end
end L3
namespace L4
open PySem PySem.Spec PyProof.Rows L2 L3
section
variable {K:Fg} {w:World}
end
section
variable {K:Fg} {g:TG} {dg:DG} {tb:TS} {db:DS} {n:Nat} {B:Bs} {F H:Hp} {σ:L2.St} {δ:DSt} {fps:Nat->List Addr}
def ioF (δ:DSt) (fps:Nat->List Addr):List Addr:=(List.range δ.length).flatMap λ i=>match (δ[i]?:Option Sl) with
|some (.io _ _)=>fps i
|_=>[]
theorem zsm {a:Addr}:a∈ioF δ fps ↔ ∃ (i:Nat) (b:Addr) (t:T),δ[i]?=some (.io b t)/\a∈fps i:=by
 unfold ioF
 rw [List.mem_flatMap]
 constructor
 ·rintro ⟨i,_,h⟩
  split at h
  ·rename_i b t e;exact ⟨i,b,t,e,h⟩
  ·simp at h
 ·rintro ⟨i,b,t,e,h⟩
  refine ⟨i,List.mem_range.mpr (List.getElem?_eq_some_iff.mp e).1,?_⟩
  rw [e];exact h
theorem RS.rebase (r:RS K B F H σ δ fps):∃ B':Bs,RS K B' F H σ δ fps/\B'.F0=F/\(∀ a o,H a=some o->(∀ (i:Nat) s,δ[i]?=some s->s.own=true->a ∉ fps i)->B'.H0 a=some o/\a ∉ B'.G) /\
  (∀ {F2 H2:Hp} {σ2:L2.St} {δ2:DSt} {fps2:Nat->List Addr},RS K B' F2 H2 σ2 δ2 fps2->RS K B F2 H2 σ2 δ2 fps2)/\∀ a,B'.H0 a=none->B.H0 a=none:=by
 classical
 have ow:∀ a,(∃ (i:Nat) (t:T),δ[i]?=some (.ow t)/\a∈fps i)->B.H0 a=none:=λ a ⟨i,t,e,h⟩=>by
  rcases r.fr i _ e rfl a h with z|⟨_,z⟩
  ·exact z
  ·exact absurd rfl (z t)
 have io:∀ a,a∈ioF δ fps->B.H0 a=none \/ a∈B.G:=λ a h=>by
  obtain ⟨i,b,t,e,h⟩:=zsm.mp h
  rcases r.fr i _ e rfl a h with z|⟨z,_⟩
  ·exact .inl z
  ·exact .inr z
 let B':Bs:=⟨F,λ a=>if ∃ (i:Nat) (t:T),δ[i]?=some (.ow t)/\a∈fps i then none else H a,ioF δ fps⟩
 have hn:∀ a,B'.H0 a=none->B.H0 a=none:=λ a h=>by
  by_cases z:∃ (i:Nat) (t:T),δ[i]?=some (.ow t)/\a∈fps i
  ·exact ow a z
  ·have h:(if ∃ (i:Nat) (t:T),δ[i]?=some (.ow t)/\a∈fps i then none else H a)=none:=h
   rw [if_neg z] at h
   cases q:B.H0 a with
  |none=>rfl
  |some o=>exact absurd h (r.al a (by rw [q];simp))
 have hs:∀ a o,B'.H0 a=some o->H a=some o:=λ a o h=>by
  have h:(if ∃ (i:Nat) (t:T),δ[i]?=some (.ow t)/\a∈fps i then none else H a)=some o:=h
  split at h
  ·cases h
  ·exact h
 have hp:∀ a o,H a=some o->B.H0 a≠none->B'.H0 a=some o:=λ a o h q=>by
  show (if ∃ (i:Nat) (t:T),δ[i]?=some (.ow t)/\a∈fps i then none else H a)=some o
  rw [if_neg (λ z=>q (ow a z))];exact h
 refine ⟨B',⟨λ b o _ e=>hs b o e,λ _ _ e=>e,r.fh,λ b _ e=>e,λ b e q=>?_,r.len,r.sh,r.rt,λ i s e o a ha=>?_,r.dj⟩,rfl,λ a o h q=>⟨?_,λ z=>?_⟩,λ {F2 H2 σ2 δ2 fps2} r2=>⟨λ b o hb e=>?_,r.ff.trans r2.ff,r2.fh,λ b h1 h2=>?_,λ b h1=>?_,r2.len,r2.sh,r2.rt,λ i s e o a ha=>?_,r2.dj⟩,hn⟩
 ·cases z:B'.H0 b with
 |none=>exact e z
 |some o=>rw [hs b o z] at q;cases q
 ·cases s with
 |ow t =>
   refine .inl ?_
   show (if ∃ (i:Nat) (t:T),δ[i]?=some (.ow t)/\a∈fps i then none else H a)=none
   rw [if_pos ⟨i,t,e,ha⟩]
 |io b t=>exact .inr ⟨zsm.mpr ⟨i,b,t,e,ha⟩,λ t z=>by cases z⟩
 |un=>cases o
 |sh d=>cases o
 |bo t=>cases o
 ·show (if ∃ (i:Nat) (t:T),δ[i]?=some (.ow t)/\a∈fps i then none else H a)=some o
  rw [if_neg (λ ⟨i,t,e,ha⟩=>q i _ e rfl ha)];exact h
 ·obtain ⟨i,b,t,e,ha⟩:=zsm.mp z
  exact q i _ e rfl ha
 ·have h1:=r.hh b o hb e
  refine r2.hh b o (λ z=>?_) (hp b o h1 (by rw [e];simp))
  rcases io b z with y|y
  ·rw [e] at y;cases y
  ·exact hb y
 ·have h3:=r.nw b h1 h2
  refine r2.nw b ?_ h3
  cases z:H b with
 |none=>exact absurd z (r.al b h1)
 |some o=>rw [hp b o z h1];simp
 ·refine r2.al b ?_
  cases z:H b with
 |none=>exact absurd z (r.al b h1)
 |some o=>rw [hp b o z h1];simp
 ·rcases r2.fr i s e o a ha with z|⟨z,y⟩
  ·exact .inl (hn a z)
  ·rcases io a z with q|q
   ·exact .inl q
   ·exact .inr ⟨q,y⟩
def zx81 (i:Nat) (dg:DG) (db:DS):DS:=λ E δ=>∃ ds,δ[i]?=some (.bo (.li ds))/\∃ W:Nat->DSt->Prop,W 0 δ /\
 (∀ j d δ',ds[j]?=some d->W j δ'->dg d δ' λ δ2=>db { E with nx:=W (j+1),ct:=W (j+1),bk:=λ _=>False } δ2)/\∀ δ',W ds.length δ'->E.nx δ'
theorem zux {i:Nat} (hg:RfG K n g dg) (hb:RfS K tb db):RfS K (tFor (iW K (tVar i)) g tb) (zx81 i dg db):=by
 intro B F H σ δ fps E Z r h k
 obtain ⟨ds,hi,W,w0,ws,we⟩:=h
 obtain ⟨B',r0,eF,fr,bk,bn⟩:=r.rebase
 obtain ⟨x,t,g1,g2,g3,g4,g5⟩:=r.rt i _ hi rfl
 cases g2
 generalize hf:fps i=fp at g3
 cases g3 with
|li a1 a2 a3 =>
  rename_i a xs
  obtain ⟨b1,b2⟩:=fr a _ a1 λ j s e o ha=>r.dj j i s _ (λ z=>by subst z;rw [hi] at e;cases e;cases o) e hi o rfl a ha (by rw [hf];simp)
  have el:=a3.dlen
  refine ⟨_,zp7 (F:=F) (H:=H) (δ:=δ) g1,.inl (.inl ⟨a,rfl,⟨xs,SqL.of a1⟩,?_⟩)⟩
  refine ⟨λ j m σ' H'=>m=ds.length - j/\j<=ds.length/\∃ F' δ' fps',RS K B' F' H' σ' δ' fps'/\W j δ',⟨ds.length,rfl,Nat.zero_le _,F,_,fps,r0,w0⟩,?_⟩
  rintro j m σ' H' ⟨rfl,hj',F',δ',fps',r',w'⟩
  have c1:H' a=some (.lst xs):=r'.hh a _ b2 b1
  have c2:IsAll K F' xs ds:=a3.mono (by rw [<- eF];exact r'.ff)
  by_cases hlt:j < ds.length
  ·refine .inr ⟨⟨_,_,SqL.of c1,List.getElem?_eq_getElem (by lia)⟩,λ σ2 H2=>j+1<=ds.length/\∃ F2 δ2 fps2,RS K B' F2 H2 σ2 δ2 fps2/\W (j+1) δ2,λ σ2 H2 p=>⟨_,by lia,rfl,p⟩,λ y H2 hy=>?_⟩
   obtain ⟨rfl,hy⟩:=hy
   have hit:ds[j]?=some ds[j]:=List.getElem?_eq_getElem hlt
   obtain ⟨y',d1,d2⟩:=c2.dget hit
   have:=hy _ (SqL.of c1)
   rw [d1] at this;cases this
   refine hg r'.fh d2 (ws j _ δ' hit w') λ σ2 δ2 hd2 u2=>?_
   exact hb (r'.byUpd u2) hd2 ⟨λ r3 q=>⟨hlt,_,_,_,r3,q⟩,λ r3 q=>q.elim,λ r3 q=>⟨hlt,_,_,_,r3,q⟩,λ res q=>k.rt ⟨bk res.rs,res.rt,res.nd,λ a ha=>bn a (res.fr a ha),res.dj⟩ q⟩
  ·have e:j=ds.length:=by lia
   subst e
   exact .inl ⟨⟨_,SqL.of c1,by lia⟩,k.nx (bk r') (we _ w')⟩
theorem zjv {α:Type} {xs:List α} {enc:α->D} {i:Nat} {E:DEnds} {δ:DSt} (hi:δ[i]?=some (.bo (.li (xs.map enc)))) (W:Nat->DSt->Prop) (h0:W 0 δ)
  (hb:∀ (j:Nat) x δ',xs[j]?=some x->W j δ'->dg (enc x) δ' λ δ2=>db { E with nx:=W (j+1),ct:=W (j+1),bk:=λ _=>False } δ2) (he:∀ δ',W xs.length δ'->E.nx δ'):zx81 i dg db E δ:=by
 refine ⟨_,hi,W,h0,λ j d δ' e w=>?_,λ δ' w=>he δ' (by rw [List.length_map] at w;exact w)⟩
 rw [List.getElem?_map] at e
 obtain ⟨x,hx,rfl⟩:=Option.map_eq_some_iff.mp e
 exact hb j x δ' hx w
end
section
variable {K:Fg} {te:TE} {tA:TA} {dA:DF} {dc:DC} {tt tu:TT} {dt:DT} {t u:TS} {d e:DS}
variable {du:DU}
end
abbrev DX:=Addr->DSt->Prop
abbrev DSpX:=List Arg->(T->T->Prop)->(Addr->T->Prop)->Prop
def spX (K:Fg) (p:DSpX):Sp:=λ vs H Q E=>∃ F as bf oo Qd Xd,Same F H/\ArgsR K F H vs as bf oo/\(∀ b∈ofp oo,b ∉ bf)/\p as Qd Xd/\(∀ r t',Qd r t'->∀ v F' H' fpr fpo,Post K F H oo F' H' v r fpr t' fpo->Q v H') /\
 ∀ C t',Xd C t'->∀ F' H' fpo,Post K F H oo F' H' .non (.fz .none) [] t' fpo->E (.ref C) none H'
def ExOk (K:Fg) (Eσ:L2.St->XK) (ex:DX) (B:Bs):Prop:=∀ {C:Addr} {F H:Hp} {σ:L2.St} {δ:DSt} {fps:Nat->List Addr},RS K B F H σ δ fps->ex C δ->Eσ σ (.ref C) none H
def RfSe (K:Fg) (Eσ:L2.St->XK) (ex:DX) (ts:TS) (ds:DS):Prop:=∀ {B:Bs} {F H:Hp} {σ:L2.St} {δ:DSt} {fps:Nat->List Addr} {E:DEnds} {Z:Ends},ExOk K Eσ ex B->RS K B F H σ δ fps->ds E δ->En K B E Z->ts Z σ H
abbrev DCX:=DSt->(T->DSt->Prop)->DX->Prop
structure RfCx (K:Fg) (Eσ:L2.St->XK) (te:TE) (dc:DCX):Prop where
 of:∀ {B:Bs} {F H:Hp} {σ:L2.St} {δ:DSt} {fps:Nat->List Addr} {Qd:T->DSt->Prop} {Xd:DX} {Q:VK},RS K B F H σ δ fps->dc δ Qd Xd->(∀ r δ',Qd r δ'->∀ v F' H' fps' fpr,Res K B F' H' σ δ' fps' v r fpr->Q v H') ->
 (∀ C δ',Xd C δ'->∀ F' H' fps',RS K B F' H' σ δ' fps'->Eσ σ (.ref C) none H')->te σ H Q
section
variable {K:Fg} {Eσ:L2.St->XK} {ex:DX} {te ta:TE} {tA:TA} {dA:DF} {dc:DCX} {tt:TT} {dt:DT} {t u tb:TS} {d e db:DS} {g:TG} {dg:DG} {n:Nat} {dp:DP} {dA':DAT}
theorem ExOk.mono {B B':Bs} (h:ExOk K Eσ ex B) (k:∀ {F H:Hp} {σ:L2.St} {δ:DSt} {fps:Nat->List Addr},RS K B' F H σ δ fps->RS K B F H σ δ fps):ExOk K Eσ ex B':=λ r q=>h (k r) q
theorem zh8 (h:RfS K t d):RfSe K Eσ ex t d:=λ _ r q k=>h r q k
theorem zv2 (h1:RfSe K Eσ ex t d) (h2:RfSe K Eσ ex u e):RfSe K Eσ ex (tSeq t u) (dSeq d e):=by
 intro B F H σ δ fps E Z o r h k
 obtain ⟨J,ha,hb⟩:=h
 exact h1 o r ha ⟨λ r' q=>h2 o r' (hb _ q) k,k.bk,k.ct,k.rt⟩
theorem zwv (ht:RfT K tt dt) (h1:RfSe K Eσ ex t d) (h2:RfSe K Eσ ex u e):RfSe K Eσ ex (tIfS tt t u) (dIf dt d e):=by
 intro B F H σ δ fps E Z o r h k
 refine ht r.fh r.rv h λ b hb F1 H1 e1=>?_
 cases b with
|true=>rw [if_pos rfl] at hb ⊢;exact h1 o (r.grow e1) hb k
|false=>rw [if_neg Bool.false_ne_true] at hb ⊢;exact h2 o (r.grow e1) hb k
theorem zyy {wi:TI} {di:DF} (hi:RfI K wi di) (hg:RfG K n g dg) (hb:RfSe K Eσ ex tb db):RfSe K Eσ ex (tFor wi g tb) (dFor di dg db):=by
 intro B F H σ δ fps E Z o r h k
 refine hi r.fh r.rv h λ items hx J F1 H1 e1 wj=>?_
 obtain ⟨W,w0,ws,we⟩:=hx
 have r1:=r.grow e1
 have s0:=r1.ff
 have n0:=r1.nw
 have o1:ExOk K Eσ ex (B.rem F1):=o.mono λ r3=>r3.unrem s0 n0
 refine ⟨λ i m σ' H'=>m=items.length - i/\i<=items.length/\∃ F' δ' fps',RS K (B.rem F1) F' H' σ' δ' fps'/\W i δ',⟨items.length,rfl,Nat.zero_le _,F1,δ,fps,r1.rem s0 (λ _ _ z=>z),w0⟩,?_⟩
 rintro i m σ' H' ⟨rfl,hi',F',δ',fps',r',w'⟩
 obtain ⟨go,stop,yld⟩:=wj F' H' r'.ff r'.fh
 by_cases hlt:i < items.length
 ·refine .inr ⟨go i hlt,λ σ2 H2=>i+1<=items.length/\∃ F2 δ2 fps2,RS K (B.rem F1) F2 H2 σ2 δ2 fps2/\W (i+1) δ2,λ σ2 H2 p=>⟨_,by lia,rfl,p⟩,λ x H2 y=>?_⟩
  have hit:items[i]?=some items[i]:=List.getElem?_eq_getElem hlt
  obtain ⟨F2,ex2,ix2⟩:=yld i x H2 _ hit y
  refine hg ex2.fh ix2 (ws i _ δ' hit w') λ σ2 δ2 hd2 u2=>?_
  refine hb o1 ((r'.grow ex2).byUpd u2) hd2 ⟨λ r3 q=>⟨hlt,_,_,_,r3,q⟩,λ r3 q=>k.nx (r3.unrem s0 n0) q,λ r3 q=>⟨hlt,_,_,_,r3,q⟩,λ res q=>k.rt ⟨res.rs.unrem s0 n0,res.rt,res.nd,res.fr,res.dj⟩ q⟩
 ·have e:i=items.length:=by lia
  subst e
  exact .inl ⟨stop,k.nx (r'.unrem s0 n0) (we _ w')⟩
def zuk (dc:DCX) (ex:DX):DS:=λ E δ=>dc δ (λ _ δ'=>E.nx δ') ex
theorem zqj (hc:RfCx K Eσ te dc):RfSe K Eσ ex (zh21 te) (zuk dc ex):=by
 intro B F H σ δ fps E Z o r h k
 exact hc.of r h (λ r2 δ' q v F1 H1 fps1 fpr res=>k.nx res.rs q) λ C δ' q F1 H1 fps1 r1=>o r1 q
def zy21 (i:Nat) (dc:DCX) (ex:DX):DS:=λ E δ=>dc δ (λ r δ'=>E.nx (δ'.set i (slot r))) ex
theorem znx {i:Nat} (hc:RfCx K Eσ te dc):RfSe K Eσ ex (tAsg te (znd i)) (zy21 i dc ex):=by
 intro B F H σ δ fps E Z o r h k
 refine hc.of r h (λ r2 δ' q v F1 H1 fps1 fpr res=>?_) λ C δ' q F1 H1 fps1 r1=>o r1 q
 obtain ⟨fps2,r3⟩:=res.set i
 exact k.nx r3 q
def zph (C:Addr) (dA:DF) (ex:DX):DS:=λ _ δ=>dA δ λ ds=>ds.length<=sizeLine/\ex C δ
theorem zo8 {C:Addr} {E:XK} (h:RfA K tA dA):RfSe K (λ _=>E) ex (zxw C E tA) (zph C dA ex):=by
 intro B F H σ δ fps E' Z o r hd k
 refine h r.fh r.rv hd λ ds q vs F1 H1 e1 i1=>⟨by rw [i1.dlen];exact q.1,o (r.grow e1) q.2⟩
def zhj (p:DSpX) (δ:DSt) (as:List ArgP) (Q:T->DSt->Prop) (X:DX):Prop:=match zvr as with
|some (i,q,t)=>zmt δ i/\oneO i as/\zuv t/\p (as.map ArgP.arg) (λ r t2=>mutS δ i q t2 λ δ'=>Q r δ') λ C t2=>mutS δ i q t2 λ δ'=>X C δ'
|none=>noO as/\p (as.map ArgP.arg) (λ r _=>Q r δ) λ C _=>X C δ
theorem zji {B:Bs} {F H:Hp} {σ:L2.St} {δ:DSt} {fps:Nat->List Addr} {p:DSpX} {vs:List V} {as:List ArgP} {Qd:T->DSt->Prop} {Xd:DX} {Q:VK} {E:XK} (r:RS K B F H σ δ fps) (ha:ArgsP K F H σ δ vs as) (hc:zhj p δ as Qd Xd)
  (k:∀ r δ',Qd r δ'->∀ v F' H' fps' fpr,Res K B F' H' σ δ' fps' v r fpr->Q v H') (kx:∀ C δ',Xd C δ'->∀ F' H' fps',RS K B F' H' σ δ' fps'->E (.ref C) none H'):spX K p vs H Q E:=by
 unfold zhj at hc
 split at hc
 ·rename_i i q t0 eo
  obtain ⟨ho,h1,hf,hp⟩:=hc
  obtain ⟨s,hs,hso⟩:∃ s,δ[i]?=some s/\s.own=true:=by
   unfold zmt at ho
   split at ho
   ·rename_i q;exact ⟨_,q,rfl⟩
   ·rename_i q;exact ⟨_,q,rfl⟩
   ·exact ho.elim
  obtain ⟨a,hat,hargs⟩:=zbf (λ h=>r.rtS h) ha eo h1 hf
  obtain ⟨fn,t1,g1,g2,g3,g4,back⟩:=r.put hs hso hat
  obtain ⟨bf,m1,m2⟩:=hargs fn g2 g3
  have go:∀ {r2 t2 v F' H' fpr fpo},Post K F H (some (a,fn)) F' H' v r2 fpr t2 fpo->∃ fps2,Res K B F' H' σ (δ.set i (s.wth (setP t1 q t2))) fps2 v r2 fpr:=λ {r2 t2 v F' H' fpr fpo} post=>by
   obtain ⟨io1,io2,io3,io4⟩:=post.io a fn rfl
   obtain ⟨fps2,r2',e2,e3⟩:=back (F2:=F') (H2:=H') (u2:=t2) (fq:=fpo) post.hh post.ff post.fh (λ b hb fb _=>post.nw b hb fb) post.al (λ b hb f=>absurd (post.nw b (g2.dom b hb).1 (g2.dom b hb).2) f) io1 io2 (λ b hb=>(io3 b hb).elim .inl λ z=>.inr (r.newOk z))
   refine ⟨fps2,r2',post.rt,post.nd,λ b hb=>(r.newOk (post.fr b hb)).1,λ j s' ej hs' b hb hbr=>?_⟩
   have fresh:=post.fr b hbr
   by_cases hji:j=i
   ·subst hji
    rcases e3 b hb with z|z
    ·obtain ⟨x',t',a1,a2,a3,a4,a5⟩:=r.rt j s hs (zn6 hso)
     exact (a3.dom b z).1 fresh
    ·exact io4 b z hbr
   ·rw [e2 j hji] at hb
    rw [List.getElem?_set_ne (λ z=>hji z.symm)] at ej
    exact (r.newOk fresh).2 j s' ej hs' hb
  refine ⟨F,_,bf,some (a,fn),_,_,r.fh,m1,λ b hb hbf=>?_,hp,λ r2 t2 q2 v F' H' fpr fpo post=>?_,λ C t2 q2 F' H' fpo post=>?_⟩
  ·obtain ⟨j,hj,hbj,sj,e1,hh⟩:=m2 b hbf
   exact r.dj i j s sj (λ z=>hj z.symm) hs e1 hso hh b (g4 b hb) hbj
  ·obtain ⟨fps2,res⟩:=go post
   exact k _ _ (zki hs hso g1 q2) v F' H' fps2 fpr res
  ·obtain ⟨fps2,res⟩:=go post
   exact kx _ _ (zki hs hso g1 q2) F' H' fps2 res.rs
 ·rename_i eo
  obtain ⟨hn,hp⟩:=hc
  obtain ⟨bf,m1,_⟩:=ztg (λ h=>r.rtS h) ha hn
  refine ⟨F,_,bf,none,_,_,r.fh,m1,λ b hb=>by simp [ofp] at hb,hp,λ r2 t2 q2 v F' H' fpr fpo post=>?_,λ C t2 q2 F' H' fpo post=>?_⟩
  ·have ex:Ext F H F' H':=⟨λ b o hb=>post.hh b o (by simp [ofp]) hb,post.ff,post.fh,post.nw⟩
   exact k _ _ q2 v F' H' fps fpr ⟨r.grow ex,post.rt,post.nd,λ b hb=>(r.newOk (post.fr b hb)).1,λ j s' ej hs' b hb hbr=>(r.newOk (post.fr b hbr)).2 j s' ej hs' hb⟩
  ·have ex:Ext F H F' H':=⟨λ b o hb=>post.hh b o (by simp [ofp]) hb,post.ff,post.fh,post.nw⟩
   exact kx _ _ q2 F' H' fps (r.grow ex)
def zsv (p:DSpX) (da:DAT):DCX:=λ δ Q X=>da δ λ as=>zhj p δ as Q X
theorem ztk {p:DSpX} (h:RfAT K tA dA'):RfCx K Eσ (zwy (spX K p) Eσ tA) (zsv p dA'):=by
 refine ⟨λ {B F H σ δ fps Qd Xd Q} r hd k kx=>?_⟩
 exact h r.fh r.rv hd λ as has vs F1 H1 e1 i1=>zji (r.grow e1) i1 has k kx
def zpx (o:Bool) (C:Addr) (m:Str) (p:DSpX) (dp:DP) (da:DAT):DCX:=λ δ Q X=>dp δ λ i q u=>nCls C u/\noM m u/\da δ λ as=>zhj p δ ((if o then .o i q u else .b i q u) :: as) Q X
theorem zum {P:Program} {w:World} {mg:Str->Option Value} {base:Heap} {p:DSpX} {C:Addr} {m:Str} {k:Nat} {ps:List Str} (o:Bool) (Y:ziq P w K mg base C m k ps (spX K p)) (hp:RfP K ta dp) (h:RfAT K tA dA'):RfCx K Eσ (zru P w K mg base m k Eσ ta tA) (zpx o C m p dp dA'):=by
 refine ⟨λ {B F H σ δ fps Qd Xd Q} r hd k kx=>?_⟩
 refine hp r.fh r.rv hd λ i q u hu v F1 H1 e1 at1=>?_
 have r1:=r.grow e1
 obtain ⟨fn,hr⟩:=at1.rt r1.rv
 obtain ⟨a,dx,fs,rfl,h1,h2⟩:=zyj hr hu.1 hu.2.1
 refine ⟨a,C,dx,fs,ps,spX K p,rfl,h1,h2,Y,h r1.fh r1.rv hu.2.2 λ as has vs F2 H2 e2 i2=>?_⟩
 have at2:=at1.mono e2.h
 cases o with
|true=>exact zji (r1.grow e2) (.o at2 i2) has k kx
|false=>exact zji (r1.grow e2) (.b at2 i2) has k kx
def zc21 (K:Fg):List (Value×DS)->Addr->DEnds->DSt->Prop
|[],_,_,_=>False
|(c,d) :: r,C,E,δ=>∃ b,PySem.W.exmOne K (.ref C) c=some b/\if b=true then d E δ else zc21 K r C E δ
inductive RfHs (K:Fg):List (Value×TS)->List (Value×DS)->Prop
|nil:RfHs K [] []
|cons {c:Value} {t:TS} {d:DS} {l:List (Value×TS)} {hs:List (Value×DS)}:RfS K t d->RfHs K l hs->RfHs K ((c,t) :: l) ((c,d) :: hs)
end
section
variable {P:Program} {w:World} {K:Fg} {mg:Str->Option Value} {base:Heap}
def xEnd (as:List Arg) (a:Addr) (Xd:Addr->T->Prop):DX:=λ C δ=>match oIx as with
|none=>Xd C (.fz .none)
|some k=>∃ t',δ[k]?=some (.io a t')/\Xd C t'
theorem zjl {qual:Str} {st:Stmt} {N:List Str} {k:Nat} {p:DSpX}
  (body:∀ (f:Addr) (cdv:Value) (A:Around) (outer:List Env) (s:Shared) (H:Hp) (E:XK),Room k (A.deeper (envOfC qual (zh0 st) s.heap.objs.size f cdv))->∃ (t:TS) (d:DX->DS),PSs (cxOf (CX1 P w) P w K mg base N qual (zh0 st) f cdv A outer s H E) (zj2 st) t/\(∀ ex,RfSe K (λ _=>E) ex t (d ex))/\∀ as Qd Xd a,p as Qd Xd->d (xEnd as a Xd) (zk51 as a Qd) (zzb N a as)) :
  zba P w K mg base qual st N k (spX K p):=by
 intro f cdv A outer s H vs Q E hr h
 obtain ⟨F,as,bf,oo,Qd,Xd,sf,ha,hd,hp,hq,hx⟩:=h
 obtain ⟨t,d,h1,h2,h3⟩:=body f cdv A outer s H E hr
 obtain ⟨hl,fl,a1,a2,a3,a4,a5⟩:=zgd ha
 obtain ⟨a,haa⟩:∃ a:Addr,∀ a' fp,oo=some (a',fp)->a'=a:=by
  cases oo with
 |none=>exact ⟨0,λ a' fp e=>by cases e⟩
 |some x=>exact ⟨x.1,λ a' fp e=>by cases e;rfl⟩
 have slot:∀ (i:Nat) sl,(zzb N a as)[i]?=some sl->(sl=.un/\as.length<=i) \/ ∃ g,as[i]?=some g/\sl=zs21 a g:=λ i sl e=>by
  unfold zzb at e
  by_cases hi:i < as.length
  ·rw [List.getElem?_append_left (by simpa using hi),List.getElem?_map] at e
   obtain ⟨g,h1,h2⟩:=Option.map_eq_some_iff.mp e
   exact .inr ⟨g,h1,h2.symm⟩
  ·rw [List.getElem?_append_right (by simpa using hi),List.getElem?_replicate] at e
   split at e
   ·cases e;exact .inl ⟨rfl,by lia⟩
   ·cases e
 have val:∀ (i:Nat) v,vs[i]?=some v->(L2.start N vs).getD i none=some v:=λ i v e=>by
  have hi:i < vs.length:=by
   rcases Nat.lt_or_ge i vs.length with z|z
   ·exact z
   ·rw [List.getElem?_eq_none z] at e;cases e
  unfold L2.start
  rw [List.getD_eq_getElem?_getD,List.getElem?_append_left (by simpa using hi),List.getElem?_map,e]
  rfl
 have rs:RS K ⟨F,H,ofp oo⟩ F H (L2.start N vs) (zzb N a as) fl:=by
  refine ⟨λ b o _ z=>z,λ _ _ z=>z,sf,λ b _ z=>z,λ b z=>z,by simp [L2.start,zzb,hl],λ i x e=>?_,λ i sl e hs=>?_,λ i sl e ho b hb=>?_,λ i j sl sl' hij e1 e2 o1 o2 b hb hb2=>?_⟩
  ·rcases slot i _ e with ⟨z,_⟩|⟨g,e1,e2⟩
   ·cases z
   ·cases g with
   |d x'=>cases e2;obtain ⟨v,g1,g2⟩:=a1 i x e1;exact ⟨v,val i v g1,g2⟩
   |b _=>cases e2
   |o _=>cases e2
  ·rcases slot i _ e with ⟨z,_⟩|⟨g,e1,e2⟩
   ·rw [z] at hs;cases hs
   ·cases g with
   |d x'=>rw [e2] at hs;cases hs
   |b x' =>
     obtain ⟨v,g1,g2,g3,g4⟩:=a2 i x' e1
     rw [e2]
     exact ⟨v,x',val i v g1,rfl,g2,λ a u z=>(by cases z),g3⟩
   |o x' =>
     obtain ⟨a',g1,g2,g3,g4,g5⟩:=a3 i x' e1
     have:=haa a' _ g2
     subst this
     rw [e2]
     exact ⟨_,x',val i _ g1,rfl,g3,λ a u z=>(by cases z;rfl),g4⟩
  ·rcases slot i _ e with ⟨z,_⟩|⟨g,e1,e2⟩
   ·rw [z] at ho;cases ho
   ·cases g with
   |d x'=>rw [e2] at ho;cases ho
   |b x'=>rw [e2] at ho;cases ho
   |o x' =>
     obtain ⟨a',g1,g2,g3,g4,g5⟩:=a3 i x' e1
     refine .inr ⟨?_,λ t z=>?_⟩
     ·show b∈ofp oo
      rw [g2];exact hb
     ·rw [e2] at z;cases z
  ·rcases slot i _ e1 with ⟨z,_⟩|⟨g,f1,f2⟩
   ·rw [z] at o1;cases o1
   ·cases g with
   |d x'=>rw [f2] at o1;cases o1
   |b x'=>rw [f2] at o1;cases o1
   |o x' =>
     obtain ⟨a',g1,g2,g3,g4,g5⟩:=a3 i x' f1
     rcases slot j _ e2 with ⟨z,_⟩|⟨g',f1',f2'⟩
     ·rw [z] at o2;cases o2
     ·cases g' with
     |d x''=>rw [f2'] at o2;cases o2
     |b x'' =>
       obtain ⟨v,k1,k2,k3,k4⟩:=a2 j x'' f1'
       exact hd b (by rw [g2];exact hb) (k4 b hb2)
     |o x'' =>
       obtain ⟨a'',k1,k2,k3,k4,k5⟩:=a3 j x'' f1'
       rw [g5] at k5
       exact hij (Option.some.inj k5)
 have fin:∀ {F' H':Hp} {σ':L2.St} {δ':DSt} {fps':Nat->List Addr} {v:V} {r:T} {fpr:List Addr},Res K ⟨F,H,ofp oo⟩ F' H' σ' δ' fps' v r fpr->exA as a Qd r δ'->Q v H':=λ {F' H' σ' δ' fps' v r fpr} res ex=>by
  unfold exA at ex
  split at ex
  ·rename_i eo
   refine hq r (.fz .none) ex v F' H' fpr [] ⟨res.rs.hh,res.rs.ff,res.rs.fh,res.rs.nw,res.rs.al,res.rt,res.nd,res.fr,λ a' fp e=>?_⟩
   obtain ⟨k,x,g1,g2,g3⟩:=a5 a' fp e
   rw [eo] at g3;cases g3
  ·rename_i ko eo
   obtain ⟨t',et,qd⟩:=ex
   obtain ⟨x',t'',b1,b2,b3,b4,b5⟩:=res.rs.rt ko _ et rfl
   cases b2
   have:=b4 a t' rfl
   subst this
   refine hq r t' qd v F' H' fpr (fps' ko) ⟨res.rs.hh,res.rs.ff,res.rs.fh,res.rs.nw,res.rs.al,res.rt,res.nd,res.fr,λ a' fp e=>?_⟩
   have ea:=haa a' fp e
   subst ea
   refine ⟨b3,b5,λ b hb=>?_,λ b hb=>res.dj ko _ et rfl b hb⟩
   rcases res.rs.fr ko _ et rfl b hb with z|⟨z,_⟩
   ·exact .inr z
   ·have:b∈ofp oo:=z
    rw [e] at this
    exact .inl this
 have finx:∀ {F' H':Hp} {σ':L2.St} {δ':DSt} {fps':Nat->List Addr} {C:Addr},RS K ⟨F,H,ofp oo⟩ F' H' σ' δ' fps'->xEnd as a Xd C δ'->E (.ref C) none H':=λ {F' H' σ' δ' fps' C} rs' ex=>by
  have res:Res K ⟨F,H,ofp oo⟩ F' H' σ' δ' fps' .non (.fz .none) []:=⟨rs',.fz .non,.nil,λ a ha=>by simp at ha,λ _ _ _ _ a _ ha=>by simp at ha⟩
  unfold xEnd at ex
  split at ex
  ·rename_i eo
   refine hx C (.fz .none) ex F' H' [] ⟨res.rs.hh,res.rs.ff,res.rs.fh,res.rs.nw,res.rs.al,res.rt,res.nd,res.fr,λ a' fp e=>?_⟩
   obtain ⟨k,x,g1,g2,g3⟩:=a5 a' fp e
   rw [eo] at g3;cases g3
  ·rename_i ko eo
   obtain ⟨t',et,qd⟩:=ex
   obtain ⟨x',t'',b1,b2,b3,b4,b5⟩:=res.rs.rt ko _ et rfl
   cases b2
   have:=b4 a t' rfl
   subst this
   refine hx C t' qd F' H' (fps' ko) ⟨res.rs.hh,res.rs.ff,res.rs.fh,res.rs.nw,res.rs.al,res.rt,res.nd,res.fr,λ a' fp e=>?_⟩
   have ea:=haa a' fp e
   subst ea
   refine ⟨b3,b5,λ b hb=>?_,λ b hb=>res.dj ko _ et rfl b hb⟩
   rcases res.rs.fr ko _ et rfl b hb with z|⟨z,_⟩
   ·exact .inr z
   ·have:b∈ofp oo:=z
    rw [e] at this
    exact .inl this
 refine ⟨t,h1,h2 (xEnd as a Xd) (λ r q=>finx r q) rs (h3 as Qd Xd a hp) ⟨λ r q=>fin ⟨r,.fz .non,.nil,λ a ha=>by simp at ha,λ _ _ _ _ a _ ha=>by simp at ha⟩ q,λ _ z=>z.elim,λ _ z=>z.elim,λ res q=>fin res q⟩⟩
theorem zaw {p:DSpX} {ps:List Str} (h:∀ as Qd Xd,p as Qd Xd->as.length=ps.length):∀ vs H Q E,spX K p vs H Q E->vs.length=ps.length:=λ vs H Q E z=>by
 obtain ⟨F,as,bf,oo,Qd,Xd,_,ha,_,hp,_⟩:=z
 rw [ztm ha];exact h as Qd Xd hp
end
end L4
namespace L3
open PySem PySem.Spec PyProof.Rows L2
section
variable {X:Cx}
def zv91 (K:Fg) (x:V) (H:Hp) (Q:Str->Hp->Prop):Prop:=kFmt x H Q \/ ∃ ds:List PyData,Is K H x (.list ds)/\(PyData.list ds).showable=true/\(PyData.list ds).hasDict=false/\(PyData.list ds).depth<=40/\(PyData.list ds).shown.length<=sizeLine/\Q (PyData.list ds).shown H
def zx41 (K:Fg) (te:TE) (t:TJ):TJ:=λ acc σ H Q=>te σ H λ x H1=>zv91 K x H1 λ z H2=>(acc++z).length<=sizeLine/\t (acc++z) σ H2 Q
theorem zb7 {K:Fg} {k:Nat} {e:Expr} {te:TE} {pos:Pos} {es:List Expr} {t:TJ} (hK:X.K=K) (hr:Room k X.A) (he:PE X e te) (h:PJ X es t):PJ X (.FormattedValue e (-1) none pos :: es) (zx41 K te t):=by
 subst hK
 intro acc pins s σ H Q I q
 refine joinParts_cons (FormattedValue_plain (thn (he pins s σ H _ I q) λ v s1 ⟨x,H1,I1,r1,q1⟩=>?_))
 rcases q1 with (⟨z,rfl,hz,q1⟩|⟨i,rfl,hi,q1⟩)|⟨ds,hi,h1,h2,h3,h4,q1⟩
 ·obtain ⟨t',rfl⟩:=r1
  exact formatField_str (λ t2 tk=>⟨q1.1,h _ pins _ σ H1 Q (I1.tok tk) q1.2⟩) hz
 ·obtain ⟨t',rfl⟩:=r1
  exact wpAny_formatField_int hi ⟨q1.1,h _ pins _ σ H1 Q (I1.tok _) q1.2⟩
 ·obtain ⟨as,rd⟩:=za8 I1 hi r1
  obtain ⟨a,xs,rfl,_,_⟩:=hi.list_inv
  obtain rfl:v=Value.ref a:=r1
  have hu:=hr.un
  exact formatField_of_reads rd h1 (λ z=>by rw [h2] at z;cases z) hr.gd (by lia) (λ _ _ e=>e) (λ h' u tk k=>⟨q1.1,h _ pins _ σ H1 Q (I1.kept (t':=tk) k) q1.2⟩) h4
variable {k:Nat} {m:Str} {pos apos:Pos} {o:Expr} {ta:TE} {Eσ:St->XK}
theorem zwp {P:Program} {w:World} {K:Fg} {mg:Str->Option Value} {base:Heap} {pl:Sem Bool} (hP:X.prog=P) (hw:X.w=w) (hK:X.K=K) (hmg:X.mg=mg) (hbs:X.base=base) (hr:Room k X.A) (hx:∀ σ,zk8 (CX1 X.prog X.w) X (Eσ σ) σ) (he:PE X o ta)
  (ht:eval (.Call (.Attribute o m apos) [] [] pos) X.env=(do
   let ov <- eval o X.env
   standAt apos.atName
   let (f,first) <- holding [ov] (getMethod ov m pl)
   callWith pos f first (backTo pos (starEach [] X.env)) (backToKw pos (keywordEach [] X.env))):=by rfl) :
  PE X (.Call (.Attribute o m apos) [] [] pos) (zru P w K mg base m k Eσ ta tNil):=by
 subst hP hw hK hmg hbs
 intro pins s σ H Q I h
 refine PySem.W.methodCall_KW (pl:=pl) (thn (he pins s σ H _ I h) λ u s1 ⟨x,H1,I1,rx,a,C,dx,fs,ps,sp,ex,ea,l,d,q⟩=>?_) ht
 subst ex
 obtain rfl:u=Value.ref a:=rx
 obtain ⟨f,fd,c,hm,F,b⟩:=d
 refine zf5 I1 ea c hm l ?_
 exact PySem.W.callWith_K0 (first:=[.ref a]) I1.kIn hm.kp (zct (us:=[.ref a]) (vs:=[.ref a]) F hr b (hx σ) I1 (.cons rfl .nil) q)
end
end L3
namespace L4
open PySem PySem.Spec PyProof.Rows L2 L3
section
variable {K:Fg} {te:TE} {de:DE} {tj:TJ}
abbrev DJ:=DSt->Nat->(Nat->Prop)->Prop
variable {dj:DJ}
def RfFs (K:Fg) (tj:TJ) (dj:DJ):Prop:=∀ {F H:Hp} {σ:L2.St} {δ:DSt} {acc:Str} {n:Nat} {Qd:Nat->Prop} {Q:Str->Hp->Prop},Same F H->RV K F H σ δ->acc.length<=n->dj δ n Qd->(∀ m,Qd m->∀ z F' H',Ext F H F' H'->z.length<=m->Q z H')->tj acc σ H Q
theorem zvm (x y:Str):(x++y).length=x.length+y.length:=by
 show (x.cps++y.cps).size=_
 rw [Array.size_append];rfl
def dJN:DJ:=λ _ n Q=>n<=sizeLine/\Q n
theorem zgl:RfFs K jNil dJN:=λ s _ hn h k=>⟨Nat.le_trans hn h.1,k _ h.2 _ _ _ (Ext.refl s) hn⟩
def dJT (l:Nat) (dj:DJ):DJ:=λ δ n Q=>n+l<=sizeLine/\dj δ (n+l) Q
theorem zy4 {y:Str} {l:Nat} (hy:y.length<=l) (h:RfFs K tj dj):RfFs K (zl81 y tj) (dJT l dj):=by
 intro F H σ δ acc n Qd Q s rv hn hd k
 have:=zvm acc y
 exact ⟨by have:=hd.1;lia,h s rv (by lia) hd.2 k⟩
def zbz:D->Prop
|.list ds=>∃ ns:List Int,ds=ns.map .int/\ns.length<=12/\∀ n∈ns,0<=n/\n < 12
|_=>False
theorem zvo {n:Int} (h0:0<=n) (h1:n < 12):n.natAbs.log2 < 1920/\(PyData.shown (.int n)).length<=8/\(PyData.int n).weight<=4:=by
 have:n=0 \/ n=1 \/ n=2 \/ n=3 \/ n=4 \/ n=5 \/ n=6 \/ n=7 \/ n=8 \/ n=9 \/ n=10 \/ n=11:=by lia
 rcases this with rfl|rfl|rfl|rfl|rfl|rfl|rfl|rfl|rfl|rfl|rfl|rfl <;> exact ⟨by decide,by unfold PyData.shown;decide +kernel,by decide +kernel⟩
theorem zwj:∀ {ns:List Int},(∀ n∈ns,0<=n/\n < 12)->PyData.showableAll (ns.map .int)=true/\PyData.hasDictAll (ns.map .int)=false/\PyData.leavesShortAll 8 (ns.map .int)=true/\PyData.depthAll (ns.map .int)<=1/\PyData.weightAll (ns.map .int)<=5 * ns.length
|[],_=>by simp [PyData.showableAll,PyData.hasDictAll,PyData.leavesShortAll,PyData.depthAll,PyData.weightAll]
|n :: r,h=>by
  obtain ⟨a,b,c,d,e⟩:=zwj (ns:=r) λ x hx=>h x (List.mem_cons_of_mem _ hx)
  obtain ⟨h0,h1⟩:=h n List.mem_cons_self
  obtain ⟨s1,s2,s3⟩:=zvo h0 h1
  rw [List.map_cons]
  refine ⟨?_,?_,?_,?_,?_⟩
  ·simp only [PyData.showableAll,PyData.showable,a,Bool.and_true];exact decide_eq_true s1
  ·simp only [PyData.hasDictAll,PyData.hasDict,b,Bool.or_false]
  ·simp only [PyData.leavesShortAll,PyData.leavesShort,c,Bool.and_true];exact decide_eq_true s2
  ·simp only [PyData.depthAll,PyData.depth];lia
  ·simp only [PyData.weightAll,List.length_cons];lia
def dJL (de:DE) (dj:DJ):DJ:=λ δ n Q=>de δ λ d=>zbz d/\n+1000<=sizeLine/\dj δ (n+1000) Q
theorem zj11 (he:RfE K te de) (h:RfFs K tj dj):RfFs K (zx41 K te tj) (dJL de dj):=by
 intro F H σ δ acc n Qd Q s rv hn hd k
 refine he s rv hd λ d hx v F1 H1 e1 i1=>?_
 obtain ⟨hs,h1,h2⟩:=hx
 cases d with
|list ds =>
  obtain ⟨ns,rfl,hl,hb⟩:=hs
  obtain ⟨a,b,c,dd,e⟩:=zwj hb
  have hz:=PyData.shown_le 8 (by lia) (.list (ns.map .int)) (by simp only [PyData.leavesShort];exact c)
  have hw:(PyData.list (ns.map .int)).weight<=60:=by simp only [PyData.weight];lia
  have hz2:(PyData.list (ns.map .int)).shown.length<=1000:=by lia
  have:=zvm acc (PyData.list (ns.map .int)).shown
  refine .inr ⟨_,i1.mono e1.fh,by simp only [PyData.showable];exact a,by simp only [PyData.hasDict];exact b,by simp only [PyData.depth];lia,by lia,by lia,?_⟩
  exact h e1.fh (rv.ext e1) (by lia) h2 λ m q z F2 H2 e2 hz=>k m q z F2 H2 (e1.trans e2) hz
|none=>exact hs.elim
|bool _=>exact hs.elim
|int _=>exact hs.elim
|str _=>exact hs.elim
|tuple _=>exact hs.elim
|dict _=>exact hs.elim
def ze9 (dj:DJ):DE:=λ δ Q=>dj δ 0 λ n=>∀ z:Str,z.length<=n->Q (.str z)
theorem zy5 (h:RfFs K tj dj):RfE K (zls tj) (ze9 dj):=by
 intro F H σ δ Qd Q s rv hd k
 exact h s rv (Nat.le_refl 0) hd λ m q z F' H' e1 hz=>k _ (q z hz) _ F' H' e1 (.str z)
end
theorem zvt (dc:DCX) (ex:DX) (E:DEnds) (δ:DSt):zuk dc ex E δ=dc δ (λ _ δ'=>E.nx δ') ex:=rfl
theorem zlz (i:Nat) (dc:DCX) (ex:DX) (E:DEnds) (δ:DSt):zy21 i dc ex E δ=dc δ (λ r δ'=>E.nx (δ'.set i (slot r))) ex:=rfl
theorem zft (C:Addr) (dA:DF) (ex:DX) (E:DEnds) (δ:DSt):zph C dA ex E δ=dA δ λ ds=>ds.length<=sizeLine/\ex C δ:=rfl
theorem zm01 (p:DSpX) (da:DAT) (δ:DSt) (Q:T->DSt->Prop) (X:DX):zsv p da δ Q X=da δ λ as=>zhj p δ as Q X:=rfl
theorem zfz (o:Bool) (C:Addr) (m:Str) (p:DSpX) (dp:DP) (da:DAT) (δ:DSt) (Q:T->DSt->Prop) (X:DX):zpx o C m p dp da δ Q X=dp δ λ i q u=>nCls C u/\noM m u/\da δ λ as=>zhj p δ ((if o then .o i q u else .b i q u) :: as) Q X:=rfl
theorem zdv (K:Fg) (C:Addr) (E:DEnds) (δ:DSt):zc21 K [] C E δ=False:=rfl
theorem zuu (K:Fg) (c:Value) (d:DS) (r:List (Value×DS)) (C:Addr) (E:DEnds) (δ:DSt):zc21 K ((c,d) :: r) C E δ=∃ b,PySem.W.exmOne K (.ref C) c=some b/\if b=true then d E δ else zc21 K r C E δ:=rfl
theorem zua1 (δ:DSt) (n:Nat) (Q:Nat->Prop):dJN δ n Q=(n<=sizeLine/\Q n):=rfl
theorem zjb1 (l:Nat) (dj:DJ) (δ:DSt) (n:Nat) (Q:Nat->Prop):dJT l dj δ n Q=(n+l<=sizeLine/\dj δ (n+l) Q):=rfl
theorem zta1 (de:DE) (dj:DJ) (δ:DSt) (n:Nat) (Q:Nat->Prop):dJL de dj δ n Q=de δ λ d=>zbz d/\n+1000<=sizeLine/\dj δ (n+1000) Q:=rfl
theorem zuq (dj:DJ) (δ:DSt) (Q:D->Prop):ze9 dj δ Q=dj δ 0 λ n=>∀ z:Str,z.length<=n->Q (.str z):=rfl
theorem zpp (p:DSpX) (δ:DSt) (as:List ArgP) (Q:T->DSt->Prop) (X:DX):zhj p δ as Q X=match zvr as with
|some (i,q,t)=>zmt δ i/\oneO i as/\zuv t/\p (as.map ArgP.arg) (λ r t2=>mutS δ i q t2 λ δ'=>Q r δ') λ C t2=>mutS δ i q t2 λ δ'=>X C δ'
|none=>noO as/\p (as.map ArgP.arg) (λ r _=>Q r δ) λ C _=>X C δ:=rfl
def asLs:T->Option (List T)
|.ls ts=>some ts
|.li []=>some []
|_=>none
theorem zur {K:Fg} {F H:Hp} {v:V} {t:T} {ts:List T} {fn:List Addr} (h:Rt K F H v t fn) (e:asLs t=some ts):∃ a xs fp,v=.ref a/\fn=a :: fp/\H a=some (.lst xs)/\F a=none/\RtAll K F H xs ts fp:=by
 cases h with
|ls h1 h2 h3=>cases e;exact ⟨_,_,_,rfl,rfl,h1,h2,h3⟩
|@li a xs ds h1 h2 h3 =>
  cases ds with
 |nil=>cases e;cases h3;exact ⟨_,_,_,rfl,rfl,h1,h2,.nil⟩
 |cons _ _=>cases e
|fz _=>cases e
|ob _ _ _ _ _=>cases e
|dk _ _ _=>cases e
|dt _ _ _=>cases e
|tp _ _ _=>cases e
def zg21 (i:Nat) (dc:DC):DS:=λ E δ=>(∃ t ts,δ[i]?=some (.ow t)/\asLs t=some ts)/\dc δ λ r δ'=>∃ t ts,δ'[i]?=some (.ow t)/\asLs t=some ts/\ts.length < sizeLine/\E.nx (δ'.set i (.ow (.ls (ts++[r]))))
theorem zrr {K:Fg} {te:TE} {dc:DC} {i:Nat} (hc:RfC K te dc):RfS K (zh21 (tBMU K "list" zwm (tVar i) (zw2 te tNil))) (zg21 i dc):=by
 intro B F H σ δ fps E Z r h k
 obtain ⟨⟨t0,ts0,e0,l0⟩,h⟩:=h
 obtain ⟨x0,t0',a1,a2,a3,a4,a5⟩:=r.rt i _ e0 rfl
 cases a2
 obtain ⟨a,xs0,fp0,rfl,b2,b3,b4,b5⟩:=zur a3 l0
 have a6:σ[i]?=some (some (.ref a)):=by
  rw [List.getD_eq_getElem?_getD] at a1
  cases e:σ[i]? with
 |none=>rw [e] at a1;cases a1
 |some z=>rw [e] at a1;exact congrArg some a1
 refine ⟨_,a6,zn21 a3 ?_,hc r h λ r2 δ' q v F1 H1 fps1 fpr res=>?_⟩
 ·unfold asLs at l0
  split at l0
  ·rfl
  ·rfl
  ·cases l0
 obtain ⟨t,ts,e1,l1,hz,q⟩:=q
 obtain ⟨x1,t1,c1,c2,c3,c4,c5⟩:=res.rs.rt i _ e1 rfl
 cases c2
 rw [a1] at c1
 cases c1
 obtain ⟨fn,t',g1,g2,g3,g4,back⟩:=res.rs.put (p:=[]) (v:=.ref a) (u:=t) e1 rfl ⟨_,_,_,e1,rfl,a1,.nil⟩
 cases g1
 obtain ⟨a',xs,fp,ea,rfl,d1,d2,d3⟩:=zur g2 l1
 cases ea
 have na:a ∉ fp:=(List.nodup_cons.mp g3).1
 have nr:∀ b∈a :: fp,b ∉ fpr:=λ b hb=>res.dj i _ e1 rfl b (g4 b hb)
 have el:=d3.len
 have key:=back (F2:=F1) (H2:=upd H1 a (.lst (xs++[v]))) (u2:=.ls (ts++[r2])) (fq:=a :: (fp++fpr)) (λ b o hb ho=>by rw [zw0 (λ z=>hb (by simp [z]))];exact ho) (λ _ _ z=>z) (λ b o z=>by
   have:b≠a:=λ w=>by subst w;rw [d2] at z;cases z
   rw [zw0 this];exact res.rs.fh b o z) (λ b _ fb _=>fb) (λ b hb=>by
   by_cases z:b=a
   ·rw [z,zp0];simp
   ·rw [zw0 z];exact hb) (λ b hb f=>absurd (g2.dom b hb).2 f) ?_ ?_ ?_
 ·obtain ⟨fps2,r3,_,_⟩:=key
  exact ⟨a,xs,v,rfl,rfl,d1,by lia,k.nx r3 q⟩
 ·refine .ls zp0 d2 (RtAll.app (d3.frame (λ _ _ z=>z) λ b hb=>⟨zw0 (λ z=>na (z ▸ hb)),(d3.dom b hb).2⟩) ?_)
  have:=RtAll.cons (res.rt.frame (F':=F1) (H':=upd H1 a (.lst (xs++[v]))) (λ _ _ z=>z) λ b hb=>⟨zw0 (λ z=>nr a (by simp) (z ▸ hb)),(res.rt.dom b hb).2⟩) RtAll.nil
  rw [List.append_nil] at this
  exact this
 ·refine List.nodup_cons.mpr ⟨λ z=>?_,List.nodup_append.mpr ⟨(List.nodup_cons.mp g3).2,res.nd,λ b hb c hc2 e=>nr b (by simp [hb]) (e ▸ hc2)⟩⟩
  rcases List.mem_append.mp z with z|z
  ·exact na z
  ·exact nr a (by simp) z
 ·intro b hb
  rcases List.mem_cons.mp hb with z|z
  ·exact .inl (by simp [z])
  ·rcases List.mem_append.mp z with z|z
   ·exact .inl (by simp [z])
   ·exact .inr ⟨res.fr b z,λ j s hj hs hbj=>res.dj j s hj hs b hbj z⟩
theorem zgx {i:Nat} {dc:DC} {E:DEnds} {δ:DSt}:zg21 i dc E δ=((∃ t ts,δ[i]?=some (.ow t)/\asLs t=some ts)/\dc δ λ r δ'=>∃ t ts,δ'[i]?=some (.ow t)/\asLs t=some ts/\ts.length < sizeLine/\E.nx (δ'.set i (.ow (.ls (ts++[r]))))):=rfl
section
variable {K:Fg} {te ta:TE} {tA:TA} {da de:DE} {dA:DF} {dp:DP} {dn:DN}
end
end L4
namespace L4
open PySem PySem.W PySem.Spec PySem.Calls PyProof.Rows PySem.Builtin PySem.Builtin.ObjectAttr PySem.Builtin.Getset_descriptor
section
variable {prog:Program} {w:World} {A:Around} {E:Value->Shared->Prop} {s:Shared} {K:Fg} {x D:Addr} {ox:Obj}
structure XAt (h:Heap) (x:Addr) (ox:Obj) (C:Addr):Prop where
 at_:h.get? x=some ox
 cls:ox.cls=.ref C
theorem XAt.type {M:Model} {h:Heap} (I:XAt h x ox D):Looks M h (typeOf (.ref x)) (.ref D):=I.cls ▸ (Looks.ld I.at_).andThen .now
theorem zll {R:Result->Shared->Prop} {tp:Value} (X:K.In s.heap) (I:XAt s.heap x ox D) (hm:mroIn K D (.type "object")=some true)
  (h:R (.ok (.ret (.ref D))) s):codeAny (model prog w) A (.call (.builtin "getset_descriptor.__get__") ⟨[.builtin "object.__class__",.ref x,tp],[]⟩) R s:=by
 obtain ⟨hh,g,dr,t,os⟩:=s
 have L0:=I.type (M:=model prog w)
 have L1:=looks_mroIn (M:=model prog w) X hm
 refine codeAny_call_builtin KF.slot_gs.plain KF.entry_gs (KF.slot_gs.check _ _ _ _ _ _ _ _ KF.type_class (KF.args_gs _ _ _) ?_)
 unfold Builtin.«getset_descriptor.__get__» descrGet
 rw [dga_obj]
 refine wpAny_bind (wpAny_pure ?_)
 unfold descrGetter descrCheckInstance descrNameAndClass isInstance
 simp only [KF.owner_class]
 repeat lk
 refine ⟨Code.quiet_builtin _ (by decide +kernel),codeAny_builtin KF.entry_class ?_⟩
 unfold Builtin.«object.__class__» shownTypeOf
 repeat lk
 exact h
theorem zmq {Q:Option Value->Shared->Prop} (X:K.In s.heap) (I:XAt s.heap x ox D) (hga:findIn K (.ref D) "__getattribute__"=some (some (.builtin "BaseException.__getattribute__"))) (hgn:findIn K (.ref D) "__getattr__"=some none) (ha:findIn K (.ref D) "__class__"=some (some (.builtin "object.__class__")))
  (hn:specialIn K (.builtin "object.__class__") "__get__"=some (some (.builtin "getset_descriptor.__get__"))) (htk:takesIn K (.builtin "object.__class__")=some true) (hm:mroIn K D (.type "object")=some true) (hmB:mroIn K D (.type "BaseException")=some true)
  (h:Q (some (.ref D)) { s with toks:=s.toks+1 }):wpAny (model prog w) A (getAttr? (.ref x) "__class__") Q E s:=by
 obtain ⟨hh,g,d,t,os⟩:=s
 have L0:=I.type (M:=model prog w)
 have L1:=looks_findIn (M:=model prog w) X hga
 have L2:=looks_findIn (M:=model prog w) X hgn
 have L3:Looks (model prog w) hh (Builtin.ObjectAttr.find (.ref x) (.ref D) "__class__") (.bind (.builtin "getset_descriptor.__get__") (.builtin "object.__class__")) :=
  (looks_findIn X ha).andThen ((show Looks _ _ (Builtin.ObjectAttr.getOf _) _ from looks_specialIn X hn).andThen ((show Looks _ _ (Builtin.ObjectAttr.dataDescriptor? (some (.builtin "object.__class__")) (some (.builtin "getset_descriptor.__get__"))) (some (.builtin "getset_descriptor.__get__",.builtin "object.__class__")) from (looks_takesIn X htk).andThen .now).andThen (Looks.tag .now)))
 have LB:=looks_mroIn (M:=model prog w) X hmB
 unfold getAttr? getAttrBy? getAttrBy
 refine wpAny_bind (wpAny_mkText (wpAny_bind (wpAny_attempt (wpAny_holding (wpAny_bind (L0.at (wpAny_bind (L1.at ?_))))))))
 show wpAny _ _ (getAttrByItsOwn _ _ _ _ _ _) _ _ _
 unfold getAttrByItsOwn
 refine wpAny_bind ?_
 show wpAny _ _ (typeLookup _ _) _ _ _
 refine L2.at ?_
 refine wpAny_bind (wpAny_attempt (wpAny_holding ?_))
 show wpAny _ _ (boundAndCalled _ _ _) _ _ _
 unfold boundAndCalled
 have f3:bindSpecial (.builtin "BaseException.__getattribute__") (.ref x)=pure (.builtin "BaseException.__getattribute__",[.ref x]):=F.excAttr_ValueError.ga.bind (.ref x)
 rw [f3]
 refine wpAny_bind (wpAny_pure ?_)
 refine wpAny_call (codeAny_call_builtin F.excAttr_ValueError.ga.plain F.entry_bexc_ga ?_)
 have hk:builtinKind "BaseException.__getattribute__"=some .slot:=by decide +kernel
 have hsplit:splitId "BaseException.__getattribute__"=some ("BaseException", "__getattribute__"):=by decide +kernel
 have hargs:=F.args_bexc_ga (.ref x) (.str "__class__" t)
 have LI:Looks (model prog w) hh (isInstance (.ref x) (.type "BaseException")) true:=L0.andThen LB
 simp only [checkBuiltinCall,hk,hsplit]
 refine wpAny_bind (LI.at ?_)
 repeat (any_goals (first|assumption|wp_step))
 refine wpAny_loadPart_at I.at_ ?_
 refine wpAny_pure ?_
 rw [I.cls]
 refine wpAny_bind (L3.at ?_)
 show wpAny _ _ (Builtin.ObjectAttr.bindTo _ _ _ _) _ _ _
 unfold Builtin.ObjectAttr.bindTo
 show wpAny _ _ (holding [Value.builtin "object.__class__"] (call (Value.builtin "getset_descriptor.__get__") [Value.builtin "object.__class__",Value.ref x,Value.ref D]) >>= ret) _ _ _
 refine wpAny_bind (wpAny_holding (wpAny_call (zll (ox:=ox) X I hm ?_)))
 refine wpAny_pure ?_
 exact handed_on rfl (wpAny_pure h)
structure ExK (K:Fg) (D:Addr):Prop where
 hc:(clsIn K D).isSome=true
 hga:findIn K (.ref D) "__getattribute__"=some (some (.builtin "BaseException.__getattribute__"))
 hgn:findIn K (.ref D) "__getattr__"=some none
 ha:findIn K (.ref D) "__class__"=some (some (.builtin "object.__class__"))
 hn:specialIn K (.builtin "object.__class__") "__get__"=some (some (.builtin "getset_descriptor.__get__"))
 htk:takesIn K (.builtin "object.__class__")=some true
 hm:mroIn K D (.type "object")=some true
 hmB:mroIn K D (.type "BaseException")=some true
theorem zfu (k:ExK K D):KitX K (.ref x) (.ref D) (λ h=>XAt h x ox D) where
 ty:=λ _ _ _ I=>I.type
 it:=λ _ _ X _=>by
  obtain ⟨cdD,hcD⟩:=Option.isSome_iff_exists.mp k.hc
  unfold clsIn at hcD
  split at hcD
  ·rename_i c' d' cd' sl' ho
   intro A' Q' E' s' k q
   unfold isType loadHead
   exact wpAny_bind (wpAny_loadPart (k _ _ (X _ _ ho)) (wpAny_pure q))
  ·cases hcD
 ne:=λ h tp dd its n sl X htp=>by
  obtain ⟨cdD,hcD⟩:=Option.isSome_iff_exists.mp k.hc
  refine Bool.eq_false_iff.mpr λ q=>?_
  have e:D=tp:=Value.ref.inj (beq_iff_eq.mp q)
  subst e
  unfold clsIn at hcD
  split at hcD
  ·rename_i c' d' cd' sl' ho
   have z:=(X _ _ ho).symm.trans htp
   cases z
  ·cases hcD
 ca:=λ X I q=>zmq X I k.hga k.hgn k.ha k.hn k.htk k.hm k.hmB q
theorem exc_isinst {c:Value} {b:Bool} {Q:Value->Shared->Prop} (k:ExK K D) (X:K.In s.heap) (I:XAt s.heap x ox D) (e:kitOne K (.ref D) c=some b) (h:∀ tk,Q (.bool b) { s with toks:=tk }) :
  wpAny (model prog w) A (call (.builtin "isinstance") [.ref x,c]) Q E s:=kia_one (zfu k) X I e (λ z=>nomatch z) h
end
end L4
namespace L3
open PySem PySem.Spec PyProof.Rows L2
section
variable {X:Cx} {pins:List (Addr×Obj)} {σ:St} {H:Hp} {s:Shared}
theorem zp41 {M:Model} {A:Around} {E:Value->Shared->Prop} {i:Nat} {x:Str} {Q:Bool->Shared->Prop} (I:Inv X pins σ H s) (hN:X.N.Nodup) (hi:X.N[i]?=some x) (hk:X.env.kindOf x=some .local) {v:V} (hv:σ[i]?=some (some v))
  (h:∀ h',Inv X pins (σ.set i none) H { s with heap:=h' }->Q true { s with heap:=h' }):wpAny M A (nsDel X.env.locals x) Q E s:=by
 obtain ⟨m,hn,hl⟩:=id I.loc
 have hiσ:i < σ.length:=by rw [I.len];exact (List.getElem?_eq_some_iff.mp hi).1
 have cne:=I.cne
 have tracked:∀ {a:Addr} {h':Heap},(∃ o,s.heap.get? a=some o/\H a=none)->Heap.SameBut a s.heap h'->HOk X.prog X.w H h':=λ {a h'} ha hs b ob e=>by
  obtain ⟨_,_,hfree⟩:=ha
  refine (I.hok b ob e).stay (λ c w' hc q=>(hs.2 c ?_).trans q) (λ _ q=>q) λ _ _ q=>q
  rintro rfl
  rcases hc with rfl|hc
  ·rw [hfree] at e;cases e
  ·rw [hfree] at hc;cases hc
 have hm:(m x).isSome=true:=by
  obtain ⟨u',r',q⟩:=hl i x v hi hv (.inl hk)
  rcases q with ⟨k,e⟩|⟨k,_⟩
  ·rw [e];rfl
  ·rw [hk] at k;rcases k with k|k <;> cases k
 refine wpAny_nsDel_keeps hn λ h' v' hn' hs=>?_
 rw [hm]
 obtain ⟨oL,_,_,hoL,_⟩:=id hn
 refine h _ ⟨I.ok,I.os,I.bare,⟨λ b o e n hb hx=>?_,λ b o e n hb hx=>?_,I.base.free,λ b o e hx=>?_,I.base.tups,I.base.frzs,I.base.tbls⟩,⟨_,hn',λ j y v' e1 e2 e3=>?_⟩,λ y c e=>?_,I.free,I.freeC,λ p hp=>?_,tracked ⟨oL,hoL,I.free⟩ hs,by simpa using I.len⟩
 ·exact (hs.2 b (Nat.ne_of_lt (Nat.lt_of_lt_of_le (Heap.lt_size e) I.ok.above))).trans (I.base.keep b o e n hb hx)
 ·obtain ⟨sl,e1⟩:=I.base.slot b o e n hb hx
  exact ⟨sl,(hs.2 b (Nat.ne_of_lt (Nat.lt_of_lt_of_le (Heap.lt_size e) I.ok.above))).trans e1⟩
 ·obtain ⟨o',e1⟩:=I.base.there b o e hx
  exact ⟨o',(hs.2 b (Nat.ne_of_lt (Nat.lt_of_lt_of_le (Heap.lt_size e) I.ok.above))).trans e1⟩
 ·by_cases hj:j=i
  ·subst hj
   rw [List.getElem?_set_self hiσ] at e2
   cases e2
  ·rw [List.getElem?_set_ne (Ne.symm hj)] at e2
   obtain ⟨u',r',q⟩:=hl j y v' e1 e2 e3
   refine ⟨u',r',?_⟩
   rcases q with ⟨k,e⟩|⟨k,c,e,z⟩
   ·refine .inl ⟨k,?_⟩
    have:y≠x:=λ e=>hj (zdi hN e1 (e ▸ hi))
    simp [this,e]
   ·exact .inr ⟨k,c,e,z.sameBut hs (cne y c e)⟩
 ·obtain ⟨w',z⟩:=I.cell y c e
  exact ⟨w',z.sameBut hs (cne y c e)⟩
 ·obtain ⟨e,n,ne,nf,d⟩:=I.pin p hp
  exact ⟨(hs.2 p.1 ne).trans e,n,ne,nf,d⟩
theorem zoq {M:Model} {A:Around} {E:Value->Shared->Prop} {i:Nat} {x:Str} {pos:Pos} {Q:Unit->Shared->Prop} (I:Inv X pins σ H s) (hN:X.N.Nodup) (hi:X.N[i]?=some x) (hk:X.env.kindOf x=some .local)
  (h:∀ s',Inv X pins (σ.set i none) H s'->Q () s'):wpAny M A (do bindName X.env x .none;unbindBehindTheSuite X.env x pos) Q E s:=by
 have hiσ:i < σ.length:=by rw [I.len];exact (List.getElem?_eq_some_iff.mp hi).1
 have hp:(X.env.scope.kind == .class || (X.env.scope.kind == .module && X.env.locals != X.env.globals))=false:=by rw [I.ok.kind];rfl
 refine wpAny_bind (wpAny_bindName (zde I hN hi (.inl hk) (v:=.non) rfl (λ s1 I1=>?_) (.inr hk)))
 unfold unbindBehindTheSuite
 refine wpAny_onRaise ?_
 unfold unbindName
 refine wpAny_bind (wpAny_point (wpAny_bind ?_))
 unfold deleteName
 simp only [hk,hp]
 rw [if_neg (by decide)]
 refine wpAny_bind (zp41 I1 hN hi hk (List.getElem?_set_self hiσ) λ h' I2=>?_)
 simp only [if_true,Bool.not_true,Bool.false_eq_true,if_false]
 rw [List.set_set] at I2
 exact wpAny_pure (wpAny_point (h _ I2))
end
def asX (X:Cx) (ea:Addr) (oe:Obj):Cx:={ zzw X ea with pn:=X.pn++[(ea,oe)] }
section
variable {X:Cx} {pins:List (Addr×Obj)} {σ:St} {H H':Hp} {s s':Shared} {ea C:Addr} {oe:Obj} {B:Heap} {a0:Value}
theorem zf41 (I:Inv X pins σ H s) (hp:s.heap.get? ea=some oe/\H ea=none/\ea≠X.env.locals/\ea ∉ X.fs/\∀ v,oe.data≠.cell v):Inv (asX X ea oe) pins σ H s:=by
 have Im:=zpm I ea
 refine ⟨⟨Im.ok.mod,Im.ok.kind,Im.ok.glob,Im.ok.blt,Im.ok.above,Im.ok.inj,Im.ok.has,Im.ok.cab,λ z=>Bool.noConfusion z,Im.ok.frames,Im.ok.stk,Im.ok.exf,Im.ok.bs,Im.ok.bsz,Im.ok.noex,Im.ok.exfs,Im.ok.funs,Im.ok.frf⟩,Im.os,Im.bare,Im.base,Im.loc,Im.cell,Im.free,Im.freeC,λ p h=>?_,Im.hok,Im.len⟩
 have h':p∈(X.pn++[(ea,oe)])++pins:=h
 rcases List.mem_append.mp h' with z|z
 ·rcases List.mem_append.mp z with z|z
  ·exact I.pin p (List.mem_append_left _ z)
  ·simp at z;subst z;exact hp
 ·exact I.pin p (List.mem_append_right _ z)
theorem zav (ok:X.Ok) (I:Inv (asX X ea oe) pins σ H s):Inv X pins σ H s :=
 ⟨ok,I.os,I.bare,I.base,I.loc,I.cell,I.free,I.freeC,λ p h=>I.pin p (by
  show p∈(X.pn++[(ea,oe)])++pins
  rcases List.mem_append.mp h with z|z
  ·exact List.mem_append_left _ (List.mem_append_left _ z)
  ·exact List.mem_append_right _ z),I.hok,I.len⟩
def unD (i:Nat) (D:Ends):Ends:={ nx:=λ σ H=>D.nx (σ.set i none) H,rt:=D.rt,bk:=λ σ H=>D.bk (σ.set i none) H,ct:=λ σ H=>D.ct (σ.set i none) H }
def tAs (i:Nat) (t:Addr->TS):TS:=λ D σ H=>∀ ea,H ea=none->t ea (unD i D) (σ.set i (some (.ref ea))) H
inductive HandsN (X:Cx):List ExceptHandler->List (Value×(Addr->TS))->Prop
|nil:HandsN X [] []
|cons {x n:Str} {np pos:Pos} {i:Nat} {b₀:Stmt} {suite:List Stmt} {c:Value} {t:Addr->Addr->TS} {hs:List ExceptHandler} {l:List (Value×(Addr->TS))}:Gl X x->(X.mg x=some c \/ (X.mg x=none/\bootBuiltins x=some c/\x ≠ "__name__"))->(x == ("__debug__":Str))=false ->
   X.N.Nodup->X.N[i]?=some n->X.env.kindOf n=some .local->(∀ ea oe C,oe.cls=.ref C->PSs (asX X ea oe) (b₀ :: suite) (t C ea))->HandsN X hs l ->
   HandsN X (.ExceptHandler (some (.Name x np)) (some n) (b₀ :: suite) pos :: hs) ((c,λ C=>tAs i (t C)) :: l)
def zzl (K:Fg):List (Value×(Addr->TS))->Addr->Ends->St->Hp->Prop
|[],_,_,_,_=>False
|(c,t) :: r,C,D,σ,H=>∃ b,PySem.W.exmOne K (.ref C) c=some b/\if b=true then t C D σ H else zzl K r C D σ H
theorem zhn (I:Inv X pins σ H s) (c:Come X H s ea C B a0 H' s') (hthere:∃ o,s'.heap.get? ea=some o) {D:Ends}:∀ {hs:List ExceptHandler} {l:List (Value×(Addr->TS))},HandsN X hs l->∀ (h:Heap) (tk:Nat),Heap.FlyingW B X.stack ea (.ref C) a0 h->s'.heap.UpToSlots h->zzl X.K l C D σ H' ->
  wpAny (model X.prog X.w) X.A (handleBy (.ref ea) X.env hs) (SP X pins D) X.xe { s' with heap:=h,toks:=tk }:=by
 intro hs l hh
 induction hh with
|nil=>intro h tk _ _ q;exact False.elim q
|@cons x n np pos i b₀ suite cl t hs l hg hm hdb hN hi hk ht hr ih =>
  intro h tk fl sm q
  obtain ⟨b,hb,q⟩:=q
  have I5:=zdm (tk:=tk) I c fl.1 sm
  have Im:=zpm I5 ea
  have go:∀ (E':Value->Shared->Prop) (Q':Value->Shared->Prop),Q' cl { s' with heap:=h,toks:=tk }->wpAny (model X.prog X.w) (X.A.mark (some (.ref ea))) (eval (.Name x np) X.env) Q' E' { s' with heap:=h,toks:=tk }:=λ E' Q' z=>by
   rcases hm with hm|⟨hm,hv,hn⟩
   ·exact zod (X:=zzw X ea) Im hg hm z hdb
   ·exact zbl (X:=zzw X ea) Im hg hm hv z hn hdb
  refine wpAny_handleBy_cons (codeAny_handlers_test (go _ _ ?_)) (by intro z;cases z)
  obtain ⟨ob,hob,hcl⟩:=fl.there
  have LT:PySem.W.Looks (model X.prog X.w) h (typeOf (.ref ea)) (.ref C):=by
   rw [<- hcl]
   exact (PySem.W.Looks.ld hob).andThen .now
  refine (PySem.W.exm_one (I5.kIn) LT hb).here ?_
  cases b with
 |false =>
   have q':zzl X.K l C D σ H':=by simpa using q
   exact ih h tk fl sm q'
 |true =>
   have q':tAs i (t C) D σ H':=by simpa using q
   refine codeAny_handlers_suite_as (lands_againW fl λ h6 fl6 sm6=>?_)
   have I6:=zdm (tk:=tk) I c fl6.1 (sm.trans sm6)
   obtain ⟨oe,vs,ho6,hc6,hd6,_⟩:=fl6.first
   have hne:B.get? ea=none:=fl6.2.1
   have hH:H' ea=none:=by
    cases e:H' ea with
   |none=>rfl
   |some u =>
     obtain ⟨o,ho⟩:=hthere
     have:=c.b1 ea o u ho e
     rw [hne] at this;cases this
   have Ia:Inv (asX X ea oe) pins σ H' { s' with heap:=h6,toks:=tk }:=by
    refine zf41 I6 (ea:=ea) (oe:=oe) ⟨ho6,hH,λ z=>?_,λ hb=>?_,λ v z=>by rw [hd6] at z;cases z⟩
    ·obtain ⟨m,⟨oL,es,ep,hoL,hdL,_⟩,_⟩:=I6.loc
     have hoL':h6.get? X.env.locals=some oL:=hoL
     rw [<- z,ho6] at hoL';cases hoL'
     rw [hd6] at hdL;cases hdL
    ·obtain ⟨_,o',e',hd⟩:=I6.funs.mem hb
     have e'':h6.get? ea=some o':=e'
     rw [ho6] at e'';cases e''
     exact hd _ hd6
   refine zde (X:=asX X ea oe) Ia hN hi (.inl hk) (v:=.ref ea) rfl (λ s7 I7=>?_) (.inr hk)
   refine wpAny_noRaise (thn (ht ea oe C hc6 pins _ _ H' _ I7 (q' ea hH)) λ f s8 q8=>?_)
   have fin:∀ {σ2:St} {H2:Hp} {Q:Unit->Shared->Prop},Inv (asX X ea oe) pins σ2 H2 s8->(∀ s9,Inv X pins (σ2.set i none) H2 s9->Q () s9)->wpAny (model X.prog X.w) X.A (do bindName X.env n .none;unbindBehindTheSuite X.env n pos) Q X.xe s8:=λ I8 k=>zoq (zav I.ok I8) hN hi hk k
   cases f with
  |next=>obtain ⟨σ2,H2,I8,q2⟩:=q8;exact fin I8 λ s9 I9=>⟨_,H2,I9,q2⟩
  |brk=>obtain ⟨σ2,H2,I8,q2⟩:=q8;exact fin I8 λ s9 I9=>⟨_,H2,I9,q2⟩
  |cont=>obtain ⟨σ2,H2,I8,q2⟩:=q8;exact fin I8 λ s9 I9=>⟨_,H2,I9,q2⟩
  |ret u=>obtain ⟨v,σ2,H2,I8,r2,q2⟩:=q8;exact fin I8 λ s9 I9=>⟨v,_,H2,I9,r2,q2⟩
def zp61 (K:Fg) (l:List (Value×(Addr->TS))) (D:Ends) (σ:St):XK:=λ V _ H'=>∃ c,V=.ref c/\zzl K l c D σ H'
theorem znu {outer:List Env} {L:Addr} {D:Ends} {hs:List ExceptHandler} {l:List (Value×(Addr->TS))} {e:Value} (hst:X.stack=X.env :: outer) (hf:X.env.frame=some L) (hh:HandsN X hs l) (I:Inv X [] σ H s)
  (h:CX1 X.prog X.w X.stack H s (zp61 X.K l D σ) e s'):tryX X D hs e s':=by
 obtain ⟨ea,C,B,a0,H2,rfl,hfl,hos,hbare,u2,hok,hB,hB2,hB3,c',ec,hE⟩:=h
 cases ec
 have fr:X.A.frames=some (X.env :: outer):=by rw [<- hst];exact I.ok.frames
 have hfl':Heap.FlyingW B (X.env :: outer) ea (.ref C) a0 s'.heap:=by rw [<- hst];exact hfl
 obtain ⟨oe,hoe,_⟩:=hfl.there
 refine wpAny_looks_onW fr hf hfl' λ h4 hheld4 sm4=>?_
 refine wpAny_landsW hheld4 λ h5 fl5 sm5=>?_
 have fl5':Heap.FlyingW B X.stack ea (.ref C) a0 h5:=by rw [hst];exact fl5
 exact zhn I ⟨hos,hbare,u2,hok,hB,hB2,hB3⟩ ⟨oe,hoe⟩ hh h5 s'.toks fl5' (sm4.trans sm5) hE
theorem zxy {outer:List Env} {L:Addr} {body:List Stmt} {h₀:ExceptHandler} {hs:List ExceptHandler} {l:List (Value×(Addr->TS))} {tb:Ends->TS} {pos:Pos} (hst:X.stack=X.env :: outer) (hf:X.env.frame=some L) (hh:∀ pn xe,HandsN (zol X pn xe) (h₀ :: hs) l)
  (hb:∀ (D:Ends) (pn:List (Addr×Obj)) (xe:Value->Shared->Prop),(∀ σ,zk8 (CX1 X.prog X.w) (zol X pn xe) (zp61 X.K l D σ) σ)->PSs (zol X pn xe) body (tb D)):PS X (.Try body (h₀ :: hs) [] [] pos) (tTry tb):=by
 intro pins s σ H D I h
 have ok:=I.ok
 refine wpAny_Try_except ?_
 have I1:=zev I (tryX (zol X (X.pn++pins) X.xe) D (h₀ :: hs))
 have key:=hb D (X.pn++pins) (tryX (zol X (X.pn++pins) X.xe) D (h₀ :: hs)) (λ σ' ps H1 s1 e s2 J c=>znu (X:=zol X (X.pn++pins) X.xe) hst hf (hh _ _) (zjn J) c) [] s σ H D I1 h
 refine wpAny_mono key (λ f s1 q=>?_) λ e s1 q=>?_
 ·cases f with
 |next=>exact wpAny_execs_nil (zc5 ok q)
 |brk=>exact zc5 ok q
 |cont=>exact zc5 ok q
 |ret u=>exact zc5 ok q
 ·exact wpAny_mono q (λ _ s2 q2=>wpAny_mono q2 (λ _ s3 q3=>wpAny_mono q3 (λ f s4 q4=>zc5 ok q4) λ _ _ z=>z) λ _ _ z=>z) λ _ _ z=>z
def rIsE (K:Fg) (ea C:Addr):List V->Hp->VK->Prop:=λ xs H Q=>L4.ExK K C/\∃ cV c b,xs=[.ref ea,cV]/\clsV cV=some c/\PySem.W.kitOne K (.ref C) c=some b/\Q (.bl b) H
theorem zr3 {K:Fg} (h:X.K=K) (hc:oe.cls=.ref C):zg9 (asX X ea oe) (.builtin "isinstance") (rIsE K ea C):=by
 subst h
 intro pins s σ H xs us Q I r h
 obtain ⟨k,cV,c,b,rfl,rc,e,q⟩:=h
 obtain ⟨u,v,rfl,ru,rv⟩:=r.two
 obtain rfl:=zwh rc rv
 cases (show u=Value.ref ea from ru)
 have hp:=I.pin (ea,oe) (List.mem_append_left _ (by show (ea,oe)∈X.pn++[(ea,oe)];simp))
 exact L4.exc_isinst k I.kIn ⟨hp.1,hc⟩ e λ tk=>⟨.bl b,H,I.tok tk,rfl,q⟩
end
end L3
namespace L4
open PySem PySem.Spec PyProof.Rows L2 L3
section
variable {i j:Nat} {ea:Addr}
structure ImpE (i:Nat) (ea:Addr) (te te':TE):Prop where
 of:∀ {σ:L2.St} {H:Hp} {Q Q':VK},σ[i]?=some (some (.ref ea))->(∀ v H1,Q' v H1->Q v H1)->te' σ H Q'->te σ H Q
structure ImpA (i:Nat) (ea:Addr) (ta ta':TA):Prop where
 of:∀ {σ:L2.St} {H:Hp} {Q Q':List V->Hp->Prop},σ[i]?=some (some (.ref ea))->(∀ v H1,Q' v H1->Q v H1)->ta' σ H Q'->ta σ H Q
structure ImpS (i:Nat) (ea:Addr) (ts ts':TS):Prop where
 of:∀ {D:Ends} {σ:L2.St} {H:Hp},σ[i]?=some (some (.ref ea))->ts' D σ H->ts D σ H
variable {te te':TE} {ta ta':TA} {u u':TS}
theorem zp6 {K:Fg} {C:Addr} {cV:V} {c:Value} {b:Bool} (hk:ExK K C) (hc:clsV cV=some c) (hb:PySem.W.kitOne K (.ref C) c=some b):ImpE i ea (tCB (rIsE K ea C) (zw2 (tVar i) (zw2 (tC cV) tNil))) (tC (.bl b)) :=
 ⟨λ hs k q=>⟨_,hs,hk,cV,c,b,rfl,hc,hb,k _ _ q⟩⟩
theorem zjj:ImpA i ea tNil tNil:=⟨λ _ k q=>k _ _ q⟩
theorem zs2 (h:ImpE i ea te te') (h2:ImpA i ea ta ta'):ImpA i ea (zw2 te ta) (zw2 te' ta'):=⟨λ hs k q=>h.of hs (λ v H1 q1=>h2.of hs (λ vs H2 q2=>k _ _ q2) q1) q⟩
theorem zim (h:ImpA i ea ta ta'):ImpE i ea (zgr ta) (zgr ta'):=⟨λ hs k q=>h.of hs (λ vs H1 q1=>⟨q1.1,λ p hp=>k _ _ (q1.2 p hp)⟩) q⟩
theorem zd11 (h:ImpE i ea te te'):ImpS i ea (tAsg te (znd j)) (tAsg te' (znd j)):=⟨λ hs q=>h.of hs (λ _ _ q1=>q1) q⟩
theorem zdr (hij:i≠j) (h:ImpE i ea te te') (h2:ImpS i ea u u'):ImpS i ea (tSeq (tAsg te (znd j)) u) (tSeq (tAsg te' (znd j)) u'):=⟨λ {D σ H} hs q=>h.of hs (λ v H1 q1=>h2.of (by
 rw [List.getElem?_set_ne (λ z=>hij z.symm)];exact hs) q1) q⟩
theorem zcu {K:Fg} {x y:V} {H:Hp} {Q Q':VK} (k:∀ v H1,Q' v H1->Q v H1) (h:zso K x y H Q'):zso K x y H Q:=by
 rcases h with (⟨a,b,e1,e2,q⟩|⟨a,b,e1,e2,e3,q⟩|⟨l,b,xs,zs,e1,e2,e3,e4,e5,q⟩|⟨a,b,xs,ys,e1,e2,e3,e4,e5,e6,q1,q2⟩)|h
 ·exact .inl (.inl ⟨a,b,e1,e2,k _ _ q⟩)
 ·exact .inl (.inr (.inl ⟨a,b,e1,e2,e3,k _ _ q⟩))
 ·exact .inl (.inr (.inr (.inl ⟨l,b,xs,zs,e1,e2,e3,e4,e5,λ p hp=>k _ _ (q p hp)⟩)))
 ·exact .inl (.inr (.inr (.inr ⟨a,b,xs,ys,e1,e2,e3,e4,e5,e6,λ z=>k _ _ (q1 z),λ z p hp=>k _ _ (q2 z p hp)⟩)))
 ·obtain ⟨a,b,xs,ys,e1,e2,e3,e4,e5,q⟩:=h
  exact .inr ⟨a,b,xs,ys,e1,e2,e3,e4,e5,λ p hp=>k _ _ (q p hp)⟩
theorem zds {K:Fg} (h:ImpE i ea te te'):ImpE i ea (tOp (zso K) (tVar j) te) (tOp (zso K) (tVar j) te'):=⟨λ hs k q=>by
 obtain ⟨v,hv,q⟩:=q
 exact ⟨v,hv,h.of hs (λ y H2 q2=>zcu k q2) q⟩⟩
theorem zkt (h:ImpE i ea te te'):ImpE i ea (zfy te) (zfy te'):=⟨λ hs k q=>h.of hs (λ x H1 q1=>by
 obtain ⟨c,e,q1⟩:=q1
 exact ⟨c,e,k _ _ q1⟩) q⟩
end
section
variable {K:Fg} {B:Bs} {F H:Hp} {σ:L2.St} {δ:DSt} {fps:Nat->List Addr} {i:Nat}
theorem RS.setU (r:RS K B F H σ δ fps) (x:Option V) (hi:δ[i]?=some .un):RS K B F H (σ.set i x) δ fps:=by
 have ne:∀ {j:Nat} {s:Sl},δ[j]?=some s->s≠.un->(σ.set i x).getD j none=σ.getD j none:=λ {j s} e hs=>by
  have:i≠j:=λ z=>by subst z;rw [hi] at e;cases e;exact hs rfl
  rw [List.getD_eq_getElem?_getD,List.getElem?_set_ne this,<- List.getD_eq_getElem?_getD]
 refine ⟨r.hh,r.ff,r.fh,r.nw,r.al,by rw [List.length_set];exact r.len,λ j d e=>?_,λ j s e hs=>?_,r.fr,r.dj⟩
 ·rw [ne e (λ z=>by cases z)];exact r.sh j d e
 ·rw [ne e (λ z=>by subst z;cases hs)];exact r.rt j s e hs
def zgi (K:Fg):List (Value×(Addr->DS))->Addr->DEnds->DSt->Prop
|[],_,_,_=>False
|(c,d) :: r,C,E,δ=>∃ b,PySem.W.exmOne K (.ref C) c=some b/\if b=true then d C E δ else zgi K r C E δ
def dAs (i:Nat) (d:DS):DS:=λ E δ=>δ[i]?=some .un/\d { nx:=λ δ'=>δ'[i]?=some .un/\E.nx δ',bk:=λ δ'=>δ'[i]?=some .un/\E.bk δ',ct:=λ δ'=>δ'[i]?=some .un/\E.ct δ',rt:=E.rt } δ
def dG (Cs:List Addr) (C:Addr) (d:DS):DS:=λ E δ=>C∈Cs/\d E δ
inductive RfHsN (K:Fg):List (Value×(Addr->TS))->List (Value×(Addr->DS))->Prop
|nil:RfHsN K [] []
|cons {Cs:List Addr} {c:Value} {i:Nat} {t:Addr->Addr->TS} {t':Addr->TS} {d:Addr->DS} {l:List (Value×(Addr->TS))} {hs:List (Value×(Addr->DS))}:(∀ C,C∈Cs->∀ ea,ImpS i ea (t C ea) (t' C))->(∀ C,C∈Cs->RfS K (t' C) (d C))->RfHsN K l hs->RfHsN K ((c,λ C=>tAs i (t C)) :: l) ((c,λ C=>dAs i (dG Cs C (d C))) :: hs)
theorem znv {E:DEnds} {Z:Ends} {C:Addr} (r:RS K B F H σ δ fps) (k:En K B E Z) {l:List (Value×(Addr->TS))} {hs:List (Value×(Addr->DS))} (h:RfHsN K l hs):zgi K hs C E δ->zzl K l C Z σ H:=by
 induction h with
|nil=>exact λ z=>z
|@cons Cs c i t t' d l hs hi ht _ ih =>
  rintro ⟨b,hb,q⟩
  refine ⟨b,hb,?_⟩
  cases b with
 |true =>
   rw [if_pos rfl] at q ⊢
   obtain ⟨hu,hC,q⟩:=q
   intro ea hea
   have hlt:i < σ.length:=by rw [r.len];exact (List.getElem?_eq_some_iff.mp hu).1
   refine (hi C hC ea).of (List.getElem?_set_self hlt) (ht C hC (r.setU _ hu) q ⟨λ r' q'=>k.nx (r'.setU none q'.1) q'.2,λ r' q'=>k.bk (r'.setU none q'.1) q'.2,λ r' q'=>k.ct (r'.setU none q'.1) q'.2,λ res q'=>k.rt res q'⟩)
 |false=>rw [if_neg Bool.false_ne_true] at q ⊢;exact ih q
def zs71 (K:Fg) (db:DX->DS) (hs:List (Value×(Addr->DS))):DS:=λ E δ=>db (λ C δ'=>zgi K hs C E δ') E δ
theorem zn01 {tb:Ends->TS} {db:DX->DS} {l:List (Value×(Addr->TS))} {hs:List (Value×(Addr->DS))} (hb:∀ (D:Ends) (ex:DX),RfSe K (zp61 K l D) ex (tb D) (db ex)) (hh:RfHsN K l hs):RfS K (tTry tb) (zs71 K db hs):=by
 intro B F H σ δ fps E Z r h k
 exact hb Z _ (λ r' q=>⟨_,rfl,znv r' k hh q⟩) r h k
end
structure KxT (K:Fg) (Cs Ds:List Addr):Prop where
 ex:∀ C∈Cs,ExK K C
 one:∀ C∈Cs,∀ D∈Ds,PySem.W.kitOne K (.ref C) (.ref D)=some (C == D)
 ve:∀ C∈Cs,PySem.W.kitOne K (.ref C) (.type "ValueError")=some true
 nd:Ds.Nodup
theorem zyd {α:Type} {p:α->Prop}:∀ x∈([]:List α),p x:=λ _ h=>by simp at h
theorem zn0 {α:Type} {p:α->Prop} {a:α} {l:List α} (h:p a) (r:∀ x∈l,p x):∀ x∈a :: l,p x:=λ x hx=>by
 rcases List.mem_cons.mp hx with z|z
 ·rw [z];exact h
 ·exact r x z
theorem zvz (K:Fg) (db:DX->DS) (hs:List (Value×(Addr->DS))) (E:DEnds) (δ:DSt):zs71 K db hs E δ=db (λ C δ'=>zgi K hs C E δ') E δ:=rfl
theorem zgp (K:Fg) (C:Addr) (E:DEnds) (δ:DSt):zgi K [] C E δ=False:=rfl
theorem ztp (K:Fg) (c:Value) (d:Addr->DS) (r:List (Value×(Addr->DS))) (C:Addr) (E:DEnds) (δ:DSt):zgi K ((c,d) :: r) C E δ=∃ b,PySem.W.exmOne K (.ref C) c=some b/\if b=true then d C E δ else zgi K r C E δ:=rfl
theorem zoa1 (i:Nat) (d:DS) (E:DEnds) (δ:DSt):dAs i d E δ=(δ[i]?=some .un/\d { nx:=λ δ'=>δ'[i]?=some .un/\E.nx δ',bk:=λ δ'=>δ'[i]?=some .un/\E.bk δ',ct:=λ δ'=>δ'[i]?=some .un/\E.ct δ',rt:=E.rt } δ):=rfl
theorem e_dG (Cs:List Addr) (C:Addr) (d:DS) (E:DEnds) (δ:DSt):dG Cs C d E δ=(C∈Cs/\d E δ):=rfl
end L4
namespace L3
open PySem PySem.Spec PyProof.Rows L2
section
variable {X:Cx} {tg:Expr}
end
end L3
namespace L4
open PySem PySem.Spec PyProof.Rows L2 L3
section
variable {K:Fg} {w:World}
end
section
variable {K:Fg} {te:TE} {de:DE} {tj:TJ} {dj:DJ}
def zmu:D->Prop
|.int i=>-10000000000000000000000000000000000000000 < i/\i < 10000000000000000000000000000000000000000
|_=>False
theorem zcq {i:Int} (h1:-10000000000000000000000000000000000000000 < i) (h2:i < 10000000000000000000000000000000000000000):i.natAbs.log2 < 1920:=by
 by_cases z:i.natAbs=0
 ·rw [z];decide
 ·have:i.natAbs.log2 < 140:=(Nat.log2_lt z).mpr (by lia)
  lia
def dJI (de:DE) (dj:DJ):DJ:=λ δ n Q=>de δ λ d=>zmu d/\n+2000<=sizeLine/\dj δ (n+2000) Q
theorem zog (he:RfE K te de) (h:RfFs K tj dj):RfFs K (zx41 K te tj) (dJI de dj):=by
 intro F H σ δ acc n Qd Q s rv hn hd k
 refine he s rv hd λ d hx v F1 H1 e1 i1=>?_
 obtain ⟨hs,h1,h2⟩:=hx
 cases d with
|int i =>
  obtain ⟨b1,b2⟩:=hs
  have hl:=zcq b1 b2
  cases i1
  have hz:=int_text_len_1921 hl
  have:=zvm acc (Str.ofString (toString i))
  refine .inl (.inr ⟨i,rfl,hl,by lia,?_⟩)
  exact h e1.fh (rv.ext e1) (by lia) h2 λ m q z F2 H2 e2 hz=>k m q z F2 H2 (e1.trans e2) hz
|list _=>exact hs.elim
|none=>exact hs.elim
|bool _=>exact hs.elim
|str _=>exact hs.elim
|tuple _=>exact hs.elim
|dict _=>exact hs.elim
theorem zpa1 (de:DE) (dj:DJ) (δ:DSt) (n:Nat) (Q:Nat->Prop):dJI de dj δ n Q=de δ λ d=>zmu d/\n+2000<=sizeLine/\dj δ (n+2000) Q:=rfl
theorem zxs (i:Int):zmu (.int i)=(-10000000000000000000000000000000000000000 < i/\i < 10000000000000000000000000000000000000000):=rfl
end
section
variable {K:Fg} {te te1 te2:TE} {df:DF} {de:DE} {dc:DC}
def zt51 (df:DF) (de:DE):DC:=λ δ Q=>df δ λ xs=>de δ λ d=>Q (.tp [.li xs,.fz d]) δ
theorem zww (h1:RfF K te1 df) (h2:RfE K te2 de):RfC K (zt21 (zw2 te1 (zw2 te2 tNil))) (zt51 df de):=by
 intro B F H σ δ fps Qd Q r hd k
 refine h1 r.fh r.rv hd λ xs hx a vs F1 H1 e1 hn g1 g2 g3=>h2 e1.fh (r.rv.ext e1) hx λ d hq v F2 H2 e2 i2=>?_
 refine ⟨by rw [sizeLine_eq];simp,λ l hl=>?_⟩
 have e12:=e1.trans e2
 have hl0:H l=none:=by
  cases z:H l with
 |none=>rfl
 |some o=>rw [e12.h l o z] at hl;cases hl
 have hla:a≠l:=λ z=>by subst z;rw [e2.h _ _ g1] at hl;cases hl
 have fl:F2 l=none:=by
  cases z:F2 l with
 |none=>rfl
 |some o=>rw [e2.fh l o z] at hl;cases hl
 have ga:upd H2 l (.tup [.ref a,v]) a=some (.lst vs):=by rw [zw0 hla];exact e2.h _ _ g1
 have fa:F2 a=none:=e2.nw a (by rw [g1];simp) g2
 have na:=r.newOk hn
 have nl:=r.newOk hl0
 refine k _ _ hq (.ref l) F2 _ fps [l,a] ⟨r.grow (e12.trans (zes e2.fh hl)),?_,by simp [Ne.symm hla],λ b hb=>?_,λ j s ej hs b hb hb2=>?_⟩
 ·exact .tp zp0 fl (.cons (.li ga fa (g3.mono e2.f)) (.cons (.fz i2) .nil))
 ·simp at hb
  rcases hb with rfl|rfl
  ·exact nl.1
  ·exact na.1
 ·simp at hb2
  rcases hb2 with rfl|rfl
  ·exact nl.2 j s ej hs hb
  ·exact na.2 j s ej hs hb
def dUnp (i j:Nat) (dc:DC):DS:=λ E δ=>dc δ λ r δ'=>∃ t d,r=.tp [t,.fz d]/\E.nx ((δ'.set i (slot t)).set j (.sh d))
theorem zs31 (i j:Nat) (hc:RfC K te dc):RfS K (tAsg te (gTup K 2 (zu21 (znd i) (zu21 (znd j) gNil)))) (dUnp i j dc):=by
 intro B F H σ δ fps E Z r h k
 refine hc r h λ r2 δ' q v F1 H1 fps1 fpr res=>?_
 obtain ⟨t,d,rfl,q⟩:=q
 obtain ⟨rs,rt,nd,fr,dj⟩:=res
 cases rt with
|@tp a xs ts fp h1 h2 h3 =>
  cases h3 with
 |@cons x _ _ _ fpa fpb ra rb =>
   cases rb with
  |@cons y _ _ _ fpc fpd rc rd =>
    cases rd
    cases rc with
   |fz i2 =>
     have res1:Res K B F1 H1 σ δ' fps1 x t fpa:=⟨rs,ra,(List.nodup_append.mp (List.nodup_cons.mp nd).2).1,λ b hb=>fr b (List.mem_cons_of_mem _ (List.mem_append_left _ hb)),λ jj s ej hs b hb hb2=>dj jj s ej hs b hb (List.mem_cons_of_mem _ (List.mem_append_left _ hb2))⟩
     obtain ⟨fps2,r3⟩:=res1.set i
     exact ⟨a,[x,y],rfl,SqT.of h1,rfl,x,[y],rfl,y,[],rfl,rfl,k.nx (r3.setS (i:=j) i2) q⟩
def zp51 (dc:DCX) (dg:DG) (db:DS) (ex:DX):DS:=λ E δ=>dc δ (λ r δ'=>∃ ds,r=.fz (.list ds)/\dFor (λ _ Q=>Q ds) dg db E δ') ex
theorem zw01 {Eσ:L2.St->XK} {ex:DX} {dc:DCX} {g:TG} {dg:DG} {n:Nat} {tb:TS} {db:DS} (hc:RfCx K Eσ te dc) (hg:RfG K n g dg) (hb:RfSe K Eσ ex tb db):RfSe K Eσ ex (tFor (iW K te) g tb) (zp51 dc dg db ex):=by
 intro B F H σ δ fps E Z o r h k
 refine hc.of r h (λ r2 δ1 q v F1 H1 fps1 fpr res=>?_) λ C δ' q F1 H1 fps1 r1=>o r1 q
 obtain ⟨items,rfl,hx⟩:=q
 obtain ⟨r1,rt,nd,fr,dj⟩:=res
 cases rt with
|fz i1 =>
  obtain ⟨p,xs,rfl,h1,i2⟩:=i1.list_inv
  refine .inl (.inl ⟨p,rfl,⟨xs,r1.fh.seq h1⟩,?_⟩)
  have wj:=λ (F2 H2:Hp) (s2:Same F1 F2) (t2:Same F2 H2)=>(zgo (t2.seq (s2.seq h1)) (i2.mono s2)).w1 t2
  obtain ⟨W,w0,ws,we⟩:=hx
  have s0:=r1.ff
  have n0:=r1.nw
  have o1:ExOk K Eσ ex (B.rem F1):=o.mono λ r3=>r3.unrem s0 n0
  refine ⟨λ i m σ' H'=>m=items.length - i/\i<=items.length/\∃ F' δ' fps',RS K (B.rem F1) F' H' σ' δ' fps'/\W i δ',⟨items.length,rfl,Nat.zero_le _,F1,δ1,fps1,r1.rem s0 (λ _ _ z=>z),w0⟩,?_⟩
  rintro i m σ' H' ⟨rfl,hi',F',δ',fps',r',w'⟩
  obtain ⟨go,stop,yld⟩:=wj F' H' r'.ff r'.fh
  by_cases hlt:i < items.length
  ·refine .inr ⟨go i hlt,λ σ2 H2=>i+1<=items.length/\∃ F2 δ2 fps2,RS K (B.rem F1) F2 H2 σ2 δ2 fps2/\W (i+1) δ2,λ σ2 H2 p=>⟨_,by lia,rfl,p⟩,λ x H2 y=>?_⟩
   have hit:items[i]?=some items[i]:=List.getElem?_eq_getElem hlt
   obtain ⟨F2,ex2,ix2⟩:=yld i x H2 _ hit y
   refine hg ex2.fh ix2 (ws i _ δ' hit w') λ σ2 δ2 hd2 u2=>?_
   refine hb o1 ((r'.grow ex2).byUpd u2) hd2 ⟨λ r3 q=>⟨hlt,_,_,_,r3,q⟩,λ r3 q=>k.nx (r3.unrem s0 n0) q,λ r3 q=>⟨hlt,_,_,_,r3,q⟩,λ res q=>k.rt ⟨res.rs.unrem s0 n0,res.rt,res.nd,res.fr,res.dj⟩ q⟩
  ·have e:i=items.length:=by lia
   subst e
   exact .inl ⟨stop,k.nx (r'.unrem s0 n0) (we _ w')⟩
theorem zk01 (dc:DCX) (dg:DG) (db:DS) (ex:DX) (E:DEnds) (δ:DSt):zp51 dc dg db ex E δ=dc δ (λ r δ'=>∃ ds,r=.fz (.list ds)/\dFor (λ _ Q=>Q ds) dg db E δ') ex:=rfl
theorem ziz (df:DF) (de:DE) (δ:DSt) (Q:T->DSt->Prop):zt51 df de δ Q=df δ λ xs=>de δ λ d=>Q (.tp [.li xs,.fz d]) δ:=rfl
theorem zf31 (i j:Nat) (dc:DC) (E:DEnds) (δ:DSt):dUnp i j dc E δ=dc δ λ r δ'=>∃ t d,r=.tp [t,.fz d]/\E.nx ((δ'.set i (slot t)).set j (.sh d)):=rfl
end
section
variable {X:Cx} {x:Str} {pos pos':Pos} {e a b:Expr} {te ta tb:TE} {k j:Nat} {K:Fg}
theorem pset (i:Nat) (hN:X.N.Nodup) (he:PE X e te) (hi:X.N[i]?=some x:=by rfl) (hx:Loc X.env.scope x:=by first|exact Or.inl rfl|exact Or.inr rfl) (hs:swapsWith e (some (.Name x pos')) pos.line X.env=pure false:=by rfl) (hf:X.fn x=true \/ X.env.scope.names.lookup x=some .local:=by first|exact .inl rfl|exact .inr rfl|assumption):PS X (.Assign [.Name x pos'] e pos) (tAsg te (znd i)):=zt31 hN hi hx he hs hf
theorem pgn (i:Nat) (hN:X.N.Nodup) (hi:X.N[i]?=some x:=by rfl) (hx:Loc X.env.scope x:=by first|exact Or.inl rfl|exact Or.inr rfl) (hf:X.fn x=true \/ X.env.scope.names.lookup x=some .local:=by first|exact .inl rfl|exact .inr rfl|assumption):PG X (.Name x pos) (znd i):=zoz hN hi hx hf
theorem pix (w:World) (K:Fg) (hr:Room k X.A) (ha:PE X a ta) (hb:PE X b tb) (hw:X.w=w:=by rfl) (hK:X.K=K:=by rfl) (hs:zgs b:=by exact λ _ _=>rfl):PE X (.Subscript a b pos) (tOp (rIxV w K) ta tb):=zfb1 (ix_V (Room.units hr) hw hK) ha hb hs
theorem nds (l:List Str) (h:l.Nodup:=by decide +kernel):l.Nodup:=h
theorem rvi {i:Int}:RfV K (tC (.int i)) (dC (.int i)):=RfE.v zd1
theorem rgn (i:Nat) (hi:i < 100:=by decide):RfG K 100 (znd i) (gN i):=zw1 hi
theorem rmn {A:Around} (hr:Room k A) (h:j<=k:=by decide):Room j A:=Room.mono hr h
end
end L4
open PySem PySem.Spec PyProof.Rows L2 L3 L4 L5
local macro_rules|`(tactic| walk_at "sc")=>`(tactic| exact ⟨rfl,rfl,rfl,by decide +kernel,rfl,by decide +kernel,by decide +kernel⟩)
local macro_rules|`(tactic| walk_at "csc")=>`(tactic| exact ⟨rfl,by decide +kernel,by decide +kernel,by decide +kernel,by decide +kernel⟩)
local macro_rules|`(tactic| walk_at "ds")=>do `(tactic| simp only [$(<- ("zpf zzb zs21 List.map_cons List.map_nil List.length_cons List.length_nil Nat.reduceAdd Nat.reduceSub List.replicate List.cons_append List.nil_append".splitOn " ").toArray.mapM λ s=>`(Lean.Parser.Tactic.simpLemma| $(Lean.mkIdent s.toName):ident)),*])
local macro_rules|`(tactic| walk_at "cs")=>do `(tactic| simp only [$(<- ("cST List.map_cons List.map_nil List.replicate List.cons_append List.nil_append List.getD_cons_zero List.getD_cons_succ".splitOn " ").toArray.mapM λ s=>`(Lean.Parser.Tactic.simpLemma| $(Lean.mkIdent s.toName):ident)),*])
local macro_rules|`(tactic| walk_at "dd")=>do `(tactic| simp only [$(<- ("e_dF zgx zvz ziz zf31 zk01 zgp ztp zoa1 e_dG zpa1 zxs e_dC zj91 zl51 ze71 zs91 zwz zry za61 zh01 zr51 zj51 zia1 zf61 za71 zwu zw31 zbx zn61 zh61 zcx zrv zha1 zo91 zra1 zyo zox zaa1 zj41 zh91 znw zf11 e_gN zu11 ziu e_gT zxx ze61 zda1 zcb1 zdb1 e_cE e_cF zuz zi41 zc41 zlw zy61 zv01 zq91 zhb1 zm51 zvx zp91 e_nE e_nF e_cN zq51 znp ze31 zs41 e_aD e_aB e_aO zuy zzz zmz e_eN zvy zfv ztq zkp zq01 zj01 zvt zlz zft zm01 zfz zdv zuu zua1 zjb1 zta1 zuq zpp zx21 zz21 zy01 zb41 zg71 zx61 zl41 zy91 zjy zz01 zc61 zr61 zm71 zh41 zgb1 zn91 zib1 zpz zaz zk41 zsz zt91 zlx fAdd fCat fI fI0 fMul fRep fEq fNe fIx zut fNeg fB fTru fLen zb61 zw61 fAbs zhs fInt zab1 zk71 fSl fSlF zg11 zg41 ze41 zk31 zy31 za51 zz51 zc11 zo31 zo71 zla1 zu71 fzT vwT slT slot Sl.wth mApp fPut fGet fII keyD nFld nCls noM nSet nFII nIx noO noS zvr oneO zuv ArgP.arg toD zcz zk51 exA oIx List.getElem?_cons_zero List.getElem?_cons_succ List.set_cons_zero List.set_cons_succ List.length_cons List.length_nil List.map_cons List.map_nil List.nil_append List.cons_append List.lookup putA setP getP beq_self_eq_true Nat.reduceAdd Nat.reduceSub Nat.reduceMul Int.reduceAdd Int.reduceSub Int.reduceMul Int.reduceNeg Int.reduceLT Int.reduceLE Int.reducePow Int.reduceToNat Nat.reducePow Nat.reduceLT Nat.reduceLeDiff Nat.reduceEqDiff Int.reduceEq Int.reduceMod Int.reduceDiv Int.reduceBEq Int.reduceBNe Int.reduceGT Int.reduceGE zm21 CPow sizeLine_eq decide_eq_true_eq decide_true decide_false Bool.not_true Bool.not_false Bool.not_eq_true' Bool.not_eq_eq_eq_not Bool.not_not decide_eq_false_iff_not decide_not true_and and_true if_true if_false Bool.false_eq_true reduceCtorEq ite_true ite_false not_false_eq_true not_true_eq_false ne_eq Option.some.injEq exists_eq_left' exists_eq_left Option.map_some Option.map_none Option.bind_some zc9 zy8 zda zqg zoh zj9 zej zwf zca zq9 zv9 zlb zyg zhg zgj zbg zl7 zn7 zj7 zm6 zj5 zd6 zzd zu7 zd7 zf6 zn5 zc6 zaf zm7 zf7 zb6 zm5 zh6 zxe zc7 zwe zg6 zz4 zi6 zad za6 zkc zoc zm4 zo5 zgb zq5 zza zna zr4 zl4 zhc ze6 zgc zvc zw4 zo4 zne zdf zee zqe zsc zra zjc zeb zcb zia zrb zw9 zz7 zy9 zag zxf zmh zmg zae zlc zfe zmi zni zii zfj zdh zpe zfg zue zme zmf zre zic zfb zyc zze zqf zce zdc zoa zzc zhf zkf zqc zsb znc zof zte zbc zbb zcd zjf zmc zua zfc zbd zz9 zea zxa zu9 zr9 zwc zfa zo9".splitOn " ").toArray.mapM λ s=>`(Lean.Parser.Tactic.simpLemma| $(Lean.mkIdent s.toName):ident)),*])
local macro_rules|`(tactic| walk_at "dn")=>`(tactic| (refine ze0 λ J hJ=>?_;walk_at "dd";refine hJ _ ?_;clear hJ))
local macro_rules|`(tactic| walk_at "dns")=>`(tactic| repeat walk_at "dn")
namespace K13
open PySem PySem.Spec PyProof.Rows L2 L3 L4 L5
def top (i:Nat):Stmt:=PySem.Challenge.pw_vatyard_k13_played_refused.main.body.getD i (.Pass ⟨0,0,0,0⟩)
abbrev zs81:Stmt:=top 0
abbrev zno:Stmt:=zf3 (top 13) 0
abbrev zx2:Stmt:=zf3 (top 14) 0
abbrev zy2:Stmt:=zf3 (top 14) 1
abbrev zo3:Stmt:=zf3 (top 15) 0
abbrev zu3:Stmt:=zf3 (top 15) 1
abbrev zg3:Stmt:=zf3 (top 16) 0
abbrev ze3:Stmt:=zf3 (top 16) 1
abbrev zsf:Stmt:=top 17
abbrev zq1:Stmt:=zf3 (top 19) 0
abbrev zjz:Stmt:=zf3 (top 19) 1
abbrev zq6:Stmt:=zf3 (top 19) 2
abbrev zio:Stmt:=zf3 (top 19) 3
abbrev zi4:Stmt:=zf3 (top 19) 4
abbrev zv5:Stmt:=zf3 (top 19) 5
abbrev zpb:Stmt:=zf3 (top 19) 6
abbrev zx6:Stmt:=zf3 (top 19) 7
abbrev zr5:Stmt:=top 20
abbrev zh4:Stmt:=top 21
abbrev zqi:Stmt:=top 22
abbrev zy7:Stmt:=top 24
abbrev zv8:Stmt:=top 25
abbrev zq8:Stmt:=top 26
abbrev zb8:Stmt:=top 27
abbrev zg8:Stmt:=top 28
abbrev zv6:Stmt:=top 29
abbrev zd4:Stmt:=top 30
abbrev zc4:Stmt:=top 31
abbrev zz6:Stmt:=top 32
abbrev zpa:Stmt:=top 33
abbrev zw5:Stmt:=top 34
abbrev zm2:Stmt:=top 35
abbrev zn2:Stmt:=top 36
abbrev zg5:Stmt:=top 37
abbrev zw6:Stmt:=top 38
abbrev zz2:Stmt:=top 39
abbrev zt2:Stmt:=top 40
abbrev zf4:Stmt:=top 41
abbrev zh3:Stmt:=top 42
abbrev zbw:Stmt:=top 43
inductive Gt where
|st (x:Int)|la (x:Int) (f:Nat)|ti (x y:Int) (t:Nat)
def Gt.d:Gt->D
|.st x=>.tuple [.str "steady",.int x]
|.la x f=>.tuple [.str "late",.int x,.int (f:Int)]
|.ti x y t=>.tuple [.str "tidal",.int x,.int y,.int (t:Int)]
def Gt.at:Gt->Nat->Int
|.st x,_=>x
|.la x f,m=>if f<=m then x else 0
|.ti x y t,m=>if m % t=0 then x else y
def Gt.ob (C1 C2 C3:Addr):Gt->L4.T
|.st x=>.ob C1 [("wide",.fz (.int x))]
|.la x f=>.ob C2 [("wide",.fz (.int x)),("since",.fz (.int (f:Int)))]
|.ti x y t=>.ob C3 [("wide",.fz (.int x)),("other",.fz (.int y)),("turn",.fz (.int (t:Int)))]
def Gt.ok:Gt->Prop
|.ti _ _ t=>0 < t/\t < 1000
|_=>True
section
variable {P:Program} {w:World} {K:Fg} {mg:Str->Option Value} {base:Heap} {jB jF jC:Addr}
def zq4 (C:Addr):DSpT:=λ as Q=>∃ x:Int,as=[.o (.ob C []),.d (.int x)]/\Q (.fz .none) (.ob C [("wide",.fz (.int x))])
def zj6 (C:Addr):DSpT:=λ as Q=>∃ x y:Int,as=[.o (.ob C []),.d (.int x),.d (.int y)]/\Q (.fz .none) (.ob C [("wide",.fz (.int x)),("since",.fz (.int y))])
def zi5 (C:Addr):DSpT:=λ as Q=>∃ x y z:Int,as=[.o (.ob C []),.d (.int x),.d (.int y),.d (.int z)]/\Q (.fz .none) (.ob C [("wide",.fz (.int x)),("other",.fz (.int y)),("turn",.fz (.int z))])
def za2 (C:Addr):DSpT:=λ as Q=>∃ (x:Int) (m:Nat),as=[.b (.ob C [("wide",.fz (.int x))]),.d (.int (m:Int))]/\Q (.fz (.int (Gt.at (.st x) m))) (.fz .none)
def zr2 (C:Addr):DSpT:=λ as Q=>∃ (x:Int) (f m:Nat),as=[.b (.ob C [("wide",.fz (.int x)),("since",.fz (.int (f:Int)))]),.d (.int (m:Int))]/\Q (.fz (.int (Gt.at (.la x f) m))) (.fz .none)
def ze2 (C:Addr):DSpT:=λ as Q=>∃ (x y:Int) (t m:Nat),as=[.b (.ob C [("wide",.fz (.int x)),("other",.fz (.int y)),("turn",.fz (.int (t:Int)))]),.d (.int (m:Int))]/\0 < t/\t < 1000/\Q (.fz (.int (Gt.at (.ti x y t) m))) (.fz .none)
def zvj (C1 C2 C3:Addr):DSpT:=λ as Q=>∃ g:Gt,as=[.d g.d]/\Q (g.ob C1 C2 C3) (.fz .none)
def zx71:DSp:=λ ds Q=>∃ (g:Gt) (m:Nat),ds=[g.d,.int (m:Int)]/\g.ok/\Q (.int (g.at m))
theorem zw3:FnScope ["self", "wide"] ["self", "wide"] (zh0 zx2):=by walk_at "sc"
theorem zj8 (M:Md K mg) (cT:TopCls K "Steady" jB) (T:TopMeth K jB "__init__" "Steady.__init__" zx2) (kB:zk1 K jB "wide"):zlo P w K mg base "Steady" jB 1 ["self", "wide"] (spT K (zq4 jB)):=by
 have kT:=cT.cls
 refine zzj M cT T zw3 (λ _ _ _ _ _ _ us hl=>by obtain ⟨_,_,rfl⟩:=ar2 hl;rfl) (zel λ as Qd h=>by obtain ⟨_,rfl,_⟩:=h;rfl) (zp8 ?_)
 intro f cdv A outer s H E hr
 have nd:=zw3.nd
 refine ⟨_,_,(zk0 (zq7 (pv 0) (pv 1) rfl)),(zh7 kT kB (RfE.c (zi0 1)) (zx0 0)),?_⟩
 rintro as Qd a ⟨x,rfl,q⟩
 walk_at "ds"
 walk_at "dd"
 exact ⟨_,rfl,q⟩
theorem zk5:FnScope ["self", "wide", "since"] ["self", "wide", "since"] (zh0 zo3):=by walk_at "sc"
theorem ztb (M:Md K mg) (cT:TopCls K "Late" jF) (T:TopMeth K jF "__init__" "Late.__init__" zo3) (kM:zk1 K jF "wide") (kF:zk1 K jF "since"):zlo P w K mg base "Late" jF 1 ["self", "wide", "since"] (spT K (zj6 jF)):=by
 have qJ:=cT.cls
 refine zzj M cT T zk5 (λ _ _ _ _ _ _ us hl=>by obtain ⟨_,_,_,rfl⟩:=ar3 hl;rfl) (zel λ as Qd h=>by obtain ⟨_,_,rfl,_⟩:=h;rfl) (zp8 ?_)
 intro f cdv A outer s H E hr
 have nd:=zk5.nd
 refine ⟨_,_,(zd0 (zq7 (pv 0) (pv 1) rfl)
   (zk0 (zq7 (pv 0) (pv 2) rfl))),(zm0 (zh7 qJ kM (RfE.c (zi0 1)) (zx0 0))
   (zh7 qJ kF (RfE.c (zi0 2)) (zx0 0))),?_⟩
 rintro as Qd a ⟨x,y,rfl,q⟩
 walk_at "ds"
 walk_at "dn"
 walk_at "dd"
 exact ⟨_,rfl,q⟩
theorem zp4:FnScope ["self", "wide", "other", "turn"] ["self", "wide", "other", "turn"] (zh0 zg3):=by walk_at "sc"
theorem zt9 (M:Md K mg) (cT:TopCls K "Tidal" jC) (T:TopMeth K jC "__init__" "Tidal.__init__" zg3) (kG:zk1 K jC "wide") (kC:zk1 K jC "other") (kH:zk1 K jC "turn"):zlo P w K mg base "Tidal" jC 1 ["self", "wide", "other", "turn"] (spT K (zi5 jC)):=by
 have kR:=cT.cls
 refine zzj M cT T zp4 (λ _ _ _ _ _ _ us hl=>by obtain ⟨_,_,_,_,rfl⟩:=ar4 hl;rfl) (zel λ as Qd h=>by obtain ⟨_,_,_,rfl,_⟩:=h;rfl) (zp8 ?_)
 intro f cdv A outer s H E hr
 have nd:=zp4.nd
 refine ⟨_,_,(zd0 (zq7 (pv 0) (pv 1) rfl)
   (zd0 (zq7 (pv 0) (pv 2) rfl)
   (zk0 (zq7 (pv 0) (pv 3) rfl)))),(zm0 (zh7 kR kG (RfE.c (zi0 1)) (zx0 0))
   (zm0 (zh7 kR kC (RfE.c (zi0 2)) (zx0 0))
   (zh7 kR kH (RfE.c (zi0 3)) (zx0 0)))),?_⟩
 rintro as Qd a ⟨x,y,z,rfl,q⟩
 walk_at "ds"
 walk_at "dn"
 walk_at "dn"
 walk_at "dd"
 exact ⟨_,rfl,q⟩
theorem zy3:FnScope ["self", "moment"] ["self", "moment"] (zh0 zy2):=by walk_at "sc"
theorem ze8 (kT:Cls K jB) (T:TopMeth K jB "width_at" "Steady.width_at" zy2) (kB:zk1 K jB "wide"):ztf P w K mg base jB "width_at" 1 ["self", "moment"] (spT K (za2 jB)):=by
 refine zcg kT T zy3 (λ _ _ _ _ _ _ us hl=>by obtain ⟨_,_,rfl⟩:=ar2 hl;rfl) (zel λ as Qd h=>by obtain ⟨_,_,rfl,_⟩:=h;rfl) (zp8 ?_)
 intro f cdv A outer s H E hr
 have nd:=zy3.nd
 refine ⟨_,_,(zk0 (zi1 (zm1 (K:=K) rfl (pv 0) rfl))),(zj1 (RfE.c (RfP.e (zc2 kT kB (zx0 0))))),?_⟩
 rintro as Qd a ⟨x,m,rfl,q⟩
 walk_at "ds"
 walk_at "dd"
 exact q
theorem zp5:FnScope ["self", "moment"] ["self", "moment"] (zh0 zu3):=by walk_at "sc"
theorem zob (qJ:Cls K jF) (T:TopMeth K jF "width_at" "Late.width_at" zu3) (kM:zk1 K jF "wide") (kF:zk1 K jF "since"):ztf P w K mg base jF "width_at" 1 ["self", "moment"] (spT K (zr2 jF)):=by
 refine zcg qJ T zp5 (λ _ _ _ _ _ _ us hl=>by obtain ⟨_,_,rfl⟩:=ar2 hl;rfl) (zel λ as Qd h=>by obtain ⟨_,_,_,rfl,_⟩:=h;rfl) (zp8 ?_)
 intro f cdv A outer s H E hr
 have nd:=zp5.nd
 refine ⟨_,_,(zk0 (zi1 (zfm (zt0 zg01 (pv 1) (zm1 (K:=K) rfl (pv 0) rfl) (zf1 _)) (zm1 (K:=K) rfl (pv 0) rfl) zf0))),(zj1 (RfE.c (zmw (zs0 (zj0 r_ge (zb0 1) (RfP.v (zc2 qJ kF (zx0 0))))) (RfP.e (zc2 qJ kM (zx0 0))) zd1))),?_⟩
 rintro as Qd a ⟨x,f,m,rfl,q⟩
 walk_at "ds"
 walk_at "dd"
 have q:Qd (.fz (.int (if f<=m then x else 0))) (.fz .none):=q
 refine two (λ h=>?_) λ h=>?_
 ·rw [if_pos (by lia)] at q;exact q
 ·rw [if_neg (by lia)] at q;exact q
theorem zt4:FnScope ["self", "moment"] ["self", "moment"] (zh0 ze3):=by walk_at "sc"
theorem zn9 (kR:Cls K jC) (T:TopMeth K jC "width_at" "Tidal.width_at" ze3) (kG:zk1 K jC "wide") (kC:zk1 K jC "other") (kH:zk1 K jC "turn"):ztf P w K mg base jC "width_at" 1 ["self", "moment"] (spT K (ze2 jC)):=by
 refine zcg kR T zt4 (λ _ _ _ _ _ _ us hl=>by obtain ⟨_,_,rfl⟩:=ar2 hl;rfl) (zel λ as Qd h=>by obtain ⟨_,_,_,_,rfl,_⟩:=h;rfl) (zp8 ?_)
 intro f cdv A outer s H E hr
 have nd:=zt4.nd
 refine ⟨_,_,(zk0 (zi1 (zfm (zt0 (zg2 (K:=K) rfl (Room.units hr)) (zq0 ze1 (pv 1) (zm1 (K:=K) rfl (pv 0) rfl)) zf0 (zf1 _)) (zm1 (K:=K) rfl (pv 0) rfl) (zm1 (K:=K) rfl (pv 0) rfl)))),(zj1 (RfE.c (zmw (zs0 (zu1 q_eq (RfV.h (RfE.v (zj0 zf2 (zb0 1) (RfP.v (zc2 kR kH (zx0 0)))))) (RfV.h rvi))) (RfP.e (zc2 kR kG (zx0 0))) (RfP.e (zc2 kR kC (zx0 0)))))),?_⟩
 rintro as Qd a ⟨x,y,t,m,rfl,h0,h1,q⟩
 walk_at "ds"
 walk_at "dd"
 have q:Qd (.fz (.int (if m % t=0 then x else y))) (.fz .none):=q
 have e:((m:Int) % (t:Int)=0) ↔ m % t=0:=by rw [<- Int.natCast_emod];lia
 refine ⟨by lia,two (λ h=>?_) λ h=>?_⟩
 ·rw [if_pos (e.mp h)] at q;exact q
 ·rw [if_neg (λ z=>h (e.mpr z))] at q;exact q
theorem zxg:FnScope ["gate"] ["gate"] (zh0 zsf):=by walk_at "sc"
theorem zbo (M:Md K mg) (T:TopDef K "gate_of" zsf) (vU:zlo P w K mg base "Tidal" jC 1 ["self", "wide", "other", "turn"] (spT K (zi5 jC))) (vS:zlo P w K mg base "Steady" jB 1 ["self", "wide"] (spT K (zq4 jB))) (vX:zlo P w K mg base "Late" jF 1 ["self", "wide", "since"] (spT K (zj6 jF))):Def P w K mg base "gate_of" 3 ["gate"] (spT K (zvj jB jF jC)):=by
 refine zs3 M T zxg (λ _ _ _ _ _ _ us hl=>by obtain ⟨_,rfl⟩:=ar1 hl;rfl) (zel λ as Qd h=>by obtain ⟨_,rfl,_⟩:=h;rfl) (zp8 ?_)
 intro f cdv A outer s H E hr
 have nd:=zxg.nd
 refine ⟨_,_,(zd0 (zn4 (zt0 (zg2 (K:=K) rfl (Room.units hr)) (pix w K hr (pv 0) zf0) zih (zf1 _)) (zk0 (zi1 (zef vS (rmn hr) rfl (za0 (pix w K hr (pv 0) zf0) zg0)))) zc1)
   (zd0 (zn4 (zt0 (zg2 (K:=K) rfl (Room.units hr)) (pix w K hr (pv 0) zf0) zih (zf1 _)) (zk0 (zi1 (zef vX (rmn hr) rfl (za0 (pix w K hr (pv 0) zf0) (za0 (pix w K hr (pv 0) zf0) zg0))))) zc1)
   (zk0 (zi1 (zef vU (rmn hr) rfl (za0 (pix w K hr (pv 0) zf0) (za0 (pix w K hr (pv 0) zf0) (za0 (pix w K hr (pv 0) zf0) zg0)))))))),(zm0 (zo6 (zs0 (zu1 q_eq (RfV.h (RfE.v (zj0 r_ix (zb0 0) rvi))) (RfV.h (RfE.v zng)))) (zj1 (RfN.c (zck (at_d (zj0 r_ix (zb0 0) rvi) zu4)))) zb1)
   (zm0 (zo6 (zs0 (zu1 q_eq (RfV.h (RfE.v (zj0 r_ix (zb0 0) rvi))) (RfV.h (RfE.v zng)))) (zj1 (RfN.c (zck (at_d (zj0 r_ix (zb0 0) rvi) (at_d (zj0 r_ix (zb0 0) rvi) zu4))))) zb1)
   (zj1 (RfN.c (zck (at_d (zj0 r_ix (zb0 0) rvi) (at_d (zj0 r_ix (zb0 0) rvi) (at_d (zj0 r_ix (zb0 0) rvi) zu4)))))))),?_⟩
 rintro as Qd a ⟨g,rfl,q⟩
 cases g with
|st x =>
  unfold Gt.d
  walk_at "ds"
  refine ze0 λ J hJ=>?_
  walk_at "dd"
  refine ⟨_,rfl,?_⟩
  walk_at "dd"
  exact ⟨_,rfl,x,rfl,trivial,q⟩
|la x f =>
  unfold Gt.d
  walk_at "ds"
  refine ze0 λ J hJ=>?_
  walk_at "dd"
  refine ⟨_,rfl,?_⟩
  walk_at "dd"
  rw [if_neg (by decide +kernel)]
  refine hJ _ ?_
  clear hJ
  refine ze0 λ J hJ=>?_
  walk_at "dd"
  refine ⟨_,rfl,?_⟩
  walk_at "dd"
  exact ⟨_,rfl,_,rfl,x,f,rfl,trivial,q⟩
|ti x y t =>
  unfold Gt.d
  walk_at "ds"
  refine ze0 λ J hJ=>?_
  walk_at "dd"
  refine ⟨_,rfl,?_⟩
  walk_at "dd"
  rw [if_neg (by decide +kernel)]
  refine hJ _ ?_
  clear hJ
  refine ze0 λ J hJ=>?_
  walk_at "dd"
  refine ⟨_,rfl,?_⟩
  walk_at "dd"
  rw [if_neg (by decide +kernel)]
  refine hJ _ ?_
  clear hJ
  walk_at "dd"
  exact ⟨_,rfl,_,rfl,_,rfl,x,y,t,rfl,trivial,q⟩
end
structure Pi where
 u:Nat
 v:Nat
 len:Nat
 pr:Int
 g:Gt
def Pi.d (p:Pi):D:=.tuple [.int (p.u:Int),.int (p.v:Int),.int (p.len:Int),.int p.pr,p.g.d]
theorem zk7 {n k:Nat} (h:k < n):ixN n ((k:Nat):Int)=some k:=by
 unfold ixN
 rw [if_pos (by lia),if_pos (by lia)];simp
structure Va where
 nm:Str
 room:Int
 fill:Int
def Va.d (v:Va):D:=.tuple [.str v.nm,.int v.room,.int v.fill]
def pS (C C1 C2 C3:Addr) (rooms lying:List Int) (ps:List Pi) (m:Nat) (en:List Int) (kvs:List (List Key×D)):L4.T :=
 .ob C [("rooms",.li (rooms.map .int)),("lying",.li (lying.map .int)),("pipes",.fz (.list (ps.map Pi.d))),("gates",.ls (ps.map λ p=>p.g.ob C1 C2 C3)),("moment",.fz (.int (m:Int))),("entered",.li (en.map .int)),("coming",.dt kvs)]
section
variable {P:Program} {w:World} {K:Fg} {mg:Str->Option Value} {base:Heap} {jB jF jC jA:Addr}
def zq3 (C C1 C2 C3:Addr):DSpT:=λ as Q=>∃ (vs:List Va) (ps:List Pi),as=[.o (.ob C []),.d (.tuple [.list (vs.map Va.d),.list (ps.map Pi.d)])]/\vs.length<=12/\ps.length<=24 /\
 Q (.fz .none) (pS C C1 C2 C3 (vs.map Va.room) (vs.map Va.fill) ps 0 (List.replicate ps.length 0) [])
def ze4 (C C1 C2 C3:Addr):DSpT:=λ as Q=>∃ (rooms lying:List Int) (ps:List Pi) (m:Nat) (en:List Int) (kvs:List (List Key×D)),as=[.b (pS C C1 C2 C3 rooms lying ps m en kvs)]/\Q (.li (lying.map .int)) (.fz .none)
def over (rooms lying:List Int):List Nat:=(rooms.mapIdx λ i r=>(i,r)).filterMap λ x=>if x.2 < lying.getD x.1 0 then some x.1 else none
def zl8 (C C1 C2 C3:Addr):DSpT:=λ as Q=>∃ (rooms lying:List Int) (ps:List Pi) (m:Nat) (en:List Int) (kvs:List (List Key×D)),as=[.b (pS C C1 C2 C3 rooms lying ps m en kvs)]/\rooms.length=lying.length/\rooms.length<=12/\Q (.fz (.list ((over rooms lying).map λ k:Nat=>PyData.int (k:Int)))) (.fz .none)
theorem zk9:FnScope ["self"] ["self"] (zh0 zq6):=by walk_at "sc"
theorem zqh (jL:Cls K jA) (T:TopMeth K jA "holds" "Play.holds" zq6) (kS:mg "list"=none) (jM:zk1 K jA "lying"):ztf P w K mg base jA "holds" 1 ["self"] (spT K (ze4 jA jB jF jC)):=by
 refine zcg jL T zk9 (λ _ _ _ _ _ _ us hl=>by obtain ⟨_,rfl⟩:=ar1 hl;rfl) (zel λ as Qd h=>by obtain ⟨_,_,_,_,_,_,rfl,_⟩:=h;rfl) (zp8 ?_)
 intro f cdv A outer s H E hr
 have nd:=zk9.nd
 refine ⟨_,_,(zk0 (zi1 (zq2 (zj3 (K:=K) rfl) rfl kS zd9 (za0 (zm1 (K:=K) rfl (pv 0) rfl) zg0)))),(zj1 (RfF.c (zrs zxh (zu0 (RfP.v (zc2 jL jM (zx0 0))) zo1)))),?_⟩
 rintro as Qd a ⟨rooms,lying,ps,m,en,kvs,rfl,q⟩
 unfold pS
 walk_at "ds"
 walk_at "dd"
 exact q
theorem zxb:FnScope ["self"] ["self"] (zh0 zv5):=by walk_at "sc"
theorem zai (jL:Cls K jA) (T:TopMeth K jA "full" "Play.full" zv5) (kN:mg "enumerate"=none) (kI:zk1 K jA "rooms") (jM:zk1 K jA "lying"):ztf P w K mg base jA "full" 1 ["self"] (spT K (zl8 jA jB jF jC)):=by
 refine zcg jL T zxb (λ _ _ _ _ _ _ us hl=>by obtain ⟨_,rfl⟩:=ar1 hl;rfl) (zel λ as Qd h=>by obtain ⟨_,_,_,_,_,_,rfl,_⟩:=h;rfl) (zp8 ?_)
 intro f cdv A outer s H E hr
 have nd:=zxb.nd
 refine ⟨_,_,(zk0 (zi1 (zn3 (sc:=zh0 zv5) (N:=["self"]) (own:=["vat", "room"]) (ix:=[0]) rfl rfl rfl (by walk_at "csc") (zos (K:=K) rfl rfl kN (za0 (zm1 (K:=K) rfl (pv 0) rfl) zg0)) (λ _ _ _ _=>⟨(zsa (K:=K) (n:=2) rfl rfl (zr1 (pgn 0 (nds ["vat", "room", "self"])) (zr1 (pgn 1 (nds ["vat", "room", "self"])) zva))),(zfd (zt0 zoo (pix w K hr (zm1 (K:=K) rfl (pv 2) rfl) (pv 0)) (pv 1) (zf1 _))),(pv 0)⟩)))),(zj1 (RfE.c (RfF.e (zk2 (zdy (zu0 (RfP.v (zc2 jL kI (zx0 0))) zo1)) (zvk (zx1 (zw1 (i:=0) (n:=2) (by decide)) (zx1 (zw1 (i:=1) (n:=2) (by decide)) zdd))) (zs0 (zj0 r_gt (RfE.v (zj0 r_ix (RfP.v (zc2 jL jM (zx0 2))) (zb0 0))) (zb0 1))) (zi0 0))))),?_⟩
 rintro as Qd a ⟨rooms,lying,ps,m,en,kvs,rfl,hl,h12,q⟩
 unfold pS
 walk_at "ds"
 walk_at "dd"
 rw [zkk]
 refine zmv (λ x=>if x.2 < lying.getD x.1 0 then some (.int (x.1:Int)) else none) (by rw [sizeLine_eq,List.length_mapIdx];lia) (λ x hx=>?_) ?_
 ·obtain ⟨i,r⟩:=x
  obtain ⟨j,hj,ej⟩:=List.mem_mapIdx.mp hx
  cases ej
  have ly:i < lying.length:=by lia
  have gl:atI (lying.map PyData.int) ((i:Nat):Int)=some (.int (lying.getD i 0)):=zi2 (by lia) (by rw [Int.toNat_natCast,List.getElem?_map,List.getD_eq_getElem?_getD,List.getElem?_eq_getElem ly];rfl)
  walk_at "cs"
  walk_at "dd"
  refine ⟨_,gl,?_⟩
  walk_at "dd"
  exact two (λ z=>by rw [if_pos z]) λ z=>by rw [if_neg z]
 ·unfold over at q
  rw [List.map_filterMap] at q
  refine (congrArg (λ l=>Qd (.fz (.list l)) (.fz .none)) ?_).mp q
  congr 1
  funext x
  split <;> rfl
theorem ze5:FnScope ["self", "yard"] ["self", "yard"] (zh0 zq1):=by walk_at "sc"
theorem zub (M:Md K mg) (cT:TopCls K "Play" jA) (T:TopMeth K jA "__init__" "Play.__init__" zq1) (jT:mg "len"=none) (kS:mg "list"=none) (vO:Def P w K mg base "gate_of" 3 ["gate"] (spT K (zvj jB jF jC))) (kI:zk1 K jA "rooms") (jM:zk1 K jA "lying") (jO:zk1 K jA "pipes") (kJ:zk1 K jA "gates") (jN:zk1 K jA "moment") (jP:zk1 K jA "entered") (jU:zk1 K jA "coming"):zlo P w K mg base "Play" jA 4 ["self", "yard"] (spT K (zq3 jA jB jF jC)):=by
 have jL:=cT.cls
 refine zzj M cT T ze5 (λ _ _ _ _ _ _ us hl=>by obtain ⟨_,_,rfl⟩:=ar2 hl;rfl) (zel λ as Qd h=>by obtain ⟨_,_,rfl,_⟩:=h;rfl) (zp8 ?_)
 intro f cdv A outer s H E hr
 have nd:=ze5.nd
 refine ⟨_,_,(zd0 (zq7 (pv 0) (zn3 (sc:=zh0 zq1) (N:=["self", "yard"]) (own:=["vat"]) (ix:=[]) rfl rfl rfl (by walk_at "csc") (pi_W (K:=K) rfl (pix w K hr (pv 1) zf0)) (λ _ _ _ _=>⟨(pgn 0 (nds ["vat"])),zm3,(pix w K hr (pv 0) zf0)⟩)) rfl)
   (zd0 (zq7 (pv 0) (zn3 (sc:=zh0 zq1) (N:=["self", "yard"]) (own:=["vat"]) (ix:=[]) rfl rfl rfl (by walk_at "csc") (pi_W (K:=K) rfl (pix w K hr (pv 1) zf0)) (λ _ _ _ _=>⟨(pgn 0 (nds ["vat"])),zm3,(pix w K hr (pv 0) zf0)⟩)) rfl)
   (zd0 (zq7 (pv 0) (zq2 (zj3 (K:=K) rfl) rfl kS zd9 (za0 (pix w K hr (pv 1) zf0) zg0)) rfl)
   (zd0 (zq7 (pv 0) (zn3 (sc:=zh0 zq1) (N:=["self", "yard"]) (own:=["pipe"]) (ix:=[]) rfl rfl rfl (by walk_at "csc") (pi_W (K:=K) rfl (pix w K hr (pv 1) zf0)) (λ _ _ _ _=>⟨(pgn 0 (nds ["pipe"])),zm3,(zo0 vO (rmn hr) rfl (za0 (pix w K hr (pv 0) zf0) zg0))⟩)) rfl)
   (zd0 (zq7 (pv 0) zf0 rfl)
   (zd0 (zq7 (pv 0) (zq0 zs1 (zn1 (za0 zf0 zg0)) (zv0 (zg1 (K:=K) rfl) rfl jT zv3 (za0 (zm1 (K:=K) rfl (pv 0) rfl) zg0))) rfl)
   (zk0 (zq7 (pv 0) zwt rfl)))))))),(zm0 (zh7 jL kI (RfF.c (zk2 (znn (RfE.v (zj0 r_ix (zb0 1) rvi))) (zw1 (i:=0) (n:=1) (by decide)) zk4 (zj0 r_ix (zb0 0) rvi))) (zx0 0))
   (zm0 (zh7 jL jM (RfF.c (zk2 (znn (RfE.v (zj0 r_ix (zb0 1) rvi))) (zw1 (i:=0) (n:=1) (by decide)) zk4 (zj0 r_ix (zb0 0) rvi))) (zx0 0))
   (zm0 (zh7 jL jO (RfE.c (RfF.e (zrs zxh (zu0 (RfE.v (zj0 r_ix (zb0 1) rvi)) zo1)))) (zx0 0))
   (zm0 (zh7 jL kJ (RfN.c (zkr (znn (RfE.v (zj0 r_ix (zb0 1) rvi))) (zw1 (i:=0) (n:=1) (by decide)) (zdw (at_d (zj0 r_ix (zb0 0) rvi) zu4)))) (zx0 0))
   (zm0 (zh7 jL jN (RfE.c zd1) (zx0 0))
   (zm0 (zh7 jL jP (RfF.c (zlv (zk3 (zc0 zd1 zl0)) (zw7 zxc (zu0 (RfP.v (zc2 jL jO (zx0 0))) zo1)))) (zx0 0))
   (zh7 jL jU zmb1 (zx0 0)))))))),?_⟩
 rintro as Qd a ⟨vs,ps,rfl,hv,hp,q⟩
 walk_at "ds"
 refine ze0 λ J hJ=>?_
 walk_at "dd"
 refine ⟨_,rfl,?_⟩
 walk_at "dd"
 refine zhp (λ v=>.int v.room) (by rw [sizeLine_eq];lia) (λ v _=>?_) (hJ _ ?_)
 ·unfold Va.d
  walk_at "cs"
  walk_at "dd"
  exact ⟨_,rfl,rfl⟩
 clear hJ
 refine ze0 λ J hJ=>?_
 walk_at "dd"
 refine ⟨_,rfl,?_⟩
 walk_at "dd"
 refine zhp (λ v=>.int v.fill) (by rw [sizeLine_eq];lia) (λ v _=>?_) (hJ _ ?_)
 ·unfold Va.d
  walk_at "cs"
  walk_at "dd"
  exact ⟨_,rfl,rfl⟩
 clear hJ
 refine ze0 λ J hJ=>?_
 walk_at "dd"
 refine ⟨_,rfl,?_⟩
 walk_at "dd"
 refine hJ _ ?_
 clear hJ
 refine ze0 λ J hJ=>?_
 walk_at "dd"
 refine ⟨_,rfl,?_⟩
 walk_at "dd"
 refine zwx (λ p=>p.g.ob jB jF jC) (by rw [sizeLine_eq];lia) (λ p _=>?_) (hJ _ ?_)
 ·unfold Pi.d
  walk_at "cs"
  walk_at "dd"
  exact ⟨_,rfl,p.g,rfl,rfl⟩
 clear hJ
 walk_at "dn"
 refine ze0 λ J hJ=>?_
 walk_at "dd"
 rw [List.length_map,Int.toNat_natCast,List.flatten_replicate_singleton]
 refine ⟨by lia,by lia,by lia,hJ _ ?_⟩
 clear hJ
 walk_at "dd"
 refine ⟨_,rfl,?_⟩
 unfold pS at q
 rw [List.map_map,List.map_map,List.map_replicate] at q
 exact q
end
def kTI (t:Int) (i:Nat):List Key:=[.inl t,.inl (i:Int)]
def cm (kvs:List (List Key×D)) (t:Int) (i:Nat):Int:=match getA kvs (kTI t i) with
|some (.int c)=>c
|_=>0
def AllI (kvs:List (List Key×D)):Prop:=∀ k d,getA kvs k=some d->∃ c,d=.int c
def inc (l:List Int) (v:Nat) (c:Int):List Int:=l.set v (l.getD v 0+c)
def arrL (ps:List Pi) (kvs:List (List Key×D)) (t:Int):Nat->List Int->List Int
|0,l=>l
|n+1,l=>inc (arrL ps kvs t n l) ((ps[n]?).map Pi.v |>.getD 0) (cm kvs t n)
def arrK (kvs:List (List Key×D)) (t:Int):Nat->List (List Key×D)
|0=>kvs
|n+1=>zx7 (arrK kvs t n) (kTI t n)
theorem zke {κ:Type} [DecidableEq κ] (k k':κ):∀ kvs:List (κ×D),getA (zx7 kvs k) k'=if k=k' then none else getA kvs k'
|[]=>by unfold zx7 getA;simp
|(a,d) :: r=>by
  have ih:=zke k k' r
  unfold zx7 at ih ⊢
  by_cases e:a=k
  ·rw [List.filter_cons_of_neg (by simp [e]),ih,zc3,e]
   split <;> rfl
  ·rw [List.filter_cons_of_pos (by simp [e]),zc3,zc3,ih]
   by_cases f:a=k'
   ·subst f;rw [if_pos rfl,if_neg (λ z=>e z.symm),if_pos rfl]
   ·rw [if_neg f,if_neg f]
theorem zbs {t t':Int} {i i':Nat} (h:kTI t i=kTI t' i'):t=t'/\i=i':=by
 unfold kTI at h
 injection h with h1 h2
 injection h1 with h1
 injection h2 with h2 _
 injection h2 with h2
 exact ⟨h1,by lia⟩
theorem zlf (kvs:List (List Key×D)) (t:Int) (t':Int) (i:Nat):∀ n,getA (arrK kvs t n) (kTI t' i)=if t'=t/\i < n then none else getA kvs (kTI t' i)
|0=>by rw [if_neg (by lia)];rfl
|n+1=>by
  show getA (zx7 (arrK kvs t n) (kTI t n)) (kTI t' i)=_
  rw [zke,zlf kvs t t' i n]
  by_cases e:kTI t n=kTI t' i
  ·obtain ⟨e1,e2⟩:=zbs e
   rw [if_pos e,if_pos ⟨e1.symm,by lia⟩]
  ·rw [if_neg e]
   by_cases f:t'=t/\i < n
   ·rw [if_pos f,if_pos ⟨f.1,by lia⟩]
   ·rw [if_neg f,if_neg (λ z=>?_)]
    refine f ⟨z.1,?_⟩
    have:i≠n:=λ y=>e (by rw [z.1,y])
    lia
theorem zop {kvs:List (List Key×D)} (h:AllI kvs) (k:List Key):AllI (zx7 kvs k):=λ k' d e=>by
 rw [zke] at e
 split at e
 ·cases e
 ·exact h k' d e
theorem zif {kvs:List (List Key×D)} (h:AllI kvs) (t:Int):∀ n,AllI (arrK kvs t n)
|0=>h
|n+1=>zop (zif h t n) _
theorem zey {kvs:List (List Key×D)} (h:AllI kvs) (t:Int) (i:Nat):(getA kvs (kTI t i)).getD (.int 0)=.int (cm kvs t i):=by
 unfold cm
 cases e:getA kvs (kTI t i) with
|none=>rfl
|some d =>
  obtain ⟨c,rfl⟩:=h _ _ e
  rfl
theorem zp01 (kvs:List (List Key×D)) (t:Int) (n:Nat):cm (arrK kvs t n) t n=cm kvs t n:=by
 unfold cm
 rw [zlf,if_neg (by lia)]
theorem zik (l:List Int) (v:Nat) (c:Int):(inc l v c).length=l.length:=by unfold inc;simp
theorem zya (ps:List Pi) (kvs:List (List Key×D)) (t:Int) (l:List Int):∀ n,(arrL ps kvs t n l).length=l.length
|0=>rfl
|n+1=>by
  show (inc _ _ _).length=_
  rw [zik,zya ps kvs t l n]
section
variable {P:Program} {w:World} {K:Fg} {mg:Str->Option Value} {base:Heap} {jB jF jC jA:Addr}
theorem zxu {rooms lying:List Int} (hl:rooms.length=lying.length):over rooms lying=[] ↔ ∀ (i:Nat) r y,rooms[i]?=some r->lying[i]?=some y->y<=r:=by
 unfold over
 rw [List.filterMap_eq_nil_iff]
 constructor
 ·intro h i r y h1 h2
  have hi:=(List.getElem?_eq_some_iff.mp h1).1
  have:=h (i,r) (List.mem_mapIdx.mpr ⟨i,hi,by rw [(List.getElem?_eq_some_iff.mp h1).2]⟩)
  by_cases z:r < lying.getD i 0
  ·rw [if_pos z] at this;cases this
  ·rw [List.getD_eq_getElem?_getD,h2] at z
   have z:¬ r < y:=z
   lia
 ·rintro h ⟨i,r⟩ hx
  obtain ⟨j,hj,ej⟩:=List.mem_mapIdx.mp hx
  cases ej
  have ly:i < lying.length:=by lia
  have:=h i _ _ (List.getElem?_eq_getElem hj) (List.getElem?_eq_getElem ly)
  have e:lying.getD i 0=lying[i]:=by rw [List.getD_eq_getElem?_getD,List.getElem?_eq_getElem ly];rfl
  show (if rooms[i] < lying.getD i 0 then some i else none)=none
  rw [e,if_neg (by lia)]
theorem zyw {rooms lying:List Int}:∀ i∈over rooms lying,i < rooms.length:=λ i hi=>by
 unfold over at hi
 obtain ⟨⟨j,r⟩,h1,h2⟩:=List.mem_filterMap.mp hi
 obtain ⟨k,hk,ek⟩:=List.mem_mapIdx.mp h1
 cases ek
 dsimp only at h2
 split at h2
 ·cases h2;exact hk
 ·cases h2
theorem zju (rooms lying:List Int):(over rooms lying).length<=rooms.length:=by
 unfold over
 exact Nat.le_trans (List.length_filterMap_le _ _) (by simp)
def zya1 (rooms lying:List Int):Prop:=rooms.length=lying.length/\rooms.length<=12/\∀ (i:Nat) r y,rooms[i]?=some r->lying[i]?=some y->y<=r
end
def pl (ps:List Pi) (i:Nat):Nat:=((ps[i]?).map Pi.len).getD 0
def zh2 (ps:List Pi) (i:Nat):Nat:=((ps[i]?).map Pi.u).getD 0
def zmo (ps:List Pi) (i t:Nat):Int:=((ps[i]?).map λ p=>p.g.at t).getD 0
def dueF (n:Nat) (k am l h:Int):Nat:=if k < 0 \/ (n:Int)<=k then 0 else if am < 1 then 1 else if l < am then 2 else if h < am then 3 else 4
def zpo (ps:List Pi) (m:Nat) (ly en:List Int) (k am:Int):Nat:=dueF ps.length k am (zmo ps k.toNat m - en.getD k.toNat 0) (ly.getD (zh2 ps k.toNat) 0)
def letT (C C1 C2 C3:Addr) (rooms lying:List Int) (ps:List Pi) (m:Nat) (en:List Int) (kvs:List (List Key×D)) (j:Nat) (am:Int):L4.T :=
 pS C C1 C2 C3 rooms (lying.set (zh2 ps j) (lying.getD (zh2 ps j) 0 - am)) ps m (en.set j (en.getD j 0+am)) (putD kvs (kTI ((m:Int)+(pl ps j:Int)) j) (.int (cm kvs ((m:Int)+(pl ps j:Int)) j+am)))
def zp3 (C C1 C2 C3 C0:Addr):DSpX:=λ as Q X=>∃ (rooms lying:List Int) (ps:List Pi) (m:Nat) (en:List Int) (kvs:List (List Key×D)) (k:Int),as=[.b (pS C C1 C2 C3 rooms lying ps m en kvs),.d (.int k)]/\en.length=ps.length/\(∀ p∈ps,p.g.ok)/\ps.length<=24/\-10000000000000000000000000000000000000000 < k/\k < 10000000000000000000000000000000000000000 /\
 (k < 0 \/ (ps.length:Int)<=k->X C0 (.fz .none))/\(0<=k->k < (ps.length:Int)->Q (.fz (.int (zmo ps k.toNat m - en.getD k.toNat 0))) (.fz .none))
def zt8 (C C1 C2 C3 C0 CA CW CL:Addr):DSpX:=λ as Q X=>∃ (rooms lying:List Int) (ps:List Pi) (m:Nat) (en:List Int) (kvs:List (List Key×D)) (k am:Int),as=[.o (pS C C1 C2 C3 rooms lying ps m en kvs),.d (.int k),.d (.int am)]/\en.length=ps.length/\(∀ p∈ps,p.g.ok/\p.u < lying.length)/\ps.length<=24/\kvs.length<=1000000/\AllI kvs/\-10000000000000000000000000000000000000000 < k/\k < 10000000000000000000000000000000000000000/\-10000000000000000000000000000000000000000 < am/\am < 10000000000000000000000000000000000000000/\(∀ j,j < ps.length->-10000000000000000000000000000000000000000 < zmo ps j m - en.getD j 0/\zmo ps j m - en.getD j 0 < 10000000000000000000000000000000000000000) /\
 (zpo ps m lying en k am=0->X C0 (pS C C1 C2 C3 rooms lying ps m en kvs))/\(zpo ps m lying en k am=1->X CA (pS C C1 C2 C3 rooms lying ps m en kvs))/\(zpo ps m lying en k am=2->X CW (pS C C1 C2 C3 rooms lying ps m en kvs))/\(zpo ps m lying en k am=3->X CL (pS C C1 C2 C3 rooms lying ps m en kvs)) /\
 (zpo ps m lying en k am=4->Q (.fz (.int (lying.getD (zh2 ps k.toNat) 0 - am))) (letT C C1 C2 C3 rooms lying ps m en kvs k.toNat am))
section
variable {P:Program} {w:World} {K:Fg} {mg:Str->Option Value} {base:Heap} {jB jF jC jA jK jH jJ jE:Addr}
theorem zk6:FnScope ["self", "pipe"] ["self", "pipe"] (zh0 zi4):=by walk_at "sc"
theorem zyb (jL:Cls K jA) (T:TopMeth K jA "room_in" "Play.room_in" zi4) (jT:mg "len"=none) (qJ:Cls K jF) (kT:Cls K jB) (kR:Cls K jC) (jN:zk1 K jA "moment") (jP:zk1 K jA "entered") (jO:zk1 K jA "pipes") (kJ:zk1 K jA "gates") (qB:ztf P w K mg base jB "width_at" 1 ["self", "moment"] (spT K (za2 jB))) (qP:ztf P w K mg base jF "width_at" 1 ["self", "moment"] (spT K (zr2 jF))) (qK:ztf P w K mg base jC "width_at" 1 ["self", "moment"] (spT K (ze2 jC))) (qA:XCls K "NoPipe" jK):ziq P w K mg base jA "room_in" 2 ["self", "pipe"] (spX K (zp3 jA jB jF jC jK)):=by
 refine zyh jL T zk6 (λ _ _ _ _ _ _ us hl=>by obtain ⟨_,_,rfl⟩:=ar2 hl;rfl) (zaw λ as Qd Xd h=>by obtain ⟨_,_,_,_,_,_,_,rfl,_⟩:=h;rfl) (zjl ?_)
 intro f cdv A outer s H E hr
 have nd:=zk6.nd
 refine ⟨_,λ ex=>(dSeq (dIf (dNot (zpi (zzq fLe fLt (dC (.int 0)) (dVar 1) (dCB fLen (zl1 (dPV (pFld jA "pipes" (pVar 0))) dNil))))) (zph jK (zl1 (ze9 (dJT 17 (dJI (dVar 1) dJN))) dNil) ex) zpl)
   (dRet (cE (dOp fSub (eN (zeu "width_at" [(jB,(za2 jB)),(jF,(zr2 jF)),(jC,(ze2 jC))] (pIx (pFld jA "gates" (pVar 0)) (dVar 1)) (zl1 (dPE (pFld jA "moment" (pVar 0))) dNil))) (dOp fIx (dPV (pFld jA "entered" (pVar 0))) (zy1 1)))))),(zd0 (zn4 (zp11 (znk zt61 ztt zf0 (pv 1) (zv0 (zg1 (K:=K) rfl) rfl jT zv3 (za0 (zm1 (K:=K) rfl (pv 0) rfl) zg0)))) (zk0 (zs8 za4 qA rfl rfl (za0 (zs5 (zl5 (zb7 (K:=K) rfl hr (pv 1) zzk))) zg0))) zc1)
   (zk0 (zi1 (zq0 zib (zov (P:=P) (w:=w) (K:=K) (mg:=mg) (base:=base) (k:=1) rfl rfl rfl rfl rfl (rmn hr) (pix w K hr (zm1 (K:=K) rfl (pv 0) rfl) (pv 1)) (za0 (zm1 (K:=K) rfl (pv 0) rfl) zg0)) (pix w K hr (zm1 (K:=K) rfl (pv 0) rfl) (pv 1)))))),λ ex=>(zv2 (zwv (zcw (zs0 (zcn r_le r_lt zd1 (zi0 1) (zw7 zxc (zu0 (RfP.v (zc2 jL jO (zx0 0))) zo1))))) (zo8 (zc0 (zy5 (zy4 (l:=17) (by decide +kernel) (zog (zi0 1) zgl))) zl0)) (zh8 zb1))
   (zh8 (zj1 (RfE.c (zj0 zsn (RfE.v (RfN.ex (zvu (tab:=[(jB,(za2 jB)),(jF,(zr2 jF)),(jC,(ze2 jC))]) (tab3 ⟨_,qB⟩ ⟨_,qP⟩ ⟨_,qK⟩) (zg81 (zc2 jL kJ (zx0 0)) (zi0 1)) (zc0 (RfP.e (zc2 jL jN (zx0 0))) zl0)))) (RfE.v (zj0 r_ix (RfP.v (zc2 jL jP (zx0 0))) (zb0 1)))))))),?_⟩
 rintro as Qd Xd a ⟨rooms,lying,ps,m,en,kvs,k,rfl,el,hok,hl,k0,k1,qx,q⟩
 unfold pS
 walk_at "ds"
 refine ze0 λ J hJ=>?_
 walk_at "dd"
 rw [List.length_map]
 refine two (λ z1=>two (λ z2=>?_) λ z2=>hJ _ ?_) λ z1=>?_
 ·exact ⟨⟨k0,k1⟩,λ _ _=>qx (.inr (by lia))⟩
 ·clear hJ
  obtain ⟨j,rfl⟩:=Int.eq_ofNat_of_zero_le z1
  have lk:j < ps.length:=by lia
  have q:=q (by lia) (by lia)
  rw [Int.toNat_natCast] at q
  obtain ⟨p,hk⟩:∃ p,ps[j]?=some p:=⟨_,List.getElem?_eq_getElem lk⟩
  have ew:zmo ps j m=p.g.at m:=by unfold zmo;rw [hk];rfl
  rw [ew] at q
  have ok:=hok p (List.mem_of_getElem? hk)
  walk_at "dd"
  refine ⟨j,_,zk7 (by rw [List.length_map];exact lk),by rw [List.getElem?_map,hk];rfl,?_⟩
  have ge:atI (en.map PyData.int) ((j:Nat):Int)=some (.int (en.getD j 0)):=zi2 (by lia) (by rw [Int.toNat_natCast,List.getElem?_map,List.getD_eq_getElem?_getD,List.getElem?_eq_getElem (by lia)];rfl)
  obtain ⟨u,v,ln,pr,g⟩:=p
  have fin:∀ x:Int,x=g.at m->∃ d,atI (en.map PyData.int) ((j:Nat):Int)=some d/\fSub (.int x) d λ d=>Qd (.fz d) (.fz .none):=λ x hx=>⟨_,ge,by rw [hx];exact q⟩
  cases g with
 |st x =>
   unfold Gt.ob
   walk_at "dd"
   exact ⟨_,List.mem_cons_self,x,m,rfl,fin _ rfl⟩
 |la x f =>
   unfold Gt.ob
   walk_at "dd"
   exact ⟨_,List.mem_cons_of_mem _ List.mem_cons_self,x,f,m,rfl,fin _ rfl⟩
 |ti x y t =>
   unfold Gt.ob
   walk_at "dd"
   exact ⟨_,List.mem_cons_of_mem _ (List.mem_cons_of_mem _ List.mem_cons_self),x,y,t,m,rfl,ok.1,ok.2,fin _ rfl⟩
 ·exact ⟨⟨k0,k1⟩,λ _ _=>qx (.inl (by lia))⟩
theorem zwd:FnScope ["self", "pipe", "amount", "left", "start", "place"] ["self", "pipe", "amount"] (zh0 zpb):=by walk_at "sc"
theorem zvi (jL:Cls K jA) (T:TopMeth K jA "let" "Play.let" zpb) (jP:zk1 K jA "entered") (jM:zk1 K jA "lying") (jU:zk1 K jA "coming") (jO:zk1 K jA "pipes") (jN:zk1 K jA "moment") (qQ:ziq P w K mg base jA "room_in" 2 ["self", "pipe"] (spX K (zp3 jA jB jF jC jK))) (kO:XCls K "NoAmount" jH) (kU:XCls K "TooWide" jJ) (kK:XCls K "TooLittle" jE):ziq P w K mg base jA "let" 3 ["self", "pipe", "amount"] (spX K (zt8 jA jB jF jC jK jH jJ jE)):=by
 refine zyh jL T zwd (λ _ _ _ _ _ _ us hl=>by obtain ⟨_,_,_,rfl⟩:=ar3 hl;rfl) (zaw λ as Qd Xd h=>by obtain ⟨_,_,_,_,_,_,_,_,rfl,_⟩:=h;rfl) (zjl ?_)
 intro f cdv A outer s H E hr
 have nd:=zwd.nd
 refine ⟨_,λ ex=>(dSeq (zy21 3 (zpx false jA "room_in" (zp3 jA jB jF jC jK) (pVar 0) (aD (dVar 1) aNil)) ex)
   (dSeq (dIf (zpi (dOp fLt (zy1 2) (dC (.int 1)))) (zph jH (zl1 (ze9 (dJI (dVar 2) (dJT 25 dJN))) dNil) ex) zpl)
   (dSeq (dIf (zpi (dOp fGt (zy1 2) (zy1 3))) (zph jJ (zl1 (ze9 (dJT 9 (dJI (dVar 1) (dJT 14 (dJI (dVar 3) (dJT 5 dJN)))))) dNil) ex) zpl)
   (dSeq (dAsg (dOp fIx (dOp fIx (dPV (pFld jA "pipes" (pVar 0))) (zy1 1)) (dC (.int 0))) (gN 4))
   (dSeq (dIf (zpi (dOp fGt (zy1 2) (dOp fIx (dPV (pFld jA "lying" (pVar 0))) (zy1 4)))) (zph jE (zl1 (ze9 (dJT 18 (dJI (dVar 1) (dJT 14 (dJI (dVar 2) dJN))))) dNil) ex) zpl)
   (dSeq (zk21 (λ i j=>i+j) (pFld jA "entered" (pVar 0)) (dVar 1) (dVar 2))
   (dSeq (zk21 (λ i j=>i - j) (pFld jA "lying" (pVar 0)) (dVar 4) (dVar 2))
   (dSeq (dAsg (dTup (zl1 (dOp fAdd (dPV (pFld jA "moment" (pVar 0))) (dOp fIx (dOp fIx (dPV (pFld jA "pipes" (pVar 0))) (zy1 1)) (dC (.int 2)))) (zl1 (dVar 1) dNil))) (gN 5))
   (dSeq (dPut (pFld jA "coming" (pVar 0)) (dVar 5) (dOp fAdd (zi61 (pFld jA "coming" (pVar 0)) (dVar 5) (dC (.int 0))) (zy1 2)))
   (dRet (cE (dOp fIx (dPV (pFld jA "lying" (pVar 0))) (zy1 4))))))))))))),(zd0 (pset 3 nd (zyl (k:=2) rfl rfl rfl rfl rfl (rmn hr) zl2 (pv 0) (za0 (pv 1) zg0)))
   (zd0 (zn4 (zt0 ztt (pv 2) zf0 (zf1 _)) (zk0 (zs8 za4 kO rfl rfl (za0 (zs5 (zb7 (K:=K) rfl hr (pv 2) (zl5 zzk))) zg0))) zc1)
   (zd0 (zn4 (zt0 zoo (pv 2) (pv 3) (zf1 _)) (zk0 (zs8 za4 kU rfl rfl (za0 (zs5 (zl5 (zb7 (K:=K) rfl hr (pv 1) (zl5 (zb7 (K:=K) rfl hr (pv 3) (zl5 zzk)))))) zg0))) zc1)
   (zd0 (pset 4 nd (pix w K hr (pix w K hr (zm1 (K:=K) rfl (pv 0) rfl) (pv 1)) zf0))
   (zd0 (zn4 (zt0 zoo (pv 2) (pix w K hr (zm1 (K:=K) rfl (pv 0) rfl) (pv 4)) (zf1 _)) (zk0 (zs8 za4 kK rfl rfl (za0 (zs5 (zl5 (zb7 (K:=K) rfl hr (pv 1) (zl5 (zb7 (K:=K) rfl hr (pv 2) zzk))))) zg0))) zc1)
   (zd0 (zeo (zm1 (K:=K) rfl (pv 0) rfl) (pv 1) (zm61 (K:=K) (Room.units hr) rfl) (pv 2) zo11 (zkl (Room.units hr)))
   (zd0 (zeo (zm1 (K:=K) rfl (pv 0) rfl) (pv 4) (zm61 (K:=K) (Room.units hr) rfl) (pv 2) zq71 (zkl (Room.units hr)))
   (zd0 (pset 5 nd (zt1 (za0 (zq0 (zr0 (K:=K) rfl) (zm1 (K:=K) rfl (pv 0) rfl) (pix w K hr (pix w K hr (zm1 (K:=K) rfl (pv 0) rfl) (pv 1)) zf0)) (za0 (pv 1) zg0))))
   (zd0 (zp9 (zq0 (zr0 (K:=K) rfl) (zui (K:=K) rfl PySem.F.plainAttrs_dict PySem.F.slot_dict_get PySem.F.type_dict_get (zow (Room.units hr)) (zm1 (K:=K) rfl (pv 0) rfl) (za0 (pv 5) (za0 zf0 zg0))) (pv 2)) (ztc (zm1 (K:=K) rfl (pv 0) rfl) (pv 5) (zkl (Room.units hr))))
   (zk0 (zi1 (pix w K hr (zm1 (K:=K) rfl (pv 0) rfl) (pv 4))))))))))))),λ ex=>(zv2 (znx (i:=3) (zum false qQ (zx0 0) (at_d (zi0 1) zu4)))
   (zv2 (zwv (zs0 (zj0 r_lt (zb0 2) rvi)) (zo8 (zc0 (zy5 (zog (zi0 2) (zy4 (l:=25) (by decide +kernel) zgl))) zl0)) (zh8 zb1))
   (zv2 (zwv (zs0 (zj0 r_gt (zb0 2) (zb0 3))) (zo8 (zc0 (zy5 (zy4 (l:=9) (by decide +kernel) (zog (zi0 1) (zy4 (l:=14) (by decide +kernel) (zog (zi0 3) (zy4 (l:=5) (by decide +kernel) zgl)))))) zl0)) (zh8 zb1))
   (zv2 (zh8 (za1 (zj0 r_ix (RfE.v (zj0 r_ix (RfP.v (zc2 jL jO (zx0 0))) (zb0 1))) rvi) (rgn 4)))
   (zv2 (zwv (zs0 (zj0 r_gt (zb0 2) (RfE.v (zj0 r_ix (RfP.v (zc2 jL jM (zx0 0))) (zb0 4))))) (zo8 (zc0 (zy5 (zy4 (l:=18) (by decide +kernel) (zog (zi0 1) (zy4 (l:=14) (by decide +kernel) (zog (zi0 2) zgl))))) zl0)) (zh8 zb1))
   (zv2 (zh8 (zqr (zc2 jL jP (zx0 0)) (zi0 1) (zi0 2)))
   (zv2 (zh8 (zqr (zc2 jL jM (zx0 0)) (zi0 4) (zi0 2)))
   (zv2 (zh8 (za1 (zl3 (zc0 (zj0 zo2 (RfP.v (zc2 jL jN (zx0 0))) (RfE.v (zj0 r_ix (RfE.v (zj0 r_ix (RfP.v (zc2 jL jO (zx0 0))) (zb0 1))) rvi))) (zc0 (zi0 1) zl0))) (rgn 5)))
   (zv2 (zh8 (zrc (zj0 zo2 (RfE.v (zpy (zc2 jL jU (zx0 0)) (zi0 5) zd1)) (zb0 2)) (zc2 jL jU (zx0 0)) (zi0 5)))
   (zh8 (zj1 (RfE.c (zj0 r_ix (RfP.v (zc2 jL jM (zx0 0))) (zb0 4)))))))))))))),?_⟩
 rintro as Qd Xd a ⟨rooms,lying,ps,m,en,kvs,k,am,rfl,el,hok,hl,hkv,hai,k0,k1,a0,a1,hw,q0,q1,q2,q3,q⟩
 unfold letT pS at q
 unfold pS at q0 q1 q2 q3 ⊢
 walk_at "ds"
 refine ze0 λ J hJ=>?_
 walk_at "dd"
 refine ⟨rooms,lying,ps,m,en,kvs,k,rfl,el,λ p hp=>(hok p hp).1,hl,k0,k1,λ z=>⟨_,rfl,q0 (if_pos z)⟩,λ z1 z2=>hJ _ ?_⟩
 clear hJ
 obtain ⟨j,rfl⟩:=Int.eq_ofNat_of_zero_le z1
 have lk:j < ps.length:=by lia
 have ec:zpo ps m lying en (j:Int) am=if am < 1 then 1 else if zmo ps j m - en.getD j 0 < am then 2 else if lying.getD (zh2 ps j) 0 < am then 3 else 4:=by
  unfold zpo dueF
  rw [if_neg (by lia),Int.toNat_natCast]
 rw [ec] at q1 q2 q3 q
 rw [Int.toNat_natCast] at q ⊢
 obtain ⟨p,hk⟩:∃ p,ps[j]?=some p:=⟨_,List.getElem?_eq_getElem lk⟩
 obtain ⟨ok,hu⟩:=hok p (List.mem_of_getElem? hk)
 have es:zh2 ps j=p.u:=by unfold zh2;rw [hk];rfl
 have epl:pl ps j=p.len:=by unfold pl;rw [hk];rfl
 obtain ⟨w0,w1⟩:=hw j lk
 rw [es] at q3 q
 rw [epl] at q
 generalize zmo ps j m - en.getD j 0=left at q1 q2 q3 q w0 w1 ⊢
 have he:en[j]?=some (en.getD j 0):=by rw [List.getD_eq_getElem?_getD,List.getElem?_eq_getElem (by lia)];rfl
 have hy:lying[p.u]?=some (lying.getD p.u 0):=by rw [List.getD_eq_getElem?_getD,List.getElem?_eq_getElem hu];rfl
 have hc:=zey hai ((m:Int)+(p.len:Int)) j
 generalize en.getD j 0=e at he q
 generalize lying.getD p.u 0=y at hy q3 q
 generalize cm kvs ((m:Int)+(p.len:Int)) j=c0 at hc q
 refine ze0 λ J hJ=>?_
 walk_at "dd"
 refine two (λ z=>⟨⟨a0,a1⟩,λ _ _=>⟨_,rfl,q1 (if_pos z)⟩⟩) λ z3=>hJ _ ?_
 clear hJ
 refine ze0 λ J hJ=>?_
 walk_at "dd"
 refine two (λ z=>⟨⟨k0,k1⟩,⟨w0,w1⟩,λ _ _=>⟨_,rfl,q2 (by rw [if_neg z3,if_pos z])⟩⟩) λ z4=>hJ _ ?_
 clear hJ
 have gp:atI (ps.map Pi.d) ((j:Nat):Int)=some (.tuple [.int (p.u:Int),.int (p.v:Int),.int (p.len:Int),.int p.pr,p.g.d]):=zi2 (by lia) (by rw [Int.toNat_natCast,List.getElem?_map,hk];rfl)
 have gy:atI (lying.map PyData.int) ((p.u:Nat):Int)=some (.int y):=zi2 (by lia) (by rw [Int.toNat_natCast,List.getElem?_map,hy];rfl)
 refine ze0 λ J hJ=>?_
 walk_at "dd"
 refine ⟨_,gp,?_⟩
 walk_at "dd"
 refine ⟨_,rfl,hJ _ ?_⟩
 clear hJ
 refine ze0 λ J hJ=>?_
 walk_at "dd"
 refine ⟨_,gy,?_⟩
 walk_at "dd"
 refine two (λ z=>⟨⟨k0,k1⟩,⟨a0,a1⟩,λ _ _=>⟨_,rfl,q3 (by rw [if_neg z3,if_neg z4,if_pos z])⟩⟩) λ z5=>hJ _ ?_
 clear hJ
 have q:=q (by rw [if_neg z3,if_neg z4,if_neg z5])
 refine ze0 λ J hJ=>?_
 walk_at "dd"
 refine ⟨by lia,_,by rw [Int.toNat_natCast,List.getElem?_map,he];rfl,?_⟩
 walk_at "dd"
 refine ⟨j,zk7 (by rw [List.length_map];lia),hJ _ ?_⟩
 clear hJ
 refine ze0 λ J hJ=>?_
 walk_at "dd"
 refine ⟨by lia,_,by rw [Int.toNat_natCast,List.getElem?_map,hy];rfl,?_⟩
 walk_at "dd"
 refine ⟨p.u,zk7 (by rw [List.length_map];exact hu),hJ _ ?_⟩
 clear hJ
 refine ze0 λ J hJ=>?_
 walk_at "dd"
 refine ⟨_,gp,?_⟩
 walk_at "dd"
 refine ⟨_,rfl,hJ _ ?_⟩
 clear hJ
 refine ze0 λ J hJ=>?_
 walk_at "dd"
 refine ⟨[.inl ((m:Int)+(p.len:Int)),.inl (j:Int)],rfl,?_⟩
 unfold kTI at hc q
 rw [hc]
 walk_at "dd"
 refine ⟨[.inl ((m:Int)+(p.len:Int)),.inl (j:Int)],rfl,by lia,hJ _ ?_⟩
 clear hJ
 walk_at "dd"
 rw [List.map_set,List.map_set] at q
 refine ⟨_,zi2 (by lia) (by rw [Int.toNat_natCast,List.getElem?_set_self (by rw [List.length_map];exact hu)]),_,rfl,q⟩
end
def zd2 (C C1 C2 C3 CT:Addr):DSpX:=λ as Q X=>∃ (rooms lying:List Int) (ps:List Pi) (m:Nat) (en:List Int) (kvs:List (List Key×D)),as=[.b (pS C C1 C2 C3 rooms lying ps m en kvs)]/\rooms.length=lying.length/\rooms.length<=12 /\
 (over rooms lying=[]->Q (.fz .none) (.fz .none))/\(over rooms lying≠[]->X CT (.fz .none))
def zd5 (C C1 C2 C3 CT:Addr):DSpX:=λ as Q X=>∃ (rooms lying:List Int) (ps:List Pi) (m:Nat) (en:List Int) (kvs:List (List Key×D)),as=[.o (pS C C1 C2 C3 rooms lying ps m en kvs)]/\rooms.length=lying.length/\rooms.length<=12/\ps.length<=24/\(∀ p∈ps,p.v < lying.length)/\AllI kvs /\
 (over rooms lying=[]->Q (.fz (.int ((m+1:Nat):Int))) (pS C C1 C2 C3 rooms (arrL ps kvs ((m+1:Nat):Int) ps.length lying) ps (m+1) (List.replicate ps.length 0) (arrK kvs ((m+1:Nat):Int) ps.length))) /\
 (over rooms lying≠[]->X CT (pS C C1 C2 C3 rooms lying ps m en kvs))
section
variable {P:Program} {w:World} {K:Fg} {mg:Str->Option Value} {base:Heap} {jB jF jC jA jG:Addr}
theorem ze7:FnScope ["play", "vats"] ["play"] (zh0 zr5):=by walk_at "sc"
theorem zcc (M:Md K mg) (T:TopDef K "refuse_full" zr5) (jL:Cls K jA) (uU:ztf P w K mg base jA "full" 1 ["self"] (spT K (zl8 jA jB jF jC))) (kW:XCls K "TooFull" jG):Def1 P w K mg base "refuse_full" 2 ["play"] (spX K (zd2 jA jB jF jC jG)):=by
 refine zzn M T ze7 (λ _ _ _ _ _ _ us hl=>by obtain ⟨_,rfl⟩:=ar1 hl;rfl) (zaw λ as Qd Xd h=>by obtain ⟨_,_,_,_,_,_,rfl,_⟩:=h;rfl) (zjl ?_)
 intro f cdv A outer s H E hr
 have nd:=ze7.nd
 refine ⟨_,λ ex=>(dSeq (dSet 1 (zx01 false jA "full" (zl8 jA jB jF jC) (pVar 0) aNil))
   (dIf (dTru (zy1 1)) (zph jG (zl1 (ze9 (dJT 9 (dJL (dVar 1) (dJT 26 dJN)))) dNil) ex) zpl)),(zd0 (pset 1 nd (zle uU (rmn hr) (pv 0)))
   (zk0 (zn4 (zxr (K:=K) rfl (pv 1) (λ _=>rfl)) (zk0 (zs8 za4 kW rfl rfl (za0 (zs5 (zl5 (zb7 (K:=K) rfl hr (pv 1) (zl5 zzk)))) zg0))) zc1))),λ ex=>(zv2 (zh8 (zr7 (zbn false (zx0 0) zu4)))
   (zwv (zix (zb0 1)) (zo8 (zc0 (zy5 (zy4 (l:=9) (by decide +kernel) (zj11 (zi0 1) (zy4 (l:=26) (by decide +kernel) zgl)))) zl0)) (zh8 zb1))),?_⟩
 rintro as Qd Xd a ⟨rooms,lying,ps,m,en,kvs,rfl,h1,h2,q1,q2⟩
 unfold pS
 walk_at "ds"
 refine ze0 λ J hJ=>?_
 walk_at "dd"
 refine ⟨rooms,lying,ps,m,en,kvs,rfl,h1,h2,?_⟩
 walk_at "dd"
 refine hJ _ ?_
 clear hJ
 walk_at "dd"
 rw [List.isEmpty_map]
 by_cases z:over rooms lying=[]
 ·rw [z,if_neg (by decide)]
  exact q1 z
 ·rw [if_pos (by simpa using z)]
  have ol:=zju rooms lying
  refine ⟨⟨(over rooms lying).map λ k:Nat=>(k:Int),by rw [List.map_map];rfl,by rw [List.length_map];lia,λ n hn=>?_⟩,λ _ _=>q2 z⟩
  obtain ⟨k,hk,rfl⟩:=List.mem_map.mp hn
  have:=zyw k hk
  lia
theorem zw8:FnScope ["self", "number", "pipe"] ["self"] (zh0 zx6):=by walk_at "sc"
theorem zcf (jL:Cls K jA) (T:TopMeth K jA "go_on" "Play.go_on" zx6) (kN:mg "enumerate"=none) (jT:mg "len"=none) (jN:zk1 K jA "moment") (jP:zk1 K jA "entered") (jO:zk1 K jA "pipes") (jM:zk1 K jA "lying") (jU:zk1 K jA "coming") (kL:Def1 P w K mg base "refuse_full" 2 ["play"] (spX K (zd2 jA jB jF jC jG))):ziq P w K mg base jA "go_on" 3 ["self"] (spX K (zd5 jA jB jF jC jG)):=by
 refine zyh jL T zw8 (λ _ _ _ _ _ _ us hl=>by obtain ⟨_,rfl⟩:=ar1 hl;rfl) (zaw λ as Qd Xd h=>by obtain ⟨_,_,_,_,_,_,rfl,_⟩:=h;rfl) (zjl ?_)
 intro f cdv A outer s H E hr
 have nd:=zw8.nd
 refine ⟨_,λ ex=>(dSeq (zuk (zsv (zd2 jA jB jF jC jG) (aB (pVar 0) aNil)) ex)
   (dSeq (zzm jA "moment" (λ i j=>i+j) (pVar 0) (dC (.int 1)))
   (dSeq (dFld jA "entered" (cF (dRep (dLst (zl1 (dC (.int 0)) dNil)) (dCB fLen (zl1 (dPV (pFld jA "pipes" (pVar 0))) dNil)))) (pVar 0))
   (dSeq (dFor (ze21 (zl1 (dPE (pFld jA "pipes" (pVar 0))) dNil)) (gT 2 (zdo (gN 1) (zdo (gN 2) zo21))) (zuj (λ i j=>i+j) (pFld jA "lying" (pVar 0)) (dOp fIx (zy1 2) (dC (.int 1))) (pFld jA "coming" (pVar 0)) (dTup (zl1 (dPE (pFld jA "moment" (pVar 0))) (zl1 (dVar 1) dNil))) (dC (.int 0))))
   (dRet (cE (dPE (pFld jA "moment" (pVar 0))))))))),(zd0 (za5 (zff kL (rmn hr) rfl zl2 (za0 (pv 0) zg0)))
   (zd0 (zdp (pv 0) zf0 za31)
   (zd0 (zq7 (pv 0) (zq0 zs1 (zn1 (za0 zf0 zg0)) (zv0 (zg1 (K:=K) rfl) rfl jT zv3 (za0 (zm1 (K:=K) rfl (pv 0) rfl) zg0))) rfl)
   (zd0 (zs9 PySem.PassesOwn.leaving rfl (zos (K:=K) rfl rfl kN (za0 (zm1 (K:=K) rfl (pv 0) rfl) zg0)) (zsa (K:=K) (n:=2) rfl rfl (zr1 (pgn 1 nd) (zr1 (pgn 2 nd) zva))) (zk0 (zeo (zm1 (K:=K) rfl (pv 0) rfl) (pix w K hr (pv 2) zf0) (zm61 (K:=K) (Room.units hr) rfl) (zui (K:=K) rfl PySem.F.plainAttrs_dict PySem.F.slot_dict_pop PySem.F.type_dict_pop (zny (Room.units hr)) (zm1 (K:=K) rfl (pv 0) rfl) (za0 (zt1 (za0 (zm1 (K:=K) rfl (pv 0) rfl) (za0 (pv 1) zg0))) (za0 zf0 zg0))) zo11 (zkl (Room.units hr)))))
   (zk0 (zi1 (zm1 (K:=K) rfl (pv 0) rfl))))))),λ ex=>(zv2 (zqj (ztk (at_b (zx0 0) zu4)))
   (zv2 (zh8 (zhq (fn:=(λ i j=>i+j)) jL jN (zx0 0) zd1))
   (zv2 (zh8 (zh7 jL jP (RfF.c (zlv (zk3 (zc0 zd1 zl0)) (zw7 zxc (zu0 (RfP.v (zc2 jL jO (zx0 0))) zo1)))) (zx0 0)))
   (zv2 (zh8 (zsh (zky (zc0 (RfP.e (zc2 jL jO (zx0 0))) zl0)) (zvk (zx1 (rgn 1) (zx1 (rgn 2) zdd))) (zlq (zc2 jL jM (zx0 0)) (zj0 r_ix (zb0 2) rvi) (zc2 jL jU (zx0 0)) (zl3 (zc0 (RfP.e (zc2 jL jN (zx0 0))) (zc0 (zi0 1) zl0))) zd1)))
   (zh8 (zj1 (RfE.c (RfP.e (zc2 jL jN (zx0 0)))))))))),?_⟩
 rintro as Qd Xd a ⟨rooms,lying,ps,m,en,kvs,rfl,h1,h2,h24,hv,hi,q,qx⟩
 unfold pS at q qx ⊢
 walk_at "ds"
 refine ze0 λ J hJ=>?_
 walk_at "dd"
 refine ⟨rooms,lying,ps,m,en,kvs,rfl,h1,h2,λ z=>?_,λ z=>⟨_,rfl,qx z⟩⟩
 have q:=q z
 clear qx
 refine hJ _ ?_
 clear hJ
 refine ze0 λ J hJ=>?_
 walk_at "dd"
 refine hJ _ ?_
 clear hJ
 refine ze0 λ J hJ=>?_
 walk_at "dd"
 rw [List.length_map,Int.toNat_natCast,List.flatten_replicate_singleton]
 refine ⟨by lia,by lia,by lia,hJ _ ?_⟩
 clear hJ
 have et:(m:Int)+1=((m+1:Nat):Int):=by lia
 rw [et]
 generalize hT:((m+1:Nat):Int)=t at q ⊢
 refine ze0 λ J hJ=>?_
 walk_at "dd"
 rw [zkk]
 refine zh5 (λ i δ=>∃ (s1 s2:Sl),δ=[.io a (.ob jA [("rooms",.li (rooms.map .int)),("lying",.li ((arrL ps kvs t i lying).map .int)),("pipes",.fz (.list (ps.map Pi.d))),("gates",.ls (ps.map λ p=>p.g.ob jB jF jC)),("moment",.fz (.int t)),("entered",.li (List.replicate ps.length (.int 0))),("coming",.dt (arrK kvs t i))]),s1,s2]) ⟨_,_,rfl⟩ ?_ ?_
 ·rintro i x δ hx ⟨s1,s2,rfl⟩
  obtain ⟨i',p⟩:=x
  rw [List.getElem?_mapIdx] at hx
  obtain ⟨p',hp,e⟩:=Option.map_eq_some_iff.mp hx
  cases e
  have hl:p.v < (arrL ps kvs t i lying).length:=by rw [zya];exact hv p (List.mem_of_getElem? hp)
  have en1:arrL ps kvs t (i+1) lying=inc (arrL ps kvs t i lying) p.v (cm kvs t i):=by
   show inc _ _ _=_
   rw [hp];rfl
  have ek1:arrK kvs t (i+1)=zx7 (arrK kvs t i) (kTI t i):=rfl
  rw [en1,ek1]
  have ec:=zey (zif hi t i) t i
  rw [zp01] at ec
  generalize arrL ps kvs t i lying=L at hl ⊢
  generalize arrK kvs t i=M at ec ⊢
  generalize hpd:ps.map Pi.d=PD
  unfold Pi.d
  refine ⟨rfl,zrq (z:=(p.v:Int)) (y:=L.getD p.v 0) (c:=cm kvs t i) (yd:=.tuple [.int t,.int (i:Int)]) (zd:=.int 0) (key:=kTI t i) (j:=p.v) (ds:=L.map .int) (kvs:=M) rfl rfl rfl (by decide +kernel) (λ Q hq=>?_) (λ Q hq=>?_) (λ Q hq=>hq) (by lia) ?_ (zk7 (by rw [List.length_map];exact hl)) rfl ec ?_⟩
  ·walk_at "dd"
   exact ⟨_,rfl,hq⟩
  ·walk_at "dd"
   exact hq
  ·rw [Int.toNat_natCast,List.getElem?_map,List.getD_eq_getElem?_getD,List.getElem?_eq_getElem hl];rfl
  ·refine ⟨.sh (.int (i:Int)),.sh (.tuple [.int (p.u:Int),.int (p.v:Int),.int (p.len:Int),.int p.pr,p.g.d]),?_⟩
   unfold inc
   rw [List.map_set]
   rfl
 ·rintro δ ⟨s1,s2,rfl⟩
  rw [List.length_mapIdx]
  refine hJ _ ?_
  clear hJ
  walk_at "dd"
  rw [List.map_replicate] at q
  exact ⟨_,rfl,q⟩
end
structure Lz where
 t:Int
 at_:Int
 am:Int
def Lz.d (l:Lz):D:=.tuple [.int l.t,.int l.at_,.int l.am]
def byZ (plan:List Lz) (m:Nat):List Lz:=plan.filter λ l=>decide (l.t=(m:Int))
theorem zau {plan:List Lz} {i:Nat} {l:Lz} (h:plan[i]?=some l) (m:Nat):byZ (plan.take (i+1)) m=byZ (plan.take i) m++(if l.t=(m:Int) then [l] else []):=by
 unfold byZ
 rw [List.take_succ,h,List.filter_append]
 congr 1
 by_cases e:l.t=(m:Int)
 ·simp [e]
 ·simp [e]
theorem zjs (plan:List Lz) (m:Nat):(byZ plan m).length<=plan.length:=List.length_filter_le _ _
theorem zrz {α:Type} {n u:Nat} {g:Nat->α} {x:α}:((List.range n).map g).set u x=(List.range n).map λ v=>if v=u then x else g v:=by
 apply List.ext_getElem?
 intro j
 rw [List.getElem?_set,List.getElem?_map,List.getElem?_map,List.length_map,List.length_range]
 by_cases h:j < n
 ·rw [List.getElem?_range h]
  by_cases z:u=j
  ·subst z;simp [h]
  ·simp [z]
   exact λ y=>absurd y.symm z
 ·rw [List.getElem?_eq_none (by simpa using h)]
  by_cases z:u=j
  ·subst z;simp [h]
  ·simp [z]
theorem zoi {α:Type} (f:α->List D):∀ xs:List α,zap (xs.map λ x=>L4.T.li (f x))=some (xs.map f)
|[]=>rfl
|x :: r=>by
  show (zap (r.map λ x=>L4.T.li (f x))).map (f x :: ·)=_
  rw [zoi f r];rfl
def zx4 (CM:Addr):DSpX:=λ as Q X=>∃ (plan:List Lz) (n:Nat),as=[.d (.list (plan.map Lz.d)),.d (.int (n:Int))]/\n<=1000/\plan.length<=1000/\(∀ l∈plan,-10000000000000000000000000000000000000000 < l.t/\l.t < 10000000000000000000000000000000000000000) /\
 ((∃ l∈plan,l.t < 0 \/ (n:Int)<=l.t)->X CM (.fz .none))/\((∀ l∈plan,0<=l.t/\l.t < (n:Int))->Q (.fz (.list ((List.range n).map λ m=>.list ((byZ plan m).map Lz.d)))) (.fz .none))
section
variable {P:Program} {w:World} {K:Fg} {mg:Str->Option Value} {base:Heap} {jI:Addr}
theorem zf9:FnScope ["plan", "until", "told", "letting", "moment"] ["plan", "until"] (zh0 zh4):=by walk_at "sc"
theorem zje (M:Md K mg) (T:TopDef K "by_moments" zh4) (jS:mg "range"=none) (kQ:XCls K "NoMoment" jI):Def1 P w K mg base "by_moments" 1 ["plan", "until"] (spX K (zx4 jI)):=by
 refine zzn M T zf9 (λ _ _ _ _ _ _ us hl=>by obtain ⟨_,_,rfl⟩:=ar2 hl;rfl) (zaw λ as Qd Xd h=>by obtain ⟨_,_,rfl,_⟩:=h;rfl) (zjl ?_)
 intro f cdv A outer s H E hr
 have nd:=zf9.nd
 refine ⟨_,λ ex=>(dSeq (dSet 2 (cN (zd61 (zdt (zl1 (dVar 1) dNil)) 1 [] (gN 0) (nF (dLst dNil)))))
   (dSeq (dFor (dIt (dVar 0)) (gN 3) (dSeq (dAsg (dOp fIx (zy1 3) (dC (.int 0))) (gN 4))
   (dSeq (dIf (dNot (zpi (zzq fLe fLt (dC (.int 0)) (dVar 4) (dVar 1)))) (zph jI (zl1 (ze9 (dJT 14 (dJI (dVar 4) (dJT 17 (dJI (dVar 1) dJN))))) dNil) ex) zpl)
   (ztv (cBM "list" mApp (pIx (pVar 2) (dVar 4)) (zl1 (dVar 3) dNil))))))
   (dFrz 2 [] (zgz 2)))),(zd0 (zb4 (i:=2) (sc:=zh0 zh4) (N:=["plan", "until", "told", "letting", "moment"]) (own:=["moment"]) (ix:=[]) rfl rfl rfl (by walk_at "csc") nd rfl rfl (zz1 rfl jS (za0 (pv 1) zg0)) (λ _ _ _ _=>⟨(pgn 0 (nds ["moment"])),zm3,(zn1 zg0)⟩))
   (zd0 (zs9 PySem.PassesOwn.leaving rfl (pi_W (K:=K) rfl (pv 0)) (pgn 3 nd) (zd0 (pset 4 nd (pix w K hr (pv 3) zf0))
   (zd0 (zn4 (zp11 (znk zt61 ztt zf0 (pv 4) (pv 1))) (zk0 (zs8 za4 kQ rfl rfl (za0 (zs5 (zl5 (zb7 (K:=K) rfl hr (pv 4) (zl5 (zb7 (K:=K) rfl hr (pv 1) zzk))))) zg0))) zc1)
   (zk0 (za5 (zui (K:=K) rfl PySem.F.plainAttrs_list PySem.F.slot_list_append PySem.F.type_list_append zt5 (pix w K hr (pv 2) (pv 4)) (za0 (pv 3) zg0)))))))
   (zk0 (zi1 (pv 2))))),λ ex=>(zv2 (zh8 (zr7 (RfN.c (zkr (RfI.j (zs4 (zc0 (zi0 1) zl0))) (zw1 (i:=0) (n:=1) (by decide)) (RfF.new (zk3 zl0))))))
   (zv2 (zyy (zfw (zi0 0)) (rgn 3) (zv2 (zh8 (za1 (zj0 r_ix (zb0 3) rvi) (rgn 4)))
   (zv2 (zwv (zcw (zs0 (zcn r_le r_lt zd1 (zi0 4) (zi0 1)))) (zo8 (zc0 (zy5 (zy4 (l:=14) (by decide +kernel) (zog (zi0 4) (zy4 (l:=17) (by decide +kernel) (zog (zi0 1) zgl))))) zl0)) (zh8 zb1))
   (zh8 (zug (zj61 zst (zg81 (zx0 2) (zi0 4)) (zc0 (zi0 3) zl0)))))))
   (zh8 (zcl 2 [] (zks (i:=2)))))),?_⟩
 rintro as Qd Xd a ⟨plan,n,rfl,hn,hp,hb,qx,q⟩
 walk_at "ds"
 refine ze0 λ J hJ=>?_
 walk_at "dd"
 rw [Int.toNat_natCast]
 unfold rngD
 refine ⟨by lia,by lia,zwx (λ _=>.li []) (by rw [List.length_range,sizeLine_eq];lia) (λ m _=>?_) ?_⟩
 ·walk_at "cs"
  walk_at "dd"
 refine hJ _ ?_
 clear hJ
 refine ze0 λ J hJ=>?_
 walk_at "dd"
 refine zh5 (λ i δ=>(∀ l∈plan.take i,0<=l.t/\l.t < (n:Int))/\∃ s3 s4:Sl,δ=[.sh (.list (plan.map Lz.d)),.sh (.int (n:Int)),.ow (.ls ((List.range n).map λ m=>.li ((byZ (plan.take i) m).map Lz.d))),s3,s4]) ⟨λ l hl=>by simp at hl,.un,.un,rfl⟩ ?_ ?_
 ·rintro i l δ hi ⟨hv,s3,s4,rfl⟩
  have hm:=List.mem_of_getElem? hi
  have hil:=(List.getElem?_eq_some_iff.mp hi).1
  obtain ⟨b0,b1⟩:=hb l hm
  rw [show Lz.d l=.tuple [.int l.t,.int l.at_,.int l.am] from rfl]
  walk_at "dd"
  refine ze0 λ J hJ=>?_
  walk_at "dd"
  refine ⟨_,rfl,hJ _ ?_⟩
  clear hJ
  refine ze0 λ J hJ=>?_
  walk_at "dd"
  refine two (λ z1=>two (λ z2=>?_) λ z2=>hJ _ ?_) λ z1=>?_
  ·exact ⟨⟨b0,b1⟩,⟨by lia,by lia⟩,λ _ _=>qx ⟨l,hm,.inr (by lia)⟩⟩
  ·clear hJ
   obtain ⟨u,hu⟩:=Int.eq_ofNat_of_zero_le z1
   have hlt:u < n:=by lia
   walk_at "dd"
   have hg:((List.range n).map λ m=>L4.T.li ((byZ (plan.take i) m).map Lz.d))[u]?=some (.li ((byZ (plan.take i) u).map Lz.d)):=by rw [List.getElem?_map,List.getElem?_range hlt];rfl
   have hb:=zjs (plan.take i) u
   rw [List.length_take] at hb
   refine ⟨u,_,by rw [hu];exact zk7 (by simpa using hlt),hg,rfl,by rw [List.length_map];lia,λ l' hl'=>?_,.sh (.tuple [.int l.t,.int l.at_,.int l.am]),.sh (.int l.t),?_⟩
   ·rw [List.take_succ,hi] at hl'
    rcases List.mem_append.mp hl' with y|y
    ·exact hv l' y
    ·simp at y;subst y;lia
   rw [hg]
   have e:(List.map (λ m=>L4.T.li (List.map Lz.d (byZ (List.take (i+1) plan) m))) (List.range n))=((List.range n).map λ m=>L4.T.li ((byZ (plan.take i) m).map Lz.d)).set u (.li ((byZ (plan.take i) u).map Lz.d++[.tuple [.int l.t,.int l.at_,.int l.am]])):=by
    rw [zrz]
    refine List.map_congr_left λ m _=>?_
    rw [zau hi]
    by_cases z:m=u
    ·subst z;rw [if_pos hu,if_pos rfl,List.map_append];rfl
    ·rw [if_neg (λ y=>z (by lia)),if_neg z,List.append_nil]
   rw [e]
  ·exact ⟨⟨b0,b1⟩,⟨by lia,by lia⟩,λ _ _=>qx ⟨l,hm,.inl (by lia)⟩⟩
 ·rintro δ ⟨hv,s3,s4,rfl⟩
  rw [List.take_length] at hv ⊢
  refine hJ _ ?_
  clear hJ
  walk_at "dd"
  refine ⟨_,_,rfl,(show Option.map _ (zap _)=_ by rw [zoi];rfl),?_⟩
  dsimp only
  rw [List.map_map]
  exact q hv
end
structure Le where
 t:Nat
 at_:Nat
 am:Int
def Lz.le (l:Lz):Le:=⟨l.t.toNat,l.at_.toNat,l.am⟩
def sL (L:List Le) (f:Le->Int):Int:=(L.map f).sum
theorem zxl (f:Le->Int):sL [] f=0:=rfl
theorem zu2 (l:Le) (L:List Le) (f:Le->Int):sL (l :: L) f=f l+sL L f:=by unfold sL;simp
theorem zw41 (L M:List Le) (f:Le->Int):sL (L++M) f=sL L f+sL M f:=by unfold sL;simp
theorem zcm {L:List Le} {f g:Le->Int} (h:∀ l∈L,f l=g l):sL L f=sL L g:=by
 unfold sL;rw [List.map_congr_left h]
theorem zja1 {L:List Le} {k:Nat} {l0 l:Le} (h:L[k]?=some l0) (f:Le->Int):sL (L.set k l) f=sL L f - f l0+f l:=by
 induction L generalizing k with
|nil=>simp at h
|cons a r ih =>
  cases k with
 |zero =>
   simp at h
   subst h
   rw [List.set_cons_zero,zu2,zu2];lia
 |succ k =>
   simp at h
   rw [List.set_cons_succ,zu2,zu2,ih h];lia
theorem zi21 (L:List Le) (f:Le->Int) (h:∀ l∈L,l.am<=0->f l=0):sL (L.filter λ l=>decide (0 < l.am)) f=sL L f:=by
 induction L with
|nil=>rfl
|cons a r ih =>
  have ih:=ih λ l hl=>h l (List.mem_cons_of_mem _ hl)
  by_cases e:0 < a.am
  ·rw [List.filter_cons_of_pos (by simpa using e),zu2,zu2,ih]
  ·rw [List.filter_cons_of_neg (by simpa using e),zu2,ih,h a List.mem_cons_self (by lia)];lia
theorem zwr {h:List Int} {v:Nat} (hv:v < h.length) (c:Int) (x:Nat):(inc h v c).getD x 0=h.getD x 0+if v=x then c else 0:=by
 unfold inc
 rw [List.getD_eq_getElem?_getD,List.getElem?_set]
 by_cases e:v=x
 ·subst e
  rw [if_pos rfl,if_pos hv,if_pos rfl];rfl
 ·rw [if_neg e,if_neg e,<- List.getD_eq_getElem?_getD];lia
def zx9 (c:Le->Prop) [DecidablePred c] (g:Le->Nat):List Le->List Int->List Int
|[],h=>h
|l :: r,h=>zx9 c g r (if c l then inc h (g l) l.am else h)
theorem zqa (c:Le->Prop) [DecidablePred c] (g:Le->Nat):∀ (L:List Le) (h:List Int),(zx9 c g L h).length=h.length
|[],_=>rfl
|l :: r,h=>by
  show (zx9 c g r _).length=_
  rw [zqa c g r]
  split
  ·exact zik _ _ _
  ·rfl
theorem zvd (c:Le->Prop) [DecidablePred c] (g:Le->Nat):∀ (L:List Le) (l:Le) (h:List Int),zx9 c g (L++[l]) h=if c l then inc (zx9 c g L h) (g l) l.am else zx9 c g L h
|[],_,_=>rfl
|_ :: r,l,h=>zvd c g r l _
theorem znb (c:Le->Prop) [DecidablePred c] (g:Le->Nat):∀ (L:List Le) (h:List Int),(∀ l∈L,g l < h.length)->∀ x,(zx9 c g L h).getD x 0=h.getD x 0+sL L λ l=>if c l/\g l=x then l.am else 0
|[],h,_,x=>by show h.getD x 0=_;rw [zxl];lia
|l :: r,h,hg,x=>by
  show (zx9 c g r _).getD x 0=_
  have hl:=hg l List.mem_cons_self
  rw [zu2]
  by_cases e:c l
  ·rw [if_pos e,znb c g r _ (λ l' hl'=>by rw [zik];exact hg l' (List.mem_cons_of_mem _ hl')) x,zwr hl]
   by_cases z:g l=x
   ·rw [if_pos z,if_pos ⟨e,z⟩];lia
   ·rw [if_neg z,if_neg (λ y=>z y.2)];lia
  ·rw [if_neg e,znb c g r _ (λ l' hl'=>hg l' (List.mem_cons_of_mem _ hl')) x,if_neg (λ y=>e y.1)];lia
def zuh (ps:List Pi) (i:Nat):Nat:=(ps[i]?).map Pi.v |>.getD 0
theorem ztl {ps:List Pi} {kvs:List (List Key×D)} {t:Int} {l:List Int} (hv:∀ i,i < ps.length->zuh ps i < l.length) (x:Nat):∀ n,n<=ps.length->(arrL ps kvs t n l).getD x 0=l.getD x 0+sm n λ i=>if zuh ps i=x then cm kvs t i else 0
|0,_=>by show l.getD x 0=l.getD x 0+0;lia
|n+1,h=>by
  show (inc (arrL ps kvs t n l) (zuh ps n) (cm kvs t n)).getD x 0=_
  rw [zwr (by rw [zya];exact hv n (by lia)),ztl hv x n (by lia),zsd];lia
theorem dbl {ps:List Pi} {c:Le->Prop} [DecidablePred c] {n x:Nat}:∀ {L:List Le},(∀ l∈L,l.at_ < n)->sm n (λ i=>if zuh ps i=x then sL L (λ l=>if l.at_=i/\c l then l.am else 0) else 0)=sL L λ l=>if c l/\zuh ps l.at_=x then l.am else 0
|[],_=>by
  rw [zxl,zs6 (h:=λ _=>0) λ k _=>by rw [zxl];split <;> rfl]
  exact zrk n
|l :: r,h=>by
  have ih:=dbl (ps:=ps) (c:=c) (n:=n) (x:=x) (L:=r) λ l' hl'=>h l' (List.mem_cons_of_mem _ hl')
  have hl:=h l List.mem_cons_self
  rw [zu2,<- ih,<- ze01 (j:=l.at_) (if c l/\zuh ps l.at_=x then l.am else 0) hl,<- zxt]
  refine zs6 λ k _=>?_
  rw [zu2]
  by_cases e:zuh ps k=x
  ·rw [if_pos e,if_pos e]
   by_cases z:k=l.at_
   ·subst z
    by_cases y:c l
    ·rw [if_pos ⟨rfl,y⟩,if_pos rfl,if_pos ⟨y,e⟩]
    ·rw [if_neg (λ q=>y q.2),if_pos rfl,if_neg (λ q=>y q.1)]
   ·rw [if_neg (λ q=>z q.1.symm),if_neg z]
  ·rw [if_neg e,if_neg e]
   by_cases z:k=l.at_
   ·subst z
    rw [if_pos rfl,if_neg (λ q=>e q.2)];lia
   ·rw [if_neg z];lia
theorem za11 {a b:List Int} (hl:a.length=b.length) (h:∀ x,a.getD x 0=b.getD x 0):a=b:=by
 refine List.ext_getElem hl λ i h1 h2=>?_
 have:=h i
 rw [List.getD_eq_getElem?_getD,List.getD_eq_getElem?_getD,List.getElem?_eq_getElem h1,List.getElem?_eq_getElem h2] at this
 exact this
theorem zt3 (h:List Int) (v:Nat) (c:Int) (hv:v < h.length) (x:Nat):(h.set v c).getD x 0=if v=x then c else h.getD x 0:=by
 rw [List.getD_eq_getElem?_getD,List.getElem?_set]
 by_cases e:v=x
 ·subst e;rw [if_pos rfl,if_pos hv,if_pos rfl];rfl
 ·rw [if_neg e,if_neg e,<- List.getD_eq_getElem?_getD]
theorem zor {ps:List Pi} {m:Nat} (h:∀ p∈ps,p.v < m) {i:Nat} (hi:i < ps.length):zuh ps i < m:=by
 unfold zuh
 rw [List.getElem?_eq_getElem hi]
 exact h _ (List.getElem_mem _)
theorem ztu {kvs:List (List Key×D)} (h:AllI kvs) (k:List Key) (c:Int):AllI (putD kvs k (.int c)):=λ k' d e=>by
 rw [zho] at e
 split at e
 ·cases e;exact ⟨c,rfl⟩
 ·exact h k' d e
theorem zb01 (L:List Le) (f g:Le->Int):sL L f+sL L g=sL L λ l=>f l+g l:=by
 induction L with
|nil=>rfl
|cons a r ih=>rw [zu2,zu2,zu2,<- ih];lia
theorem zt41 {kvs:List (List Key×D)} (t t':Int) (i i':Nat) (c:Int):cm (putD kvs (kTI t i) (.int c)) t' i'=if t=t'/\i=i' then c else cm kvs t' i':=by
 unfold cm
 rw [zho]
 by_cases e:t=t'/\i=i'
 ·obtain ⟨rfl,rfl⟩:=e
  rw [if_pos rfl,if_pos ⟨rfl,rfl⟩]
 ·rw [if_neg (λ z=>e (zbs z)),if_neg e]
def cmB (ps:List Pi) (P:List Le) (now t i:Nat):Int:=sL P λ l=>if l.t < now/\l.at_=i/\l.t+pl ps l.at_=t then l.am else 0
def znf (ps:List Pi) (now:Nat) (L:List Lz) (held:List Int):List Int:=zx9 (λ l:Le=>l.t+pl ps l.at_=now) (λ l=>zuh ps l.at_) (L.map Lz.le) held
def zyv (ps:List Pi):List Lz->List Int->List Int->(List Int->Option Nat)->Option Nat
|[],h,_,k=>k h
|l :: r,h,f,k=>if dueF ps.length l.at_ l.am (f.getD l.at_.toNat 0) (h.getD (zh2 ps l.at_.toNat) 0)=4 then zyv ps r (h.set (zh2 ps l.at_.toNat) (h.getD (zh2 ps l.at_.toNat) 0 - l.am)) (f.set l.at_.toNat (f.getD l.at_.toNat 0 - l.am)) k else some (dueF ps.length l.at_ l.am (f.getD l.at_.toNat 0) (h.getD (zh2 ps l.at_.toNat) 0))
def resA (rooms:List Int) (ps:List Pi) (plan:List Lz):Nat->Nat->List Int->Option Nat
|0,_,h=>if over rooms h=[] then none else some 4
|d+1,now,h=>zyv ps (byZ plan now) h (ps.map λ p=>p.g.at now) λ h'=>if over rooms h'=[] then resA rooms ps plan d (now+1) (znf ps (now+1) (plan.filter λ l=>decide (l.t<=(now:Int))) h') else some 4
def resP (rooms:List Int) (ps:List Pi) (plan:List Lz) (n:Nat) (h:List Int):Option Nat:=if (plan.any λ l=>decide (l.t < 0 \/ (n:Int)<=l.t))=true then some 5 else resA rooms ps plan n 0 h
theorem due4 {n:Nat} {k am l h:Int} (e:dueF n k am l h=4):0<=k/\k < (n:Int)/\1<=am/\am<=l/\am<=h:=by
 unfold dueF at e
 split at e
 ·cases e
 ·split at e
  ·cases e
  ·split at e
   ·cases e
   ·split at e
    ·cases e
    ·lia
structure Wn (ps:List Pi) (PL:List Le) (i:Nat) (dn:List Le) (ly en f:List Int) (kvs:List (List Key×D)) (nv nk:Nat):Prop where
 yl:ly.length=nv
 el:en.length=ps.length
 fl:f.length=ps.length
 ff:∀ k,k < ps.length->f.getD k 0=zmo ps k i - en.getD k 0
 fb:∀ k,k < ps.length->0<=f.getD k 0/\f.getD k 0<=2000000000000
 ai:AllI kvs
 kl:kvs.length<=nk
 cs:∀ t k,i < t->k < ps.length->cm kvs ((t:Nat):Int) k=cmB ps PL i t k+sL dn λ l=>if l.at_=k/\i+pl ps l.at_=t then l.am else 0
variable {ps:List Pi} {PL dn:List Le} {i nv nk:Nat} {ly en f:List Int} {kvs:List (List Key×D)}
theorem Wn.code (w:Wn ps PL i dn ly en f kvs nv nk) (k am:Int):zpo ps i ly en k am=dueF ps.length k am (f.getD k.toNat 0) (ly.getD (zh2 ps k.toNat) 0):=by
 unfold zpo
 by_cases z:k < 0 \/ (ps.length:Int)<=k
 ·unfold dueF;rw [if_pos z,if_pos z]
 ·rw [w.ff k.toNat (by lia)]
theorem Wn.let_ (w:Wn ps PL i dn ly en f kvs nv nk) {l:Lz} (h0:0<=l.at_) (h1:l.at_ < (ps.length:Int)) (ha:1<=l.am) (hf:l.am<=f.getD l.at_.toNat 0) :
  Wn ps PL i (dn++[l.le]) (ly.set (zh2 ps l.at_.toNat) (ly.getD (zh2 ps l.at_.toNat) 0 - l.am)) (en.set l.at_.toNat (en.getD l.at_.toNat 0+l.am)) (f.set l.at_.toNat (f.getD l.at_.toNat 0 - l.am)) (putD kvs (kTI ((i:Int)+(pl ps l.at_.toNat:Int)) l.at_.toNat) (.int (cm kvs ((i:Int)+(pl ps l.at_.toNat:Int)) l.at_.toNat+l.am))) nv (nk+1):=by
 have hj:l.at_.toNat < ps.length:=by lia
 have el:l.le.at_=l.at_.toNat:=rfl
 have em:l.le.am=l.am:=rfl
 generalize hjj:l.at_.toNat=j at *
 refine ⟨by rw [List.length_set];exact w.yl,by rw [List.length_set];exact w.el,by rw [List.length_set];exact w.fl,λ k hk=>?_,λ k hk=>?_,ztu w.ai _ _,Nat.le_trans (zhw _ _ _) (Nat.add_le_add_right w.kl 1),λ t k ht hk=>?_⟩
 ·rw [zt3 _ _ _ (by rw [w.fl];exact hj),zt3 _ _ _ (by rw [w.el];exact hj)]
  have:=w.ff k hk
  by_cases e:j=k
  ·subst e;rw [if_pos rfl,if_pos rfl];lia
  ·rw [if_neg e,if_neg e];exact this
 ·rw [zt3 _ _ _ (by rw [w.fl];exact hj)]
  have:=w.fb k hk
  by_cases e:j=k
  ·subst e;rw [if_pos rfl];lia
  ·rw [if_neg e];exact this
 ·rw [zt41,zw41,zu2,zxl,el,em]
  have e1:=w.cs t k ht hk
  by_cases e:j=k/\i+pl ps j=t
  ·obtain ⟨rfl,rfl⟩:=e
   rw [if_pos ⟨by lia,rfl⟩,if_pos ⟨rfl,rfl⟩,show (i:Int)+(pl ps j:Int)=((i+pl ps j:Nat):Int) by lia,e1]
   lia
  ·rw [if_neg e,if_neg (λ z=>e ⟨z.2,by have:=z.1;lia⟩),e1]
   lia
end K13
namespace K13
open PySem PySem.Spec PyProof.Rows L2 L3 L4 L5
theorem zn41 (p:Lz->Prop) [DecidablePred p] (q:Le->Prop) [DecidablePred q] (g:Le->Int):∀ plan:List Lz,(∀ l∈plan,p l ↔ q l.le)->sL ((plan.filter λ l=>decide (p l)).map Lz.le) g=sL (plan.map Lz.le) λ l=>if q l then g l else 0
|[],_=>rfl
|l :: r,h=>by
  have ih:=zn41 p q g r λ x hx=>h x (List.mem_cons_of_mem _ hx)
  have hl:=h l List.mem_cons_self
  rw [List.map_cons,zu2,<- ih]
  by_cases e:p l
  ·rw [List.filter_cons_of_pos (by simpa using e),List.map_cons,zu2,if_pos (hl.mp e)]
  ·rw [List.filter_cons_of_neg (by simpa using e),if_neg (λ z=>e (hl.mpr z))];lia
structure Bg (ps:List Pi) (PL:List Le) (i:Nat) (ly:List Int) (kvs:List (List Key×D)) (nv nk:Nat):Prop where
 yl:ly.length=nv
 ai:AllI kvs
 kl:kvs.length<=nk
 cs:∀ t k,i < t->k < ps.length->cm kvs ((t:Nat):Int) k=cmB ps PL i t k
theorem zmx {L:List Le} {f:Le->Int} (h:∀ l∈L,f l=0):sL L f=0:=by
 induction L with
|nil=>rfl
|cons a r ih=>rw [zu2,h a List.mem_cons_self,ih λ l hl=>h l (List.mem_cons_of_mem _ hl)];rfl
theorem zsl (kvs:List (List Key×D)) (t:Int):∀ n,(arrK kvs t n).length<=kvs.length
|0=>Nat.le_refl _
|n+1=>Nat.le_trans (List.length_filter_le _ _) (zsl kvs t n)
variable {ps:List Pi} {PL dn:List Le} {i nv nk:Nat} {ly en f:List Int} {kvs:List (List Key×D)} {plan:List Lz}
theorem Bg.init:Bg ps PL 0 ly [] ly.length 0:=⟨rfl,λ k d e=>by simp [getA] at e,Nat.le_refl _,λ t k _ _=>by
 show (0:Int)=_
 unfold cmB
 rw [zmx λ l _=>by rw [if_neg (λ z=>by have:=z.1;lia)]]⟩
theorem Bg.start (b:Bg ps PL i ly kvs nv nk) (hw:∀ p∈ps,∀ t,0<=p.g.at t/\p.g.at t<=2000000000000):Wn ps PL i [] ly (List.replicate ps.length 0) (ps.map λ p=>p.g.at i) kvs nv nk:=by
 refine ⟨b.yl,by simp,by simp,λ k hk=>?_,λ k hk=>?_,b.ai,b.kl,λ t k ht hk=>by rw [b.cs t k ht hk,zxl];lia⟩
 ·unfold zmo
  rw [List.getD_eq_getElem?_getD,List.getElem?_map,List.getD_eq_getElem?_getD,List.getElem?_replicate,if_pos hk]
  show _=_ - (0:Int)
  lia
 ·rw [List.getD_eq_getElem?_getD,List.getElem?_map,List.getElem?_eq_getElem hk]
  exact hw _ (List.getElem_mem _) i
theorem Wn.all (w:Wn ps (plan.map Lz.le) i ((byZ plan i).map Lz.le) ly en f kvs nv nk) (h0:∀ l∈plan,0<=l.t) {t k:Nat} (ht:i < t) (hk:k < ps.length):cm kvs ((t:Nat):Int) k=cmB ps (plan.map Lz.le) (i+1) t k:=by
 rw [w.cs t k ht hk]
 unfold byZ
 rw [zn41 (λ l=>l.t=(i:Int)) (λ l=>l.t=i) _ plan λ l hl=>by
  have:=h0 l hl
  show l.t=(i:Int) ↔ l.t.toNat=i
  lia]
 unfold cmB
 rw [zb01]
 refine zcm λ l _=>?_
 by_cases e:l.t=i
 ·by_cases z:l.at_=k/\l.t+pl ps l.at_=t
  ·rw [if_neg (λ y=>by have:=y.1;lia),if_pos e,if_pos ⟨z.1,by have:=z.2;lia⟩,if_pos ⟨by lia,z⟩];lia
  ·rw [if_neg (λ y=>z y.2),if_pos e,if_neg (λ y=>z ⟨y.1,by have:=y.2;lia⟩),if_neg (λ y=>z y.2)];lia
 ·by_cases z:l.t < i/\l.at_=k/\l.t+pl ps l.at_=t
  ·rw [if_pos z,if_neg e,if_pos ⟨by lia,z.2⟩];lia
  ·rw [if_neg z,if_neg e,if_neg (λ y=>z ⟨by lia,y.2⟩)];lia
theorem Wn.come (w:Wn ps (plan.map Lz.le) i ((byZ plan i).map Lz.le) ly en f kvs nv nk) (h0:∀ l∈plan,0<=l.t) (hv:∀ l∈plan,l.t<=(i:Int)->0<=l.at_/\l.at_ < (ps.length:Int)) (hp:∀ p∈ps,p.v < nv) :
  arrL ps kvs ((i+1:Nat):Int) ps.length ly=znf ps (i+1) (plan.filter λ l=>decide (l.t<=(i:Int))) ly:=by
 have gl:∀ k,k < ps.length->zuh ps k < ly.length:=λ k hk=>by rw [w.yl];exact zor hp hk
 have la:∀ l∈(plan.filter λ l=>decide (l.t<=(i:Int))).map Lz.le,l.at_ < ps.length:=λ l hl=>by
  obtain ⟨x,hx,rfl⟩:=List.mem_map.mp hl
  obtain ⟨h1,h2⟩:=List.mem_filter.mp hx
  have:=hv x h1 (by simpa using h2)
  show x.at_.toNat < _
  lia
 refine za11 (by unfold znf;rw [zya,zqa]) λ x=>?_
 unfold znf
 rw [ztl gl x ps.length (Nat.le_refl _),znb _ _ _ _ (λ l hl=>gl _ (la l hl))]
 congr 1
 rw [<- dbl (c:=λ l=>l.t+pl ps l.at_=i+1) la]
 refine zs6 λ k hk=>?_
 rw [w.all h0 (by lia) hk,zn41 (λ l=>l.t<=(i:Int)) (λ l=>l.t < i+1) _ plan λ l hl=>by
  have:=h0 l hl
  show l.t<=(i:Int) ↔ l.t.toNat < i+1
  lia]
 unfold cmB
 split
 ·refine zcm λ l _=>?_
  by_cases z:l.t < i+1
  ·rw [if_pos z]
   by_cases y:l.at_=k/\l.t+pl ps l.at_=i+1
   ·rw [if_pos ⟨z,y⟩,if_pos y]
   ·rw [if_neg (λ q=>y q.2),if_neg y]
  ·rw [if_neg z,if_neg (λ q=>z q.1)]
 ·rfl
theorem Wn.next (w:Wn ps (plan.map Lz.le) i ((byZ plan i).map Lz.le) ly en f kvs nv nk) (h0:∀ l∈plan,0<=l.t):Bg ps (plan.map Lz.le) (i+1) (arrL ps kvs ((i+1:Nat):Int) ps.length ly) (arrK kvs ((i+1:Nat):Int) ps.length) nv nk:=by
 refine ⟨by rw [zya];exact w.yl,zif w.ai _ _,Nat.le_trans (zsl _ _ _) w.kl,λ t k ht hk=>?_⟩
 rw [<- w.all h0 (by lia) hk]
 unfold cm
 rw [zlf,if_neg (λ z=>by have:=z.1;lia)]
end K13
namespace K13
open PySem PySem.Spec PyProof.Rows L2 L3 L4 L5
def tRow (l:List Int):T:=.li (l.map .int)
structure Ask (vs:List Va) (ps:List Pi) (plan:List Lz) (n:Nat):Prop where
 v12:vs.length<=12
 p24:ps.length<=24
 n1:n<=100
 pl:plan.length<=100
 pb:∀ l∈plan,(-10000000000000000000000000000000000000000 < l.t/\l.t < 10000000000000000000000000000000000000000)/\(-10000000000000000000000000000000000000000 < l.at_/\l.at_ < 10000000000000000000000000000000000000000)/\(-10000000000000000000000000000000000000000 < l.am/\l.am < 10000000000000000000000000000000000000000)
 pp:∀ p∈ps,p.u < vs.length/\p.v < vs.length/\p.g.ok/\∀ t,0<=p.g.at t/\p.g.at t<=2000000000000
def zve (C0 CA CW CL CF CM:Addr):DSpX:=λ as Q X=>∃ (vs:List Va) (ps:List Pi) (plan:List Lz) (n:Nat),as=[.d (.tuple [.list (vs.map Va.d),.list (ps.map Pi.d)]),.d (.list (plan.map Lz.d)),.d (.int (n:Int))]/\Ask vs ps plan n /\
 (∀ c,resP (vs.map Va.room) ps plan n (vs.map Va.fill)=some c->X ([C0,CA,CW,CL,CF,CM].getD c 0) (.fz .none))/\(resP (vs.map Va.room) ps plan n (vs.map Va.fill)=none->∀ rows:List (List Int),rows.length=n+1->Q (.ls (rows.map tRow)) (.fz .none))
theorem zzr {α:Type} {l:List α} {i:Nat} {x:α} (h:l[i]?=some x):l.drop i=x :: l.drop (i+1):=by
 obtain ⟨h1,h2⟩:=List.getElem?_eq_some_iff.mp h
 rw [List.drop_eq_getElem_cons h1,h2]
theorem zbh {α:Type} {l:List α} {i:Nat} {x:α} (h:l[i]?=some x):l.take (i+1)=l.take i++[x]:=by
 rw [List.take_succ,h];rfl
section
variable {P:Program} {w:World} {K:Fg} {mg:Str->Option Value} {base:Heap} {jB jF jC jA jK jH jJ jE jG jI:Addr}
theorem zgk:FnScope ["yard", "plan", "until", "play", "told", "lettings", "letting"] ["yard", "plan", "until"] (zh0 zqi):=by walk_at "sc"
theorem zmn (M:Md K mg) (T:TopDef K "played" zqi) (jL:Cls K jA) (qV:ztf P w K mg base jA "holds" 1 ["self"] (spT K (ze4 jA jB jF jC))) (vY:zlo P w K mg base "Play" jA 4 ["self", "yard"] (spT K (zq3 jA jB jF jC))) (uB:ziq P w K mg base jA "go_on" 3 ["self"] (spX K (zd5 jA jB jF jC jG))) (kL:Def1 P w K mg base "refuse_full" 2 ["play"] (spX K (zd2 jA jB jF jC jG))) (uV:ziq P w K mg base jA "let" 3 ["self", "pipe", "amount"] (spX K (zt8 jA jB jF jC jK jH jJ jE))) (uC:Def1 P w K mg base "by_moments" 1 ["plan", "until"] (spX K (zx4 jI))):Def1 P w K mg base "played" 6 ["yard", "plan", "until"] (spX K (zve jK jH jJ jE jG jI)):=by
 refine zzn M T zgk (λ _ _ _ _ _ _ us hl=>by obtain ⟨_,_,_,rfl⟩:=ar3 hl;rfl) (zaw λ as Qd Xd h=>by obtain ⟨_,_,_,_,rfl,_⟩:=h;rfl) (zjl ?_)
 intro f cdv A outer s H E hr
 have nd:=zgk.nd
 refine ⟨_,λ ex=>(dSeq (dSet 3 (cN (zb31 jA (zq3 jA jB jF jC) (aD (dVar 0) aNil))))
   (dSeq (dSet 4 (cF (dLst dNil)))
   (dSeq (zp51 (zsv (zx4 jI) (aD (dVar 1) (aD (dVar 2) aNil))) (gN 5) (dSeq (dFor (dIt (dVar 5)) (gN 6) (zuk (zpx true jA "let" (zt8 jA jB jF jC jK jH jJ jE) (pVar 3) (aD (dOp fIx (zy1 6) (dC (.int 1))) (aD (dOp fIx (zy1 6) (dC (.int 2))) aNil))) ex))
   (dSeq (zg21 4 (zx01 false jA "holds" (ze4 jA jB jF jC) (pVar 3) aNil))
   (zuk (zpx true jA "go_on" (zd5 jA jB jF jC jG) (pVar 3) aNil) ex))) ex)
   (dSeq (zuk (zsv (zd2 jA jB jF jC jG) (aB (pVar 3) aNil)) ex)
   (dSeq (zg21 4 (zx01 false jA "holds" (ze4 jA jB jF jC) (pVar 3) aNil))
   (zgz 4)))))),(zd0 (pset 3 nd (zef vY (rmn hr) rfl (za0 (pv 0) zg0)))
   (zd0 (pset 4 nd (zn1 zg0))
   (zd0 (zs9 PySem.PassesOwn.leaving rfl (pi_W (K:=K) rfl (zff uC (rmn hr) rfl zl2 (za0 (pv 1) (za0 (pv 2) zg0)))) (pgn 5 nd) (zd0 (zs9 PySem.PassesOwn.leaving rfl (pi_W (K:=K) rfl (pv 5)) (pgn 6 nd) (zk0 (za5 (zyl (k:=3) rfl rfl rfl rfl rfl (rmn hr) zl2 (pv 3) (za0 (pix w K hr (pv 6) zf0) (za0 (pix w K hr (pv 6) zf0) zg0))))))
   (zd0 (za5 (zui (K:=K) rfl PySem.F.plainAttrs_list PySem.F.slot_list_append PySem.F.type_list_append zt5 (pv 4) (za0 (zle qV (rmn hr) (pv 3)) zg0)))
   (zk0 (za5 (zwp (k:=3) rfl rfl rfl rfl rfl (rmn hr) zl2 (pv 3)))))))
   (zd0 (za5 (zff kL (rmn hr) rfl zl2 (za0 (pv 3) zg0)))
   (zd0 (za5 (zui (K:=K) rfl PySem.F.plainAttrs_list PySem.F.slot_list_append PySem.F.type_list_append zt5 (pv 4) (za0 (zle qV (rmn hr) (pv 3)) zg0)))
   (zk0 (zi1 (pv 4)))))))),λ ex=>(zv2 (zh8 (zr7 (RfN.c (zck (at_d (zi0 0) zu4)))))
   (zv2 (zh8 (zr7 (RfF.c (zk3 zl0))))
   (zv2 (zw01 (ztk (at_d (zi0 1) (at_d (zi0 2) zu4))) (rgn 5) (zv2 (zyy (zfw (zi0 5)) (rgn 6) (zqj (zum true uV (zx0 3) (at_d (zj0 r_ix (zb0 6) rvi) (at_d (zj0 r_ix (zb0 6) rvi) zu4)))))
   (zv2 (zh8 (zrr (i:=4) (zbn false (zx0 3) zu4)))
   (zqj (zum true uB (zx0 3) zu4)))))
   (zv2 (zqj (ztk (at_b (zx0 3) zu4)))
   (zv2 (zh8 (zrr (i:=4) (zbn false (zx0 3) zu4)))
   (zh8 (zks (i:=4)))))))),?_⟩
 rintro as Qd Xd a ⟨vs,ps,plan,n,rfl,A,qx,q⟩
 have h12:=A.v12
 have h24:=A.p24
 have hn:=A.n1
 have hpl:=A.pl
 walk_at "ds"
 refine ze0 λ J hJ=>?_
 walk_at "dd"
 refine ⟨vs,ps,rfl,h12,h24,trivial,hJ _ ?_⟩
 clear hJ
 refine ze0 λ J hJ=>?_
 walk_at "dd"
 refine hJ _ ?_
 clear hJ
 refine ze0 λ J hJ=>?_
 walk_at "dd"
 refine ⟨plan,n,rfl,by lia,by lia,λ l hl=>(A.pb l hl).1,λ z=>?_,λ z=>?_⟩
 ·refine qx 5 (if_pos ?_)
  obtain ⟨l,h1,h2⟩:=z
  exact List.any_eq_true.mpr ⟨l,h1,by simpa using h2⟩
 have e0:resP (vs.map Va.room) ps plan n (vs.map Va.fill)=resA (vs.map Va.room) ps plan n 0 (vs.map Va.fill):=if_neg (λ y=>by
  obtain ⟨l,h1,h2⟩:=List.any_eq_true.mp y
  have:=z l h1
  simp at h2
  lia)
 rw [e0] at qx q
 have h0:∀ l∈plan,0<=l.t:=λ l hl=>(z l hl).1
 have hw:∀ p∈ps,∀ t,0<=p.g.at t/\p.g.at t<=2000000000000:=λ p hp=>(A.pp p hp).2.2.2
 generalize hR:resA (vs.map Va.room) ps plan n 0 (vs.map Va.fill)=R at qx q
 walk_at "dd"
 refine ⟨_,rfl,zh5 (λ i δ=>∃ (ly:List Int) (kvs:List (List Key×D)) (acc:List (List Int)) (tt:L4.T) (s5 s6:Sl),Bg ps (plan.map Lz.le) i ly kvs vs.length (i * 100)/\(∀ l∈plan,l.t < (i:Int)->0<=l.at_/\l.at_ < (ps.length:Int))/\acc.length=i/\asLs tt=some (acc.map tRow)/\resA (vs.map Va.room) ps plan (n - i) i ly=R /\
  δ=[.sh (.tuple [.list (vs.map Va.d),.list (ps.map Pi.d)]),.sh (.list (plan.map Lz.d)),.sh (.int (n:Int)),.ow (pS jA jB jF jC (vs.map Va.room) ly ps i (List.replicate ps.length 0) kvs),.ow tt,s5,s6])
  ⟨vs.map Va.fill,[],[],L4.T.li [],.un,.un,?_,λ l hl y=>by have:=h0 l hl;lia,rfl,rfl,hR,rfl⟩ ?_ ?_⟩
 ·have:=Bg.init (ps:=ps) (PL:=plan.map Lz.le) (ly:=vs.map Va.fill)
  rw [List.length_map] at this
  exact this
 ·rintro i m δ hm ⟨ly,kvs,acc,tt,s5,s6,bg,hva,ha,htt,run,rfl⟩
  obtain ⟨hi,hi2⟩:=List.getElem?_eq_some_iff.mp hm
  simp at hi hi2
  subst hi2
  rw [show n - i=(n - (i+1))+1 by lia] at run
  have hbl:=zjs plan i
  walk_at "dd"
  refine ze0 λ J hJ=>?_
  walk_at "dd"
  refine zh5 (λ j δ=>∃ (ly en f:List Int) (kvs:List (List Key×D)) (s6:Sl),Wn ps (plan.map Lz.le) i (((byZ plan i).take j).map Lz.le) ly en f kvs vs.length (i * 100+j)/\(∀ l∈(byZ plan i).take j,0<=l.at_/\l.at_ < (ps.length:Int))/\zyv ps ((byZ plan i).drop j) ly f (λ h'=>if over (vs.map Va.room) h'=[] then resA (vs.map Va.room) ps plan (n - (i+1)) (i+1) (znf ps (i+1) (plan.filter λ l=>decide (l.t<=(i:Int))) h') else some 4)=R /\
   δ=[.sh (.tuple [.list (vs.map Va.d),.list (ps.map Pi.d)]),.sh (.list (plan.map Lz.d)),.sh (.int (n:Int)),.ow (pS jA jB jF jC (vs.map Va.room) ly ps i en kvs),.ow tt,.sh (.list ((byZ plan i).map Lz.d)),s6])
   ⟨ly,_,_,kvs,s6,bg.start hw,λ l hl=>by simp at hl,run,rfl⟩ ?_ ?_
  ·rintro j l δ hj ⟨ly,en,f,kvs,s6,w,hvj,run,rfl⟩
   rw [zzr hj] at run
   have hjl:=(List.getElem?_eq_some_iff.mp hj).1
   have hlm:l∈plan:=(List.mem_filter.mp (List.mem_of_getElem? hj)).1
   obtain ⟨_,b1,b2⟩:=A.pb l hlm
   have ec:=w.code l.at_ l.am
   have hkl:=w.kl
   rw [show Lz.d l=.tuple [.int l.t,.int l.at_,.int l.am] from rfl]
   unfold pS
   walk_at "dd"
   have run:(if dueF ps.length l.at_ l.am (f.getD l.at_.toNat 0) (ly.getD (zh2 ps l.at_.toNat) 0)=4 then _ else some (dueF ps.length l.at_ l.am (f.getD l.at_.toNat 0) (ly.getD (zh2 ps l.at_.toNat) 0)))=R:=run
   rw [<- ec] at run
   have bad:∀ c,zpo ps i ly en l.at_ l.am=c->c≠4->R=some c:=λ c e1 e2=>by rw [<- run,if_neg (by rw [e1];exact e2),e1]
   refine ⟨_,rfl,_,rfl,vs.map Va.room,ly,ps,i,en,kvs,l.at_,l.am,rfl,w.el,λ p hp=>⟨(A.pp p hp).2.2.1,by rw [w.yl];exact (A.pp p hp).1⟩,h24,by lia,w.ai,b1.1,b1.2,b2.1,b2.2,λ k hk=>?_,λ z=>qx 0 (bad 0 z (by decide)),λ z=>qx 1 (bad 1 z (by decide)),λ z=>qx 2 (bad 2 z (by decide)),λ z=>qx 3 (bad 3 z (by decide)),λ z=>?_⟩
   ·have h1:=w.ff k hk
    have h2:=w.fb k hk
    rw [<- h1]
    lia
   rw [if_pos z] at run
   rw [ec] at z
   obtain ⟨g1,g2,g3,g4,g5⟩:=due4 z
   have w2:=w.let_ g1 g2 g3 g4
   refine ⟨_,_,_,_,_,?_,?_,run,rfl⟩
   ·rw [zbh hj,List.map_append];exact w2
   ·intro l' hl'
    rw [zbh hj] at hl'
    rcases List.mem_append.mp hl' with y|y
    ·exact hvj l' y
    ·simp at y;subst y;exact ⟨g1,g2⟩
  ·rintro δ ⟨ly,en,f,kvs,s6,w,hvj,run,rfl⟩
   rw [List.take_length] at w hvj
   rw [List.drop_length] at run
   have run:(if over (vs.map Va.room) ly=[] then _ else some 4)=R:=run
   have hv2:∀ l∈plan,l.t<=(i:Int)->0<=l.at_/\l.at_ < (ps.length:Int):=λ l hl y=>by
    rcases Int.lt_or_eq_of_le y with y|y
    ·exact hva l hl y
    ·exact hvj l (List.mem_filter.mpr ⟨hl,by simpa using y⟩)
   refine hJ _ ?_
   clear hJ
   refine ze0 λ J hJ=>?_
   unfold pS
   walk_at "dd"
   refine ⟨⟨_,_,rfl,htt⟩,_,ly,ps,i,en,kvs,rfl,?_⟩
   refine ⟨_,_,rfl,htt,by rw [List.length_map];lia,hJ _ ?_⟩
   clear hJ
   walk_at "dd"
   refine ⟨_,ly,ps,i,en,kvs,rfl,by rw [List.length_map,w.yl],by rw [List.length_map];lia,h24,λ p hp'=>by rw [w.yl];exact (A.pp p hp').2.1,w.ai,λ z=>?_,λ z=>qx 4 (by rw [<- run,if_neg z])⟩
   rw [if_pos z] at run
   have nx:=w.next h0
   rw [<- w.come h0 hv2 λ p hp=>(A.pp p hp).2.1] at run
   refine ⟨_,_,acc++[ly],_,.sh (.list ((byZ plan i).map Lz.d)),s6,⟨nx.yl,nx.ai,Nat.le_trans nx.kl (by lia),nx.cs⟩,λ l hl y=>hv2 l hl (by lia),by simp [ha],?_,run,rfl⟩
   rw [List.map_append];rfl
 ·rintro δ ⟨ly,kvs,acc,tt,s5,s6,bg,hva,ha,htt,run,rfl⟩
  rw [List.length_range] at bg ha run ⊢
  rw [Nat.sub_self] at run
  have run:(if over (vs.map Va.room) ly=[] then none else some 4)=R:=run
  refine hJ _ ?_
  clear hJ
  refine ze0 λ J hJ=>?_
  unfold pS
  walk_at "dd"
  refine ⟨_,ly,ps,_,_,kvs,rfl,by rw [List.length_map,bg.yl],by rw [List.length_map];lia,λ z=>?_,λ z=>qx 4 (by rw [<- run,if_neg z])⟩
  rw [if_pos z] at run
  refine hJ _ ?_
  clear hJ
  refine ze0 λ J hJ=>?_
  walk_at "dd"
  refine ⟨⟨_,_,rfl,htt⟩,_,ly,ps,_,_,kvs,rfl,?_⟩
  refine ⟨_,_,rfl,htt,by rw [List.length_map];lia,hJ _ ?_⟩
  clear hJ
  walk_at "dd"
  have:=q run.symm (acc++[ly]) (by simp [ha])
  simp only [List.map_append] at this
  exact this
end
def zp1:DSp:=λ ds Q=>∃ (ns:List Int) (k:Nat),ds=[.list (ns.map .int),.int (k:Int)]/\k<=1000/\∀ m:Int,0<=m->m < 999999000001->Q (.int m)
def zmb:DSp:=λ ds Q=>∃ n:Int,ds=[.int n]/\0<=n/\∀ m:Int,0<=m->m<=1000000000000->Q (.int m)
def Gt.okk (g:Gt):Prop:=g.ok/\∀ m,0<=g.at m/\g.at m<=2000000000000
def zrg:DSp:=λ ds Q=>∃ (c d:Int),ds=[.int c,.int d]/\0<=c/\0<=d/\∀ g:Gt,g.okk->Q g.d
def zzg:DSp:=λ ds Q=>∃ (ns:List Int) (k n:Nat),ds=[.list (ns.map .int),.int (k:Int),.int (n:Int)]/\k < 24/\2<=n/\n<=12/\∀ p:Pi,p.u < n->p.v < n->1<=p.len->p.g.okk->Q p.d
theorem pick_map' {α β:Type} (f:α->β) (xs:List α) (lo hi st:Option Int):znl (xs.map f) lo hi st=(znl xs lo hi st).map f:=by
 unfold znl
 rw [List.length_map,List.map_filterMap]
 congr 1
 funext j
 rw [List.getElem?_map]
def zd3:DSp:=λ ds Q=>∃ (g:Gt) (m:Nat),ds=[g.d,.int (m:Int)]/\g.ok/\Q (.int (g.at m))
theorem zh81 {α β:Type} {xs:List α} {enc:α->D} (ok:β->Prop) (en:β->D) {n:Nat} {ix:List Nat} {dg:DG} {de:DE} {δ:DSt} {Q:List D->Prop} (hz:xs.length<=sizeLine)
  (h:∀ x∈xs,dg (enc x) (cST n ix δ) λ δ'=>de δ' λ r=>∃ b,ok b/\r=en b) (q:∀ bs:List β,bs.length=xs.length->(∀ b∈bs,ok b)->Q (bs.map en)):za01 (xs.map enc) n ix dg zjr de δ Q:=by
 refine ⟨by rw [List.length_map];exact hz,λ _ o=>∃ b,ok b/\o=some (en b),λ i d e=>?_,λ os hl hR=>?_⟩
 ·rw [List.getElem?_map] at e
  obtain ⟨x,hx,rfl⟩:=Option.map_eq_some_iff.mp e
  have:=h x (List.mem_of_getElem? hx)
  have e1:(λ r=>∃ b,ok b/\some r=some (en b))=λ r=>∃ b,ok b/\r=en b:=by funext r;simp
  show dg (enc x) (cST n ix δ) λ δ'=>if true=true then de δ' λ r=>∃ b,ok b/\some r=some (en b) else ∃ b,ok b/\none=some (en b)
  rw [e1]
  simp only [if_true]
  exact this
 ·have key:∀ os:List (Option D),(∀ o∈os,∃ b,ok b/\o=some (en b))->∃ bs:List β,bs.length=os.length/\(∀ b∈bs,ok b)/\os.filterMap id=bs.map en:=by
   intro os
   induction os with
  |nil=>intro _;exact ⟨[],rfl,(λ b hb=>by simp at hb),rfl⟩
  |cons o r ih =>
    intro k
    obtain ⟨b,h1,rfl⟩:=k o (by simp)
    obtain ⟨bs,k1,k2,k3⟩:=ih λ o ho=>k o (by simp [ho])
    refine ⟨b :: bs,by simp [k1],λ c hc=>?_,by simp [k3]⟩
    rcases List.mem_cons.mp hc with z|z
    ·rw [z];exact h1
    ·exact k2 c z
  obtain ⟨bs,b1,b2,b3⟩:=key os λ o ho=>by
   obtain ⟨j,hj⟩:=List.mem_iff_getElem?.mp ho
   exact hR j o hj
  rw [b3]
  exact q bs (by rw [b1,hl,List.length_map]) b2
theorem zas {c:Nat} (h:c < 0x110000) (n:Nat):(repS ⟨#[c]⟩ n).cps.all (· < 0x110000)=true:=by
 rw [<- Array.all_toList,zzi]
 refine List.all_eq_true.mpr λ x hx=>?_
 obtain ⟨l,hl,hx⟩:=List.mem_flatten.mp hx
 have:=List.eq_of_mem_replicate hl
 subst this
 simp at hx
 subst hx
 simpa using h
theorem zpr {x y:Str} (hx:x.cps.all (· < 0x110000)=true) (hy:y.cps.all (· < 0x110000)=true):(x++y).cps.all (· < 0x110000)=true:=by
 show (x.cps++y.cps).all _=true
 rw [Array.all_append,hx,hy];rfl
theorem zfr (x:Str) (n:Nat):(repS x n).length=n * x.length:=by
 show (repS x n).cps.size=n * x.cps.size
 rw [<- Array.length_toList,zzi];simp
theorem zkw (x y:Str):(x++y).length=x.length+y.length:=by
 show (x.cps++y.cps).size=_
 rw [Array.size_append];rfl
theorem zb71:(Str.ofString "abcdefghijklmnopqrstuvwxyz").length<=16777216:=by decide +kernel
theorem zn71 {i:Int} (h0:0<=i) (h1:i < 26):∃ c,c < 0x110000/\atI (Str.ofString "abcdefghijklmnopqrstuvwxyz").cps.toList i=some c:=by
 have e:((Str.ofString "abcdefghijklmnopqrstuvwxyz").cps.toList.length:Int)=26:=by decide +kernel
 obtain ⟨x,hx,h⟩:=zbb1 (xs:=(Str.ofString "abcdefghijklmnopqrstuvwxyz").cps.toList) h0 (by rw [e];exact h1)
 exact ⟨x,(show ∀ c∈(Str.ofString "abcdefghijklmnopqrstuvwxyz").cps.toList,c < 0x110000 by decide +kernel) x (List.mem_of_getElem? hx),h⟩
def zlg:DSp:=λ ds Q=>∃ (n:Int) (k:Nat),ds=[.int n,.int (k:Int)]/\0<=n/\k<=100/\∀ x:Str,x.cps.all (· < 0x110000)=true->Q (.str x)
def dRow (l:List Int):D:=.list (l.map .int)
def zjb:DSp:=λ ds Q=>∃ (ns fills:List Int) (rows:List (List Int)),ds=[.list (ns.map .int),.list (fills.map .int),.list (rows.map dRow)]/\fills.length<=12/\rows.length<=61/\(∀ r∈rows,r.length=fills.length) /\
 ∀ vs:List Va,vs.map Va.fill=fills->(∀ v∈vs,v.nm.cps.all (· < 0x110000)=true)->Q (.list (vs.map Va.d))
section
variable {P:Program} {w:World} {K:Fg} {mg:Str->Option Value} {base:Heap}
theorem zta:FnScope ["script", "k", "step", "found", "cell"] ["script", "k"] (zh0 zy7):=by walk_at "sc"
theorem zsi (M:Md K mg) (T:TopDef K "_law_draw" zy7) (jT:mg "len"=none):Def P w K mg base "_law_draw" 1 ["script", "k"] (spD K zp1):=by
 refine zs3 M T zta (λ _ _ _ _ _ _ us hl=>by obtain ⟨_,_,rfl⟩:=ar2 hl;rfl) (zth λ ds Qd h=>by obtain ⟨_,_,rfl,_⟩:=h;rfl) (zz5 ?_)
 intro f cdv A outer s H E hr
 have nd:=zta.nd
 refine ⟨_,_,(zd0 (pset 2 nd (zq0 (zr0 (K:=K) rfl) zf0 (zq0 zz0 (zv0 (zg1 (K:=K) rfl) rfl jT zv3 (za0 (pv 0) zg0)) zf0)))
   (zd0 (pset 3 nd (zq0 (zr0 (K:=K) rfl) (zq0 zs1 zf0 (pv 1)) zf0))
   (zd0 (zs9 PassesOwn.never rfl (pi_W (K:=K) rfl (zep (K:=K) rfl (pv 0) (zwa (zq0 ze1 (pv 1) (pv 2))) zbk (zwa (pv 2)))) (pgn 4 nd) (zk0 (pset 3 nd (zq0 ze1 (zq0 (zr0 (K:=K) rfl) (zq0 zs1 (pv 3) (zq0 (zr0 (K:=K) rfl) (zq0 zs1 zf0 (pv 1)) zf0)) (pv 4)) zf0))))
   (zk0 (zi1 (zq0 ze1 (zq0 zs1 (pv 3) (zq0 (zr0 (K:=K) rfl) (zq0 (zr0 (K:=K) rfl) (zq0 ze1 (zq0 zz0 (pv 3) zf0) zf0) (zq0 zs1 zf0 (pv 1))) zf0)) zf0)))))),(zm0 (za1 (zj0 zo2 rvi (RfE.v (zj0 zg7 (RfE.v (zw7 zxc (zu0 (zb0 0) zo1))) rvi))) (rgn 2))
   (zm0 (za1 (zj0 zo2 (RfE.v (zj0 zpc rvi (zb0 1))) rvi) (rgn 3))
   (zm0 (zsh (zfw (RfF.e (zt71 (zb0 0) (zgg (zj0 zf2 (zb0 1) (zb0 2))) zhk (zgg (zi0 2))))) (rgn 4) (za1 (zj0 zf2 (RfE.v (zj0 zo2 (RfE.v (zj0 zpc (zb0 3) (RfE.v (zj0 zo2 (RfE.v (zj0 zpc rvi (zb0 1))) rvi)))) (zb0 4))) rvi) (rgn 3)))
   (zj1 (RfE.c (zj0 zf2 (RfE.v (zj0 zpc (zb0 3) (RfE.v (zj0 zo2 (RfE.v (zj0 zo2 (RfE.v (zj0 zf2 (RfE.v (zj0 zg7 (zb0 3) rvi)) rvi)) (RfE.v (zj0 zpc rvi (zb0 1))))) rvi)))) rvi)))))),?_⟩
 rintro ds Qd ⟨ns,k,rfl,hk,q⟩
 walk_at "ds"
 walk_at "dn"
 refine ze0 λ J hJ=>?_
 walk_at "dd"
 refine ⟨.inl ⟨by decide,by decide⟩,hJ _ ?_⟩
 clear hJ
 refine ze0 λ J hJ=>?_
 walk_at "dd"
 rw [pick_map',List.length_map]
 have hst:0 < 1+(ns.length:Int) / 8:=by lia
 generalize 1+(ns.length:Int) / 8=st at hst ⊢
 refine ⟨by lia,by intro z;cases z;lia,?_⟩
 refine zh5 (λ _ δ=>∃ (f:Int) (s4:Sl),0<=f/\f < 999999000001/\δ=[.sh (.list (ns.map .int)),.sh (.int (k:Int)),.sh (.int st),.sh (.int f),s4]) ⟨31 * (k:Int)+5,.un,by lia,by lia,rfl⟩ ?_ ?_
 ·rintro i x δ hx ⟨f,s4,f0,f1,rfl⟩
  walk_at "dd"
  exact ⟨.inl ⟨by decide,by decide⟩,.inl ⟨by lia,by lia⟩,_,_,Int.emod_nonneg _ (by decide),Int.emod_lt_of_pos _ (by decide),rfl⟩
 ·rintro δ ⟨f,s4,f0,f1,rfl⟩
  refine hJ _ ?_
  clear hJ
  walk_at "dd"
  exact ⟨.inl ⟨by decide,by decide⟩,.inl ⟨by lia,by lia⟩,q _ (Int.emod_nonneg _ (by decide)) (Int.emod_lt_of_pos _ (by decide))⟩
theorem zqb:FnScope ["number"] ["number"] (zh0 zv8):=by walk_at "sc"
theorem zbi (M:Md K mg) (T:TopDef K "_law_size" zv8) :Def P w K mg base "_law_size" 1 ["number"] (spD K zmb):=by
 refine zs3 M T zqb (λ _ _ _ _ _ _ us hl=>by obtain ⟨_,rfl⟩:=ar1 hl;rfl) (zth λ ds Qd h=>by obtain ⟨_,rfl,_⟩:=h;rfl) (zz5 ?_)
 intro f cdv A outer s H E hr
 have nd:=zqb.nd
 refine ⟨_,_,(zk0 (zi1 (zq0 ze1 (zq0 zs1 (zq0 zz0 (pv 0) zf0) zf0) (pix w K hr (zn1 (za0 zf0 (za0 zf0 (za0 (zq0 (zr0 (K:=K) rfl) (zq0 zbe zf0 zf0) zf0) zg0)))) (zq0 ze1 (pv 0) zf0))))),(zj1 (RfE.c (zj0 zf2 (RfE.v (zj0 zpc (RfE.v (zj0 zg7 (zb0 0) rvi)) rvi)) (RfE.v (zj0 r_ix (RfE.v (RfF.e (zk3 (zc0 zd1 (zc0 zd1 (zc0 (zj0 zo2 (RfE.v (zj0 zjp rvi rvi)) rvi) zl0)))))) (RfE.v (zj0 zf2 (zb0 0) rvi))))))),?_⟩
 rintro ds Qd ⟨n,rfl,hn,q⟩
 walk_at "ds"
 walk_at "dd"
 refine ⟨.inr ⟨by decide,by decide⟩,by decide,?_⟩
 have h3:n % 3=0 \/ n % 3=1 \/ n % 3=2:=by lia
 rcases h3 with h|h|h
 ·refine ⟨_,by rw [h];rfl,?_⟩
  walk_at "dd"
  exact q _ (by lia) (by lia)
 ·refine ⟨_,by rw [h];rfl,?_⟩
  walk_at "dd"
  exact q _ (by lia) (by lia)
 ·refine ⟨_,by rw [h];rfl,?_⟩
  walk_at "dd"
  exact q _ (by lia) (by lia)
theorem zvb:FnScope ["number", "k", "letters", "sign", "ahead"] ["number", "k"] (zh0 zq8):=by walk_at "sc"
theorem zbj (M:Md K mg) (T:TopDef K "_law_name" zq8) :Def P w K mg base "_law_name" 1 ["number", "k"] (spD K zlg):=by
 refine zs3 M T zvb (λ _ _ _ _ _ _ us hl=>by obtain ⟨_,_,rfl⟩:=ar2 hl;rfl) (zth λ ds Qd h=>by obtain ⟨_,_,rfl,_⟩:=h;rfl) (zz5 ?_)
 intro f cdv A outer s H E hr
 have nd:=zvb.nd
 refine ⟨_,_,(zd0 (pset 2 nd zih)
   (zd0 (pset 3 nd (pix w K hr (pv 2) (zq0 ze1 (zq0 (zr0 (K:=K) rfl) (zq0 zz0 (pv 0) zf0) (zq0 zs1 zf0 (pv 1))) zf0)))
   (zd0 (pset 4 nd (zq0 zs1 (pix w K hr (pv 2) (zq0 ze1 (zq0 zz0 (pv 0) zf0) zf0)) (zq0 ze1 (pv 0) zf0)))
   (zk0 (zi1 (zq0 (zr0 (K:=K) rfl) (zq0 (zr0 (K:=K) rfl) (pv 4) (pv 3)) (zq0 zs1 (pix w K hr (pv 2) (zq0 ze1 (zq0 zz0 (pv 0) zf0) zf0)) (zq0 ze1 (zq0 zz0 (pv 0) zf0) zf0)))))))),(zm0 (za1 zng (rgn 2))
   (zm0 (za1 (zj0 r_ix (zb0 2) (RfE.v (zj0 zf2 (RfE.v (zj0 zo2 (RfE.v (zj0 zg7 (zb0 0) rvi)) (RfE.v (zj0 zpc rvi (zb0 1))))) rvi))) (rgn 3))
   (zm0 (za1 (zj0 zpc (RfE.v (zj0 r_ix (zb0 2) (RfE.v (zj0 zf2 (RfE.v (zj0 zg7 (zb0 0) rvi)) rvi)))) (RfE.v (zj0 zf2 (zb0 0) rvi))) (rgn 4))
   (zj1 (RfE.c (zj0 zo2 (RfE.v (zj0 zo2 (zb0 4) (zb0 3))) (RfE.v (zj0 zpc (RfE.v (zj0 r_ix (zb0 2) (RfE.v (zj0 zf2 (RfE.v (zj0 zg7 (zb0 0) rvi)) rvi)))) (RfE.v (zj0 zf2 (RfE.v (zj0 zg7 (zb0 0) rvi)) rvi)))))))))),?_⟩
 rintro ds Qd ⟨n,k,rfl,hn,hk,q⟩
 walk_at "ds"
 walk_at "dn"
 refine ze0 λ J hJ=>?_
 walk_at "dd"
 obtain ⟨c,fc,hc⟩:=zn71 (i:=(n / 20+7 * (k:Int)) % 26) (by lia) (by lia)
 refine ⟨.inl ⟨by decide,by decide⟩,zb71,c,hc,hJ _ ?_⟩
 clear hJ
 refine ze0 λ J hJ=>?_
 walk_at "dd"
 obtain ⟨c2,fc2,hc2⟩:=zn71 (i:=n / 520 % 26) (by lia) (by lia)
 have l1:∀ c:Nat,(⟨#[c]⟩:Str).length=1:=λ _=>rfl
 refine ⟨zb71,c2,hc2,by lia,by rw [l1];lia,by lia,hJ _ ?_⟩
 clear hJ
 walk_at "dd"
 obtain ⟨c3,fc3,hc3⟩:=zn71 (i:=n / 13520 % 26) (by lia) (by lia)
 have l2:=zfr ⟨#[c2]⟩ (n % 4).toNat
 have l3:=zfr ⟨#[c3]⟩ (n / 4 % 5).toNat
 rw [l1] at l2 l3
 exact ⟨by rw [l2,l1];lia,zb71,c3,hc3,by lia,by rw [l1];lia,by lia,by rw [zkw,l2,l3,l1];lia,q _ (zpr (zpr (zas fc2 _) (by simpa using fc)) (zas fc3 _))⟩
theorem zja:FnScope ["c", "d", "wide"] ["c", "d"] (zh0 zb8):=by walk_at "sc"
theorem zlj (M:Md K mg) (T:TopDef K "_law_gate" zb8) (kX:Def P w K mg base "_law_size" 1 ["number"] (spD K zmb)):Def P w K mg base "_law_gate" 2 ["c", "d"] (spD K zrg):=by
 refine zs3 M T zja (λ _ _ _ _ _ _ us hl=>by obtain ⟨_,_,rfl⟩:=ar2 hl;rfl) (zth λ ds Qd h=>by obtain ⟨_,_,rfl,_⟩:=h;rfl) (zz5 ?_)
 intro f cdv A outer s H E hr
 have nd:=zja.nd
 refine ⟨_,_,(zd0 (pset 2 nd (zq0 (zr0 (K:=K) rfl) zf0 (zq0 ze1 (zo0 kX (rmn hr) rfl (za0 (pv 1) zg0)) (zq0 zbe zf0 zf0))))
   (zd0 (zn4 (zt0 (zg2 (K:=K) rfl (Room.units hr)) (zq0 ze1 (pv 0) zf0) zf0 (zf1 _)) (zk0 (zi1 (zt1 (za0 zih (za0 (pv 2) zg0))))) zc1)
   (zd0 (zn4 (zt0 (zg2 (K:=K) rfl (Room.units hr)) (zq0 ze1 (pv 0) zf0) zf0 (zf1 _)) (zk0 (zi1 (zt1 (za0 zih (za0 (pv 2) (za0 (zq0 ze1 (zq0 zz0 (pv 0) zf0) (pix w K hr (zn1 (za0 zf0 (za0 zf0 zg0))) (zq0 ze1 (zq0 zz0 (pv 0) zf0) zf0))) zg0)))))) zc1)
   (zk0 (zi1 (zt1 (za0 zih (za0 (pv 2) (za0 (zq0 (zr0 (K:=K) rfl) zf0 (zq0 ze1 (zo0 kX (rmn hr) rfl (za0 (zq0 zz0 (pv 0) zf0) zg0)) (zq0 zbe zf0 zf0))) (za0 (zq0 (zr0 (K:=K) rfl) zf0 (zq0 ze1 (zq0 zz0 (pv 0) zf0) (pix w K hr (zn1 (za0 zf0 (za0 zf0 zg0))) (zq0 ze1 (zq0 zz0 (pv 0) zf0) zf0)))) zg0)))))))))),(zm0 (za1 (zj0 zo2 rvi (RfE.v (zj0 zf2 (RfE.v (zy0 (zc0 (zi0 1) zl0))) (RfE.v (zj0 zjp rvi rvi))))) (rgn 2))
   (zm0 (zo6 (zs0 (zu1 q_eq (RfV.h (RfE.v (zj0 zf2 (zb0 0) rvi))) (RfV.h rvi))) (zj1 (RfE.c (zl3 (zc0 zng (zc0 (zi0 2) zl0))))) zb1)
   (zm0 (zo6 (zs0 (zu1 q_eq (RfV.h (RfE.v (zj0 zf2 (zb0 0) rvi))) (RfV.h rvi))) (zj1 (RfE.c (zl3 (zc0 zng (zc0 (zi0 2) (zc0 (zj0 zf2 (RfE.v (zj0 zg7 (zb0 0) rvi)) (RfE.v (zj0 r_ix (RfE.v (RfF.e (zk3 (zc0 zd1 (zc0 zd1 zl0))))) (RfE.v (zj0 zf2 (RfE.v (zj0 zg7 (zb0 0) rvi)) rvi))))) zl0)))))) zb1)
   (zj1 (RfE.c (zl3 (zc0 zng (zc0 (zi0 2) (zc0 (zj0 zo2 rvi (RfE.v (zj0 zf2 (RfE.v (zy0 (zc0 (zj0 zg7 (zb0 0) rvi) zl0))) (RfE.v (zj0 zjp rvi rvi))))) (zc0 (zj0 zo2 rvi (RfE.v (zj0 zf2 (RfE.v (zj0 zg7 (zb0 0) rvi)) (RfE.v (zj0 r_ix (RfE.v (RfF.e (zk3 (zc0 zd1 (zc0 zd1 zl0))))) (RfE.v (zj0 zf2 (RfE.v (zj0 zg7 (zb0 0) rvi)) rvi))))))) zl0)))))))))),?_⟩
 rintro ds Qd ⟨c,d,rfl,hc,hd,q⟩
 walk_at "ds"
 refine ze0 λ J hJ=>?_
 walk_at "dd"
 refine ⟨d,rfl,hd,λ m m0 m1=>?_⟩
 walk_at "dd"
 refine ⟨by decide,hJ _ ?_⟩
 clear hJ
 have w1:1<=1+m % 1000000000000:=by lia
 have w2:1+m % 1000000000000<=1000000000000:=by lia
 generalize 1+m % 1000000000000=x at w1 w2
 refine ze0 λ J hJ=>?_
 walk_at "dd"
 refine two (λ _=>q (.st x) ⟨trivial,λ _=>by show 0<=x/\x<=_;lia⟩) λ _=>hJ _ ?_
 clear hJ
 refine ze0 λ J hJ=>?_
 walk_at "dd"
 have h2:c / 12 % 2=0 \/ c / 12 % 2=1:=by lia
 have at4:∀ a b:Int,∃ r:Nat,0 < r/\r < 1000/\atI [PyData.int 4,PyData.int 61] (c / 12 % 2)=some (.int (r:Int)):=λ _ _=>by
  rcases h2 with h|h
  ·exact ⟨4,by decide,by decide,by rw [h];rfl⟩
  ·exact ⟨61,by decide,by decide,by rw [h];rfl⟩
 have at19:∃ r:Nat,0 < r/\r < 900/\atI [PyData.int 4,PyData.int 19] (c / 12 % 2)=some (.int (r:Int)):=by
  rcases h2 with h|h
  ·exact ⟨4,by decide,by decide,by rw [h];rfl⟩
  ·exact ⟨19,by decide,by decide,by rw [h];rfl⟩
 obtain ⟨r,r0,r1,hr'⟩:=at4 0 0
 obtain ⟨t,t0,t1,ht⟩:=at19
 refine two (λ _=>⟨_,hr',?_⟩) λ _=>hJ _ ?_
 ·have e1:=Int.emod_nonneg (c / 3) (b:=(r:Int)) (by lia)
  obtain ⟨f,hf⟩:=Int.eq_ofNat_of_zero_le e1
  walk_at "dd"
  rw [hf]
  refine ⟨by lia,q (.la x f) ⟨trivial,λ m=>?_⟩⟩
  show 0<=(if f<=m then x else 0)/\(if f<=m then x else 0)<=_
  split <;> lia
 clear hJ
 walk_at "dd"
 refine ⟨_,rfl,by lia,λ m' m0' m1'=>?_⟩
 walk_at "dd"
 refine ⟨by decide,_,ht,?_⟩
 walk_at "dd"
 have e1:=Int.emod_nonneg (c / 3) (b:=(t:Int)) (by lia)
 have e2:=Int.emod_lt_of_pos (c / 3) (b:=(t:Int)) (by lia)
 obtain ⟨f,hf⟩:=Int.eq_ofNat_of_zero_le e1
 rw [hf] at e2 ⊢
 refine ⟨by lia,?_⟩
 have e3:(2:Int)+(f:Nat)=((2+f:Nat):Int):=by lia
 rw [e3]
 refine q (.ti x _ (2+f)) ⟨⟨by lia,by lia⟩,λ m=>?_⟩
 show 0<=(if m % (2+f)=0 then x else _)/\(if m % (2+f)=0 then x else _)<=_
 split <;> lia
theorem zha:FnScope ["script", "k", "many", "number", "start", "goal", "length", "gate"] ["script", "k", "many"] (zh0 zg8):=by walk_at "sc"
theorem zdj (M:Md K mg) (T:TopDef K "_law_pipe" zg8) (jD:Def P w K mg base "_law_draw" 1 ["script", "k"] (spD K zp1)) (uW:Def P w K mg base "_law_gate" 2 ["c", "d"] (spD K zrg)):Def P w K mg base "_law_pipe" 3 ["script", "k", "many"] (spD K zzg):=by
 refine zs3 M T zha (λ _ _ _ _ _ _ us hl=>by obtain ⟨_,_,_,rfl⟩:=ar3 hl;rfl) (zth λ ds Qd h=>by obtain ⟨_,_,_,rfl,_⟩:=h;rfl) (zz5 ?_)
 intro f cdv A outer s H E hr
 have nd:=zha.nd
 refine ⟨_,_,(zd0 (pset 3 nd (zo0 jD (rmn hr) rfl (za0 (pv 0) (za0 (zq0 (zr0 (K:=K) rfl) zf0 (zq0 zs1 zf0 (pv 1))) zg0))))
   (zd0 (pset 4 nd (zq0 ze1 (pv 3) (pv 2)))
   (zd0 (pset 5 nd (zq0 ze1 (zq0 (zr0 (K:=K) rfl) (zq0 (zr0 (K:=K) rfl) (pv 4) zf0) (zq0 ze1 (zq0 zz0 (pv 3) (pv 2)) (zq0 zib (pv 2) zf0))) (pv 2)))
   (zd0 (pset 3 nd (zo0 jD (rmn hr) rfl (za0 (pv 0) (za0 (zq0 (zr0 (K:=K) rfl) zf0 (zq0 zs1 zf0 (pv 1))) zg0))))
   (zd0 (pset 6 nd (zq0 (zr0 (K:=K) rfl) zf0 (zq0 ze1 (pv 3) zf0)))
   (zd0 (zn4 (zt0 (zg2 (K:=K) rfl (Room.units hr)) (zq0 ze1 (zq0 zz0 (pv 3) zf0) zf0) zf0 (zf1 _)) (zk0 (pset 6 nd (zq0 (zr0 (K:=K) rfl) zf0 (zq0 ze1 (zq0 zz0 (pv 3) zf0) zf0)))) zc1)
   (zd0 (pset 7 nd (zo0 uW (rmn hr) rfl (za0 (zo0 jD (rmn hr) rfl (za0 (pv 0) (za0 (zq0 (zr0 (K:=K) rfl) zf0 (zq0 zs1 zf0 (pv 1))) zg0))) (za0 (zo0 jD (rmn hr) rfl (za0 (pv 0) (za0 (zq0 (zr0 (K:=K) rfl) zf0 (zq0 zs1 zf0 (pv 1))) zg0))) zg0))))
   (zk0 (zi1 (zt1 (za0 (pv 4) (za0 (pv 5) (za0 (pv 6) (za0 (zq0 ze1 (zq0 zz0 (pv 3) zf0) zf0) (za0 (pv 7) zg0))))))))))))))),(zm0 (za1 (zy0 (zc0 (zi0 0) (zc0 (zj0 zo2 rvi (RfE.v (zj0 zpc rvi (zb0 1)))) zl0))) (rgn 3))
   (zm0 (za1 (zj0 zf2 (zb0 3) (zb0 2)) (rgn 4))
   (zm0 (za1 (zj0 zf2 (RfE.v (zj0 zo2 (RfE.v (zj0 zo2 (zb0 4) rvi)) (RfE.v (zj0 zf2 (RfE.v (zj0 zg7 (zb0 3) (zb0 2))) (RfE.v (zj0 zsn (zb0 2) rvi)))))) (zb0 2)) (rgn 5))
   (zm0 (za1 (zy0 (zc0 (zi0 0) (zc0 (zj0 zo2 rvi (RfE.v (zj0 zpc rvi (zb0 1)))) zl0))) (rgn 3))
   (zm0 (za1 (zj0 zo2 rvi (RfE.v (zj0 zf2 (zb0 3) rvi))) (rgn 6))
   (zm0 (zo6 (zs0 (zu1 q_eq (RfV.h (RfE.v (zj0 zf2 (RfE.v (zj0 zg7 (zb0 3) rvi)) rvi))) (RfV.h rvi))) (za1 (zj0 zo2 rvi (RfE.v (zj0 zf2 (RfE.v (zj0 zg7 (zb0 3) rvi)) rvi))) (rgn 6)) zb1)
   (zm0 (za1 (zy0 (zc0 (zy0 (zc0 (zi0 0) (zc0 (zj0 zo2 rvi (RfE.v (zj0 zpc rvi (zb0 1)))) zl0))) (zc0 (zy0 (zc0 (zi0 0) (zc0 (zj0 zo2 rvi (RfE.v (zj0 zpc rvi (zb0 1)))) zl0))) zl0))) (rgn 7))
   (zj1 (RfE.c (zl3 (zc0 (zi0 4) (zc0 (zi0 5) (zc0 (zi0 6) (zc0 (zj0 zf2 (RfE.v (zj0 zg7 (zb0 3) rvi)) rvi) (zc0 (zi0 7) zl0))))))))))))))),?_⟩
 rintro ds Qd ⟨ns,k,n,rfl,hk,hn,hn2,q⟩
 walk_at "ds"
 refine ze0 λ J hJ=>?_
 walk_at "dd"
 refine ⟨.inl ⟨by decide,by decide⟩,ns,40+4 * k,by congr 2,by lia,λ m m0 m1=>hJ _ ?_⟩
 clear hJ
 refine ze0 λ J hJ=>?_
 walk_at "dd"
 refine ⟨by lia,hJ _ ?_⟩
 clear hJ
 refine ze0 λ J hJ=>?_
 walk_at "dd"
 have u0:=Int.emod_nonneg m (b:=(n:Int)) (by lia)
 have u1:=Int.emod_lt_of_pos m (b:=(n:Int)) (by lia)
 have v1:=Int.emod_lt_of_pos (m % (n:Int)+1+m / (n:Int) % ((n:Int) - 1)) (b:=(n:Int)) (by lia)
 have v0:=Int.emod_nonneg (m % (n:Int)+1+m / (n:Int) % ((n:Int) - 1)) (b:=(n:Int)) (by lia)
 obtain ⟨u,hu⟩:=Int.eq_ofNat_of_zero_le u0
 obtain ⟨v,hv⟩:=Int.eq_ofNat_of_zero_le v0
 refine ⟨⟨by lia,by lia⟩,by lia,by lia,hJ _ ?_⟩
 rw [hv,hu]
 rw [hv] at v1
 rw [hu] at u1
 clear hJ hv hu v0 u0
 refine ze0 λ J hJ=>?_
 walk_at "dd"
 refine ⟨.inl ⟨by decide,by decide⟩,ns,41+4 * k,by congr 2,by lia,λ m2 m20 m21=>hJ _ ?_⟩
 clear hJ
 walk_at "dn"
 refine zab (λ δ=>∃ l:Nat,1<=l/\δ=[.sh (.list (ns.map .int)),.sh (.int (k:Int)),.sh (.int (n:Int)),.sh (.int m2),.sh (.int (u:Int)),.sh (.int (v:Int)),.sh (.int (l:Int)),.un]) ?_ ?_
 ·walk_at "dd"
  refine two (λ _=>⟨(1+m2 / 12 % 20).toNat,by lia,?_⟩) λ _=>⟨(1+m2 % 3).toNat,by lia,?_⟩
  ·rw [show ((1+m2 / 12 % 20).toNat:Int)=1+m2 / 12 % 20 by lia]
  ·rw [show ((1+m2 % 3).toNat:Int)=1+m2 % 3 by lia]
 rintro δ ⟨l,l1,rfl⟩
 refine ze0 λ J hJ=>?_
 walk_at "dd"
 refine ⟨.inl ⟨by decide,by decide⟩,ns,42+4 * k,by congr 2,by lia,λ m3 m30 m31=>?_⟩
 walk_at "dd"
 refine ⟨.inl ⟨by decide,by decide⟩,ns,43+4 * k,by congr 2,by lia,λ m4 m40 m41=>⟨m3,m4,rfl,m30,m40,λ g hg=>hJ _ ?_⟩⟩
 clear hJ
 walk_at "dd"
 exact q ⟨u,v,l,_,g⟩ (by show u < n;lia) (by show v < n;lia) l1 hg
theorem zm9:FnScope ["gate", "now"] ["gate", "now"] (zh0 zv6):=by walk_at "sc"
theorem zlh (M:Md K mg) (T:TopDef K "_law_width" zv6) :Def P w K mg base "_law_width" 1 ["gate", "now"] (spD K zd3):=by
 refine zs3 M T zm9 (λ _ _ _ _ _ _ us hl=>by obtain ⟨_,_,rfl⟩:=ar2 hl;rfl) (zth λ ds Qd h=>by obtain ⟨_,_,rfl,_⟩:=h;rfl) (zz5 ?_)
 intro f cdv A outer s H E hr
 have nd:=zm9.nd
 refine ⟨_,_,(zd0 (zn4 (PW.pt (zcp (zt0 (zg2 (K:=K) rfl (Room.units hr)) (pix w K hr (pv 0) zf0) zih (zf1 _)) (zjk (zt0 ztt (pv 1) (pix w K hr (pv 0) zf0) (zf1 _))))) (zk0 (zi1 zf0)) zc1)
   (zd0 (zn4 (PW.pt (zcp (zt0 (zg2 (K:=K) rfl (Room.units hr)) (pix w K hr (pv 0) zf0) zih (zf1 _)) (zjk (zt0 (zrh (K:=K) rfl (Room.units hr)) (zq0 ze1 (pv 1) (pix w K hr (pv 0) zf0)) zf0 (zf1 _))))) (zk0 (zi1 (pix w K hr (pv 0) zf0))) zc1)
   (zk0 (zi1 (pix w K hr (pv 0) zf0))))),(zm0 (zo6 (zfq (zs0 (zu1 q_eq (RfV.h (RfE.v (zj0 r_ix (zb0 0) rvi))) (RfV.h (RfE.v zng)))) (zs0 (zj0 r_lt (zb0 1) (RfE.v (zj0 r_ix (zb0 0) rvi))))) (zj1 (RfE.c zd1)) zb1)
   (zm0 (zo6 (zfq (zs0 (zu1 q_eq (RfV.h (RfE.v (zj0 r_ix (zb0 0) rvi))) (RfV.h (RfE.v zng)))) (zs0 (zu1 q_ne (RfV.h (RfE.v (zj0 zf2 (zb0 1) (RfE.v (zj0 r_ix (zb0 0) rvi))))) (RfV.h rvi)))) (zj1 (RfE.c (zj0 r_ix (zb0 0) rvi))) zb1)
   (zj1 (RfE.c (zj0 r_ix (zb0 0) rvi))))),?_⟩
 rintro ds Qd ⟨g,m,rfl,ok,q⟩
 walk_at "ds"
 cases g with
|st x =>
  unfold Gt.d
  refine ze0 λ J hJ=>?_
  walk_at "dd"
  refine ⟨_,rfl,?_⟩
  walk_at "dd"
  rw [if_neg (by decide +kernel)]
  refine hJ _ ?_
  clear hJ
  refine ze0 λ J hJ=>?_
  walk_at "dd"
  refine ⟨_,rfl,?_⟩
  walk_at "dd"
  rw [if_neg (by decide +kernel)]
  refine hJ _ ?_
  clear hJ
  walk_at "dd"
  exact ⟨_,rfl,q⟩
|la x f =>
  unfold Gt.d
  refine ze0 λ J hJ=>?_
  walk_at "dd"
  refine ⟨_,rfl,?_⟩
  walk_at "dd"
  refine ⟨_,rfl,?_⟩
  walk_at "dd"
  refine two (λ h=>?_) λ h=>hJ _ ?_
  ·have e:Gt.at (.la x f) m=0:=if_neg (by lia)
   rw [e] at q;exact q
  clear hJ
  refine ze0 λ J hJ=>?_
  walk_at "dd"
  refine ⟨_,rfl,?_⟩
  walk_at "dd"
  rw [if_neg (by decide +kernel)]
  refine hJ _ ?_
  clear hJ
  walk_at "dd"
  have e:Gt.at (.la x f) m=x:=if_pos (by lia)
  rw [e] at q
  exact ⟨_,rfl,q⟩
|ti x y t =>
  obtain ⟨o1,o2⟩:=ok
  unfold Gt.d
  refine ze0 λ J hJ=>?_
  walk_at "dd"
  refine ⟨_,rfl,?_⟩
  walk_at "dd"
  rw [if_neg (by decide +kernel)]
  refine hJ _ ?_
  clear hJ
  refine ze0 λ J hJ=>?_
  walk_at "dd"
  refine ⟨_,rfl,?_⟩
  walk_at "dd"
  refine ⟨_,rfl,?_⟩
  walk_at "dd"
  refine ⟨by lia,two (λ h=>⟨_,rfl,?_⟩) λ h=>hJ _ ?_⟩
  ·have e:Gt.at (.ti x y t) m=y:=if_neg (by lia)
   rw [e] at q;exact q
  clear hJ
  walk_at "dd"
  have e:Gt.at (.ti x y t) m=x:=if_pos (by lia)
  rw [e] at q
  exact ⟨_,rfl,q⟩
end
def zn8:DSp:=λ ds Q=>∃ ns:List Int,ds=[.list (ns.map .int)]/\∀ fs:List Int,2<=fs.length->fs.length<=12->(∀ x∈fs,0<=x)->Q (.list (fs.map .int))
def zi8:DSp:=λ ds Q=>∃ (ns:List Int) (n:Nat),ds=[.list (ns.map .int),.int (n:Int)]/\2<=n/\n<=12/\∀ ps:List Pi,1<=ps.length->ps.length<=24->(∀ p∈ps,p.u < n/\p.v < n/\1<=p.len/\p.g.okk)->Q (.list (ps.map Pi.d))
def zr8:DSp:=λ ds Q=>∃ ns:List Int,ds=[.list (ns.map .int)]/\∀ n:Nat,n<=60->Q (.int (n:Int))
def zye:DSp2:=λ d0 X Y es Q=>∃ (ps:List Pi) (held left:List Int) (c:Int),(d0=.list (ps.map Pi.d)/\X=held.map .int/\Y=left.map .int/\es=[.int c])/\1<=ps.length/\ps.length<=24/\left.length=ps.length/\(∀ p∈ps,p.u < held.length)/\(∀ x∈held,0<=x)/\(∀ x∈left,0<=x) /\
 ∀ (k:Nat) (p:Pi) (am:Int),ps[k]?=some p->0<=am->am<=held.getD p.u 0->am<=left.getD k 0->Q (.list [.int (k:Int),.int am]) ((held.set p.u (held.getD p.u 0 - am)).map .int) ((left.set k (left.getD k 0 - am)).map .int)
section
variable {P:Program} {w:World} {K:Fg} {mg:Str->Option Value} {base:Heap}
theorem zl9:FnScope ["script", "many"] ["script"] (zh0 zd4):=by walk_at "sc"
theorem zwg (M:Md K mg) (T:TopDef K "_law_fills" zd4) (jS:mg "range"=none) (jD:Def P w K mg base "_law_draw" 1 ["script", "k"] (spD K zp1)) (kX:Def P w K mg base "_law_size" 1 ["number"] (spD K zmb)):Def P w K mg base "_law_fills" 2 ["script"] (spD K zn8):=by
 refine zs3 M T zl9 (λ _ _ _ _ _ _ us hl=>by obtain ⟨_,rfl⟩:=ar1 hl;rfl) (zth λ ds Qd h=>by obtain ⟨_,rfl,_⟩:=h;rfl) (zz5 ?_)
 intro f cdv A outer s H E hr
 have nd:=zl9.nd
 refine ⟨_,_,(zd0 (pset 1 nd (zq0 (zr0 (K:=K) rfl) zf0 (zq0 ze1 (zo0 jD (rmn hr) rfl (za0 (pv 0) (za0 zf0 zg0))) zf0)))
   (zd0 (zn4 (zt0 (zg2 (K:=K) rfl (Room.units hr)) (zq0 ze1 (zo0 jD (rmn hr) rfl (za0 (pv 0) (za0 zf0 zg0))) zf0) zf0 (zf1 _)) (zk0 (pset 1 nd zf0)) zc1)
   (zk0 (zi1 (zn3 (sc:=zh0 zd4) (N:=["script", "many"]) (own:=["k"]) (ix:=[0]) rfl rfl rfl (by walk_at "csc") (zz1 rfl jS (za0 (pv 1) zg0)) (λ _ _ _ _=>⟨(pgn 0 (nds ["k", "script"])),zm3,(zq0 ze1 (zo0 kX (rmn hr) rfl (za0 (zo0 jD (rmn hr) rfl (za0 (pv 1) (za0 (zq0 (zr0 (K:=K) rfl) zf0 (zq0 zs1 zf0 (pv 0))) zg0))) zg0)) (zq0 (zr0 (K:=K) rfl) (zq0 zs1 zf0 (zq0 zbe zf0 zf0)) zf0))⟩)))))),(zm0 (za1 (zj0 zo2 rvi (RfE.v (zj0 zf2 (RfE.v (zy0 (zc0 (zi0 0) (zc0 zd1 zl0)))) rvi))) (rgn 1))
   (zm0 (zo6 (zs0 (zu1 q_eq (RfV.h (RfE.v (zj0 zf2 (RfE.v (zy0 (zc0 (zi0 0) (zc0 zd1 zl0)))) rvi))) (RfV.h rvi))) (za1 zd1 (rgn 1)) zb1)
   (zj1 (RfF.c (zk2 (RfI.j (zs4 (zc0 (zi0 1) zl0))) (zw1 (i:=0) (n:=1) (by decide)) zk4 (zj0 zf2 (RfE.v (zy0 (zc0 (zy0 (zc0 (zi0 1) (zc0 (zj0 zo2 rvi (RfE.v (zj0 zpc rvi (zb0 0)))) zl0))) zl0))) (RfE.v (zj0 zo2 (RfE.v (zj0 zpc rvi (RfE.v (zj0 zjp rvi rvi)))) rvi)))))))),?_⟩
 rintro ds Qd ⟨ns,rfl,q⟩
 walk_at "ds"
 refine ze0 λ J hJ=>?_
 walk_at "dd"
 refine ⟨ns,0,rfl,by lia,λ m m0 m1=>?_⟩
 walk_at "dd"
 refine hJ _ ?_
 clear hJ
 refine zab (λ δ=>∃ n:Nat,2<=n/\n<=12/\δ=[.sh (.list (ns.map .int)),.sh (.int (n:Int))]) ?_ ?_
 ·walk_at "dd"
  refine ⟨ns,1,rfl,by lia,λ m' m0' m1'=>?_⟩
  walk_at "dd"
  refine two (λ _=>⟨12,by lia,by lia,rfl⟩) λ _=>⟨(2+m % 3).toNat,by lia,by lia,?_⟩
  rw [show ((2+m % 3).toNat:Int)=2+m % 3 by lia]
 rintro δ ⟨n,n1,n2,rfl⟩
 walk_at "dd"
 rw [Int.toNat_natCast]
 unfold rngD
 refine ⟨by lia,by lia,zh81 (λ x:Int=>0<=x) PyData.int (by rw [sizeLine_eq,List.length_range];lia) (λ k hk=>?_) λ fs h1 h2=>q fs (by rw [h1,List.length_range];lia) (by rw [h1,List.length_range];lia) h2⟩
 simp at hk
 rw [show (0:Int)+(k:Int)=(k:Int) by lia]
 walk_at "cs"
 walk_at "dd"
 refine ⟨.inl ⟨by decide,by decide⟩,ns,11+2 * k,by congr 2,by lia,λ a a0 a1=>⟨a,rfl,a0,λ r r0 r1=>?_⟩⟩
 walk_at "dd"
 exact ⟨by decide,.inl ⟨by decide,by decide⟩,_,by lia,rfl⟩
theorem zh9:FnScope ["script", "many", "count"] ["script", "many"] (zh0 zc4):=by walk_at "sc"
theorem zpg (M:Md K mg) (T:TopDef K "_law_pipes" zc4) (jS:mg "range"=none) (jD:Def P w K mg base "_law_draw" 1 ["script", "k"] (spD K zp1)) (uX:Def P w K mg base "_law_pipe" 3 ["script", "k", "many"] (spD K zzg)):Def P w K mg base "_law_pipes" 4 ["script", "many"] (spD K zi8):=by
 refine zs3 M T zh9 (λ _ _ _ _ _ _ us hl=>by obtain ⟨_,_,rfl⟩:=ar2 hl;rfl) (zth λ ds Qd h=>by obtain ⟨_,_,rfl,_⟩:=h;rfl) (zz5 ?_)
 intro f cdv A outer s H E hr
 have nd:=zh9.nd
 refine ⟨_,_,(zd0 (pset 2 nd (zq0 (zr0 (K:=K) rfl) zf0 (zq0 ze1 (zo0 jD (rmn hr) rfl (za0 (pv 0) (za0 zf0 zg0))) zf0)))
   (zd0 (zn4 (zt0 (zg2 (K:=K) rfl (Room.units hr)) (zq0 ze1 (zq0 zz0 (zo0 jD (rmn hr) rfl (za0 (pv 0) (za0 zf0 zg0))) zf0) zf0) zf0 (zf1 _)) (zk0 (pset 2 nd zf0)) zc1)
   (zk0 (zi1 (zn3 (sc:=zh0 zc4) (N:=["script", "many", "count"]) (own:=["k"]) (ix:=[0,1]) rfl rfl rfl (by walk_at "csc") (zz1 rfl jS (za0 (pv 2) zg0)) (λ _ _ _ _=>⟨(pgn 0 (nds ["k", "script", "many"])),zm3,(zo0 uX (rmn hr) rfl (za0 (pv 1) (za0 (pv 0) (za0 (pv 2) zg0))))⟩)))))),(zm0 (za1 (zj0 zo2 rvi (RfE.v (zj0 zf2 (RfE.v (zy0 (zc0 (zi0 0) (zc0 zd1 zl0)))) rvi))) (rgn 2))
   (zm0 (zo6 (zs0 (zu1 q_eq (RfV.h (RfE.v (zj0 zf2 (RfE.v (zj0 zg7 (RfE.v (zy0 (zc0 (zi0 0) (zc0 zd1 zl0)))) rvi)) rvi))) (RfV.h rvi))) (za1 zd1 (rgn 2)) zb1)
   (zj1 (RfF.c (zk2 (RfI.j (zs4 (zc0 (zi0 2) zl0))) (zw1 (i:=0) (n:=1) (by decide)) zk4 (zy0 (zc0 (zi0 1) (zc0 (zi0 0) (zc0 (zi0 2) zl0))))))))),?_⟩
 rintro ds Qd ⟨ns,n,rfl,n1,n2,q⟩
 walk_at "ds"
 refine ze0 λ J hJ=>?_
 walk_at "dd"
 refine ⟨ns,2,rfl,by lia,λ m m0 m1=>?_⟩
 walk_at "dd"
 refine hJ _ ?_
 clear hJ
 refine zab (λ δ=>∃ k:Nat,1<=k/\k<=24/\δ=[.sh (.list (ns.map .int)),.sh (.int (n:Int)),.sh (.int (k:Int))]) ?_ ?_
 ·walk_at "dd"
  refine ⟨ns,1,rfl,by lia,λ m' m0' m1'=>?_⟩
  walk_at "dd"
  refine two (λ _=>⟨24,by lia,by lia,rfl⟩) λ _=>⟨(1+m % 6).toNat,by lia,by lia,?_⟩
  rw [show ((1+m % 6).toNat:Int)=1+m % 6 by lia]
 rintro δ ⟨k,k1,k2,rfl⟩
 walk_at "dd"
 rw [Int.toNat_natCast]
 unfold rngD
 refine ⟨by lia,by lia,zh81 (λ p:Pi=>p.u < n/\p.v < n/\1<=p.len/\p.g.okk) Pi.d (by rw [sizeLine_eq,List.length_range];lia) (λ x hx=>?_) λ ps h1 h2=>q ps (by rw [h1,List.length_range];lia) (by rw [h1,List.length_range];lia) h2⟩
 simp at hx
 rw [show (0:Int)+(x:Int)=(x:Int) by lia]
 walk_at "cs"
 walk_at "dd"
 exact ⟨ns,x,n,rfl,by lia,n1,n2,λ p a b c d=>⟨p,⟨a,b,c,d⟩,rfl⟩⟩
theorem zb9:FnScope ["script", "number"] ["script"] (zh0 zz6):=by walk_at "sc"
theorem zdg (M:Md K mg) (T:TopDef K "_law_until" zz6) (jD:Def P w K mg base "_law_draw" 1 ["script", "k"] (spD K zp1)):Def P w K mg base "_law_until" 2 ["script"] (spD K zr8):=by
 refine zs3 M T zb9 (λ _ _ _ _ _ _ us hl=>by obtain ⟨_,rfl⟩:=ar1 hl;rfl) (zth λ ds Qd h=>by obtain ⟨_,rfl,_⟩:=h;rfl) (zz5 ?_)
 intro f cdv A outer s H E hr
 have nd:=zb9.nd
 refine ⟨_,_,(zd0 (pset 1 nd (zo0 jD (rmn hr) rfl (za0 (pv 0) (za0 zf0 zg0))))
   (zd0 (zn4 (zt0 (zg2 (K:=K) rfl (Room.units hr)) (zq0 ze1 (pv 1) zf0) zf0 (zf1 _)) (zk0 (zi1 zf0)) zc1)
   (zd0 (zn4 (zt0 (zg2 (K:=K) rfl (Room.units hr)) (zq0 ze1 (zq0 zz0 (pv 1) zf0) zf0) zf0 (zf1 _)) (zk0 (zi1 (zq0 (zr0 (K:=K) rfl) zf0 (zq0 ze1 (zq0 zz0 (pv 1) zf0) zf0)))) zc1)
   (zk0 (zi1 (zq0 (zr0 (K:=K) rfl) zf0 (zq0 ze1 (zq0 zz0 (pv 1) zf0) zf0))))))),(zm0 (za1 (zy0 (zc0 (zi0 0) (zc0 zd1 zl0))) (rgn 1))
   (zm0 (zo6 (zs0 (zu1 q_eq (RfV.h (RfE.v (zj0 zf2 (zb0 1) rvi))) (RfV.h rvi))) (zj1 (RfE.c zd1)) zb1)
   (zm0 (zo6 (zs0 (zu1 q_eq (RfV.h (RfE.v (zj0 zf2 (RfE.v (zj0 zg7 (zb0 1) rvi)) rvi))) (RfV.h rvi))) (zj1 (RfE.c (zj0 zo2 rvi (RfE.v (zj0 zf2 (RfE.v (zj0 zg7 (zb0 1) rvi)) rvi))))) zb1)
   (zj1 (RfE.c (zj0 zo2 rvi (RfE.v (zj0 zf2 (RfE.v (zj0 zg7 (zb0 1) rvi)) rvi)))))))),?_⟩
 rintro ds Qd ⟨ns,rfl,q⟩
 walk_at "ds"
 refine ze0 λ J hJ=>?_
 walk_at "dd"
 refine ⟨ns,3,rfl,by lia,λ m m0 m1=>?_⟩
 refine hJ _ ?_
 clear hJ
 refine ze0 λ J hJ=>?_
 walk_at "dd"
 refine two (λ _=>q 0 (by lia)) λ _=>hJ _ ?_
 clear hJ
 refine ze0 λ J hJ=>?_
 walk_at "dd"
 refine two (λ _=>?_) λ _=>hJ _ ?_
 ·have:=q (1+m / 80 % 60).toNat (by lia)
  rw [show ((1+m / 80 % 60).toNat:Int)=1+m / 80 % 60 by lia] at this
  exact this
 clear hJ
 walk_at "dd"
 have:=q (1+m / 80 % 5).toNat (by lia)
 rw [show ((1+m / 80 % 5).toNat:Int)=1+m / 80 % 5 by lia] at this
 exact this
theorem zid:FnScope ["pipes", "held", "left", "cell", "at", "rest", "start", "most", "amount"] ["pipes", "held", "left", "cell"] (zh0 zpa):=by walk_at "sc"
theorem zal (M:Md K mg) (T:TopDef K "_law_let" zpa) (uY:mg "int"=none) (jT:mg "len"=none) (vV:mg "min"=none):Def P w K mg base "_law_let" 1 ["pipes", "held", "left", "cell"] (spL2 K zye):=by
 refine zs3 M T zid (λ _ _ _ _ _ _ us hl=>by obtain ⟨_,_,_,_,rfl⟩:=ar4 hl;rfl) (zl31 λ d0 X Y es Qd h=>by obtain ⟨_,_,_,_,⟨rfl,rfl,rfl,rfl⟩,_⟩:=h;rfl) (ztx ?_)
 intro f cdv A outer s H E hr
 have nd:=zid.nd
 refine ⟨_,_,(zd0 (pset 4 nd (zq0 ze1 (pv 3) (zv0 (zg1 (K:=K) rfl) rfl jT zv3 (za0 (pv 0) zg0))))
   (zd0 (pset 5 nd (zq0 zz0 (pv 3) (zv0 (zg1 (K:=K) rfl) rfl jT zv3 (za0 (pv 0) zg0))))
   (zd0 (pset 6 nd (pix w K hr (pix w K hr (pv 0) (pv 4)) zf0))
   (zd0 (pset 7 nd (zv0 (zto rfl) rfl vV zb51 (za0 (pix w K hr (pv 1) (pv 6)) (za0 (pix w K hr (pv 2) (pv 4)) zg0))))
   (zd0 (pset 8 nd (pix w K hr (zn1 (za0 (pv 7) (za0 (zq0 ze1 (zq0 zz0 (pv 5) zf0) (zq0 (zr0 (K:=K) rfl) (pv 7) zf0)) zg0))) (zq2 zse rfl uY zhu (za0 (zjd zoo (zq0 ze1 (pv 5) zf0) zf0 (zf1 _)) zg0))))
   (zd0 (zp9 (zq0 zib (pix w K hr (pv 1) (pv 6)) (pv 8)) (ztc (pv 1) (pv 6) (zkl (Room.units hr))))
   (zd0 (zp9 (zq0 zib (pix w K hr (pv 2) (pv 4)) (pv 8)) (ztc (pv 2) (pv 4) (zkl (Room.units hr))))
   (zk0 (zi1 (zn1 (za0 (pv 4) (za0 (pv 8) zg0)))))))))))),(zm0 (za1 (zj0 zf2 (zb0 3) (RfE.v (zw7 zxc (zu0 (zb0 0) zo1)))) (rgn 4))
   (zm0 (za1 (zj0 zg7 (zb0 3) (RfE.v (zw7 zxc (zu0 (zb0 0) zo1)))) (rgn 5))
   (zm0 (za1 (zj0 r_ix (RfE.v (zj0 r_ix (zb0 0) (zb0 4))) rvi) (rgn 6))
   (zm0 (za1 (zw7 zm41 (zu0 (RfE.v (zj0 r_ix (zb0 1) (zb0 6))) (zu0 (RfE.v (zj0 r_ix (zb0 2) (zb0 4))) zo1))) (rgn 7))
   (zm0 (za1 (zj0 r_ix (RfE.v (RfF.e (zk3 (zc0 (zi0 7) (zc0 (zj0 zf2 (RfE.v (zj0 zg7 (zb0 5) rvi)) (RfE.v (zj0 zo2 (zb0 7) rvi))) zl0))))) (RfE.v (zw7 zg31 (zu0 (RfE.v (zj0 r_gt (RfE.v (zj0 zf2 (zb0 5) rvi)) rvi)) zo1)))) (rgn 8))
   (zm0 (zrc (zj0 zsn (RfE.v (zj0 r_ix (zb0 1) (zb0 6))) (zb0 8)) (zx0 1) (zi0 6))
   (zm0 (zrc (zj0 zsn (RfE.v (zj0 r_ix (zb0 2) (zb0 4))) (zb0 8)) (zx0 2) (zi0 4))
   (zj1 (RfF.c (zk3 (zc0 (zi0 4) (zc0 (zi0 8) zl0)))))))))))),?_⟩
 rintro d0 X Y es Qd a b ⟨ps,held,left,c,⟨rfl,rfl,rfl,rfl⟩,p1,p24,ll,hu,hh,hl,q⟩
 unfold zyk
 walk_at "ds"
 refine ze0 λ J hJ=>?_
 walk_at "dd"
 rw [List.length_map]
 have e0:=Int.emod_nonneg c (b:=(ps.length:Int)) (by lia)
 have e1:=Int.emod_lt_of_pos c (b:=(ps.length:Int)) (by lia)
 obtain ⟨k,hk⟩:=Int.eq_ofNat_of_zero_le e0
 rw [hk] at e1 ⊢
 refine ⟨by lia,hJ _ ?_⟩
 clear hJ e0 hk
 obtain ⟨p,hp⟩:∃ p,ps[k]?=some p:=⟨_,List.getElem?_eq_getElem (by lia)⟩
 have hpu:=hu p (List.mem_of_getElem? hp)
 have hkl:k < left.length:=by lia
 have gp:atI (ps.map Pi.d) ((k:Nat):Int)=some (.tuple [.int (p.u:Int),.int (p.v:Int),.int (p.len:Int),.int p.pr,p.g.d]):=zi2 (by lia) (by rw [Int.toNat_natCast,List.getElem?_map,hp];rfl)
 have gh:atI (held.map PyData.int) ((p.u:Nat):Int)=some (.int (held.getD p.u 0)):=zi2 (by lia) (by rw [Int.toNat_natCast,List.getElem?_map,List.getD_eq_getElem?_getD,List.getElem?_eq_getElem hpu];rfl)
 have gl:atI (left.map PyData.int) ((k:Nat):Int)=some (.int (left.getD k 0)):=zi2 (by lia) (by rw [Int.toNat_natCast,List.getElem?_map,List.getD_eq_getElem?_getD,List.getElem?_eq_getElem hkl];rfl)
 have hy0:0<=held.getD p.u 0:=by rw [List.getD_eq_getElem?_getD,List.getElem?_eq_getElem hpu];exact hh _ (List.getElem_mem _)
 have hl0:0<=left.getD k 0:=by rw [List.getD_eq_getElem?_getD,List.getElem?_eq_getElem hkl];exact hl _ (List.getElem_mem _)
 refine ze0 λ J hJ=>?_
 walk_at "dd"
 rw [List.length_map]
 refine ⟨⟨by lia,by lia⟩,hJ _ ?_⟩
 clear hJ
 generalize c / (ps.length:Int)=rest
 refine ze0 λ J hJ=>?_
 walk_at "dd"
 refine ⟨_,gp,?_⟩
 walk_at "dd"
 refine ⟨_,rfl,hJ _ ?_⟩
 clear hJ
 refine ze0 λ J hJ=>?_
 walk_at "dd"
 refine ⟨_,gh,_,gl,?_⟩
 walk_at "dd"
 have em:(if left.getD k 0 < held.getD p.u 0 then left.getD k 0 else held.getD p.u 0)<=left.getD k 0/\(if left.getD k 0 < held.getD p.u 0 then left.getD k 0 else held.getD p.u 0)<=held.getD p.u 0/\0<=(if left.getD k 0 < held.getD p.u 0 then left.getD k 0 else held.getD p.u 0):=by split <;> lia
 generalize (if left.getD k 0 < held.getD p.u 0 then left.getD k 0 else held.getD p.u 0)=most0 at em ⊢
 refine hJ _ ?_
 clear hJ
 have m0:=em.2.2
 have m1:=em.1
 have m2:=em.2.1
 generalize hm:most0=most at m0 m1 m2 ⊢
 clear em hm
 have f0:=Int.emod_nonneg (rest / 4) (b:=most+1) (by lia)
 have f1:=Int.emod_lt_of_pos (rest / 4) (b:=most+1) (by lia)
 obtain ⟨am,a0,a1,ea⟩:∃ am:Int,0<=am/\am<=most/\atI [PyData.int most,PyData.int (rest / 4 % (most+1))] (if 0 < rest % 4 then 1 else 0)=some (.int am):=by
  by_cases h:0 < rest % 4
  ·rw [if_pos h];exact ⟨_,f0,by lia,rfl⟩
  ·rw [if_neg h];exact ⟨_,m0,by lia,rfl⟩
 refine ze0 λ J hJ=>?_
 walk_at "dd"
 refine ⟨by lia,_,ea,hJ _ ?_⟩
 clear hJ
 refine ze0 λ J hJ=>?_
 walk_at "dd"
 refine ⟨_,gh,?_⟩
 walk_at "dd"
 refine ⟨p.u,zk7 (by rw [List.length_map];exact hpu),?_⟩
 rw [<- List.map_set]
 refine hJ _ ?_
 clear hJ
 refine ze0 λ J hJ=>?_
 walk_at "dd"
 refine ⟨_,gl,?_⟩
 walk_at "dd"
 refine ⟨k,zk7 (by rw [List.length_map];exact hkl),?_⟩
 rw [<- List.map_set]
 refine hJ _ ?_
 clear hJ
 walk_at "dd"
 exact ⟨_,_,_,rfl,rfl,rfl,q k p am hp a0 (by lia) (by lia)⟩
end
def zla:DSpT:=λ as Q=>∃ (ps:List Pi) (L:List Lz) (held:List Int) (now:Nat),as=[.d (.list (ps.map Pi.d)),.b (.li (L.map Lz.d)),.o (.li (held.map .int)),.d (.int (now:Int))]/\(∀ l∈L,0<=l.t/\0<=l.at_/\l.at_ < (ps.length:Int))/\(∀ p∈ps,p.v < held.length) /\
 Q (.fz .none) (.li ((znf ps now L held).map .int))
def ztd:DSpT:=λ as Q=>∃ (ps:List Pi) (L:List Lz) (held:List Int) (now:Nat),as=[.d (.list (ps.map Pi.d)),.d (.list (L.map Lz.d)),.o (.li (held.map .int)),.d (.int (now:Int))]/\(∀ l∈L,0<=l.t/\0<=l.at_/\l.at_ < (ps.length:Int))/\(∀ p∈ps,p.v < held.length) /\
 Q (.fz .none) (.li ((znf ps now L held).map .int))
theorem zaa (ps:List Pi) (now:Nat) (L:List Lz) (h:List Int):(znf ps now L h).length=h.length:=by unfold znf;rw [zqa]
theorem zjg {ps:List Pi} {now:Nat} {L:List Lz} {h:List Int} {i:Nat} {l:Lz} (hi:L[i]?=some l) (h0:0<=l.t):znf ps now (L.take (i+1)) h=if l.t+(pl ps l.at_.toNat:Int)=(now:Int) then inc (znf ps now (L.take i) h) (zuh ps l.at_.toNat) l.am else znf ps now (L.take i) h:=by
 unfold znf
 rw [zbh hi,List.map_append]
 show zx9 _ _ (_++[l.le]) h=_
 rw [zvd]
 by_cases z:l.t+(pl ps l.at_.toNat:Int)=(now:Int)
 ·rw [if_pos z,if_pos (by show l.t.toNat+pl ps l.at_.toNat=now;lia)];rfl
 ·rw [if_neg z,if_neg (by show ¬ (l.t.toNat+pl ps l.at_.toNat=now);lia)]
section
variable {P:Program} {w:World} {K:Fg} {mg:Str->Option Value} {base:Heap}
theorem zj4:FnScope ["pipes", "lets", "held", "now", "moment", "at", "amount"] ["pipes", "lets", "held", "now"] (zh0 zw5):=by walk_at "sc"
theorem zkj (M:Md K mg) (T:TopDef K "_law_come" zw5) :Def P w K mg base "_law_come" 1 ["pipes", "lets", "held", "now"] (spT K zla):=by
 refine zs3 M T zj4 (λ _ _ _ _ _ _ us hl=>by obtain ⟨_,_,_,_,rfl⟩:=ar4 hl;rfl) (zel λ as Qd h=>by obtain ⟨_,_,_,_,rfl,_⟩:=h;rfl) (zp8 ?_)
 intro f cdv A outer s H E hr
 have nd:=zj4.nd
 refine ⟨_,_,(zk0 (zs9 PassesOwn.never rfl (pi_W (K:=K) rfl (pv 1)) (zsa (K:=K) (n:=3) rfl rfl (zr1 (pgn 4 nd) (zr1 (pgn 5 nd) (zr1 (pgn 6 nd) zva)))) (zk0 (zn4 (zt0 (zg2 (K:=K) rfl (Room.units hr)) (zq0 (zr0 (K:=K) rfl) (pv 4) (pix w K hr (pix w K hr (pv 0) (pv 5)) zf0)) (pv 3) (zf1 _)) (zk0 (zp9 (zq0 (zr0 (K:=K) rfl) (pix w K hr (pv 2) (pix w K hr (pix w K hr (pv 0) (pv 5)) zf0)) (pv 6)) (ztc (pv 2) (pix w K hr (pix w K hr (pv 0) (pv 5)) zf0) (zkl (Room.units hr))))) zc1)))),(zux (i:=1) (zvk (zx1 (rgn 4) (zx1 (rgn 5) (zx1 (rgn 6) zdd)))) (zo6 (zs0 (zu1 q_eq (RfV.h (RfE.v (zj0 zo2 (zb0 4) (RfE.v (zj0 r_ix (RfE.v (zj0 r_ix (zb0 0) (zb0 5))) rvi))))) (RfV.h (zb0 3)))) (zrc (zj0 zo2 (RfE.v (zj0 r_ix (zb0 2) (RfE.v (zj0 r_ix (RfE.v (zj0 r_ix (zb0 0) (zb0 5))) rvi)))) (zb0 6)) (zx0 2) (zj0 r_ix (RfE.v (zj0 r_ix (zb0 0) (zb0 5))) rvi)) zb1)),?_⟩
 rintro as Qd a ⟨ps,L,held,now,rfl,hl,hp,q⟩
 walk_at "ds"
 walk_at "dd"
 refine zjv (xs:=L) (enc:=Lz.d) (by rfl) (λ i δ=>∃ (s4 s5 s6:Sl),δ=[.sh (.list (ps.map Pi.d)),.bo (.li (L.map Lz.d)),.io a (.li ((znf ps now (L.take i) held).map .int)),.sh (.int (now:Int)),s4,s5,s6]) ⟨.un,.un,.un,rfl⟩ ?_ ?_
 ·rintro i l δ hi ⟨s4,s5,s6,rfl⟩
  have ln:=zaa ps now (L.take i) held
  obtain ⟨l0,l1,l2⟩:=hl l (List.mem_of_getElem? hi)
  rw [zjg hi l0]
  generalize znf ps now (L.take i) held=h at ln ⊢
  obtain ⟨t,at_,am⟩:=l
  obtain ⟨j,rfl⟩:=Int.eq_ofNat_of_zero_le l1
  have hj:j < ps.length:=by
   have:((j:Nat):Int) < _:=l2
   lia
  dsimp only [Int.toNat_natCast]
  rw [show Lz.d ⟨t,(j:Int),am⟩=.tuple [.int t,.int (j:Int),.int am] from rfl]
  walk_at "dd"
  obtain ⟨p,hpl⟩:∃ p,ps[j]?=some p:=⟨_,List.getElem?_eq_getElem hj⟩
  have hpp:=hp p (List.mem_of_getElem? hpl)
  have gp:atI (ps.map Pi.d) ((j:Nat):Int)=some (.tuple [.int (p.u:Int),.int (p.v:Int),.int (p.len:Int),.int p.pr,p.g.d]):=zi2 (by lia) (by rw [Int.toNat_natCast,List.getElem?_map,hpl];rfl)
  have epl:pl ps j=p.len:=by unfold pl;rw [hpl];rfl
  have egl:zuh ps j=p.v:=by unfold zuh;rw [hpl];rfl
  simp only [epl,egl]
  refine ⟨_,gp,?_⟩
  walk_at "dd"
  refine ⟨_,rfl,?_⟩
  walk_at "dd"
  refine two (λ y=>?_) λ y=>⟨_,_,_,by rw [if_neg y]⟩
  refine ⟨_,gp,?_⟩
  walk_at "dd"
  refine ⟨_,rfl,?_⟩
  walk_at "dd"
  have hv:p.v < h.length:=by lia
  refine ⟨_,zi2 (by lia) (by rw [Int.toNat_natCast,List.getElem?_map,List.getElem?_eq_getElem hv];rfl),?_⟩
  walk_at "dd"
  refine ⟨_,gp,?_⟩
  walk_at "dd"
  refine ⟨_,rfl,?_⟩
  walk_at "dd"
  refine ⟨p.v,zk7 (by rw [List.length_map];exact hv),.sh (.int t),.sh (.int (j:Int)),.sh (.int am),?_⟩
  rw [if_pos y]
  unfold inc
  rw [List.map_set,List.getD_eq_getElem?_getD,List.getElem?_eq_getElem hv]
  rfl
 ·rintro δ ⟨s4,s5,s6,rfl⟩
  rw [List.take_length]
  exact ⟨_,rfl,q⟩
theorem zyf (M:Md K mg) (T:TopDef K "_law_come" zw5) :Def P w K mg base "_law_come" 1 ["pipes", "lets", "held", "now"] (spT K ztd):=by
 refine zs3 M T zj4 (λ _ _ _ _ _ _ us hl=>by obtain ⟨_,_,_,_,rfl⟩:=ar4 hl;rfl) (zel λ as Qd h=>by obtain ⟨_,_,_,_,rfl,_⟩:=h;rfl) (zp8 ?_)
 intro f cdv A outer s H E hr
 have nd:=zj4.nd
 refine ⟨_,_,(zk0 (zs9 PassesOwn.never rfl (pi_W (K:=K) rfl (pv 1)) (zsa (K:=K) (n:=3) rfl rfl (zr1 (pgn 4 nd) (zr1 (pgn 5 nd) (zr1 (pgn 6 nd) zva)))) (zk0 (zn4 (zt0 (zg2 (K:=K) rfl (Room.units hr)) (zq0 (zr0 (K:=K) rfl) (pv 4) (pix w K hr (pix w K hr (pv 0) (pv 5)) zf0)) (pv 3) (zf1 _)) (zk0 (zp9 (zq0 (zr0 (K:=K) rfl) (pix w K hr (pv 2) (pix w K hr (pix w K hr (pv 0) (pv 5)) zf0)) (pv 6)) (ztc (pv 2) (pix w K hr (pix w K hr (pv 0) (pv 5)) zf0) (zkl (Room.units hr))))) zc1)))),(zsh (zfw (zi0 1)) (zvk (zx1 (rgn 4) (zx1 (rgn 5) (zx1 (rgn 6) zdd)))) (zo6 (zs0 (zu1 q_eq (RfV.h (RfE.v (zj0 zo2 (zb0 4) (RfE.v (zj0 r_ix (RfE.v (zj0 r_ix (zb0 0) (zb0 5))) rvi))))) (RfV.h (zb0 3)))) (zrc (zj0 zo2 (RfE.v (zj0 r_ix (zb0 2) (RfE.v (zj0 r_ix (RfE.v (zj0 r_ix (zb0 0) (zb0 5))) rvi)))) (zb0 6)) (zx0 2) (zj0 r_ix (RfE.v (zj0 r_ix (zb0 0) (zb0 5))) rvi)) zb1)),?_⟩
 rintro as Qd a ⟨ps,L,held,now,rfl,hl,hp,q⟩
 walk_at "ds"
 walk_at "dd"
 refine zh5 (λ i δ=>∃ (s4 s5 s6:Sl),δ=[.sh (.list (ps.map Pi.d)),.sh (.list (L.map Lz.d)),.io a (.li ((znf ps now (L.take i) held).map .int)),.sh (.int (now:Int)),s4,s5,s6]) ⟨.un,.un,.un,rfl⟩ ?_ ?_
 ·rintro i l δ hi ⟨s4,s5,s6,rfl⟩
  have ln:=zaa ps now (L.take i) held
  obtain ⟨l0,l1,l2⟩:=hl l (List.mem_of_getElem? hi)
  rw [zjg hi l0]
  generalize znf ps now (L.take i) held=h at ln ⊢
  obtain ⟨t,at_,am⟩:=l
  obtain ⟨j,rfl⟩:=Int.eq_ofNat_of_zero_le l1
  have hj:j < ps.length:=by
   have:((j:Nat):Int) < _:=l2
   lia
  dsimp only [Int.toNat_natCast]
  rw [show Lz.d ⟨t,(j:Int),am⟩=.tuple [.int t,.int (j:Int),.int am] from rfl]
  walk_at "dd"
  obtain ⟨p,hpl⟩:∃ p,ps[j]?=some p:=⟨_,List.getElem?_eq_getElem hj⟩
  have hpp:=hp p (List.mem_of_getElem? hpl)
  have gp:atI (ps.map Pi.d) ((j:Nat):Int)=some (.tuple [.int (p.u:Int),.int (p.v:Int),.int (p.len:Int),.int p.pr,p.g.d]):=zi2 (by lia) (by rw [Int.toNat_natCast,List.getElem?_map,hpl];rfl)
  have epl:pl ps j=p.len:=by unfold pl;rw [hpl];rfl
  have egl:zuh ps j=p.v:=by unfold zuh;rw [hpl];rfl
  simp only [epl,egl]
  refine ⟨_,gp,?_⟩
  walk_at "dd"
  refine ⟨_,rfl,?_⟩
  walk_at "dd"
  refine two (λ y=>?_) λ y=>⟨_,_,_,by rw [if_neg y]⟩
  refine ⟨_,gp,?_⟩
  walk_at "dd"
  refine ⟨_,rfl,?_⟩
  walk_at "dd"
  have hv:p.v < h.length:=by lia
  refine ⟨_,zi2 (by lia) (by rw [Int.toNat_natCast,List.getElem?_map,List.getElem?_eq_getElem hv];rfl),?_⟩
  walk_at "dd"
  refine ⟨_,gp,?_⟩
  walk_at "dd"
  refine ⟨_,rfl,?_⟩
  walk_at "dd"
  refine ⟨p.v,zk7 (by rw [List.length_map];exact hv),.sh (.int t),.sh (.int (j:Int)),.sh (.int am),?_⟩
  rw [if_pos y]
  unfold inc
  rw [List.map_set,List.getD_eq_getElem?_getD,List.getElem?_eq_getElem hv]
  rfl
 ·rintro δ ⟨s4,s5,s6,rfl⟩
  rw [List.take_length]
  exact ⟨_,rfl,q⟩
end
def zi01:Option Nat->Int
|none=>-1
|some c=>(c:Int)
def zo7:DSp:=λ ds Q=>∃ (vs:List Va) (held:List Int),ds=[.list (vs.map Va.d),.list (held.map .int)]/\vs.length<=12/\held.length=vs.length/\Q (.bool (decide (over (vs.map Va.room) held≠[])))
def zi9:DSp:=λ ds Q=>∃ (ps:List Pi) (held left:List Int) (k am:Int),ds=[.list (ps.map Pi.d),.list (held.map .int),.list (left.map .int),.int k,.int am]/\left.length=ps.length/\(∀ p∈ps,p.u < held.length) /\
 Q (.int (if dueF ps.length k am (left.getD k.toNat 0) (held.getD (zh2 ps k.toNat) 0)=4 then -1 else (dueF ps.length k am (left.getD k.toNat 0) (held.getD (zh2 ps k.toNat) 0):Int)))
def ovF (rooms row:List Int):List D:=(List.range rooms.length).filterMap λ k=>if rooms.getD k 0 < row.getD k 0 then some (.int (k:Int)) else none
theorem zew {rooms row:List Int} (hl:rooms.length=row.length):(ovF rooms row).isEmpty=true ↔ over rooms row=[]:=by
 rw [List.isEmpty_iff,zxu hl]
 unfold ovF
 rw [List.filterMap_eq_nil_iff]
 constructor
 ·intro h i r y h1 h2
  have hi:=(List.getElem?_eq_some_iff.mp h1).1
  have:=h i (List.mem_range.mpr hi)
  rw [List.getD_eq_getElem?_getD,List.getD_eq_getElem?_getD,h1,h2] at this
  rcases Int.lt_or_le r y with z|z
  ·rw [if_pos (by exact z)] at this;cases this
  ·exact z
 ·intro h i hi
  have hi:=List.mem_range.mp hi
  have:=h i _ _ (List.getElem?_eq_getElem hi) (List.getElem?_eq_getElem (by lia))
  rw [List.getD_eq_getElem?_getD,List.getD_eq_getElem?_getD,List.getElem?_eq_getElem hi,List.getElem?_eq_getElem (show i < row.length by lia)]
  exact if_neg (Int.not_lt.mpr this)
section
variable {P:Program} {w:World} {K:Fg} {mg:Str->Option Value} {base:Heap}
theorem zv4:FnScope ["vats", "held"] ["vats", "held"] (zh0 zt2):=by walk_at "sc"
theorem zka (M:Md K mg) (T:TopDef K "_law_too_full" zt2) (jT:mg "len"=none) (jS:mg "range"=none):Def P w K mg base "_law_too_full" 1 ["vats", "held"] (spD K zo7):=by
 refine zs3 M T zv4 (λ _ _ _ _ _ _ us hl=>by obtain ⟨_,_,rfl⟩:=ar2 hl;rfl) (zth λ ds Qd h=>by obtain ⟨_,_,rfl,_⟩:=h;rfl) (zz5 ?_)
 intro f cdv A outer s H E hr
 have nd:=zv4.nd
 refine ⟨_,_,(zk0 (zi1 (zjd (zrh (K:=K) rfl (Room.units hr)) (zn3 (sc:=zh0 zt2) (N:=["vats", "held"]) (own:=["k"]) (ix:=[1,0]) rfl rfl rfl (by walk_at "csc") (zz1 rfl jS (za0 (zv0 (zg1 (K:=K) rfl) rfl jT zv3 (za0 (pv 0) zg0)) zg0)) (λ _ _ _ _=>⟨(pgn 0 (nds ["k", "held", "vats"])),(zfd (zt0 zoo (pix w K hr (pv 1) (pv 0)) (pix w K hr (pix w K hr (pv 2) (pv 0)) zf0) (zf1 _))),(pv 0)⟩)) (zn1 zg0) (zf1 _)))),(zj1 (RfE.c (zu1 q_ne (RfV.h (RfE.v (RfF.e (zk2 (RfI.j (zs4 (zc0 (zw7 zxc (zu0 (zb0 0) zo1)) zl0))) (zw1 (i:=0) (n:=1) (by decide)) (zs0 (zj0 r_gt (RfE.v (zj0 r_ix (zb0 1) (zb0 0))) (RfE.v (zj0 r_ix (RfE.v (zj0 r_ix (zb0 2) (zb0 0))) rvi)))) (zi0 0))))) (zlm zhl)))),?_⟩
 rintro ds Qd ⟨vs,R,rfl,h12,hrl,q⟩
 walk_at "ds"
 walk_at "dd"
 rw [List.length_map,Int.toNat_natCast]
 unfold rngD
 refine ⟨by lia,by lia,zmv (λ k=>if (vs.map Va.room).getD k 0 < R.getD k 0 then some (.int (k:Int)) else none) (by rw [sizeLine_eq,List.length_range];lia) (λ k hk=>?_) ?_⟩
 ·simp at hk
  rw [show (0:Int)+(k:Int)=(k:Int) by lia]
  obtain ⟨v,hv⟩:∃ v,vs[k]?=some v:=⟨_,List.getElem?_eq_getElem hk⟩
  have gv:atI (vs.map Va.d) ((k:Nat):Int)=some (.tuple [.str v.nm,.int v.room,.int v.fill]):=zi2 (by lia) (by rw [Int.toNat_natCast,List.getElem?_map,hv];rfl)
  have gk:atI (R.map PyData.int) ((k:Nat):Int)=some (.int (R.getD k 0)):=zi2 (by lia) (by rw [Int.toNat_natCast,List.getElem?_map,List.getD_eq_getElem?_getD,List.getElem?_eq_getElem (by lia)];rfl)
  have er:(vs.map Va.room).getD k 0=v.room:=by rw [List.getD_eq_getElem?_getD,List.getElem?_map,hv];rfl
  rw [er]
  walk_at "cs"
  walk_at "dd"
  refine ⟨_,gk,?_⟩
  try walk_at "dd"
  refine ⟨_,gv,?_⟩
  walk_at "dd"
  refine ⟨_,rfl,?_⟩
  walk_at "dd"
  exact two (λ z=>by rw [if_pos z]) λ z=>by rw [if_neg z]
 have eo:(List.range vs.length).filterMap (λ k=>if (vs.map Va.room).getD k 0 < R.getD k 0 then some (PyData.int (k:Int)) else none)=ovF (vs.map Va.room) R:=by unfold ovF;rw [List.length_map]
 rw [eo,zqk]
 have on:=zew (rooms:=vs.map Va.room) (row:=R) (by rw [List.length_map];lia)
 have fo:Fit 1 (.list (ovF (vs.map Va.room) R)):=Fit.lst λ d hd=>by
  obtain ⟨k,_,hk⟩:=List.mem_filterMap.mp hd
  split at hk
  ·cases hk;exact Fit.int _
  ·cases hk
 refine ⟨fo.shaped (by decide),rfl,?_⟩
 have e:(!(ovF (vs.map Va.room) R).isEmpty)=decide (over (vs.map Va.room) R≠[]):=by
  by_cases z:over (vs.map Va.room) R=[]
  ·rw [on.mpr z];simp [z]
  ·have:(ovF (vs.map Va.room) R).isEmpty=false:=by
    cases y:(ovF (vs.map Va.room) R).isEmpty with
   |true=>exact absurd (on.mp y) z
   |false=>rfl
   rw [this];simp [z]
 rw [e]
 exact q
theorem zl6:FnScope ["pipes", "held", "left", "at", "amount"] ["pipes", "held", "left", "at", "amount"] (zh0 zf4):=by walk_at "sc"
theorem zec (M:Md K mg) (T:TopDef K "_law_let_due" zf4) (uY:mg "int"=none) (jT:mg "len"=none):Def P w K mg base "_law_let_due" 1 ["pipes", "held", "left", "at", "amount"] (spD K zi9):=by
 refine zs3 M T zl6 (λ _ _ _ _ _ _ us hl=>by obtain ⟨_,_,_,_,_,rfl⟩:=ar5 hl;rfl) (zth λ ds Qd h=>by obtain ⟨_,_,_,_,_,rfl,_⟩:=h;rfl) (zz5 ?_)
 intro f cdv A outer s H E hr
 have nd:=zl6.nd
 refine ⟨_,_,(zd0 (zn4 (PW.pt (zxz (zt0 ztt (pv 3) zf0 (zf1 _)) (zrp (zt0 zg01 (pv 3) (zv0 (zg1 (K:=K) rfl) rfl jT zv3 (za0 (pv 0) zg0)) (zf1 _))))) (zk0 (zi1 zf0)) zc1)
   (zd0 (zn4 (zt0 ztt (pv 4) zf0 (zf1 _)) (zk0 (zi1 zf0)) zc1)
   (zd0 (zn4 (zt0 zoo (pv 4) (pix w K hr (pv 2) (pv 3)) (zf1 _)) (zk0 (zi1 zf0)) zc1)
   (zk0 (zi1 (pix w K hr (zn1 (za0 (za21 zaq zf0) (za0 zf0 zg0))) (zq2 zse rfl uY zhu (za0 (zjd zoo (pv 4) (pix w K hr (pv 1) (pix w K hr (pix w K hr (pv 0) (pv 3)) zf0)) (zf1 _)) zg0)))))))),(zm0 (zo6 (zqy (zs0 (zj0 r_lt (zb0 3) rvi)) (zs0 (zj0 r_ge (zb0 3) (RfE.v (zw7 zxc (zu0 (zb0 0) zo1)))))) (zj1 (RfE.c zd1)) zb1)
   (zm0 (zo6 (zs0 (zj0 r_lt (zb0 4) rvi)) (zj1 (RfE.c zd1)) zb1)
   (zm0 (zo6 (zs0 (zj0 r_gt (zb0 4) (RfE.v (zj0 r_ix (zb0 2) (zb0 3))))) (zj1 (RfE.c zd1)) zb1)
   (zj1 (RfE.c (zj0 r_ix (RfE.v (RfF.e (zk3 (zc0 (zsp zd1) (zc0 zd1 zl0))))) (RfE.v (zw7 zg31 (zu0 (RfE.v (zj0 r_gt (zb0 4) (RfE.v (zj0 r_ix (zb0 1) (RfE.v (zj0 r_ix (RfE.v (zj0 r_ix (zb0 0) (zb0 3))) rvi)))))) zo1))))))))),?_⟩
 rintro ds Qd ⟨ps,held,left,k,am,rfl,hll,hu,q⟩
 have qd:∀ c:Nat,dueF ps.length k am (left.getD k.toNat 0) (held.getD (zh2 ps k.toNat) 0)=c->c≠4->Qd (.int (c:Int)):=λ c e h=>by
  rw [e,if_neg h] at q;exact q
 have q4:dueF ps.length k am (left.getD k.toNat 0) (held.getD (zh2 ps k.toNat) 0)=4->Qd (.int (-1)):=λ e=>by
  rw [if_pos e] at q;exact q
 clear q
 walk_at "ds"
 refine ze0 λ J hJ=>?_
 walk_at "dd"
 rw [List.length_map]
 refine two (λ z=>qd 0 (if_pos (.inl z)) (by decide)) λ z1=>two (λ z=>qd 0 (if_pos (.inr z)) (by decide)) λ z2=>hJ _ ?_
 clear hJ
 unfold dueF at qd q4
 rw [if_neg (λ z=>z.elim z1 z2)] at qd q4
 obtain ⟨j,rfl⟩:=Int.eq_ofNat_of_zero_le (show 0<=k by lia)
 rw [Int.toNat_natCast] at qd q4
 have hj:j < ps.length:=by lia
 obtain ⟨p,hp⟩:∃ p,ps[j]?=some p:=⟨_,List.getElem?_eq_getElem hj⟩
 have es:zh2 ps j=p.u:=by unfold zh2;rw [hp];rfl
 have gp:atI (ps.map Pi.d) ((j:Nat):Int)=some (.tuple [.int (p.u:Int),.int (p.v:Int),.int (p.len:Int),.int p.pr,p.g.d]):=zi2 (by lia) (by rw [Int.toNat_natCast,List.getElem?_map,hp];rfl)
 have ga:∀ (h:List Int) (v:Nat),v < h.length->atI (h.map PyData.int) ((v:Nat):Int)=some (.int (h.getD v 0)):=λ h v hv=>zi2 (by lia) (by rw [Int.toNat_natCast,List.getElem?_map,List.getD_eq_getElem?_getD,List.getElem?_eq_getElem hv];rfl)
 rw [es] at qd q4
 refine ze0 λ J hJ=>?_
 walk_at "dd"
 refine two (λ z=>qd 1 (if_pos z) (by decide)) λ z3=>hJ _ ?_
 clear hJ
 rw [if_neg z3] at qd q4
 refine ze0 λ J hJ=>?_
 walk_at "dd"
 refine ⟨_,ga left j (by lia),?_⟩
 walk_at "dd"
 refine two (λ z=>qd 2 (if_pos z) (by decide)) λ z4=>hJ _ ?_
 clear hJ
 rw [if_neg z4] at qd q4
 walk_at "dd"
 refine ⟨_,gp,?_⟩
 walk_at "dd"
 refine ⟨_,rfl,?_⟩
 walk_at "dd"
 refine ⟨_,ga held p.u (hu p (List.mem_of_getElem? hp)),?_⟩
 walk_at "dd"
 by_cases z:held.getD p.u 0 < am
 ·rw [if_pos z]
  exact ⟨_,rfl,qd 3 (if_pos z) (by decide)⟩
 ·rw [if_neg z]
  exact ⟨_,rfl,q4 (if_neg z)⟩
end
def zge:DSp:=λ ds Q=>∃ (vs:List Va) (ps:List Pi) (plan:List Lz) (n:Nat),ds=[.list (vs.map Va.d),.list (ps.map Pi.d),.list (plan.map Lz.d),.int (n:Int)]/\vs.length<=12/\ps.length<=24/\n<=1000/\plan.length<=1000/\(∀ p∈ps,p.u < vs.length/\p.v < vs.length/\p.g.ok)/\Q (.int (zi01 (resP (vs.map Va.room) ps plan n (vs.map Va.fill))))
theorem zkq (plan:List Lz):Fit 2 (.list (plan.map Lz.d)):=zfk λ l _=>Fit.tup λ e he=>by
 simp at he
 rcases he with rfl|rfl|rfl <;> exact Fit.int _
theorem zhb (p:Lz->Prop) [DecidablePred p]:∀ plan:List Lz,plan.filterMap (λ l=>if p l then some (Lz.d l) else none)=(plan.filter λ l=>decide (p l)).map Lz.d
|[]=>rfl
|l :: r=>by
  by_cases z:p l
  ·rw [List.filterMap_cons,if_pos z,List.filter_cons_of_pos (by simpa using z),List.map_cons,<- zhb p r]
  ·rw [List.filterMap_cons,if_neg z,List.filter_cons_of_neg (by simpa using z),<- zhb p r]
section
variable {P:Program} {w:World} {K:Fg} {mg:Str->Option Value} {base:Heap}
theorem zud:FnScope ["vats", "pipes", "plan", "until", "held", "now", "left", "moment", "at", "amount", "due"] ["vats", "pipes", "plan", "until"] (zh0 zh3):=by walk_at "sc"
theorem zml (M:Md K mg) (T:TopDef K "_law_due" zh3) (uY:mg "int"=none) (jS:mg "range"=none) (jV:Def P w K mg base "_law_width" 1 ["gate", "now"] (spD K zd3)) (qO:Def P w K mg base "_law_come" 1 ["pipes", "lets", "held", "now"] (spT K ztd)) (kZ:Def P w K mg base "_law_too_full" 1 ["vats", "held"] (spD K zo7)) (qX:Def P w K mg base "_law_let_due" 1 ["pipes", "held", "left", "at", "amount"] (spD K zi9)):Def P w K mg base "_law_due" 2 ["vats", "pipes", "plan", "until"] (spD K zge):=by
 refine zs3 M T zud (λ _ _ _ _ _ _ us hl=>by obtain ⟨_,_,_,_,rfl⟩:=ar4 hl;rfl) (zth λ ds Qd h=>by obtain ⟨_,_,_,_,rfl,_⟩:=h;rfl) (zz5 ?_)
 intro f cdv A outer s H E hr
 have nd:=zud.nd
 refine ⟨_,_,(zd0 (zn4 (zt0 (zrh (K:=K) rfl (Room.units hr)) (zn3 (sc:=zh0 zh3) (N:=["vats", "pipes", "plan", "until", "held", "now", "left", "moment", "at", "amount", "due"]) (own:=["one"]) (ix:=[3]) rfl rfl rfl (by walk_at "csc") (pi_W (K:=K) rfl (pv 2)) (λ _ _ _ _=>⟨(pgn 0 (nds ["one", "until"])),(zfd (PW.pt (zxz (zt0 ztt (pix w K hr (pv 0) zf0) zf0 (zf1 _)) (zrp (zt0 zg01 (pix w K hr (pv 0) zf0) (pv 1) (zf1 _)))))),(pv 0)⟩)) (zn1 zg0) (zf1 _)) (zk0 (zi1 zf0)) zc1)
   (zd0 (zb4 (i:=4) (sc:=zh0 zh3) (N:=["vats", "pipes", "plan", "until", "held", "now", "left", "moment", "at", "amount", "due"]) (own:=["vat"]) (ix:=[]) rfl rfl rfl (by walk_at "csc") nd rfl rfl (pi_W (K:=K) rfl (pv 0)) (λ _ _ _ _=>⟨(pgn 0 (nds ["vat"])),zm3,(pix w K hr (pv 0) zf0)⟩))
   (zd0 (zs9 PassesOwn.never rfl (zz1 rfl jS (za0 (pv 3) zg0)) (pgn 5 nd) (zd0 (zb4 (i:=6) (sc:=zh0 zh3) (N:=["vats", "pipes", "plan", "until", "held", "now", "left", "moment", "at", "amount", "due"]) (own:=["pipe"]) (ix:=[5]) rfl rfl rfl (by walk_at "csc") nd rfl rfl (pi_W (K:=K) rfl (pv 1)) (λ _ _ _ _=>⟨(pgn 0 (nds ["pipe", "now"])),zm3,(zo0 jV (rmn hr) rfl (za0 (pix w K hr (pv 0) zf0) (za0 (pv 1) zg0)))⟩))
   (zd0 (zs9 PassesOwn.never rfl (pi_W (K:=K) rfl (pv 2)) (zsa (K:=K) (n:=3) rfl rfl (zr1 (pgn 7 nd) (zr1 (pgn 8 nd) (zr1 (pgn 9 nd) zva)))) (zk0 (zn4 (zt0 (zg2 (K:=K) rfl (Room.units hr)) (pv 7) (pv 5) (zf1 _)) (zd0 (pset 10 nd (zo0 qX (rmn hr) rfl (za0 (pv 1) (za0 (pv 4) (za0 (pv 6) (za0 (pv 8) (za0 (pv 9) zg0)))))))
   (zd0 (zn4 (zt0 zg01 (pv 10) zf0 (zf1 _)) (zk0 (zi1 (pv 10))) zc1)
   (zd0 (zp9 (zq0 zib (pix w K hr (pv 4) (pix w K hr (pix w K hr (pv 1) (pv 8)) zf0)) (pv 9)) (ztc (pv 4) (pix w K hr (pix w K hr (pv 1) (pv 8)) zf0) (zkl (Room.units hr))))
   (zk0 (zp9 (zq0 zib (pix w K hr (pv 6) (pv 8)) (pv 9)) (ztc (pv 6) (pv 8) (zkl (Room.units hr)))))))) zc1)))
   (zd0 (zn4 (zxr (K:=K) rfl (zo0 kZ (rmn hr) rfl (za0 (pv 0) (za0 (pv 4) zg0))) (λ _=>rfl)) (zk0 (zi1 zf0)) zc1)
   (zk0 (za5 (zo0 qO (rmn hr) rfl (za0 (pv 1) (za0 (zn3 (sc:=zh0 zh3) (N:=["vats", "pipes", "plan", "until", "held", "now", "left", "moment", "at", "amount", "due"]) (own:=["one"]) (ix:=[5]) rfl rfl rfl (by walk_at "csc") (pi_W (K:=K) rfl (pv 2)) (λ _ _ _ _=>⟨(pgn 0 (nds ["one", "now"])),(zfd (zt0 zt61 (pix w K hr (pv 0) zf0) (pv 1) (zf1 _))),(pv 0)⟩)) (za0 (pv 4) (za0 (zq0 (zr0 (K:=K) rfl) (pv 5) zf0) zg0)))))))))))
   (zk0 (zi1 (pix w K hr (zn1 (za0 (za21 zaq zf0) (za0 zf0 zg0))) (zq2 zse rfl uY zhu (za0 (zo0 kZ (rmn hr) rfl (za0 (pv 0) (za0 (pv 4) zg0))) zg0)))))))),(zm0 (zo6 (zs0 (zu1 q_ne (RfV.h (RfE.v (RfF.e (zk2 (znn (zb0 2)) (zw1 (i:=0) (n:=1) (by decide)) (zqy (zs0 (zj0 r_lt (RfE.v (zj0 r_ix (zb0 0) rvi)) rvi)) (zs0 (zj0 r_ge (RfE.v (zj0 r_ix (zb0 0) rvi)) (zb0 1)))) (zi0 0))))) (zlm zhl))) (zj1 (RfE.c zd1)) zb1)
   (zm0 (zr7 (RfF.c (zk2 (znn (zb0 0)) (zw1 (i:=0) (n:=1) (by decide)) zk4 (zj0 r_ix (zb0 0) rvi))))
   (zm0 (zsh (zs4 (zc0 (zi0 3) zl0)) (rgn 5) (zm0 (zr7 (RfF.c (zk2 (znn (zb0 1)) (zw1 (i:=0) (n:=1) (by decide)) zk4 (zy0 (zc0 (zj0 r_ix (zb0 0) rvi) (zc0 (zi0 1) zl0))))))
   (zm0 (zsh (zfw (zi0 2)) (zvk (zx1 (rgn 7) (zx1 (rgn 8) (zx1 (rgn 9) zdd)))) (zo6 (zs0 (zu1 q_eq (RfV.h (zb0 7)) (RfV.h (zb0 5)))) (zm0 (za1 (zgf (zu0 (zb0 1) (zu0 (zb0 4) (zu0 (zb0 6) (zu0 (zb0 8) (zu0 (zb0 9) zo1)))))) (rgn 10))
   (zm0 (zo6 (zs0 (zj0 r_ge (zb0 10) rvi)) (zj1 (RfE.c (zi0 10))) zb1)
   (zm0 (zrc (zj0 zsn (RfE.v (zj0 r_ix (zb0 4) (RfE.v (zj0 r_ix (RfE.v (zj0 r_ix (zb0 1) (zb0 8))) rvi)))) (zb0 9)) (zx0 4) (zj0 r_ix (RfE.v (zj0 r_ix (zb0 1) (zb0 8))) rvi))
   (zrc (zj0 zsn (RfE.v (zj0 r_ix (zb0 6) (zb0 8))) (zb0 9)) (zx0 6) (zi0 8))))) zb1))
   (zm0 (zo6 (zix (RfE.v (zgf (zu0 (zb0 0) (zu0 (zb0 4) zo1))))) (zj1 (RfE.c zd1)) zb1)
   (zug (zhm (at_d (zi0 1) (at_d (RfF.e (zk2 (znn (zb0 2)) (zw1 (i:=0) (n:=1) (by decide)) (zs0 (zj0 r_le (RfE.v (zj0 r_ix (zb0 0) rvi)) (zb0 1))) (zi0 0))) (at_o (zx0 4) (at_d (zj0 zo2 (zb0 5) rvi) zu4))))))))))
   (zj1 (RfE.c (zj0 r_ix (RfE.v (RfF.e (zk3 (zc0 (zsp zd1) (zc0 zd1 zl0))))) (RfE.v (zw7 zg31 (zu0 (RfE.v (zgf (zu0 (zb0 0) (zu0 (zb0 4) zo1)))) zo1))))))))),?_⟩
 rintro ds Qd ⟨vs,ps,plan,n,rfl,h12,h24,hn,hpl,hp,q⟩
 walk_at "ds"
 refine ze0 λ J hJ=>?_
 walk_at "dd"
 refine zmv (λ l:Lz=>if l.t < 0 \/ (n:Int)<=l.t then some (Lz.d l) else none) (by rw [sizeLine_eq];lia) (λ l _=>?_) ?_
 ·walk_at "cs"
  rw [show Lz.d l=.tuple [.int l.t,.int l.at_,.int l.am] from rfl]
  walk_at "dd"
  refine ⟨_,rfl,?_⟩
  walk_at "dd"
  refine two (λ z=>by rw [if_pos (.inl z)]) λ z1=>?_
  try walk_at "dd"
  refine ⟨_,rfl,?_⟩
  try walk_at "dd"
  exact two (λ z=>by rw [if_pos (.inr z)]) λ z2=>by rw [if_neg (λ z=>z.elim z1 z2)]
 rw [zhb,zqk]
 have eem:((plan.filter λ l=>decide (l.t < 0 \/ (n:Int)<=l.t)).map Lz.d).isEmpty=!(plan.any λ l=>decide (l.t < 0 \/ (n:Int)<=l.t)):=by
  rw [List.isEmpty_map]
  cases h:(plan.any λ l=>decide (l.t < 0 \/ (n:Int)<=l.t)) with
 |true =>
   obtain ⟨l,h1,h2⟩:=List.any_eq_true.mp h
   cases e:(plan.filter λ l=>decide (l.t < 0 \/ (n:Int)<=l.t)) with
  |nil=>have:l∈(plan.filter λ l=>decide (l.t < 0 \/ (n:Int)<=l.t)):=List.mem_filter.mpr ⟨h1,h2⟩;rw [e] at this;simp at this
  |cons _ _=>rfl
 |false =>
   rw [List.filter_eq_nil_iff.mpr λ l hl z=>?_]
   ·rfl
   ·rw [List.any_eq_false] at h;exact h l hl z
 rw [eem]
 refine ⟨((zkq _).shaped (by decide)),rfl,?_⟩
 by_cases hany:(plan.any λ l=>decide (l.t < 0 \/ (n:Int)<=l.t))=true
 ·rw [hany]
  have:resP (vs.map Va.room) ps plan n (vs.map Va.fill)=some 5:=if_pos hany
  rw [this] at q
  rw [if_pos (by decide)]
  exact q
 have eR:resP (vs.map Va.room) ps plan n (vs.map Va.fill)=resA (vs.map Va.room) ps plan n 0 (vs.map Va.fill):=if_neg hany
 rw [eR] at q
 have hany:(plan.any λ l=>decide (l.t < 0 \/ (n:Int)<=l.t))=false:=by
  cases h:(plan.any λ l=>decide (l.t < 0 \/ (n:Int)<=l.t)) with
 |true=>exact absurd h hany
 |false=>rfl
 have h0:∀ l∈plan,0<=l.t/\l.t < (n:Int):=λ l hl=>by
  rw [List.any_eq_false] at hany
  have:=hany l hl
  simp at this
  lia
 rw [hany,if_neg (by decide)]
 refine hJ _ ?_
 clear hJ eem
 generalize hR:resA (vs.map Va.room) ps plan n 0 (vs.map Va.fill)=R at q
 refine ze0 λ J hJ=>?_
 walk_at "dd"
 refine zhp (λ v=>.int v.fill) (by rw [sizeLine_eq];lia) (λ v _=>?_) ?_
 ·unfold Va.d
  walk_at "cs"
  walk_at "dd"
  exact ⟨_,rfl,rfl⟩
 rw [show (vs.map λ v=>PyData.int v.fill)=(vs.map Va.fill).map .int by rw [List.map_map];rfl]
 refine hJ _ ?_
 clear hJ
 refine ze0 λ J hJ=>?_
 walk_at "dd"
 rw [Int.toNat_natCast]
 unfold rngD
 have ga:∀ (h:List Int) (v:Nat),v < h.length->atI (h.map PyData.int) ((v:Nat):Int)=some (.int (h.getD v 0)):=λ h v hv=>zi2 (by lia) (by rw [Int.toNat_natCast,List.getElem?_map,List.getD_eq_getElem?_getD,List.getElem?_eq_getElem hv];rfl)
 refine ⟨by lia,by lia,zh5 (λ i δ=>∃ (held:List Int) (s5 s6 s7 s8 s9 s10:Sl),held.length=vs.length/\(∀ l∈plan,l.t < (i:Int)->0<=l.at_/\l.at_ < (ps.length:Int))/\resA (vs.map Va.room) ps plan (n - i) i held=R/\δ=[.sh (.list (vs.map Va.d)),.sh (.list (ps.map Pi.d)),.sh (.list (plan.map Lz.d)),.sh (.int (n:Int)),.ow (.li (held.map .int)),s5,s6,s7,s8,s9,s10])
  ⟨vs.map Va.fill,.un,.un,.un,.un,.un,.un,by simp,λ l hl y=>by have:=h0 l hl;lia,hR,rfl⟩ ?_ ?_⟩
 ·rintro i m δ hm ⟨held,s5,s6,s7,s8,s9,s10,hhl,hva,run,rfl⟩
  obtain ⟨hi,hi2⟩:=List.getElem?_eq_some_iff.mp hm
  simp at hi hi2
  subst hi2
  rw [show (0:Int)+(i:Int)=(i:Int) by lia]
  rw [show n - i=(n - (i+1))+1 by lia] at run
  walk_at "dd"
  refine ze0 λ J hJ=>?_
  walk_at "dd"
  refine zhp (λ p=>.int (p.g.at i)) (by rw [sizeLine_eq];lia) (λ p hpp=>?_) ?_
  ·unfold Pi.d
   walk_at "cs"
   walk_at "dd"
   exact ⟨_,rfl,p.g,i,rfl,(hp p hpp).2.2,rfl⟩
  rw [show (ps.map λ p=>PyData.int (p.g.at i))=(ps.map λ p=>p.g.at i).map .int by rw [List.map_map];rfl]
  refine hJ _ ?_
  clear hJ
  refine ze0 λ J hJ=>?_
  walk_at "dd"
  refine zh5 (λ j δ=>∃ (held f:List Int) (s7 s8 s9 s10:Sl),held.length=vs.length/\f.length=ps.length/\(∀ l∈plan.take j,l.t=(i:Int)->0<=l.at_/\l.at_ < (ps.length:Int))/\zyv ps (byZ (plan.drop j) i) held f (λ h'=>if over (vs.map Va.room) h'=[] then resA (vs.map Va.room) ps plan (n - (i+1)) (i+1) (znf ps (i+1) (plan.filter λ l=>decide (l.t<=(i:Int))) h') else some 4)=R/\δ=[.sh (.list (vs.map Va.d)),.sh (.list (ps.map Pi.d)),.sh (.list (plan.map Lz.d)),.sh (.int (n:Int)),.ow (.li (held.map .int)),.sh (.int (i:Int)),.ow (.li (f.map .int)),s7,s8,s9,s10])
   ⟨held,List.map (λ p:Pi=>p.g.at i) ps,s7,s8,s9,s10,hhl,by simp,λ l hl=>by simp at hl,run,rfl⟩ ?_ ?_
  ·rintro j l δ hj ⟨held,f,s7,s8,s9,s10,hhl,hfl,hvj,run,rfl⟩
   rw [show Lz.d l=.tuple [.int l.t,.int l.at_,.int l.am] from rfl]
   rw [zzr hj] at run
   walk_at "dd"
   refine two (λ y=>?_) λ y=>?_
   ·have eb:byZ (l :: plan.drop (j+1)) i=l :: byZ (plan.drop (j+1)) i:=by unfold byZ;rw [List.filter_cons_of_pos (by simpa using y)]
    rw [eb] at run
    have run:(if dueF ps.length l.at_ l.am (f.getD l.at_.toNat 0) (held.getD (zh2 ps l.at_.toNat) 0)=4 then _ else some (dueF ps.length l.at_ l.am (f.getD l.at_.toNat 0) (held.getD (zh2 ps l.at_.toNat) 0)))=R:=run
    refine ze0 λ J hJ=>?_
    walk_at "dd"
    refine ⟨ps,held,f,l.at_,l.am,rfl,hfl,λ p hpp=>by rw [hhl];exact (hp p hpp).1,rfl,hJ _ ?_⟩
    clear hJ
    by_cases z:dueF ps.length l.at_ l.am (f.getD l.at_.toNat 0) (held.getD (zh2 ps l.at_.toNat) 0)=4
    ·rw [if_pos z] at run ⊢
     obtain ⟨g1,g2,g3,g4,g5⟩:=due4 z
     obtain ⟨t,at_,am⟩:=l
     obtain ⟨k,rfl⟩:=Int.eq_ofNat_of_zero_le g1
     have hk:k < ps.length:=by
      have:((k:Nat):Int) < _:=g2
      lia
     dsimp only [Int.toNat_natCast] at run g3 g4 g5 y ⊢
     obtain ⟨p,hpk⟩:∃ p,ps[k]?=some p:=⟨_,List.getElem?_eq_getElem hk⟩
     have hpp:=hp p (List.mem_of_getElem? hpk)
     have es:zh2 ps k=p.u:=by unfold zh2;rw [hpk];rfl
     have gp:atI (ps.map Pi.d) ((k:Nat):Int)=some (.tuple [.int (p.u:Int),.int (p.v:Int),.int (p.len:Int),.int p.pr,p.g.d]):=zi2 (by lia) (by rw [Int.toNat_natCast,List.getElem?_map,hpk];rfl)
     rw [es] at run
     refine ze0 λ J hJ=>?_
     walk_at "dd"
     refine hJ _ ?_
     clear hJ
     refine ze0 λ J hJ=>?_
     walk_at "dd"
     refine ⟨_,gp,?_⟩
     walk_at "dd"
     refine ⟨_,rfl,?_⟩
     walk_at "dd"
     refine ⟨_,ga held p.u (by rw [hhl];exact hpp.1),?_⟩
     walk_at "dd"
     refine ⟨_,gp,?_⟩
     walk_at "dd"
     refine ⟨_,rfl,?_⟩
     walk_at "dd"
     refine ⟨p.u,zk7 (by rw [List.length_map,hhl];exact hpp.1),?_⟩
     rw [<- List.map_set]
     refine hJ _ ?_
     clear hJ
     walk_at "dd"
     refine ⟨_,ga f k (by lia),?_⟩
     walk_at "dd"
     refine ⟨k,zk7 (by rw [List.length_map];lia),held.set p.u (held.getD p.u 0 - am),f.set k (f.getD k 0 - am),.sh (.int t),.sh (.int (k:Int)),.sh (.int am),.sh (.int (-1)),by rw [List.length_set];exact hhl,by rw [List.length_set];exact hfl,λ l' hl' e=>?_,run,?_⟩
     ·rw [zbh hj] at hl'
      rcases List.mem_append.mp hl' with z|z
      ·exact hvj l' z e
      ·simp at z;subst z;exact ⟨g1,g2⟩
     ·rw [List.map_set,List.map_set]
    ·rw [if_neg z] at run ⊢
     refine ze0 λ J hJ=>?_
     walk_at "dd"
     rw [if_pos (by lia)]
     rw [<- run] at q
     exact q
   ·have eb:byZ (l :: plan.drop (j+1)) i=byZ (plan.drop (j+1)) i:=by unfold byZ;rw [List.filter_cons_of_neg (by simpa using y)]
    rw [eb] at run
    refine ⟨held,f,_,_,_,_,hhl,hfl,λ l' hl' e=>?_,run,rfl⟩
    rw [zbh hj] at hl'
    rcases List.mem_append.mp hl' with z|z
    ·exact hvj l' z e
    ·simp at z;subst z;exact absurd e y
  ·rintro δ ⟨held,f,s7,s8,s9,s10,hhl,hfl,hvj,run,rfl⟩
   rw [List.take_length] at hvj
   rw [List.drop_length] at run
   have run:(if over (vs.map Va.room) held=[] then _ else some 4)=R:=run
   have hv2:∀ l∈plan,l.t<=(i:Int)->0<=l.at_/\l.at_ < (ps.length:Int):=λ l hl y=>by
    rcases Int.lt_or_eq_of_le y with y|y
    ·exact hva l hl y
    ·exact hvj l hl y
   refine hJ _ ?_
   clear hJ
   refine ze0 λ J hJ=>?_
   walk_at "dd"
   refine ⟨vs,held,rfl,h12,hhl,?_⟩
   refine ⟨rfl,?_⟩
   by_cases z:over (vs.map Va.room) held=[]
   ·rw [if_pos z] at run
    have e:decide (over (vs.map Va.room) held≠[])=false:=by simp [z]
    simp only [e]
    refine hJ _ ?_
    clear hJ
    walk_at "dd"
    refine zmv (λ l:Lz=>if l.t<=(i:Int) then some (Lz.d l) else none) (by rw [sizeLine_eq];lia) (λ l _=>?_) ?_
    ·walk_at "cs"
     rw [show Lz.d l=.tuple [.int l.t,.int l.at_,.int l.am] from rfl]
     walk_at "dd"
     refine ⟨_,rfl,?_⟩
     walk_at "dd"
     exact two (λ z=>by rw [if_pos z]) λ z=>by rw [if_neg z]
    rw [zhb]
    refine ⟨ps,plan.filter λ l=>decide (l.t<=(i:Int)),held,i+1,rfl,λ l hl=>?_,λ p hpp=>by rw [hhl];exact (hp p hpp).2.1,?_⟩
    ·obtain ⟨h1,h2⟩:=List.mem_filter.mp hl
     exact ⟨(h0 l h1).1,hv2 l h1 (by simpa using h2)⟩
    walk_at "dd"
    exact ⟨_,_,_,_,_,_,_,by rw [zaa];exact hhl,λ l hl y=>hv2 l hl (by lia),run,rfl⟩
   ·rw [if_neg z] at run
    have e:decide (over (vs.map Va.room) held≠[])=true:=by simp [z]
    simp only [e]
    rw [<- run] at q
    exact q
 ·rintro δ ⟨held,s5,s6,s7,s8,s9,s10,hhl,hva,run,rfl⟩
  rw [List.length_range,Nat.sub_self] at run
  have run:(if over (vs.map Va.room) held=[] then none else some 4)=R:=run
  refine hJ _ ?_
  clear hJ
  walk_at "dd"
  refine ⟨vs,held,rfl,h12,hhl,?_⟩
  by_cases z:over (vs.map Va.room) held=[]
  ·rw [if_pos z] at run
   rw [<- run] at q
   have e:decide (over (vs.map Va.room) held≠[])=false:=by simp [z]
   simp only [e]
   exact ⟨trivial,_,by rw [if_neg (by decide)];rfl,q⟩
  ·rw [if_neg z] at run
   rw [<- run] at q
   have e:decide (over (vs.map Va.room) held≠[])=true:=by simp [z]
   simp only [e]
   exact ⟨trivial,_,by rw [if_pos trivial];rfl,q⟩
end
def Lz.in_ (l:Lz) (B:Int):Prop:=(-B < l.t/\l.t < B)/\(-B < l.at_/\l.at_ < B)/\(-B < l.am/\l.am < B)
theorem Lz.in_.mono {l:Lz} {B C:Int} (h:l.in_ B) (hc:B<=C):l.in_ C:=by
 obtain ⟨⟨a,b⟩,⟨c,d⟩,e,f⟩:=h
 exact ⟨⟨by lia,by lia⟩,⟨by lia,by lia⟩,by lia,by lia⟩
theorem zz31:bootBuiltins "abs"=some (.builtin "abs"):=by decide +kernel
def zu6:DSp:=λ ds Q=>∃ (ns:List Int) (k:Nat) (ps:List Pi) (n:Nat) (l:Lz) (B:Int),ds=[.list (ns.map .int),.int (k:Int),.list (ps.map Pi.d),.int (n:Int),Lz.d l]/\k<=900/\1<=ps.length/\ps.length<=24/\(∀ p∈ps,p.g.okk)/\n<=1000/\10000000000000000000000000000000<=B/\l.in_ B/\∀ l':Lz,l'.in_ (B+10000000000000)->Q (Lz.d l')
def zkd:DSp:=λ ds Q=>∃ (ps:List Pi) (m j:Nat) (k:Int),ds=[.list (ps.map Pi.d),.int (m:Int),.int (j:Int),.int k]/\m<=1000/\j < ps.length/\ps.length<=24/\(∀ p∈ps,p.g.okk)/\∀ l':Lz,l'.in_ 10000000000000->Q (Lz.d l')
section
variable {P:Program} {w:World} {K:Fg} {mg:Str->Option Value} {base:Heap}
theorem zx8:FnScope ["pipes", "moment", "at", "kind", "wide", "some"] ["pipes", "moment", "at", "kind"] (zh0 zw6):=by walk_at "sc"
theorem zjh (M:Md K mg) (T:TopDef K "_law_fault" zw6) (jT:mg "len"=none) (jV:Def P w K mg base "_law_width" 1 ["gate", "now"] (spD K zd3)):Def P w K mg base "_law_fault" 2 ["pipes", "moment", "at", "kind"] (spD K zkd):=by
 refine zs3 M T zx8 (λ _ _ _ _ _ _ us hl=>by obtain ⟨_,_,_,_,rfl⟩:=ar4 hl;rfl) (zth λ ds Qd h=>by obtain ⟨_,_,_,_,rfl,_⟩:=h;rfl) (zz5 ?_)
 intro f cdv A outer s H E hr
 have nd:=zx8.nd
 refine ⟨_,_,(zd0 (pset 4 nd (zo0 jV (rmn hr) rfl (za0 (pix w K hr (pix w K hr (pv 0) (pv 2)) zf0) (za0 (pv 1) zg0))))
   (zd0 (pset 5 nd (zn1 (za0 (zt1 (za0 (pv 1) (za0 (zq0 (zr0 (K:=K) rfl) (zv0 (zg1 (K:=K) rfl) rfl jT zv3 (za0 (pv 0) zg0)) (pv 2)) (za0 zf0 zg0)))) (za0 (zt1 (za0 (pv 1) (za0 (pv 2) (za0 zf0 zg0)))) (za0 (zt1 (za0 (pv 1) (za0 (pv 2) (za0 (zq0 (zr0 (K:=K) rfl) (pv 4) zf0) zg0)))) (za0 (zt1 (za0 (pv 1) (za0 (pv 2) (za0 (pv 4) zg0)))) zg0))))))
   (zk0 (zi1 (pix w K hr (pv 5) (zq0 ze1 (pv 3) zf0)))))),(zm0 (za1 (zy0 (zc0 (zj0 r_ix (RfE.v (zj0 r_ix (zb0 0) (zb0 2))) rvi) (zc0 (zi0 1) zl0))) (rgn 4))
   (zm0 (za1 (RfF.e (zk3 (zc0 (zl3 (zc0 (zi0 1) (zc0 (zj0 zo2 (RfE.v (zw7 zxc (zu0 (zb0 0) zo1))) (zb0 2)) (zc0 zd1 zl0)))) (zc0 (zl3 (zc0 (zi0 1) (zc0 (zi0 2) (zc0 zd1 zl0)))) (zc0 (zl3 (zc0 (zi0 1) (zc0 (zi0 2) (zc0 (zj0 zo2 (zb0 4) rvi) zl0)))) (zc0 (zl3 (zc0 (zi0 1) (zc0 (zi0 2) (zc0 (zi0 4) zl0)))) zl0)))))) (rgn 5))
   (zj1 (RfE.c (zj0 r_ix (zb0 5) (RfE.v (zj0 zf2 (zb0 3) rvi))))))),?_⟩
 rintro ds Qd ⟨ps,m,j,k,rfl,hm,hj,h24,hg,q⟩
 obtain ⟨p,hp⟩:∃ p,ps[j]?=some p:=⟨_,List.getElem?_eq_getElem hj⟩
 have gp:atI (ps.map Pi.d) ((j:Nat):Int)=some (.tuple [.int (p.u:Int),.int (p.v:Int),.int (p.len:Int),.int p.pr,p.g.d]):=zi2 (by lia) (by rw [Int.toNat_natCast,List.getElem?_map,hp];rfl)
 obtain ⟨g1,g2⟩:=hg p (List.mem_of_getElem? hp)
 have g2:=g2 m
 walk_at "ds"
 refine ze0 λ J hJ=>?_
 walk_at "dd"
 refine ⟨_,gp,?_⟩
 walk_at "dd"
 refine ⟨_,rfl,p.g,m,rfl,g1,hJ _ ?_⟩
 clear hJ
 generalize p.g.at m=wd at g2 ⊢
 refine ze0 λ J hJ=>?_
 walk_at "dd"
 rw [List.length_map]
 refine hJ _ ?_
 clear hJ
 walk_at "dd"
 have h4:k % 4=0 \/ k % 4=1 \/ k % 4=2 \/ k % 4=3:=by lia
 rcases h4 with e|e|e|e
 ·exact ⟨_,by rw [e];rfl,q ⟨m,(ps.length:Int)+j,1⟩ ⟨⟨by show _ < (m:Int);lia,by show (m:Int) < _;lia⟩,⟨by show _ < (ps.length:Int)+(j:Int);lia,by show (ps.length:Int)+(j:Int) < _;lia⟩,by show (-10000000000000:Int) < 1;lia,by show (1:Int) < 10000000000000;lia⟩⟩
 ·exact ⟨_,by rw [e];rfl,q ⟨m,j,0⟩ ⟨⟨by show _ < (m:Int);lia,by show (m:Int) < _;lia⟩,⟨by show _ < (j:Int);lia,by show (j:Int) < _;lia⟩,by show (-10000000000000:Int) < 0;lia,by show (0:Int) < 10000000000000;lia⟩⟩
 ·exact ⟨_,by rw [e];rfl,q ⟨m,j,wd+1⟩ ⟨⟨by show _ < (m:Int);lia,by show (m:Int) < _;lia⟩,⟨by show _ < (j:Int);lia,by show (j:Int) < _;lia⟩,by show _ < wd+1;lia,by show wd+1 < _;lia⟩⟩
 ·exact ⟨_,by rw [e];rfl,q ⟨m,j,wd⟩ ⟨⟨by show _ < (m:Int);lia,by show (m:Int) < _;lia⟩,⟨by show _ < (j:Int);lia,by show (j:Int) < _;lia⟩,by show _ < wd;lia,by show wd < _;lia⟩⟩
theorem zi7:FnScope ["script", "k", "pipes", "until", "letting", "moment", "at", "amount", "number", "more", "wide", "way"] ["script", "k", "pipes", "until", "letting"] (zh0 zg5):=by walk_at "sc"
theorem zoe (M:Md K mg) (T:TopDef K "_law_spoilt" zg5) (vW:mg "abs"=none) (jT:mg "len"=none) (vR:mg "max"=none) (jD:Def P w K mg base "_law_draw" 1 ["script", "k"] (spD K zp1)) (jV:Def P w K mg base "_law_width" 1 ["gate", "now"] (spD K zd3)):Def P w K mg base "_law_spoilt" 2 ["script", "k", "pipes", "until", "letting"] (spD K zu6):=by
 refine zs3 M T zi7 (λ _ _ _ _ _ _ us hl=>by obtain ⟨_,_,_,_,_,rfl⟩:=ar5 hl;rfl) (zth λ ds Qd h=>by obtain ⟨_,_,_,_,_,_,rfl,_⟩:=h;rfl) (zz5 ?_)
 intro f cdv A outer s H E hr
 have nd:=zi7.nd
 refine ⟨_,_,(zd0 (zp9 (pv 4) (zsa (K:=K) (n:=3) rfl rfl (zr1 (pgn 5 nd) (zr1 (pgn 6 nd) (zr1 (pgn 7 nd) zva)))))
   (zd0 (pset 8 nd (zo0 jD (rmn hr) rfl (za0 (pv 0) (za0 (pv 1) zg0))))
   (zd0 (pset 9 nd (pix w K hr (zn1 (za0 zf0 (za0 (zo0 jD (rmn hr) rfl (za0 (pv 0) (za0 (zq0 (zr0 (K:=K) rfl) (pv 1) zf0) zg0))) zg0))) (zq0 ze1 (zq0 zz0 (pv 8) zf0) zf0)))
   (zd0 (pset 10 nd (zo0 jV (rmn hr) rfl (za0 (pix w K hr (pix w K hr (pv 2) (zq0 ze1 (pv 6) (zv0 (zg1 (K:=K) rfl) rfl jT zv3 (za0 (pv 2) zg0)))) zf0) (za0 (zv0 zpu rfl vW zz31 (za0 (pv 5) zg0)) zg0))))
   (zd0 (pset 11 nd (zq0 ze1 (pv 8) zf0))
   (zd0 (zn4 (zt0 (zg2 (K:=K) rfl (Room.units hr)) (pv 11) zf0 (zf1 _)) (zk0 (zi1 (zt1 (za0 (zq0 zib (za21 zaq zf0) (zq0 zs1 (pv 9) (zq0 zbe zf0 zf0))) (za0 (pv 6) (za0 (pv 7) zg0)))))) zc1)
   (zd0 (zn4 (zt0 (zg2 (K:=K) rfl (Room.units hr)) (pv 11) zf0 (zf1 _)) (zk0 (zi1 (zt1 (za0 (zq0 (zr0 (K:=K) rfl) (pv 3) (zq0 zs1 (pv 9) (zq0 zbe zf0 zf0))) (za0 (pv 6) (za0 (pv 7) zg0)))))) zc1)
   (zd0 (zn4 (zt0 (zg2 (K:=K) rfl (Room.units hr)) (pv 11) zf0 (zf1 _)) (zk0 (zi1 (zt1 (za0 (zq0 ze1 (zo0 jD (rmn hr) rfl (za0 (pv 0) (za0 (zq0 (zr0 (K:=K) rfl) (pv 1) zf0) zg0))) (zv0 (zvq rfl) rfl vR zf01 (za0 zf0 (za0 (pv 3) zg0)))) (za0 (pv 6) (za0 (pv 7) zg0)))))) zc1)
   (zd0 (zn4 (zt0 (zg2 (K:=K) rfl (Room.units hr)) (pv 11) zf0 (zf1 _)) (zk0 (zi1 (zt1 (za0 (pv 5) (za0 (zq0 zib (za21 zaq zf0) (zq0 zs1 (pv 9) (zq0 zbe zf0 zf0))) (za0 (pv 7) zg0)))))) zc1)
   (zd0 (zn4 (zt0 (zg2 (K:=K) rfl (Room.units hr)) (pv 11) zf0 (zf1 _)) (zk0 (zi1 (zt1 (za0 (pv 5) (za0 (zq0 (zr0 (K:=K) rfl) (zv0 (zg1 (K:=K) rfl) rfl jT zv3 (za0 (pv 2) zg0)) (zq0 zs1 (pv 9) (zq0 zbe zf0 zf0))) (za0 (pv 7) zg0)))))) zc1)
   (zd0 (zn4 (zt0 (zg2 (K:=K) rfl (Room.units hr)) (pv 11) zf0 (zf1 _)) (zk0 (zi1 (zt1 (za0 (pv 5) (za0 (pv 6) (za0 (zq0 zib zf0 (zq0 zs1 (pv 9) (zq0 zbe zf0 zf0))) zg0)))))) zc1)
   (zk0 (zi1 (zt1 (za0 (pv 5) (za0 (pv 6) (za0 (pix w K hr (zn1 (za0 (zq0 (zr0 (K:=K) rfl) (zq0 (zr0 (K:=K) rfl) (pv 7) zf0) (pv 9)) (za0 (zq0 (zr0 (K:=K) rfl) (pv 10) zf0) (za0 (pv 10) zg0)))) (zq0 zib (pv 11) zf0)) zg0))))))))))))))))),(zm0 (za1 (zi0 4) (zvk (zx1 (rgn 5) (zx1 (rgn 6) (zx1 (rgn 7) zdd)))))
   (zm0 (za1 (zy0 (zc0 (zi0 0) (zc0 (zi0 1) zl0))) (rgn 8))
   (zm0 (za1 (zj0 r_ix (RfE.v (RfF.e (zk3 (zc0 zd1 (zc0 (zy0 (zc0 (zi0 0) (zc0 (zj0 zo2 (zb0 1) rvi) zl0))) zl0))))) (RfE.v (zj0 zf2 (RfE.v (zj0 zg7 (zb0 8) rvi)) rvi))) (rgn 9))
   (zm0 (za1 (zy0 (zc0 (zj0 r_ix (RfE.v (zj0 r_ix (zb0 2) (RfE.v (zj0 zf2 (zb0 6) (RfE.v (zw7 zxc (zu0 (zb0 2) zo1))))))) rvi) (zc0 (zw7 zna1 (zu0 (zb0 5) zo1)) zl0))) (rgn 10))
   (zm0 (za1 (zj0 zf2 (zb0 8) rvi) (rgn 11))
   (zm0 (zo6 (zs0 (zu1 q_eq (RfV.h (zb0 11)) (RfV.h rvi))) (zj1 (RfE.c (zl3 (zc0 (zj0 zsn (RfE.v (zsp zd1)) (RfE.v (zj0 zpc (zb0 9) (RfE.v (zj0 zjp rvi rvi))))) (zc0 (zi0 6) (zc0 (zi0 7) zl0)))))) zb1)
   (zm0 (zo6 (zs0 (zu1 q_eq (RfV.h (zb0 11)) (RfV.h rvi))) (zj1 (RfE.c (zl3 (zc0 (zj0 zo2 (zb0 3) (RfE.v (zj0 zpc (zb0 9) (RfE.v (zj0 zjp rvi rvi))))) (zc0 (zi0 6) (zc0 (zi0 7) zl0)))))) zb1)
   (zm0 (zo6 (zs0 (zu1 q_eq (RfV.h (zb0 11)) (RfV.h rvi))) (zj1 (RfE.c (zl3 (zc0 (zj0 zf2 (RfE.v (zy0 (zc0 (zi0 0) (zc0 (zj0 zo2 (zb0 1) rvi) zl0)))) (RfE.v (zw7 zf71 (zu0 rvi (zu0 (zb0 3) zo1))))) (zc0 (zi0 6) (zc0 (zi0 7) zl0)))))) zb1)
   (zm0 (zo6 (zs0 (zu1 q_eq (RfV.h (zb0 11)) (RfV.h rvi))) (zj1 (RfE.c (zl3 (zc0 (zi0 5) (zc0 (zj0 zsn (RfE.v (zsp zd1)) (RfE.v (zj0 zpc (zb0 9) (RfE.v (zj0 zjp rvi rvi))))) (zc0 (zi0 7) zl0)))))) zb1)
   (zm0 (zo6 (zs0 (zu1 q_eq (RfV.h (zb0 11)) (RfV.h rvi))) (zj1 (RfE.c (zl3 (zc0 (zi0 5) (zc0 (zj0 zo2 (RfE.v (zw7 zxc (zu0 (zb0 2) zo1))) (RfE.v (zj0 zpc (zb0 9) (RfE.v (zj0 zjp rvi rvi))))) (zc0 (zi0 7) zl0)))))) zb1)
   (zm0 (zo6 (zs0 (zu1 q_eq (RfV.h (zb0 11)) (RfV.h rvi))) (zj1 (RfE.c (zl3 (zc0 (zi0 5) (zc0 (zi0 6) (zc0 (zj0 zsn rvi (RfE.v (zj0 zpc (zb0 9) (RfE.v (zj0 zjp rvi rvi))))) zl0)))))) zb1)
   (zj1 (RfE.c (zl3 (zc0 (zi0 5) (zc0 (zi0 6) (zc0 (zj0 r_ix (RfE.v (RfF.e (zk3 (zc0 (zj0 zo2 (RfE.v (zj0 zo2 (zb0 7) rvi)) (zb0 9)) (zc0 (zj0 zo2 (zb0 10) rvi) (zc0 (zi0 10) zl0)))))) (RfE.v (zj0 zsn (zb0 11) rvi))) zl0))))))))))))))))),?_⟩
 rintro ds Qd ⟨ns,k,ps,n,l,B,rfl,hk,p1,h24,hg,hn,hB,hl,q⟩
 obtain ⟨t,at_,am⟩:=l
 obtain ⟨⟨t0,t1⟩,⟨a0,a1⟩,m0,m1⟩:=hl
 dsimp only at t0 t1 a0 a1 m0 m1
 rw [show Lz.d ⟨t,at_,am⟩=.tuple [.int t,.int at_,.int am] from rfl]
 walk_at "ds"
 refine ze0 λ J hJ=>?_
 walk_at "dd"
 refine hJ _ ?_
 clear hJ
 refine ze0 λ J hJ=>?_
 walk_at "dd"
 refine ⟨ns,k,rfl,by lia,λ m mm0 mm1=>hJ _ ?_⟩
 clear hJ
 refine ze0 λ J hJ=>?_
 walk_at "dd"
 refine ⟨ns,k+1,by congr 2,by lia,λ x x0 x1=>?_⟩
 walk_at "dd"
 obtain ⟨mo,mo0,mo1,ea⟩:∃ mo:Int,0<=mo/\mo < 999999000001/\atI [PyData.int 0,PyData.int x] (m / 16 % 2)=some (.int mo):=by
  have h2:m / 16 % 2=0 \/ m / 16 % 2=1:=by lia
  rcases h2 with h|h
  ·exact ⟨0,by decide,by decide,by rw [h];rfl⟩
  ·exact ⟨x,x0,x1,by rw [h];rfl⟩
 refine ⟨_,ea,hJ _ ?_⟩
 clear hJ
 refine ze0 λ J hJ=>?_
 walk_at "dd"
 rw [List.length_map]
 have e0:=Int.emod_nonneg at_ (b:=(ps.length:Int)) (by lia)
 have e1:=Int.emod_lt_of_pos at_ (b:=(ps.length:Int)) (by lia)
 obtain ⟨j,hj⟩:=Int.eq_ofNat_of_zero_le e0
 rw [hj] at e1 ⊢
 obtain ⟨p,hp⟩:∃ p,ps[j]?=some p:=⟨_,List.getElem?_eq_getElem (by lia)⟩
 have gp:atI (ps.map Pi.d) ((j:Nat):Int)=some (.tuple [.int (p.u:Int),.int (p.v:Int),.int (p.len:Int),.int p.pr,p.g.d]):=zi2 (by lia) (by rw [Int.toNat_natCast,List.getElem?_map,hp];rfl)
 obtain ⟨u,hu⟩:∃ u:Nat,(if t < 0 then -t else t)=(u:Int):=⟨t.natAbs,by split <;> lia⟩
 rw [hu]
 obtain ⟨g1,g2⟩:=hg p (List.mem_of_getElem? hp)
 have g2:=g2 u
 refine ⟨by lia,_,gp,?_⟩
 walk_at "dd"
 refine ⟨_,rfl,p.g,u,rfl,g1,hJ _ ?_⟩
 clear hJ
 generalize p.g.at u=wd at g2 ⊢
 have mk:∀ x y z:Int,(-(B+10000000000000) < x/\x < B+10000000000000)->(-(B+10000000000000) < y/\y < B+10000000000000)->(-(B+10000000000000) < z/\z < B+10000000000000)->Qd (.tuple [.int x,.int y,.int z]):=λ x y z h1 h2 h3=>q ⟨x,y,z⟩ ⟨h1,h2,h3⟩
 clear q
 walk_at "dn"
 refine ze0 λ J hJ=>?_
 walk_at "dd"
 refine two (λ _=>⟨by decide,.inr ⟨by decide,by decide⟩,mk _ _ _ ⟨by lia,by lia⟩ ⟨by lia,by lia⟩ ⟨by lia,by lia⟩⟩) λ _=>hJ _ ?_
 clear hJ
 refine ze0 λ J hJ=>?_
 walk_at "dd"
 refine two (λ _=>⟨by decide,.inr ⟨by decide,by decide⟩,mk _ _ _ ⟨by lia,by lia⟩ ⟨by lia,by lia⟩ ⟨by lia,by lia⟩⟩) λ _=>hJ _ ?_
 clear hJ
 refine ze0 λ J hJ=>?_
 walk_at "dd"
 refine two (λ _=>⟨ns,k+1,by congr 2,by lia,λ y y0 y1=>?_⟩) λ _=>hJ _ ?_
 ·walk_at "dd"
  have ex:1<=(if 1 < (n:Int) then (n:Int) else 1)/\(if 1 < (n:Int) then (n:Int) else 1)<=1000:=by split <;> lia
  generalize (if 1 < (n:Int) then (n:Int) else 1)=mx at ex ⊢
  have f0:=Int.emod_nonneg y (b:=mx) (by lia)
  have f1:=Int.emod_lt_of_pos y (b:=mx) (by lia)
  exact ⟨by lia,mk _ _ _ ⟨by lia,by lia⟩ ⟨by lia,by lia⟩ ⟨by lia,by lia⟩⟩
 clear hJ
 refine ze0 λ J hJ=>?_
 walk_at "dd"
 refine two (λ _=>⟨by decide,.inr ⟨by decide,by decide⟩,mk _ _ _ ⟨by lia,by lia⟩ ⟨by lia,by lia⟩ ⟨by lia,by lia⟩⟩) λ _=>hJ _ ?_
 clear hJ
 refine ze0 λ J hJ=>?_
 walk_at "dd"
 rw [List.length_map]
 refine two (λ _=>⟨by decide,.inr ⟨by decide,by decide⟩,mk _ _ _ ⟨by lia,by lia⟩ ⟨by lia,by lia⟩ ⟨by lia,by lia⟩⟩) λ _=>hJ _ ?_
 clear hJ
 refine ze0 λ J hJ=>?_
 walk_at "dd"
 refine two (λ _=>⟨by decide,.inr ⟨by decide,by decide⟩,mk _ _ _ ⟨by lia,by lia⟩ ⟨by lia,by lia⟩ ⟨by lia,by lia⟩⟩) λ _=>hJ _ ?_
 clear hJ
 walk_at "dd"
 have h9:m % 9=6 \/ m % 9=7 \/ m % 9=8:=by lia
 rcases h9 with e|e|e
 all_goals exact ⟨_,by rw [e];rfl,mk _ _ _ ⟨by lia,by lia⟩ ⟨by lia,by lia⟩ ⟨by lia,by lia⟩⟩
end
theorem zyz {α:Type} {xs:List α} {k:Nat} (h:k<=xs.length):cutG xs none (some (k:Int))=xs.take k:=by
 unfold cutG
 rw [HT.sIx_none,HT.sIx_nat,List.drop_zero,Nat.sub_zero,Nat.min_eq_left h]
theorem zd51 {α:Type} {xs:List α} {k:Nat} (h:k<=xs.length):cutG xs (some (k:Int)) none=xs.drop k:=by
 unfold cutG
 rw [HT.sIx_none,HT.sIx_nat,Nat.min_eq_left h]
 exact List.take_of_length_le (by simp)
def zi3:DSp:=λ ds Q=>∃ (ns:List Int) (ps:List Pi) (n:Nat) (plan:List Lz) (B:Int),ds=[.list (ns.map .int),.list (ps.map Pi.d),.int (n:Int),.list (plan.map Lz.d)]/\1<=ps.length/\ps.length<=24/\(∀ p∈ps,p.g.okk)/\n<=1000/\plan.length<=1000/\10000000000000<=B/\(∀ l∈plan,l.in_ B)/\∀ plan':List Lz,plan'.length<=plan.length+2->(∀ l∈plan',l.in_ B)->Q (.list (plan'.map Lz.d))
section
variable {P:Program} {w:World} {K:Fg} {mg:Str->Option Value} {base:Heap}
theorem zx3:FnScope ["script", "pipes", "until", "plan", "number", "moment", "high", "low", "place", "kind", "two"] ["script", "pipes", "until", "plan"] (zh0 zz2):=by walk_at "sc"
theorem zd8 (M:Md K mg) (T:TopDef K "_law_two_faults" zz2) (jT:mg "len"=none) (jD:Def P w K mg base "_law_draw" 1 ["script", "k"] (spD K zp1)) (qW:Def P w K mg base "_law_fault" 2 ["pipes", "moment", "at", "kind"] (spD K zkd)):Def P w K mg base "_law_two_faults" 3 ["script", "pipes", "until", "plan"] (spD K zi3):=by
 refine zs3 M T zx3 (λ _ _ _ _ _ _ us hl=>by obtain ⟨_,_,_,_,rfl⟩:=ar4 hl;rfl) (zth λ ds Qd h=>by obtain ⟨_,_,_,_,_,rfl,_⟩:=h;rfl) (zz5 ?_)
 intro f cdv A outer s H E hr
 have nd:=zx3.nd
 refine ⟨_,_,(zd0 (pset 4 nd (zo0 jD (rmn hr) rfl (za0 (pv 0) (za0 zf0 zg0))))
   (zd0 (zn4 (PW.pt (zxz (zt0 (zg2 (K:=K) rfl (Room.units hr)) (pv 2) zf0 (zf1 _)) (zrp (zt0 zoo (zq0 ze1 (pv 4) zf0) zf0 (zf1 _))))) (zk0 (zi1 (pv 3))) zc1)
   (zd0 (pset 5 nd (zq0 ze1 (zq0 zz0 (pv 4) zf0) (pv 2)))
   (zd0 (pset 6 nd (zq0 ze1 (zq0 zz0 (pv 4) zf0) (zv0 (zg1 (K:=K) rfl) rfl jT zv3 (za0 (pv 1) zg0))))
   (zd0 (pset 7 nd (zq0 ze1 (zo0 jD (rmn hr) rfl (za0 (pv 0) (za0 zf0 zg0))) (zq0 (zr0 (K:=K) rfl) (pv 6) zf0)))
   (zd0 (pset 8 nd (zq0 ze1 (zo0 jD (rmn hr) rfl (za0 (pv 0) (za0 zf0 zg0))) (zq0 (zr0 (K:=K) rfl) (zv0 (zg1 (K:=K) rfl) rfl jT zv3 (za0 (pv 3) zg0)) zf0)))
   (zd0 (pset 9 nd (zo0 jD (rmn hr) rfl (za0 (pv 0) (za0 zf0 zg0))))
   (zd0 (pset 10 nd (zn1 (za0 (zo0 qW (rmn hr) rfl (za0 (pv 1) (za0 (pv 5) (za0 (pv 6) (za0 (pv 9) zg0))))) (za0 (zo0 qW (rmn hr) rfl (za0 (pv 1) (za0 (pv 5) (za0 (pv 7) (za0 (zq0 zz0 (pv 9) zf0) zg0))))) zg0))))
   (zk0 (zi1 (zq0 (zr0 (K:=K) rfl) (zq0 (zr0 (K:=K) rfl) (zli (sl_W (K:=K) rfl) (pv 3) zbk (zwa (pv 8))) (pv 10)) (zli (sl_W (K:=K) rfl) (pv 3) (zwa (pv 8)) zbk)))))))))))),(zm0 (za1 (zy0 (zc0 (zi0 0) (zc0 zd1 zl0))) (rgn 4))
   (zm0 (zo6 (zqy (zs0 (zu1 q_eq (RfV.h (zb0 2)) (RfV.h rvi))) (zs0 (zj0 r_gt (RfE.v (zj0 zf2 (zb0 4) rvi)) rvi))) (zj1 (RfE.c (zi0 3))) zb1)
   (zm0 (za1 (zj0 zf2 (RfE.v (zj0 zg7 (zb0 4) rvi)) (zb0 2)) (rgn 5))
   (zm0 (za1 (zj0 zf2 (RfE.v (zj0 zg7 (zb0 4) rvi)) (RfE.v (zw7 zxc (zu0 (zb0 1) zo1)))) (rgn 6))
   (zm0 (za1 (zj0 zf2 (RfE.v (zy0 (zc0 (zi0 0) (zc0 zd1 zl0)))) (RfE.v (zj0 zo2 (zb0 6) rvi))) (rgn 7))
   (zm0 (za1 (zj0 zf2 (RfE.v (zy0 (zc0 (zi0 0) (zc0 zd1 zl0)))) (RfE.v (zj0 zo2 (RfE.v (zw7 zxc (zu0 (zb0 3) zo1))) rvi))) (rgn 8))
   (zm0 (za1 (zy0 (zc0 (zi0 0) (zc0 zd1 zl0))) (rgn 9))
   (zm0 (za1 (RfF.e (zk3 (zc0 (zy0 (zc0 (zi0 1) (zc0 (zi0 5) (zc0 (zi0 6) (zc0 (zi0 9) zl0))))) (zc0 (zy0 (zc0 (zi0 1) (zc0 (zi0 5) (zc0 (zi0 7) (zc0 (zj0 zg7 (zb0 9) rvi) zl0))))) zl0)))) (rgn 10))
   (zj1 (RfF.c (zy41 zu81 (RfE.v (zj0 zo2 (RfE.v (zp71 (zb0 3) zhk (zgg (zi0 8)))) (zb0 10))) (RfE.v (zp71 (zb0 3) (zgg (zi0 8)) zhk))))))))))))),?_⟩
 rintro ds Qd ⟨ns,ps,n,plan,B,rfl,p1,h24,hg,hn,hpl,hB,hb,q⟩
 walk_at "ds"
 refine ze0 λ J hJ=>?_
 walk_at "dd"
 refine ⟨ns,250,rfl,by lia,λ m m0 m1=>hJ _ ?_⟩
 clear hJ
 refine ze0 λ J hJ=>?_
 walk_at "dd"
 refine two (λ _=>q plan (by lia) hb) λ z1=>two (λ _=>q plan (by lia) hb) λ _=>hJ _ ?_
 clear hJ
 refine ze0 λ J hJ=>?_
 walk_at "dd"
 have e0:=Int.emod_nonneg (m / 3) (b:=(n:Int)) (by lia)
 have e1:=Int.emod_lt_of_pos (m / 3) (b:=(n:Int)) (by lia)
 obtain ⟨mo,hmo⟩:=Int.eq_ofNat_of_zero_le e0
 rw [hmo] at e1 ⊢
 refine ⟨by lia,hJ _ ?_⟩
 clear hJ
 refine ze0 λ J hJ=>?_
 walk_at "dd"
 rw [List.length_map]
 have e2:=Int.emod_nonneg (m / 200) (b:=(ps.length:Int)) (by lia)
 have e3:=Int.emod_lt_of_pos (m / 200) (b:=(ps.length:Int)) (by lia)
 obtain ⟨hi,hhi⟩:=Int.eq_ofNat_of_zero_le e2
 rw [hhi] at e3 ⊢
 refine ⟨by lia,hJ _ ?_⟩
 clear hJ
 refine ze0 λ J hJ=>?_
 walk_at "dd"
 refine ⟨ns,251,rfl,by lia,λ x x0 x1=>?_⟩
 walk_at "dd"
 have e4:=Int.emod_nonneg x (b:=(hi:Int)+1) (by lia)
 have e5:=Int.emod_lt_of_pos x (b:=(hi:Int)+1) (by lia)
 obtain ⟨lo,hlo⟩:=Int.eq_ofNat_of_zero_le e4
 rw [hlo] at e5 ⊢
 refine ⟨by lia,hJ _ ?_⟩
 clear hJ
 refine ze0 λ J hJ=>?_
 walk_at "dd"
 refine ⟨ns,252,rfl,by lia,λ y y0 y1=>?_⟩
 walk_at "dd"
 rw [List.length_map]
 have e6:=Int.emod_nonneg y (b:=(plan.length:Int)+1) (by lia)
 have e7:=Int.emod_lt_of_pos y (b:=(plan.length:Int)+1) (by lia)
 obtain ⟨pc,hpc⟩:=Int.eq_ofNat_of_zero_le e6
 rw [hpc] at e7 ⊢
 refine ⟨by lia,hJ _ ?_⟩
 clear hJ
 refine ze0 λ J hJ=>?_
 walk_at "dd"
 refine ⟨ns,253,rfl,by lia,λ v v0 v1=>hJ _ ?_⟩
 clear hJ
 refine ze0 λ J hJ=>?_
 walk_at "dd"
 refine ⟨ps,mo,hi,v,rfl,by lia,by lia,h24,hg,λ l1 b1=>?_⟩
 try walk_at "dd"
 refine ⟨ps,mo,lo,_,rfl,by lia,by lia,h24,hg,λ l2 b2=>hJ _ ?_⟩
 clear hJ
 walk_at "dd"
 rw [zzh,zzh,zyz (by lia),zd51 (by lia)]
 have:=q (plan.take pc++[l1,l2]++plan.drop pc) (by simp;lia) λ l hl=>by
  rcases List.mem_append.mp hl with z|z
  ·rcases List.mem_append.mp z with z|z
   ·exact hb l (List.mem_of_mem_take z)
   ·simp at z
    rcases z with rfl|rfl
    ·exact b1.mono hB
    ·exact b2.mono hB
  ·exact hb l (List.mem_of_mem_drop z)
 rw [List.map_append,List.map_append] at this
 exact ⟨by rw [List.length_map,List.length_take];lia,by rw [List.length_append,List.length_map,List.length_map,List.length_take,List.length_drop];simp;lia,this⟩
end
def Lz.dr (l:Lz) (m:Nat):Prop:=0<=l.t/\l.t<=100/\0<=l.at_/\l.at_ < (m:Int)/\0<=l.am/\l.am<=2000000000000
theorem zxd (c:Le->Prop) [DecidablePred c] (g:Le->Nat):∀ (L:List Le) (h:List Int),(∀ x∈h,0<=x)->(∀ l∈L,0<=l.am/\g l < h.length)->∀ x∈zx9 c g L h,0<=x
|[],_,hh,_=>hh
|l :: r,h,hh,hl=>by
  have h1:=hl l List.mem_cons_self
  show ∀ x∈zx9 c g r _,0<=x
  split
  ·refine zxd c g r _ (λ x hx=>?_) λ l' hl'=>by rw [zik];exact hl l' (List.mem_cons_of_mem _ hl')
   rcases List.mem_or_eq_of_mem_set hx with z|z
   ·exact hh x z
   ·have:0<=h.getD (g l) 0:=by rw [List.getD_eq_getElem?_getD,List.getElem?_eq_getElem h1.2];exact hh _ (List.getElem_mem _)
    lia
  ·exact zxd c g r _ hh λ l' hl'=>hl l' (List.mem_cons_of_mem _ hl')
theorem zxm {α:Type} {p:α->Prop} {l:List α} (h:∀ x∈l,p x) {k:Nat} {y:α} (hy:p y):∀ x∈l.set k y,p x:=λ x hx=>by
 rcases List.mem_or_eq_of_mem_set hx with z|z
 ·exact h x z
 ·rw [z];exact hy
def zf8:DSpT:=λ as Q=>∃ (fills:List Int) (ps:List Pi) (cells:List Int) (n:Nat),as=[.d (.list (fills.map .int)),.d (.list (ps.map Pi.d)),.d (.list (cells.map .int)),.d (.int (n:Int))]/\n<=60/\cells.length<=63/\fills.length<=12/\(∀ x∈fills,0<=x)/\1<=ps.length/\ps.length<=24/\(∀ p∈ps,p.u < fills.length/\p.v < fills.length/\1<=p.len/\p.g.okk) /\
 ∀ (plan:List Lz) (rows:List (List Int)),plan.length<=63->(∀ l∈plan,l.dr ps.length)->rows.length<=61->(∀ r∈rows,r.length=fills.length)->Q (.tp [.li (plan.map Lz.d),.fz (.list (rows.map dRow))]) (.fz .none)
section
variable {P:Program} {w:World} {K:Fg} {mg:Str->Option Value} {base:Heap}
theorem za9:FnScope ["fills", "pipes", "cells", "until", "held", "lets", "rows", "now", "left", "k", "some"] ["fills", "pipes", "cells", "until"] (zh0 zm2):=by walk_at "sc"
theorem zah (M:Md K mg) (T:TopDef K "_law_drawn" zm2) (jT:mg "len"=none) (kS:mg "list"=none) (jS:mg "range"=none) (jV:Def P w K mg base "_law_width" 1 ["gate", "now"] (spD K zd3)) (vJ:Def P w K mg base "_law_let" 1 ["pipes", "held", "left", "cell"] (spL2 K zye)) (qO:Def P w K mg base "_law_come" 1 ["pipes", "lets", "held", "now"] (spT K zla)):Def P w K mg base "_law_drawn" 2 ["fills", "pipes", "cells", "until"] (spT K zf8):=by
 refine zs3 M T za9 (λ _ _ _ _ _ _ us hl=>by obtain ⟨_,_,_,_,rfl⟩:=ar4 hl;rfl) (zel λ as Qd h=>by obtain ⟨_,_,_,_,rfl,_⟩:=h;rfl) (zp8 ?_)
 intro f cdv A outer s H E hr
 have nd:=za9.nd
 refine ⟨_,(dSeq (dSet 4 (cF (dCF zhs (zl1 (zy1 0) dNil))))
   (dSeq (dSet 5 (cF (zxv (dIt (zy1 2)) 1 [] (gN 0) zjr (dTup (zl1 (dC (.int 0)) (zl1 (dC (.int 0)) (zl1 (dC (.int 0)) dNil)))))))
   (dSeq (dSet 6 (cF (dLst dNil)))
   (dSeq (dFor (zdt (zl1 (dVar 3) dNil)) (gN 7) (dSeq (dSet 8 (cF (zxv (dIt (zy1 1)) 1 [7] (gN 0) zjr (zql zd3 (zl1 (dOp fIx (zy1 0) (dC (.int 4))) (zl1 (dVar 1) dNil))))))
   (dSeq (dFor (zdt (zl1 (dCB fLen (zl1 (zy1 2) dNil)) dNil)) (gN 9) (dIf (zpi (dOp fEq (dOp fMod (dOp fIx (zy1 2) (zy1 9)) (zy1 3)) (zy1 7))) (dSeq (zbm 10 4 8 zye (dVar 1) (zl1 (dOp fDiv (dOp fIx (zy1 2) (zy1 9)) (zy1 3)) dNil))
   (dPut (pVar 5) (dVar 9) (dTup (zl1 (dVar 7) (zl1 (dOp fIx (zy1 10) (dC (.int 0))) (zl1 (dOp fIx (zy1 10) (dC (.int 1))) dNil)))))) zpl))
   (dSeq (ztv (cBM "list" mApp (pVar 6) (zl1 (dF (dCF zhs (zl1 (zy1 4) dNil))) dNil)))
   (ztv (zj21 zla (aD (dVar 1) (aB (pVar 5) (aO (pVar 4) (aD (dOp fAdd (zy1 7) (dC (.int 1))) aNil))))))))))
   (dSeq (dFrz 4 [] (ztv (cBM "list" mApp (pVar 6) (zl1 (dVar 4) dNil))))
   (dFrz 5 [] (dFrz 6 [] (dRet (zt51 (zxv (dIt (zy1 5)) 1 [] (gN 0) (zpi (dOp fGt (dOp fIx (zy1 0) (dC (.int 2))) (dC (.int 0)))) (dVar 0)) (dVar 6)))))))))),(zd0 (pset 4 nd (zq2 (zj3 (K:=K) rfl) rfl kS zd9 (za0 (pv 0) zg0)))
   (zd0 (zb4 (i:=5) (sc:=zh0 zm2) (N:=["fills", "pipes", "cells", "until", "held", "lets", "rows", "now", "left", "k", "some"]) (own:=["cell"]) (ix:=[]) rfl rfl rfl (by walk_at "csc") nd rfl rfl (pi_W (K:=K) rfl (pv 2)) (λ _ _ _ _=>⟨(pgn 0 (nds ["cell"])),zm3,(zt1 (za0 zf0 (za0 zf0 (za0 zf0 zg0))))⟩))
   (zd0 (pset 6 nd (zn1 zg0))
   (zd0 (zs9 PassesOwn.never rfl (zz1 rfl jS (za0 (pv 3) zg0)) (pgn 7 nd) (zd0 (zb4 (i:=8) (sc:=zh0 zm2) (N:=["fills", "pipes", "cells", "until", "held", "lets", "rows", "now", "left", "k", "some"]) (own:=["pipe"]) (ix:=[7]) rfl rfl rfl (by walk_at "csc") nd rfl rfl (pi_W (K:=K) rfl (pv 1)) (λ _ _ _ _=>⟨(pgn 0 (nds ["pipe", "now"])),zm3,(zo0 jV (rmn hr) rfl (za0 (pix w K hr (pv 0) zf0) (za0 (pv 1) zg0)))⟩))
   (zd0 (zs9 PassesOwn.never rfl (zz1 rfl jS (za0 (zv0 (zg1 (K:=K) rfl) rfl jT zv3 (za0 (pv 2) zg0)) zg0)) (pgn 9 nd) (zk0 (zn4 (zt0 (zg2 (K:=K) rfl (Room.units hr)) (zq0 ze1 (pix w K hr (pv 2) (pv 9)) (pv 3)) (pv 7) (zf1 _)) (zd0 (pset 10 nd (zo0 vJ (rmn hr) rfl (za0 (pv 1) (za0 (pv 4) (za0 (pv 8) (za0 (zq0 zz0 (pix w K hr (pv 2) (pv 9)) (pv 3)) zg0))))))
   (zk0 (zp9 (zt1 (za0 (pv 7) (za0 (pix w K hr (pv 10) zf0) (za0 (pix w K hr (pv 10) zf0) zg0)))) (ztc (pv 5) (pv 9) (zkl (Room.units hr)))))) zc1)))
   (zd0 (za5 (zui (K:=K) rfl PySem.F.plainAttrs_list PySem.F.slot_list_append PySem.F.type_list_append zt5 (pv 6) (za0 (zq2 (zj3 (K:=K) rfl) rfl kS zd9 (za0 (pv 4) zg0)) zg0)))
   (zk0 (za5 (zo0 qO (rmn hr) rfl (za0 (pv 1) (za0 (pv 5) (za0 (pv 4) (za0 (zq0 (zr0 (K:=K) rfl) (pv 7) zf0) zg0)))))))))))
   (zd0 (za5 (zui (K:=K) rfl PySem.F.plainAttrs_list PySem.F.slot_list_append PySem.F.type_list_append zt5 (pv 6) (za0 (pv 4) zg0)))
   (zk0 (zi1 (zt1 (za0 (zn3 (sc:=zh0 zm2) (N:=["fills", "pipes", "cells", "until", "held", "lets", "rows", "now", "left", "k", "some"]) (own:=["one"]) (ix:=[]) rfl rfl rfl (by walk_at "csc") (pi_W (K:=K) rfl (pv 5)) (λ _ _ _ _=>⟨(pgn 0 (nds ["one"])),(zfd (zt0 zoo (pix w K hr (pv 0) zf0) zf0 (zf1 _))),(pv 0)⟩)) (za0 (pv 6) zg0)))))))))),(zm0 (zr7 (RfF.c (zrs zxh (zu0 (zb0 0) zo1))))
   (zm0 (zr7 (RfF.c (zk2 (znn (zb0 2)) (zw1 (i:=0) (n:=1) (by decide)) zk4 (zl3 (zc0 zd1 (zc0 zd1 (zc0 zd1 zl0)))))))
   (zm0 (zr7 (RfF.c (zk3 zl0)))
   (zm0 (zsh (zs4 (zc0 (zi0 3) zl0)) (rgn 7) (zm0 (zr7 (RfF.c (zk2 (znn (zb0 1)) (zw1 (i:=0) (n:=1) (by decide)) zk4 (zy0 (zc0 (zj0 r_ix (zb0 0) rvi) (zc0 (zi0 1) zl0))))))
   (zm0 (zsh (zs4 (zc0 (zw7 zxc (zu0 (zb0 2) zo1)) zl0)) (rgn 9) (zo6 (zs0 (zu1 q_eq (RfV.h (RfE.v (zj0 zf2 (RfE.v (zj0 r_ix (zb0 2) (zb0 9))) (zb0 3)))) (RfV.h (zb0 7)))) (zm0 (zqo (i:=4) (j:=8) (zi0 1) (zc0 (zj0 zg7 (RfE.v (zj0 r_ix (zb0 2) (zb0 9))) (zb0 3)) zl0))
   (zrc (zl3 (zc0 (zi0 7) (zc0 (zj0 r_ix (zb0 10) rvi) (zc0 (zj0 r_ix (zb0 10) rvi) zl0)))) (zx0 5) (zi0 9))) zb1))
   (zm0 (zug (zj61 zst (zx0 6) (zc0 (RfF.e (zrs zxh (zu0 (zb0 4) zo1))) zl0)))
   (zug (zhm (at_d (zi0 1) (at_b (zx0 5) (at_o (zx0 4) (at_d (zj0 zo2 (zb0 7) rvi) zu4))))))))))
   (zm0 (zcl 4 [] (zug (zj61 zst (zx0 6) (zc0 (zi0 4) zl0))))
   (zcl 5 [] (zcl 6 [] (zj1 (zww (zk2 (znn (zb0 5)) (zw1 (i:=0) (n:=1) (by decide)) (zs0 (zj0 r_gt (RfE.v (zj0 r_ix (zb0 0) rvi)) rvi)) (zi0 0)) (zi0 6)))))))))),?_⟩
 rintro as Qd a ⟨fills,ps,cells,n,rfl,hn,hc,hf,hf0,p1,p24,hp,q⟩
 walk_at "ds"
 refine ze0 λ J hJ=>?_
 walk_at "dd"
 refine hJ _ ?_
 clear hJ
 refine ze0 λ J hJ=>?_
 walk_at "dd"
 refine zhp (λ _=>Lz.d ⟨0,0,0⟩) (by rw [sizeLine_eq];lia) (λ c _=>?_) ?_
 ·walk_at "cs"
  walk_at "dd"
  rfl
 refine hJ _ ?_
 clear hJ
 refine ze0 λ J hJ=>?_
 walk_at "dd"
 refine hJ _ ?_
 clear hJ
 refine ze0 λ J hJ=>?_
 walk_at "dd"
 rw [Int.toNat_natCast]
 unfold rngD
 refine ⟨by lia,by lia,?_⟩
 refine zh5 (λ i δ=>∃ (held:List Int) (L:List Lz) (rows:List (List Int)) (s7 s8 s9 s10:Sl),held.length=fills.length/\(∀ x∈held,0<=x)/\L.length=cells.length/\(∀ l∈L,l.dr ps.length)/\rows.length=i/\(∀ r∈rows,r.length=fills.length) /\
  δ=[.sh (.list (fills.map .int)),.sh (.list (ps.map Pi.d)),.sh (.list (cells.map .int)),.sh (.int (n:Int)),.ow (.li (held.map .int)),.ow (.li (L.map Lz.d)),.ow (.li (rows.map dRow)),s7,s8,s9,s10])
  ⟨fills,cells.map λ _=>⟨0,0,0⟩,[],.un,.un,.un,.un,rfl,hf0,by simp,λ l hl=>?_,rfl,λ r hr=>by simp at hr,?_⟩ ?_ ?_
 ·obtain ⟨_,_,rfl⟩:=List.mem_map.mp hl
  exact ⟨by decide,by decide,by decide,by show (0:Int) < _;lia,by decide,by decide⟩
 ·rw [List.map_map];rfl
 ·rintro i m δ hm ⟨held,L,rows,s7,s8,s9,s10,hhl,hh0,hL,hLd,hrl,hrr,rfl⟩
  obtain ⟨hi,hi2⟩:=List.getElem?_eq_some_iff.mp hm
  simp at hi hi2
  subst hi2
  walk_at "dd"
  refine ze0 λ J hJ=>?_
  walk_at "dd"
  rw [show (0:Int)+(i:Int)=(i:Int) by lia]
  refine zhp (λ p=>.int (p.g.at i)) (by rw [sizeLine_eq];lia) (λ p hpp=>?_) ?_
  ·walk_at "cs"
   rw [show Pi.d p=.tuple [.int (p.u:Int),.int (p.v:Int),.int (p.len:Int),.int p.pr,p.g.d] from rfl]
   walk_at "dd"
   exact ⟨_,rfl,p.g,i,rfl,(hp p hpp).2.2.2.1,rfl⟩
  refine hJ _ ?_
  clear hJ
  refine ze0 λ J hJ=>?_
  walk_at "dd"
  rw [List.length_map,Int.toNat_natCast]
  unfold rngD
  refine ⟨by lia,by lia,?_⟩
  refine zh5 (λ k δ=>∃ (held left:List Int) (L:List Lz) (s9 s10:Sl),held.length=fills.length/\(∀ x∈held,0<=x)/\left.length=ps.length/\(∀ x∈left,0<=x/\x<=2000000000000)/\L.length=cells.length/\(∀ l∈L,l.dr ps.length) /\
   δ=[.sh (.list (fills.map .int)),.sh (.list (ps.map Pi.d)),.sh (.list (cells.map .int)),.sh (.int (n:Int)),.ow (.li (held.map .int)),.ow (.li (L.map Lz.d)),.ow (.li (rows.map dRow)),.sh (.int (i:Int)),.ow (.li (left.map .int)),s9,s10])
   ⟨held,ps.map λ p:Pi=>p.g.at i,L,s9,s10,hhl,hh0,by simp,λ x hx=>?_,hL,hLd,by rw [List.map_map];rfl⟩ ?_ ?_
  ·obtain ⟨p,hpp,rfl⟩:=List.mem_map.mp hx
   exact (hp p hpp).2.2.2.2 i
  ·rintro k m δ hm ⟨held,left,L,s9,s10,hhl,hh0,hll,hl0,hL,hLd,rfl⟩
   obtain ⟨hk,hk2⟩:=List.getElem?_eq_some_iff.mp hm
   simp at hk hk2
   subst hk2
   obtain ⟨c,hck⟩:∃ c,cells[k]?=some c:=⟨_,List.getElem?_eq_getElem hk⟩
   walk_at "dd"
   rw [show (0:Int)+(k:Int)=(k:Int) by lia]
   have gc:atI (cells.map PyData.int) ((k:Nat):Int)=some (.int c):=zi2 (by lia) (by rw [Int.toNat_natCast,List.getElem?_map,hck];rfl)
   refine ⟨_,gc,?_⟩
   walk_at "dd"
   refine ⟨by lia,two (λ hmod=>?_) λ _=>⟨held,left,L,_,_,hhl,hh0,hll,hl0,hL,hLd,rfl⟩⟩
   refine ze0 λ J hJ=>?_
   walk_at "dd"
   refine ⟨_,_,rfl,rfl,_,gc,?_⟩
   walk_at "dd"
   refine ⟨⟨by lia,by lia⟩,ps,held,left,_,⟨rfl,rfl,rfl,rfl⟩,p1,p24,hll,(λ p hpp=>by rw [hhl];exact (hp p hpp).1),hh0,(λ x hx=>(hl0 x hx).1),λ at_ p am hpa a0 a1 a2=>hJ _ ?_⟩
   clear hJ
   have hal:=(List.getElem?_eq_some_iff.mp hpa).1
   have hlb:=hl0 (left.getD at_ 0) (by rw [List.getD_eq_getElem?_getD,List.getElem?_eq_getElem (by lia)];exact List.getElem_mem _)
   have hkl:k < L.length:=by lia
   walk_at "dd"
   refine ⟨_,rfl,_,rfl,?_⟩
   refine ⟨k,zk7 (by rw [List.length_map];exact hkl),held.set p.u (held.getD p.u 0 - am),left.set at_ (left.getD at_ 0 - am),L.set k ⟨(i:Int),(at_:Int),am⟩,.sh (.int (k:Int)),.sh (.list [.int (at_:Int),.int am]),by rw [List.length_set];exact hhl,zxm hh0 (by lia),by rw [List.length_set];exact hll,zxm hl0 (by lia),by rw [List.length_set];exact hL,zxm hLd ⟨by show (0:Int)<=(i:Int);lia,by show (i:Int)<=100;lia,by show (0:Int)<=(at_:Int);lia,by show (at_:Int) < _;lia,a0,by show am<=_;lia⟩,?_⟩
   rw [List.map_set (f:=Lz.d)]
   rfl
  ·rintro δ ⟨held,left,L,s9,s10,hhl,hh0,hll,hl0,hL,hLd,rfl⟩
   refine hJ _ ?_
   clear hJ
   refine ze0 λ J hJ=>?_
   walk_at "dd"
   refine ⟨by rw [List.length_map];lia,hJ _ ?_⟩
   clear hJ
   walk_at "dd"
   refine ⟨ps,L,held,i+1,rfl,λ l hl=>⟨(hLd l hl).1,(hLd l hl).2.2.1,(hLd l hl).2.2.2.1⟩,λ p hpp=>by rw [hhl];exact (hp p hpp).2.1,?_⟩
   refine ⟨znf ps (i+1) L held,L,rows++[held],.sh (.int (i:Int)),.ow (.li (left.map .int)),s9,s10,by rw [zaa];exact hhl,zxd _ _ _ _ hh0 λ l hl=>?_,hL,hLd,by simp [hrl],λ r hr=>?_,?_⟩
   ·obtain ⟨x,hx,rfl⟩:=List.mem_map.mp hl
    obtain ⟨d1,d2,d3,d4,d5,d6⟩:=hLd x hx
    exact ⟨d5,by rw [hhl];exact zor (λ p hpp=>(hp p hpp).2.1) (by show x.at_.toNat < _;lia)⟩
   ·rcases List.mem_append.mp hr with z|z
    ·exact hrr r z
    ·simp at z;subst z;exact hhl
   ·rw [List.map_append]
    rfl
 ·rintro δ ⟨held,L,rows,s7,s8,s9,s10,hhl,hh0,hL,hLd,hrl,hrr,rfl⟩
  rw [List.length_range] at hrl
  refine hJ _ ?_
  clear hJ
  refine ze0 λ J hJ=>?_
  walk_at "dd"
  refine ⟨_,_,rfl,rfl,by rw [List.length_map];lia,hJ _ ?_⟩
  clear hJ
  walk_at "dd"
  refine ⟨_,_,rfl,rfl,_,_,rfl,rfl,zmv (λ l:Lz=>if 0 < l.am then some (Lz.d l) else none) (by rw [sizeLine_eq,hL];lia) (λ l hl=>?_) ?_⟩
  ·walk_at "cs"
   rw [show Lz.d l=.tuple [.int l.t,.int l.at_,.int l.am] from rfl]
   walk_at "dd"
   refine ⟨_,rfl,?_⟩
   walk_at "dd"
   exact two (λ z=>by rw [if_pos z]) λ z=>by rw [if_neg z]
  ·rw [zhb]
   have:=q (L.filter λ l=>decide (0 < l.am)) (rows++[held]) (Nat.le_trans (List.length_filter_le _ _) (by lia)) (λ l hl=>hLd l (List.mem_filter.mp hl).1) (by simp;lia) λ r hr=>by
    rcases List.mem_append.mp hr with z|z
    ·exact hrr r z
    ·simp at z;subst z;exact hhl
   rw [List.map_append] at this
   exact this
end
def zs11:Scope:={ kind:=.function,names:=[(".0",.local),("k",.cell),("max",.globalImplicit),("fills",.free),("rows",.free)],isGenerator:=false,isCoroutine:=false }
theorem zsk (c:Nat->Prop) [DecidablePred c]:∀ xs:List Nat,xs.filterMap (λ k=>if c k then some (PyData.int (k:Int)) else none)=(xs.filter (λ k=>decide (c k))).map (λ k=>.int (k:Int))
|[]=>rfl
|x :: xs=>by
  rw [List.filterMap_cons,List.filter_cons,zsk c xs]
  by_cases h:c x
  ·simp [h]
  ·simp [h]
theorem zan {α:Type} (enc:α->D):∀ (rs:List D) (P:Nat->α->Prop),(∀ (j:Nat) r,rs[j]?=some r->∃ a,r=enc a/\P j a)->∃ ys:List α,rs=ys.map enc/\∀ (j:Nat) a,ys[j]?=some a->P j a
|[],P,_=>⟨[],rfl,λ j a e=>by simp at e⟩
|r :: rs,P,h=>by
  obtain ⟨a,rfl,p⟩:=h 0 r rfl
  obtain ⟨ys,rfl,q⟩:=zan enc rs (λ j=>P (j+1)) λ j r e=>h (j+1) r (by simpa using e)
  refine ⟨a :: ys,rfl,λ j b e=>?_⟩
  cases j with
 |zero=>simp at e;subst e;exact p
 |succ j=>exact q j b (by simpa using e)
section
variable {P:Program} {w:World} {K:Fg} {mg:Str->Option Value} {base:Heap}
theorem zdb:FnScope ["script", "fills", "rows", "tops", "able", "number", "at", "name"] ["script", "fills", "rows"] (zh0 zn2):=by walk_at "sc"
theorem zei (M:Md K mg) (T:TopDef K "_law_vats" zn2) (jT:mg "len"=none) (vR:mg "max"=none) (jS:mg "range"=none) (jD:Def P w K mg base "_law_draw" 1 ["script", "k"] (spD K zp1)) (uZ:Def P w K mg base "_law_name" 1 ["number", "k"] (spD K zlg)):Def P w K mg base "_law_vats" 2 ["script", "fills", "rows"] (spD K zjb):=by
 refine zs3 M T zdb (λ _ _ _ _ _ _ us hl=>by obtain ⟨_,_,_,rfl⟩:=ar3 hl;rfl) (zth λ ds Qd h=>by obtain ⟨_,_,_,rfl,_⟩:=h;rfl) (zz5 ?_)
 intro f cdv A outer s H E hr
 have nd:=zdb.nd
 refine ⟨_,_,(zd0 (pset 3 nd (zn3 (sc:=zh0 zn2) (N:=["script", "fills", "rows", "tops", "able", "number", "at", "name"]) (own:=["k"]) (ix:=[1,2]) rfl rfl rfl (by walk_at "csc") (zz1 rfl jS (za0 (zv0 (zg1 (K:=K) rfl) rfl jT zv3 (za0 (pv 1) zg0)) zg0)) (λ _ _ _ _=>⟨(pgn 0 (nds ["k", "fills", "rows"])),zm3,(zv0 (znq (K:=K) rfl rfl) rfl vR zf01 (za0 (zq0 (zr0 (K:=K) rfl) (zn1 (za0 (pix w K hr (pv 1) (pv 0)) zg0)) (zn3 (sc:=relS zs11 (zh0 zn2)) (N:=["k", "fills", "rows"]) (own:=["row"]) (ix:=[0]) rfl rfl rfl (by walk_at "csc") (pi_W (K:=K) rfl (pv 2)) (λ _ _ _ _=>⟨(pgn 0 (nds ["row", "k"])),zm3,(pix w K hr (pv 0) (pv 1))⟩))) zg0))⟩)))
   (zd0 (zb4 (i:=4) (sc:=zh0 zn2) (N:=["script", "fills", "rows", "tops", "able", "number", "at", "name"]) (own:=["k"]) (ix:=[3,1]) rfl rfl rfl (by walk_at "csc") nd rfl rfl (zz1 rfl jS (za0 (zv0 (zg1 (K:=K) rfl) rfl jT zv3 (za0 (pv 1) zg0)) zg0)) (λ _ _ _ _=>⟨(pgn 0 (nds ["k", "tops", "fills"])),(zfd (zt0 zoo (pix w K hr (pv 1) (pv 0)) (pix w K hr (pv 2) (pv 0)) (zf1 _))),(pv 0)⟩))
   (zd0 (pset 5 nd (zo0 jD (rmn hr) rfl (za0 (pv 0) (za0 zf0 zg0))))
   (zd0 (zn4 (PW.pt (zcp (zt0 (zrh (K:=K) rfl (Room.units hr)) (pv 4) (zn1 zg0) (zf1 _)) (zjk (zt0 (zg2 (K:=K) rfl (Room.units hr)) (zq0 ze1 (pv 5) zf0) zf0 (zf1 _))))) (zd0 (pset 6 nd (pix w K hr (pv 4) (zq0 ze1 (zq0 zz0 (pv 5) zf0) (zv0 (zg1 (K:=K) rfl) rfl jT zv3 (za0 (pv 4) zg0)))))
   (zk0 (zp9 (zq0 (zr0 (K:=K) rfl) (pix w K hr (pv 1) (pv 6)) (zq0 ze1 (zo0 jD (rmn hr) rfl (za0 (pv 0) (za0 zf0 zg0))) (zq0 zib (pix w K hr (pv 3) (pv 6)) (pix w K hr (pv 1) (pv 6))))) (ztc (pv 3) (pv 6) (zkl (Room.units hr)))))) zc1)
   (zd0 (pset 7 nd (zo0 jD (rmn hr) rfl (za0 (pv 0) (za0 zf0 zg0))))
   (zk0 (zi1 (zn3 (sc:=zh0 zn2) (N:=["script", "fills", "rows", "tops", "able", "number", "at", "name"]) (own:=["k"]) (ix:=[7,3,1]) rfl rfl rfl (by walk_at "csc") (zz1 rfl jS (za0 (zv0 (zg1 (K:=K) rfl) rfl jT zv3 (za0 (pv 1) zg0)) zg0)) (λ _ _ _ _=>⟨(pgn 0 (nds ["k", "name", "tops", "fills"])),zm3,(zt1 (za0 (zo0 uZ (rmn hr) rfl (za0 (pv 1) (za0 (pv 0) zg0))) (za0 (pix w K hr (pv 2) (pv 0)) (za0 (pix w K hr (pv 3) (pv 0)) zg0))))⟩))))))))),(zm0 (zr7 (RfF.c (zk2 (RfI.j (zs4 (zc0 (zw7 zxc (zu0 (zb0 1) zo1)) zl0))) (zw1 (i:=0) (n:=1) (by decide)) zk4 (zw7 zk61 (zu0 (RfE.v (zj0 zo2 (RfE.v (RfF.e (zk3 (zc0 (zj0 r_ix (zb0 1) (zb0 0)) zl0)))) (RfE.v (RfF.e (zk2 (znn (zb0 2)) (zw1 (i:=0) (n:=1) (by decide)) zk4 (zj0 r_ix (zb0 0) (zb0 1))))))) zo1)))))
   (zm0 (za1 (RfF.e (zk2 (RfI.j (zs4 (zc0 (zw7 zxc (zu0 (zb0 1) zo1)) zl0))) (zw1 (i:=0) (n:=1) (by decide)) (zs0 (zj0 r_gt (RfE.v (zj0 r_ix (zb0 1) (zb0 0))) (RfE.v (zj0 r_ix (zb0 2) (zb0 0))))) (zi0 0))) (rgn 4))
   (zm0 (za1 (zy0 (zc0 (zi0 0) (zc0 zd1 zl0))) (rgn 5))
   (zm0 (zo6 (zfq (zs0 (zu1 q_ne (RfV.h (zb0 4)) (zlm zhl))) (zs0 (zu1 q_eq (RfV.h (RfE.v (zj0 zf2 (zb0 5) rvi))) (RfV.h rvi)))) (zm0 (za1 (zj0 r_ix (zb0 4) (RfE.v (zj0 zf2 (RfE.v (zj0 zg7 (zb0 5) rvi)) (RfE.v (zw7 zxc (zu0 (zb0 4) zo1)))))) (rgn 6))
   (zrc (zj0 zo2 (RfE.v (zj0 r_ix (zb0 1) (zb0 6))) (RfE.v (zj0 zf2 (RfE.v (zy0 (zc0 (zi0 0) (zc0 zd1 zl0)))) (RfE.v (zj0 zsn (RfE.v (zj0 r_ix (zb0 3) (zb0 6))) (RfE.v (zj0 r_ix (zb0 1) (zb0 6)))))))) (zx0 3) (zi0 6))) zb1)
   (zm0 (za1 (zy0 (zc0 (zi0 0) (zc0 zd1 zl0))) (rgn 7))
   (zj1 (RfF.c (zk2 (RfI.j (zs4 (zc0 (zw7 zxc (zu0 (zb0 1) zo1)) zl0))) (zw1 (i:=0) (n:=1) (by decide)) zk4 (zl3 (zc0 (zy0 (zc0 (zi0 1) (zc0 (zi0 0) zl0))) (zc0 (zj0 r_ix (zb0 2) (zb0 0)) (zc0 (zj0 r_ix (zb0 3) (zb0 0)) zl0)))))))))))),?_⟩
 rintro ds Qd ⟨ns,fills,rows,rfl,hf,hr,hrl,q⟩
 walk_at "ds"
 have gf:∀ k,k < fills.length->atI (fills.map PyData.int) ((k:Nat):Int)=some (.int (fills.getD k 0)):=λ k hk=>zi2 (by lia) (by rw [Int.toNat_natCast,List.getElem?_map,List.getD_eq_getElem?_getD,List.getElem?_eq_getElem hk];rfl)
 refine ze0 λ J hJ=>?_
 walk_at "dd"
 rw [List.length_map,Int.toNat_natCast]
 unfold rngD
 refine ⟨by lia,by lia,zt81 (λ (k:Nat) r=>∃ M:Int,r=.int M/\fills.getD k 0<=M) (by rw [sizeLine_eq,List.length_range];lia) (λ k hk=>?_) λ rs hrs hR=>?_⟩
 ·simp at hk
  rw [show (0:Int)+(k:Int)=(k:Int) by lia]
  walk_at "cs"
  walk_at "dd"
  refine ⟨_,gf k hk,zhp (λ r=>.int (r.getD k 0)) (by rw [sizeLine_eq];lia) (λ r hrr=>?_) ?_⟩
  ·walk_at "cs"
   unfold dRow
   walk_at "dd"
   refine ⟨_,zi2 (by lia) (by rw [Int.toNat_natCast,List.getElem?_map,List.getElem?_eq_getElem (by rw [hrl r hrr];exact hk)];rfl),?_⟩
   rw [List.getD_eq_getElem?_getD,List.getElem?_eq_getElem (by rw [hrl r hrr];exact hk)];rfl
  refine ⟨by rw [List.length_map];lia,fills.getD k 0 :: rows.map (λ r=>r.getD k 0),?_,by simp,λ M _ hM=>⟨M,rfl,hM _ List.mem_cons_self⟩⟩
  rw [show (PyData.int (fills.getD k 0) :: rows.map λ r=>PyData.int (r.getD k 0))=(fills.getD k 0 :: rows.map λ r=>r.getD k 0).map .int by rw [List.map_cons,List.map_map];rfl]
  exact zpt _
 rw [List.length_range] at hrs
 obtain ⟨tops,rfl,ht⟩:=zan PyData.int rs (λ j M=>fills.getD j 0<=M) λ j r e=>by
  have hj:j < fills.length:=by rw [<- hrs];exact (List.getElem?_eq_some_iff.mp e).1
  exact hR j r j e (by rw [List.getElem?_range hj])
 have htl:tops.length=fills.length:=by rw [<- hrs,List.length_map]
 have gt:∀ k,k < fills.length->atI (tops.map PyData.int) ((k:Nat):Int)=some (.int (tops.getD k 0)):=λ k hk=>zi2 (by lia) (by rw [Int.toNat_natCast,List.getElem?_map,List.getD_eq_getElem?_getD,List.getElem?_eq_getElem (by lia)];rfl)
 refine hJ _ ?_
 clear hJ hR
 refine ze0 λ J hJ=>?_
 walk_at "dd"
 rw [List.length_map,Int.toNat_natCast]
 unfold rngD
 refine ⟨by lia,by lia,zmv (λ k=>if fills.getD k 0 < tops.getD k 0 then some (.int (k:Int)) else none) (by rw [sizeLine_eq,List.length_range];lia) (λ k hk=>?_) ?_⟩
 ·simp at hk
  rw [show (0:Int)+(k:Int)=(k:Int) by lia]
  walk_at "cs"
  walk_at "dd"
  refine ⟨_,gt k hk,?_⟩
  try walk_at "dd"
  refine ⟨_,gf k hk,?_⟩
  walk_at "dd"
  exact two (λ z=>by rw [if_pos z]) λ z=>by rw [if_neg z]
 rw [zsk (λ k=>fills.getD k 0 < tops.getD k 0)]
 have hab:∀ k∈(List.range fills.length).filter (λ k=>decide (fills.getD k 0 < tops.getD k 0)),k < fills.length/\fills.getD k 0 < tops.getD k 0:=λ k hk=>by
  obtain ⟨h1,h2⟩:=List.mem_filter.mp hk
  exact ⟨List.mem_range.mp h1,of_decide_eq_true h2⟩
 generalize (List.range fills.length).filter (λ k=>decide (fills.getD k 0 < tops.getD k 0))=ab at hab ⊢
 refine hJ _ ?_
 clear hJ
 refine ze0 λ J hJ=>?_
 walk_at "dd"
 refine ⟨ns,220,rfl,by lia,λ x x0 x1=>hJ _ ?_⟩
 clear hJ
 refine zab (λ δ=>∃ (tops:List Int) (s6:Sl),tops.length=fills.length/\δ=[.sh (.list (ns.map .int)),.sh (.list (fills.map .int)),.sh (.list (rows.map dRow)),.ow (.li (tops.map .int)),.sh (.list (ab.map λ (k:Nat)=>PyData.int (k:Int))),.sh (.int x),s6,.un]) ?_ ?_
 ·walk_at "dd"
  have fa:Fit 1 (.list (ab.map λ (k:Nat)=>PyData.int (k:Int))):=zfk λ _ _=>Fit.int _
  refine ⟨fa.shaped (by decide),rfl,?_⟩
  rw [zqk,List.isEmpty_map]
  cases hae:ab.isEmpty with
 |true =>
   rw [if_neg (by decide)]
   exact ⟨tops,.un,htl,rfl⟩
 |false =>
   rw [if_pos (by decide)]
   have a0:1<=ab.length:=by
    cases ab with
   |nil=>cases hae
   |cons _ _=>simp
   refine two (λ _=>?_) λ _=>⟨tops,.un,htl,rfl⟩
   refine ze0 λ J hJ=>?_
   walk_at "dd"
   rw [List.length_map]
   have e0:=Int.emod_nonneg (x / 3) (b:=(ab.length:Int)) (by lia)
   have e1:=Int.emod_lt_of_pos (x / 3) (b:=(ab.length:Int)) (by lia)
   obtain ⟨j,hj⟩:=Int.eq_ofNat_of_zero_le e0
   rw [hj] at e1 ⊢
   obtain ⟨k,hk⟩:∃ k,ab[j]?=some k:=⟨_,List.getElem?_eq_getElem (by lia)⟩
   obtain ⟨k1,k2⟩:=hab k (List.mem_of_getElem? hk)
   refine ⟨by lia,_,zi2 (by lia) (by rw [Int.toNat_natCast,List.getElem?_map,hk];rfl),hJ _ ?_⟩
   clear hJ
   walk_at "dd"
   refine ⟨_,gf k k1,ns,221,rfl,by lia,λ y y0 y1=>?_⟩
   refine ⟨_,gt k k1,_,gf k k1,?_⟩
   walk_at "dd"
   refine ⟨by lia,k,zk7 (by rw [List.length_map];lia),tops.set k (fills.getD k 0+y % (tops.getD k 0 - fills.getD k 0)),.sh (.int (k:Int)),by rw [List.length_set];exact htl,?_⟩
   rw [List.map_set]
 rintro δ ⟨tops,s6,htl,rfl⟩
 have gt:∀ k,k < fills.length->atI (tops.map PyData.int) ((k:Nat):Int)=some (.int (tops.getD k 0)):=λ k hk=>zi2 (by lia) (by rw [Int.toNat_natCast,List.getElem?_map,List.getD_eq_getElem?_getD,List.getElem?_eq_getElem (by lia)];rfl)
 refine ze0 λ J hJ=>?_
 walk_at "dd"
 refine ⟨ns,9,rfl,by lia,λ m m0 m1=>hJ _ ?_⟩
 clear hJ
 walk_at "dd"
 rw [List.length_map,Int.toNat_natCast]
 unfold rngD
 refine ⟨by lia,by lia,zt81 (λ (k:Nat) r=>∃ v:Va,r=Va.d v/\v.fill=fills.getD k 0/\v.nm.cps.all (· < 0x110000)=true) (by rw [sizeLine_eq,List.length_range];lia) (λ k hk=>?_) λ rs hrs hR=>?_⟩
 ·simp at hk
  rw [show (0:Int)+(k:Int)=(k:Int) by lia]
  walk_at "cs"
  walk_at "dd"
  refine ⟨m,k,rfl,m0,by lia,λ y hy=>?_⟩
  try walk_at "dd"
  refine ⟨_,gt k hk,?_⟩
  try walk_at "dd"
  exact ⟨_,gf k hk,⟨y,tops.getD k 0,fills.getD k 0⟩,rfl,rfl,hy⟩
 rw [List.length_range] at hrs
 obtain ⟨vs,rfl,hv⟩:=zan Va.d rs (λ j v=>v.fill=fills.getD j 0/\v.nm.cps.all (· < 0x110000)=true) λ j r e=>by
  have hj:j < fills.length:=by rw [<- hrs];exact (List.getElem?_eq_some_iff.mp e).1
  exact hR j r j e (by rw [List.getElem?_range hj])
 rw [List.length_map] at hrs
 refine q vs (List.ext_getElem (by rw [List.length_map,hrs]) λ j h1 h2=>?_) λ v hv'=>?_
 ·rw [List.getElem_map,(hv j _ (List.getElem?_eq_getElem (by rw [hrs];exact h2))).1,List.getD_eq_getElem?_getD,List.getElem?_eq_getElem h2];rfl
 ·obtain ⟨j,hj⟩:=List.getElem?_of_mem hv'
  exact (hv j v hj).2
end
def zgy (c:Nat):List D:=(List.range 10).map λ j=>.bool (c == j)
theorem zhv {Ds:List Addr} (h:Ds.Nodup) (hl:Ds.length=9) {c:Nat} {C:Addr} (hc:Ds[c]?=some C):(Ds.map λ D=>PyData.bool (C == D))++[.bool false]=zgy c:=by
 obtain ⟨h9,rfl⟩:=List.getElem?_eq_some_iff.mp hc
 unfold zgy
 refine List.ext_getElem (by simp [hl]) λ i h1 h2=>?_
 simp at h2
 rw [List.getElem_map,List.getElem_range]
 rcases Nat.lt_or_ge i 9 with z|z
 ·rw [List.getElem_append_left (by simpa [hl] using z),List.getElem_map]
  congr 1
  by_cases e:c=i
  ·subst e;simp
  ·have ne:Ds[c]≠Ds[i]'(by lia):=by
    rcases Nat.lt_or_gt_of_ne e with y|y
    ·exact (List.pairwise_iff_getElem.mp h) c i _ _ y
    ·exact λ w=>(List.pairwise_iff_getElem.mp h) i c _ _ y w.symm
   rw [beq_eq_false_iff_ne.mpr ne,beq_eq_false_iff_ne.mpr e]
 ·obtain rfl:i=9:=by lia
  rw [List.getElem_append_right (by simp [hl])]
  simp
  lia
theorem zoy (c j:Nat):decide ((c:Int)=(j:Int))=(c == j):=by
 by_cases h:c=j
 ·subst h;simp
 ·rw [beq_eq_false_iff_ne.mpr h,decide_eq_false (by lia)]
theorem zbq (c:Nat):Fit 1 (.list (zgy c)):=Fit.lst λ d hd=>by
 unfold zgy at hd
 obtain ⟨j,_,rfl⟩:=List.mem_map.mp hd
 exact Fit.bl _
theorem zhx (n:Nat) (k am l h:Int):dueF n k am l h<=4:=by
 unfold dueF
 repeat' split
 all_goals decide
theorem zpn {ps:List Pi} {k:List Int->Option Nat} (hk:∀ h c,k h=some c->c < 6):∀ (ls:List Lz) (h f:List Int) {c:Nat},zyv ps ls h f k=some c->c < 6
|[],h,_,c,e=>hk h c e
|l :: r,h,f,c,e=>by
  unfold zyv at e
  split at e
  ·exact zpn hk r _ _ e
  ·have:=zhx ps.length l.at_ l.am (f.getD l.at_.toNat 0) (h.getD (zh2 ps l.at_.toNat) 0)
   have e':=Option.some.inj e
   lia
theorem zer {rooms:List Int} {ps:List Pi} {plan:List Lz}:∀ (d now:Nat) (h:List Int) {c:Nat},resA rooms ps plan d now h=some c->c < 6
|0,now,h,c,e=>by
  unfold resA at e
  split at e
  ·cases e
  ·cases e;decide
|d+1,now,h,c,e=>by
  unfold resA at e
  refine zpn (λ h' c' e'=>?_) _ _ _ e
  split at e'
  ·exact zer d _ _ e'
  ·cases e';decide
theorem zex {rooms:List Int} {ps:List Pi} {plan:List Lz} {n:Nat} {h:List Int} {c:Nat} (e:resP rooms ps plan n h=some c):c < 6:=by
 unfold resP at e
 split at e
 ·cases e;decide
 ·exact zer _ _ _ e
theorem zk91 (g:Gt):Fit 1 g.d:=by
 cases g <;> exact Fit.tup λ e he=>by
  simp at he
  rcases he with rfl|rfl|rfl|rfl <;> first|exact Fit.int _|exact Fit.str (by decide +kernel)
theorem zka1 (p:Pi):Fit 2 p.d:=Fit.tup λ e he=>by
 simp at he
 rcases he with rfl|rfl|rfl|rfl|rfl
 ·exact Fit.int _
 ·exact Fit.int _
 ·exact Fit.int _
 ·exact Fit.int _
 ·exact zk91 _
theorem zq61 (ps:List Pi):Fit 3 (.list (ps.map Pi.d)):=zfk λ p _=>zka1 p
theorem zu31 {vs:List Va} (h:∀ v∈vs,v.nm.cps.all (· < 0x110000)=true):Fit 2 (.list (vs.map Va.d)):=zfk λ v hv=>Fit.tup λ e he=>by
 simp at he
 rcases he with rfl|rfl|rfl
 ·exact Fit.str (h v hv)
 ·exact Fit.int _
 ·exact Fit.int _
theorem zgh:bootBuiltins "ValueError"=some (.type "ValueError"):=by decide +kernel
section
variable {P:Program} {w:World} {K:Fg} {mg:Str->Option Value} {base:Heap} {jB jF jC jA jQ jK jH jJ jE jG jI qN kY kD:Addr}
theorem zez:FnScope ["script", "fills", "pipes", "until", "plan", "rows", "vats", "k", "place", "due", "handed", "asked", "found", "told", "e"] ["script"] (zh0 zbw):=by walk_at "sc"
theorem zpv (M:Md K mg) (kt:Kit K) (qC:mg "ValueError"=none) (jR:mg "isinstance"=none) (jT:mg "len"=none) (kS:mg "list"=none) (jS:mg "range"=none) (jD:Def P w K mg base "_law_draw" 1 ["script", "k"] (spD K zp1)) (uH:Def P w K mg base "_law_fills" 2 ["script"] (spD K zn8)) (uI:Def P w K mg base "_law_pipes" 4 ["script", "many"] (spD K zi8)) (uJ:Def P w K mg base "_law_until" 2 ["script"] (spD K zr8)) (uK:Def P w K mg base "_law_drawn" 2 ["fills", "pipes", "cells", "until"] (spT K zf8)) (vA:Def P w K mg base "_law_vats" 2 ["script", "fills", "rows"] (spD K zjb)) (uD:Def P w K mg base "_law_spoilt" 2 ["script", "k", "pipes", "until", "letting"] (spD K zu6)) (qD:Def P w K mg base "_law_two_faults" 3 ["script", "pipes", "until", "plan"] (spD K zi3)) (vK:Def P w K mg base "_law_due" 2 ["vats", "pipes", "plan", "until"] (spD K zge)) (vP:Def1 P w K mg base "played" 6 ["yard", "plan", "until"] (spX K (zve jK jH jJ jE jG jI))) (qE:XCls K "YardError" jQ) (qA:XCls K "NoPipe" jK) (kO:XCls K "NoAmount" jH) (kU:XCls K "TooWide" jJ) (kK:XCls K "TooLittle" jE) (kW:XCls K "TooFull" jG) (kQ:XCls K "NoMoment" jI) (vB:XCls K "NoRow" qN) (uG:XCls K "NoName" kY) (qF:XCls K "NoMeasure" kD) (kE:PySem.W.exmOne K (.ref jK) (.ref jQ)=some true) (jX:PySem.W.exmOne K (.ref jH) (.ref jQ)=some true) (jZ:PySem.W.exmOne K (.ref jJ) (.ref jQ)=some true) (jW:PySem.W.exmOne K (.ref jE) (.ref jQ)=some true) (kA:PySem.W.exmOne K (.ref jG) (.ref jQ)=some true) (jY:PySem.W.exmOne K (.ref jI) (.ref jQ)=some true) (kx:KxT K [jK,jH,jJ,jE,jG,jI] [jK,jH,jJ,jE,jG,jI,qN,kY,kD]) :
  ∀ (f:Addr) (cdv:Value) (A:Around) (outer:List Env) (s:Shared) (H:Hp) (E:XK),Room 6 (A.deeper (envOfC "law" (zh0 zbw) s.heap.objs.size f cdv)) ->
   ∃ t d,PSs (cxOf CX0 P w K mg base ["script", "fills", "pipes", "until", "plan", "rows", "vats", "k", "place", "due", "handed", "asked", "found", "told", "e"] "law" (zh0 zbw) f cdv A outer s H E).nox (zj2 zbw) t/\RfS K t d/\∀ (ns:List Int) (Qd:D->Prop),ns.length<=63->Qd (.bool true)->d { nx:=λ _=>Qd .none,rt:=rD Qd } (zpf ["script", "fills", "pipes", "until", "plan", "rows", "vats", "k", "place", "due", "handed", "asked", "found", "told", "e"] [.list (ns.map .int)]):=by
 intro f cdv A outer s H E hr
 have nd:=zez.nd
 refine ⟨_,(dSeq (dAsg (zql zn8 (zl1 (dVar 0) dNil)) (gN 1))
   (dSeq (dAsg (zql zi8 (zl1 (dVar 0) (zl1 (dCB fLen (zl1 (zy1 1) dNil)) dNil))) (gN 2))
   (dSeq (dAsg (zql zr8 (zl1 (dVar 0) dNil)) (gN 3))
   (dSeq (dUnp 4 5 (zj21 zf8 (aD (dVar 1) (aD (dVar 2) (aD (dSl (zy1 0) zxn (zx31 (dC (.int 63)))) (aD (dVar 3) aNil))))))
   (dSeq (dAsg (zql zjb (zl1 (dVar 0) (zl1 (dVar 1) (zl1 (dVar 5) dNil)))) (gN 6))
   (dSeq (dIf (dAnd (zpi (dOp fEq (zy1 4) (dF (dLst dNil)))) (zpi (dOp fEq (dOp fMod (zql zp1 (zl1 (dVar 0) (zl1 (dC (.int 4)) dNil))) (dC (.int 2))) (dC (.int 1))))) (dSet 4 (cF (dLst (zl1 (dTup (zl1 (dC (.int 0)) (zl1 (dC (.int 0)) (zl1 (dC (.int 1)) dNil)))) dNil)))) zpl)
   (dSeq (dFor (zdt (zl1 (dOp fMod (dOp fDiv (zql zp1 (zl1 (dVar 0) (zl1 (dC (.int 4)) dNil))) (dC (.int 2))) (dC (.int 3))) dNil)) (gN 7) (dIf (zpi (dOp fNe (zy1 4) (dF (dLst dNil)))) (dSeq (dAsg (dOp fMod (zql zp1 (zl1 (dVar 0) (zl1 (dOp fAdd (dC (.int 230)) (zy1 7)) dNil))) (dCB fLen (zl1 (zy1 4) dNil))) (gN 8))
   (dPut (pVar 4) (dVar 8) (zql zu6 (zl1 (dVar 0) (zl1 (dOp fAdd (dC (.int 240)) (dOp fMul (dC (.int 2)) (zy1 7))) (zl1 (dVar 2) (zl1 (dVar 3) (zl1 (dOp fIx (zy1 4) (zy1 8)) dNil)))))))) zpl))
   (dSeq (dFrz 4 [] (dSet 4 (cE (zql zi3 (zl1 (dVar 0) (zl1 (dVar 2) (zl1 (dVar 3) (zl1 (dVar 4) dNil))))))))
   (dSeq (dAsg (zht zge (zl1 (zy1 6) (zl1 (zy1 2) (zl1 (zy1 4) (zl1 (zy1 3) dNil))))) (gN 9))
   (dSeq (dAsg (dTup (zl1 (dF (dCF zhs (zl1 (zy1 6) dNil))) (zl1 (dF (dCF zhs (zl1 (zy1 2) dNil))) dNil))) (gN 10))
   (dSeq (dAsg (dF (dCF zhs (zl1 (zy1 4) dNil))) (gN 11))
   (dSeq (dSet 12 (cE (dC .none)))
   (dSeq (dAsg (dF (dRep (dLst (zl1 (dC (.bool false)) dNil)) (dC (.int 10)))) (gN 13))
   (dSeq (zs71 K (λ ex=>(zy21 12 (zsv (zve jK jH jJ jE jG jI) (aD (dVar 10) (aD (dVar 11) (aD (dVar 3) aNil)))) ex)) [(.ref jQ,λ C=>dAs 14 (dG [jK,jH,jJ,jE,jG,jI] C (dSeq (dAsg (dF (dLst (zl1 (dC (.bool (C == jK))) (zl1 (dC (.bool (C == jH))) (zl1 (dC (.bool (C == jJ))) (zl1 (dC (.bool (C == jE))) dNil)))))) (gN 13))
   (dSeq (dAsg (dOp fAdd (zy1 13) (dF (dLst (zl1 (dC (.bool (C == jG))) (zl1 (dC (.bool (C == jI))) (zl1 (dC (.bool (C == qN))) dNil)))))) (gN 13))
   (dAsg (dOp fAdd (zy1 13) (dF (dLst (zl1 (dC (.bool (C == kY))) (zl1 (dC (.bool (C == kD))) (zl1 (zn31 (dC (.bool true))) dNil)))))) (gN 13))))))])
   (dSeq (dIf (dOr (zpi (dOp fNe (zy1 10) (dTup (zl1 (zy1 6) (zl1 (zy1 2) dNil))))) (dOr (zpi (dOp fNe (zy1 11) (zy1 4))) (zpi (dOp fNe (zy1 13) (dF (zxv (zdt (zl1 (dC (.int 10)) dNil)) 1 [9] (gN 0) zjr (dOp fEq (zy1 1) (zy1 0)))))))) (dRet (cE (dC (.bool false)))) zpl)
   (dFrz 12 [] (dRet (cE (dOrV (dOp fGe (zy1 9) (dC (.int 0))) (zu41 (dIs "list" (zy1 12)) (dOp fEq (dCB fLen (zl1 (zy1 12) dNil)) (dOp fAdd (zy1 3) (dC (.int 1)))))))))))))))))))))))),(zd0 (pset 1 nd (zo0 uH (rmn hr) rfl (za0 (pv 0) zg0)))
   (zd0 (pset 2 nd (zo0 uI (rmn hr) rfl (za0 (pv 0) (za0 (zv0 (zg1 (K:=K) rfl) rfl jT zv3 (za0 (pv 1) zg0)) zg0))))
   (zd0 (pset 3 nd (zo0 uJ (rmn hr) rfl (za0 (pv 0) zg0)))
   (zd0 (zp9 (zo0 uK (rmn hr) rfl (za0 (pv 1) (za0 (pv 2) (za0 (zli (sl_W (K:=K) rfl) (pv 0) zbk (zwa zf0)) (za0 (pv 3) zg0))))) (zsa (K:=K) (n:=2) rfl rfl (zr1 (pgn 4 nd) (zr1 (pgn 5 nd) zva))))
   (zd0 (pset 6 nd (zo0 vA (rmn hr) rfl (za0 (pv 0) (za0 (pv 1) (za0 (pv 5) zg0)))))
   (zd0 (zn4 (PW.pt (zcp (zt0 (zg2 (K:=K) rfl (Room.units hr)) (pv 4) (zn1 zg0) (zf1 _)) (zjk (zt0 (zg2 (K:=K) rfl (Room.units hr)) (zq0 ze1 (zo0 jD (rmn hr) rfl (za0 (pv 0) (za0 zf0 zg0))) zf0) zf0 (zf1 _))))) (zk0 (pset 4 nd (zn1 (za0 (zt1 (za0 zf0 (za0 zf0 (za0 zf0 zg0)))) zg0)))) zc1)
   (zd0 (zs9 PassesOwn.never rfl (zz1 rfl jS (za0 (zq0 ze1 (zq0 zz0 (zo0 jD (rmn hr) rfl (za0 (pv 0) (za0 zf0 zg0))) zf0) zf0) zg0)) (pgn 7 nd) (zk0 (zn4 (zt0 (zrh (K:=K) rfl (Room.units hr)) (pv 4) (zn1 zg0) (zf1 _)) (zd0 (pset 8 nd (zq0 ze1 (zo0 jD (rmn hr) rfl (za0 (pv 0) (za0 (zq0 (zr0 (K:=K) rfl) zf0 (pv 7)) zg0))) (zv0 (zg1 (K:=K) rfl) rfl jT zv3 (za0 (pv 4) zg0))))
   (zk0 (zp9 (zo0 uD (rmn hr) rfl (za0 (pv 0) (za0 (zq0 (zr0 (K:=K) rfl) zf0 (zq0 zs1 zf0 (pv 7))) (za0 (pv 2) (za0 (pv 3) (za0 (pix w K hr (pv 4) (pv 8)) zg0)))))) (ztc (pv 4) (pv 8) (zkl (Room.units hr)))))) zc1)))
   (zd0 (pset 4 nd (zo0 qD (rmn hr) rfl (za0 (pv 0) (za0 (pv 2) (za0 (pv 3) (za0 (pv 4) zg0))))))
   (zd0 (pset 9 nd (zo0 vK (rmn hr) rfl (za0 (pv 6) (za0 (pv 2) (za0 (pv 4) (za0 (pv 3) zg0))))))
   (zd0 (pset 10 nd (zt1 (za0 (zq2 (zj3 (K:=K) rfl) rfl kS zd9 (za0 (pv 6) zg0)) (za0 (zq2 (zj3 (K:=K) rfl) rfl kS zd9 (za0 (pv 2) zg0)) zg0))))
   (zd0 (pset 11 nd (zq2 (zj3 (K:=K) rfl) rfl kS zd9 (za0 (pv 4) zg0)))
   (zd0 (pset 12 nd zo61)
   (zd0 (pset 13 nd (zq0 zs1 (zn1 (za0 zv81 zg0)) zf0))
   (zd0 (zxy rfl rfl (λ pn xe=>(HandsN.cons (i:=14) (t:=λ C ea=>(tSeq (tAsg (zgr (zw2 (tCB (rIsE K ea C) (zw2 (tVar 14) (zw2 (tC (.ref jK)) tNil))) (zw2 (tCB (rIsE K ea C) (zw2 (tVar 14) (zw2 (tC (.ref jH)) tNil))) (zw2 (tCB (rIsE K ea C) (zw2 (tVar 14) (zw2 (tC (.ref jJ)) tNil))) (zw2 (tCB (rIsE K ea C) (zw2 (tVar 14) (zw2 (tC (.ref jE)) tNil))) tNil))))) (znd 13)) (tSeq (tAsg (tOp (zso K) (tVar 13) (zgr (zw2 (tCB (rIsE K ea C) (zw2 (tVar 14) (zw2 (tC (.ref jG)) tNil))) (zw2 (tCB (rIsE K ea C) (zw2 (tVar 14) (zw2 (tC (.ref jI)) tNil))) (zw2 (tCB (rIsE K ea C) (zw2 (tVar 14) (zw2 (tC (.ref qN)) tNil))) tNil))))) (znd 13)) (tAsg (tOp (zso K) (tVar 13) (zgr (zw2 (tCB (rIsE K ea C) (zw2 (tVar 14) (zw2 (tC (.ref kY)) tNil))) (zw2 (tCB (rIsE K ea C) (zw2 (tVar 14) (zw2 (tC (.ref kD)) tNil))) (zw2 (zfy (tCB (rIsE K ea C) (zw2 (tVar 14) (zw2 (tC (.ty "ValueError")) tNil)))) tNil))))) (znd 13))))) rfl (.inl (M.got qE.at_)) (by decide) nd rfl rfl (λ ea oe C hC=>(zd0 (pset 13 nd (zn1 (za0 (zv0 (zr3 rfl hC) rfl jR zh1 (za0 (pv 14) (za0 (zs7 (v:=.ref jK) rfl (M.got qA.at_) rfl) zg0))) (za0 (zv0 (zr3 rfl hC) rfl jR zh1 (za0 (pv 14) (za0 (zs7 (v:=.ref jH) rfl (M.got kO.at_) rfl) zg0))) (za0 (zv0 (zr3 rfl hC) rfl jR zh1 (za0 (pv 14) (za0 (zs7 (v:=.ref jJ) rfl (M.got kU.at_) rfl) zg0))) (za0 (zv0 (zr3 rfl hC) rfl jR zh1 (za0 (pv 14) (za0 (zs7 (v:=.ref jE) rfl (M.got kK.at_) rfl) zg0))) zg0))))))
   (zd0 (pset 13 nd (zq0 (zr0 (K:=K) rfl) (pv 13) (zn1 (za0 (zv0 (zr3 rfl hC) rfl jR zh1 (za0 (pv 14) (za0 (zs7 (v:=.ref jG) rfl (M.got kW.at_) rfl) zg0))) (za0 (zv0 (zr3 rfl hC) rfl jR zh1 (za0 (pv 14) (za0 (zs7 (v:=.ref jI) rfl (M.got kQ.at_) rfl) zg0))) (za0 (zv0 (zr3 rfl hC) rfl jR zh1 (za0 (pv 14) (za0 (zs7 (v:=.ref qN) rfl (M.got vB.at_) rfl) zg0))) zg0))))))
   (zk0 (pset 13 nd (zq0 (zr0 (K:=K) rfl) (pv 13) (zn1 (za0 (zv0 (zr3 rfl hC) rfl jR zh1 (za0 (pv 14) (za0 (zs7 (v:=.ref kY) rfl (M.got uG.at_) rfl) zg0))) (za0 (zv0 (zr3 rfl hC) rfl jR zh1 (za0 (pv 14) (za0 (zs7 (v:=.ref kD) rfl (M.got qF.at_) rfl) zg0))) (za0 (zh31 (zv0 (zr3 rfl hC) rfl jR zh1 (za0 (pv 14) (za0 (zms (v:=.ty "ValueError") rfl qC zgh rfl) zg0)))) zg0)))))))))) HandsN.nil)) (λ D pn xe hx=>(zk0 (pset 12 nd (zff vP (rmn hr) rfl hx (za0 (pv 10) (za0 (pv 11) (za0 (pv 3) zg0))))))))
   (zd0 (zn4 (PW.pt (zxz (zt0 (zrh (K:=K) rfl (Room.units hr)) (pv 10) (zt1 (za0 (pv 6) (za0 (pv 2) zg0))) (zf1 _)) (zxz (zt0 (zrh (K:=K) rfl (Room.units hr)) (pv 11) (pv 4) (zf1 _)) (zrp (zt0 (zrh (K:=K) rfl (Room.units hr)) (pv 13) (zn3 (sc:=zh0 zbw) (N:=["script", "fills", "pipes", "until", "plan", "rows", "vats", "k", "place", "due", "handed", "asked", "found", "told", "e"]) (own:=["k"]) (ix:=[9]) rfl rfl rfl (by walk_at "csc") (zz1 rfl jS (za0 zf0 zg0)) (λ _ _ _ _=>⟨(pgn 0 (nds ["k", "due"])),zm3,(zjd (zg2 (K:=K) rfl (Room.units hr)) (pv 1) (pv 0) (zf1 _))⟩)) (zf1 _)))))) (zk0 (zi1 zv81)) zc1)
   (zk0 (zi1 (zba1 (zjd zg01 (pv 9) zf0 (zf1 _)) (zr11 (zg51 (zv0 (zdu (K:=K) rfl) rfl jR zh1 (za0 (pv 12) (za0 (zms (v:=.ty "list") rfl kS zd9 rfl) zg0))) (zr11 (zjd (zg2 (K:=K) rfl (Room.units hr)) (zv0 (zg1 (K:=K) rfl) rfl jT zv3 (za0 (pv 12) zg0)) (zq0 (zr0 (K:=K) rfl) (pv 3) zf0) (zf1 _))))))))))))))))))))))),(zm0 (za1 (zy0 (zc0 (zi0 0) zl0)) (rgn 1))
   (zm0 (za1 (zy0 (zc0 (zi0 0) (zc0 (zw7 zxc (zu0 (zb0 1) zo1)) zl0))) (rgn 2))
   (zm0 (za1 (zy0 (zc0 (zi0 0) zl0)) (rgn 3))
   (zm0 (zs31 4 5 (zhm (at_d (zi0 1) (at_d (zi0 2) (at_d (zp71 (zb0 0) zhk (zgg zd1)) (at_d (zi0 3) zu4))))))
   (zm0 (za1 (zy0 (zc0 (zi0 0) (zc0 (zi0 1) (zc0 (zi0 5) zl0)))) (rgn 6))
   (zm0 (zo6 (zfq (zs0 (zu1 q_eq (RfV.h (zb0 4)) (zlm zhl))) (zs0 (zu1 q_eq (RfV.h (RfE.v (zj0 zf2 (RfE.v (zy0 (zc0 (zi0 0) (zc0 zd1 zl0)))) rvi))) (RfV.h rvi)))) (zr7 (RfF.c (zk3 (zc0 (zl3 (zc0 zd1 (zc0 zd1 (zc0 zd1 zl0)))) zl0)))) zb1)
   (zm0 (zsh (zs4 (zc0 (zj0 zf2 (RfE.v (zj0 zg7 (RfE.v (zy0 (zc0 (zi0 0) (zc0 zd1 zl0)))) rvi)) rvi) zl0)) (rgn 7) (zo6 (zs0 (zu1 q_ne (RfV.h (zb0 4)) (zlm zhl))) (zm0 (za1 (zj0 zf2 (RfE.v (zy0 (zc0 (zi0 0) (zc0 (zj0 zo2 rvi (zb0 7)) zl0)))) (RfE.v (zw7 zxc (zu0 (zb0 4) zo1)))) (rgn 8))
   (zrc (zy0 (zc0 (zi0 0) (zc0 (zj0 zo2 rvi (RfE.v (zj0 zpc rvi (zb0 7)))) (zc0 (zi0 2) (zc0 (zi0 3) (zc0 (zj0 r_ix (zb0 4) (zb0 8)) zl0)))))) (zx0 4) (zi0 8))) zb1))
   (zm0 (zcl 4 [] (zr7 (RfE.c (zy0 (zc0 (zi0 0) (zc0 (zi0 2) (zc0 (zi0 3) (zc0 (zi0 4) zl0))))))))
   (zm0 (za1 (zgf (zu0 (zb0 6) (zu0 (zb0 2) (zu0 (zb0 4) (zu0 (zb0 3) zo1))))) (rgn 9))
   (zm0 (za1 (zl3 (zc0 (RfF.e (zrs zxh (zu0 (zb0 6) zo1))) (zc0 (RfF.e (zrs zxh (zu0 (zb0 2) zo1))) zl0))) (rgn 10))
   (zm0 (za1 (RfF.e (zrs zxh (zu0 (zb0 4) zo1))) (rgn 11))
   (zm0 (zr7 (RfE.c zv31))
   (zm0 (za1 (RfF.e (zlv (zk3 (zc0 zrl zl0)) zd1)) (rgn 13))
   (zm0 (zn01 (λ D ex=>(znx (i:=12) (ztk (at_d (zi0 10) (at_d (zi0 11) (at_d (zi0 3) zu4)))))) (RfHsN.cons (Cs:=[jK,jH,jJ,jE,jG,jI]) (i:=14) (λ C hC ea=>(zdr (i:=14) (j:=13) (by decide) (zim (zs2 (zp6 (cV:=.ref jK) (kx.ex C hC) rfl (kx.one C hC jK (by simp))) (zs2 (zp6 (cV:=.ref jH) (kx.ex C hC) rfl (kx.one C hC jH (by simp))) (zs2 (zp6 (cV:=.ref jJ) (kx.ex C hC) rfl (kx.one C hC jJ (by simp))) (zs2 (zp6 (cV:=.ref jE) (kx.ex C hC) rfl (kx.one C hC jE (by simp))) zjj))))) (zdr (i:=14) (j:=13) (by decide) (zds (zim (zs2 (zp6 (cV:=.ref jG) (kx.ex C hC) rfl (kx.one C hC jG (by simp))) (zs2 (zp6 (cV:=.ref jI) (kx.ex C hC) rfl (kx.one C hC jI (by simp))) (zs2 (zp6 (cV:=.ref qN) (kx.ex C hC) rfl (kx.one C hC qN (by simp))) zjj))))) (zd11 (zds (zim (zs2 (zp6 (cV:=.ref kY) (kx.ex C hC) rfl (kx.one C hC kY (by simp))) (zs2 (zp6 (cV:=.ref kD) (kx.ex C hC) rfl (kx.one C hC kD (by simp))) (zs2 (zkt (zp6 (cV:=.ty "ValueError") (kx.ex C hC) rfl (kx.ve C hC))) zjj))))))))) (λ C hC=>(zm0 (za1 (RfF.e (zk3 (zc0 zrl (zc0 zrl (zc0 zrl (zc0 zrl zl0)))))) (rgn 13))
   (zm0 (za1 (zj0 zo2 (zb0 13) (RfE.v (RfF.e (zk3 (zc0 zrl (zc0 zrl (zc0 zrl zl0))))))) (rgn 13))
   (za1 (zj0 zo2 (zb0 13) (RfE.v (RfF.e (zk3 (zc0 zrl (zc0 zrl (zc0 (zc01 zrl) zl0))))))) (rgn 13))))) RfHsN.nil))
   (zm0 (zo6 (zqy (zs0 (zu1 q_ne (RfV.h (zb0 10)) (zu51 (zhr (RfV.h (zb0 6)) (zhr (RfV.h (zb0 2)) zhl))))) (zqy (zs0 (zu1 q_ne (RfV.h (zb0 11)) (RfV.h (zb0 4)))) (zs0 (zu1 q_ne (RfV.h (zb0 13)) (RfV.h (RfE.v (RfF.e (zk2 (RfI.j (zs4 (zc0 zd1 zl0))) (zw1 (i:=0) (n:=1) (by decide)) zk4 (zu1 q_eq (RfV.h (zb0 1)) (RfV.h (zb0 0))))))))))) (zj1 (RfE.c zrl)) zb1)
   (zcl 12 [] (zj1 (RfE.c (zn51 (zj0 r_ge (zb0 9) rvi) (zax (zkb1 kt (by simp) (zb0 12)) (zu1 q_eq (RfV.h (RfE.v (zw7 zxc (zu0 (zb0 12) zo1)))) (RfV.h (RfE.v (zj0 zo2 (zb0 3) rvi)))))))))))))))))))))))),?_⟩
 intro ns Qd hns q
 walk_at "ds"
 refine ze0 λ J hJ=>?_
 walk_at "dd"
 refine ⟨ns,rfl,λ fills f1 f12 f0=>hJ _ ?_⟩
 clear hJ
 refine ze0 λ J hJ=>?_
 walk_at "dd"
 rw [List.length_map]
 refine ⟨ns,fills.length,rfl,f1,f12,λ ps p1 p24 hps=>hJ _ ?_⟩
 clear hJ
 refine ze0 λ J hJ=>?_
 walk_at "dd"
 refine ⟨ns,rfl,λ n hn=>hJ _ ?_⟩
 clear hJ
 refine ze0 λ J hJ=>?_
 walk_at "dd"
 have hcl:(cutG ns none (some 63)).length<=63:=by
  unfold cutG
  rw [List.length_take,HT.sIx_none]
  show min (min 63 ns.length - 0) _<=63
  lia
 rw [zzh]
 generalize cutG ns none (some 63)=cells at hcl ⊢
 refine ⟨fills,ps,cells,n,rfl,hn,hcl,f12,f0,p1,p24,hps,λ plan rows hpl hdr hrl hrr=>⟨_,_,rfl,hJ _ ?_⟩⟩
 clear hJ
 refine ze0 λ J hJ=>?_
 walk_at "dd"
 refine ⟨ns,fills,rows,rfl,f12,hrl,hrr,λ vs hvf hvn=>hJ _ ?_⟩
 clear hJ
 have hvl:vs.length=fills.length:=by rw [<- hvf,List.length_map]
 refine zab (λ δ=>∃ plan:List Lz,plan.length<=63/\(∀ l∈plan,l.in_ 10000000000000000000000000000000)/\δ=[.sh (.list (ns.map .int)),.sh (.list (fills.map .int)),.sh (.list (ps.map Pi.d)),.sh (.int (n:Int)),.ow (.li (plan.map Lz.d)),.sh (.list (rows.map dRow)),.sh (.list (vs.map Va.d)),.un,.un,.un,.un,.un,.un,.un,.un]) ?_ ?_
 ·walk_at "dd"
  have hinp:∀ l∈plan,l.in_ 10000000000000000000000000000000:=λ l hl=>by
   obtain ⟨d1,d2,d3,d4,d5,d6⟩:=hdr l hl
   exact ⟨⟨by lia,by lia⟩,⟨by lia,by lia⟩,by lia,by lia⟩
  refine ⟨(zkq plan).shaped (by decide),rfl,two (λ _=>⟨ns,4,rfl,by lia,λ x x0 x1=>?_⟩) λ _=>⟨plan,hpl,hinp,rfl⟩⟩
  walk_at "dd"
  refine two (λ _=>⟨[⟨0,0,1⟩],by decide,λ l hl=>?_,rfl⟩) λ _=>⟨plan,hpl,hinp,rfl⟩
  simp at hl
  subst hl
  exact ⟨⟨by decide,by decide⟩,⟨by decide,by decide⟩,by decide,by decide⟩
 clear hdr hpl
 clear plan
 rintro δ ⟨plan,hpl,hin,rfl⟩
 refine ze0 λ J hJ=>?_
 walk_at "dd"
 refine ⟨ns,4,rfl,by lia,λ x x0 x1=>?_⟩
 walk_at "dd"
 unfold rngD
 refine ⟨by lia,by lia,zh5 (λ i δ=>∃ (plan:List Lz) (s7 s8:Sl),plan.length<=63/\(∀ l∈plan,l.in_ (10000000000000000000000000000000+(i:Int) * 10000000000000))/\δ=[.sh (.list (ns.map .int)),.sh (.list (fills.map .int)),.sh (.list (ps.map Pi.d)),.sh (.int (n:Int)),.ow (.li (plan.map Lz.d)),.sh (.list (rows.map dRow)),.sh (.list (vs.map Va.d)),s7,s8,.un,.un,.un,.un,.un,.un])
  ⟨plan,.un,.un,hpl,λ l hl=>by simpa using hin l hl,rfl⟩ ?_ ?_⟩
 ·rintro i m δ hm ⟨plan,s7,s8,hpl,hin,rfl⟩
  obtain ⟨hi,hi2⟩:=List.getElem?_eq_some_iff.mp hm
  simp at hi hi2
  subst hi2
  rw [show (0:Int)+(i:Int)=(i:Int) by lia]
  walk_at "dd"
  refine ⟨(zkq plan).shaped (by decide),rfl,?_⟩
  rw [zqk,List.isEmpty_map]
  cases hpe:plan.isEmpty with
 |true =>
   rw [if_neg (by decide)]
   exact ⟨plan,_,s8,hpl,λ l hl=>(hin l hl).mono (by lia),rfl⟩
 |false =>
   rw [if_pos (by decide)]
   have p0:1<=plan.length:=by
    cases plan with
   |nil=>cases hpe
   |cons _ _=>simp
   refine ze0 λ J hJ=>?_
   walk_at "dd"
   refine ⟨ns,230+i,by congr 2,by lia,λ y y0 y1=>?_⟩
   walk_at "dd"
   rw [List.length_map]
   have e0:=Int.emod_nonneg y (b:=(plan.length:Int)) (by lia)
   have e1:=Int.emod_lt_of_pos y (b:=(plan.length:Int)) (by lia)
   obtain ⟨j,hj⟩:=Int.eq_ofNat_of_zero_le e0
   rw [hj] at e1 ⊢
   refine ⟨by lia,hJ _ ?_⟩
   clear hJ
   walk_at "dd"
   obtain ⟨l,hlj⟩:∃ l,plan[j]?=some l:=⟨_,List.getElem?_eq_getElem (by lia)⟩
   refine ⟨.inl ⟨by decide,by decide⟩,_,zi2 (by lia) (by rw [Int.toNat_natCast,List.getElem?_map,hlj];rfl),ns,240+2 * i,ps,n,l,_,by congr 2,by lia,p1,p24,λ p hp=>(hps p hp).2.2.2,by lia,by lia,hin l (List.mem_of_getElem? hlj),λ l' hl'=>?_⟩
   refine ⟨j,zk7 (by rw [List.length_map];lia),plan.set j l',.sh (.int (i:Int)),.sh (.int (j:Int)),by rw [List.length_set];exact hpl,λ x hx=>?_,?_⟩
   ·rcases List.mem_or_eq_of_mem_set hx with z|z
    ·exact (hin x z).mono (by lia)
    ·rw [z];exact hl'.mono (by lia)
   ·rw [List.map_set]
 ·rintro δ ⟨plan,s7,s8,hpl,hin,rfl⟩
  rw [List.length_range] at hin
  refine hJ _ ?_
  clear hJ
  refine ze0 λ J hJ=>?_
  walk_at "dd"
  refine ⟨_,_,rfl,rfl,ns,ps,n,plan,20000000000000000000000000000000,rfl,p1,p24,λ p hp=>(hps p hp).2.2.2,by lia,by lia,by decide,λ l hl=>(hin l hl).mono (by lia),λ plan' hl' hb'=>hJ _ ?_⟩
  clear hJ
  refine ze0 λ J hJ=>?_
  walk_at "dd"
  refine ⟨vs,ps,plan',n,rfl,by lia,p24,by lia,by lia,λ p hp=>by rw [hvl];exact ⟨(hps p hp).1,(hps p hp).2.1,(hps p hp).2.2.2.1⟩,rfl,hJ _ ?_⟩
  clear hJ
  have ask:Ask vs ps plan' n:=⟨by lia,p24,by lia,by lia,λ l hl=>(hb' l hl).mono (by decide),λ p hp=>by rw [hvl];exact ⟨(hps p hp).1,(hps p hp).2.1,(hps p hp).2.2.2.1,(hps p hp).2.2.2.2⟩⟩
  generalize hR:resP (vs.map Va.room) ps plan' n (vs.map Va.fill)=R
  refine ze0 λ J hJ=>?_
  walk_at "dd"
  refine hJ _ ?_
  clear hJ
  refine ze0 λ J hJ=>?_
  walk_at "dd"
  refine hJ _ ?_
  clear hJ
  refine ze0 λ J hJ=>?_
  walk_at "dd"
  refine hJ _ ?_
  clear hJ
  refine ze0 λ J hJ=>?_
  walk_at "dd"
  refine hJ _ ?_
  clear hJ
  refine ze0 λ J hJ=>?_
  walk_at "dd"
  have fy:Fit 4 (.tuple [.list (vs.map Va.d),.list (ps.map Pi.d)]):=Fit.tup λ e he=>by
   simp only [List.mem_cons,List.not_mem_nil,or_false] at he
   rcases he with rfl|rfl
   ·exact (zu31 hvn).mono (by decide)
   ·exact zq61 ps
  have fp:=zkq plan'
  refine ⟨vs,ps,plan',n,rfl,ask,λ c hc=>?_,λ hc rows' hrl'=>hJ _ ?_⟩
  ·rw [hR] at hc
   subst hc
   have c6:=zex hR
   have six:c=0 \/ c=1 \/ c=2 \/ c=3 \/ c=4 \/ c=5:=by lia
   have hx:PySem.W.exmOne K (.ref ([jK,jH,jJ,jE,jG,jI].getD c 0)) (.ref jQ)=some true:=by
    rcases six with rfl|rfl|rfl|rfl|rfl|rfl
    ·exact kE
    ·exact jX
    ·exact jZ
    ·exact jW
    ·exact kA
    ·exact jY
   have hm:[jK,jH,jJ,jE,jG,jI].getD c 0∈[jK,jH,jJ,jE,jG,jI]:=by
    rcases six with rfl|rfl|rfl|rfl|rfl|rfl <;> simp
   have e:=zhv kx.nd rfl (c:=c) (C:=[jK,jH,jJ,jE,jG,jI].getD c 0) (by rcases six with rfl|rfl|rfl|rfl|rfl|rfl <;> rfl)
   generalize [jK,jH,jJ,jE,jG,jI].getD c 0=C at hx hm e ⊢
   simp only [List.map_cons,List.map_nil,List.cons_append,List.nil_append] at e
   refine ⟨true,hx,?_⟩
   rw [if_pos rfl]
   refine ⟨hm,?_⟩
   walk_at "dn"
   walk_at "dn"
   walk_at "dd"
   refine hJ _ ?_
   clear hJ
   refine ze0 λ J hJ=>?_
   walk_at "dd"
   rw [e]
   rw [fy.eqv,fp.eqv]
   refine ⟨fy.shaped (by decide),fy.shaped (by decide),?_⟩
   rw [if_neg (by decide)]
   refine ⟨fp.shaped (by decide),fp.shaped (by decide),?_⟩
   rw [if_neg (by decide)]
   unfold rngD
   refine zhp (λ j=>.bool (c == j)) (by rw [sizeLine_eq];simp) (λ j hj=>?_) ?_
   ·walk_at "cs"
    walk_at "dd"
    rw [show zi01 (some c)=(c:Int) from rfl,<- zoy c j]
    congr 1
    by_cases y:j=c
    ·subst y;rw [decide_eq_true (by lia),decide_eq_true rfl]
    ·rw [decide_eq_false (by lia),decide_eq_false (by lia)]
   have fb:=zbq c
   refine ⟨fb.shaped (by decide),fb.shaped (by decide),?_⟩
   have:=eqv_refl fb
   unfold zgy at this ⊢
   rw [this,if_neg (by decide)]
   refine hJ _ ?_
   clear hJ
   walk_at "dd"
   rw [show zi01 (some c)=(c:Int) from rfl,if_pos (by lia)]
   exact q
  ·rw [hR] at hc
   subst hc
   clear hJ
   refine ze0 λ J hJ=>?_
   walk_at "dd"
   rw [fy.eqv,fp.eqv]
   refine ⟨fy.shaped (by decide),fy.shaped (by decide),?_⟩
   rw [if_neg (by decide)]
   refine ⟨fp.shaped (by decide),fp.shaped (by decide),?_⟩
   rw [if_neg (by decide)]
   unfold rngD
   refine zhp (λ _=>.bool false) (by rw [sizeLine_eq];simp) (λ j hj=>?_) ?_
   ·walk_at "cs"
    walk_at "dd"
    rw [show zi01 none=-1 from rfl,decide_eq_false (by lia)]
   have fb:Fit 1 (.list ((List.range 10).map λ _=>PyData.bool false)):=Fit.lst λ d hd=>by
    obtain ⟨j,_,rfl⟩:=List.mem_map.mp hd
    exact Fit.bl _
   rw [show (List.replicate 10 [PyData.bool false]).flatten=(List.range 10).map λ _=>PyData.bool false from rfl]
   refine ⟨fb.shaped (by decide),fb.shaped (by decide),?_⟩
   rw [eqv_refl fb,if_neg (by decide)]
   refine hJ _ ?_
   clear hJ
   walk_at "dd"
   have et:zap (rows'.map tRow)=some (rows'.map λ l=>l.map PyData.int):=zoi (λ l:List Int=>l.map PyData.int) rows'
   refine ⟨_,.list ((rows'.map λ l=>l.map PyData.int).map PyData.list),rfl,show Option.map _ (zap _)=_ by rw [et];rfl,?_⟩
   rw [show zi01 none=-1 from rfl,if_neg (by decide)]
   refine ⟨(λ _ h=>by cases h),?_⟩
   rw [if_pos (by rfl)]
   show Qd (.bool (decide (((((rows'.map λ l=>l.map PyData.int).map PyData.list).length:Nat):Int)=(n:Int)+1)))
   rw [List.length_map,List.length_map,hrl',decide_eq_true (by lia)]
   exact q
end
theorem all_mk {l:PySem.W.OpenLaw} {w:World} {K:Fg} {h:Heap} {mg:Str->Option Value} {fa:Addr} {jA jB jF jC jG jI jK jH jJ jE jQ qN kY kD:Addr} (X:K.In h) (G:h.Ns mainGlobals mg) (hfa:mg "law"=some (.ref fa))
  (jL:TopCls K "Play" jA)
  (kT:TopCls K "Steady" jB)
  (qJ:TopCls K "Late" jF)
  (kR:TopCls K "Tidal" jC)
  (kI:PySem.W.findIn K (.ref jA) "rooms"=some none)
  (jM:PySem.W.findIn K (.ref jA) "lying"=some none)
  (jN:PySem.W.findIn K (.ref jA) "moment"=some none)
  (jP:PySem.W.findIn K (.ref jA) "entered"=some none)
  (jO:PySem.W.findIn K (.ref jA) "pipes"=some none)
  (jU:PySem.W.findIn K (.ref jA) "coming"=some none)
  (kB:PySem.W.findIn K (.ref jB) "wide"=some none)
  (kM:PySem.W.findIn K (.ref jF) "wide"=some none)
  (kF:PySem.W.findIn K (.ref jF) "since"=some none)
  (kG:PySem.W.findIn K (.ref jC) "wide"=some none)
  (kC:PySem.W.findIn K (.ref jC) "other"=some none)
  (kH:PySem.W.findIn K (.ref jC) "turn"=some none)
  (kJ:PySem.W.findIn K (.ref jA) "gates"=some none)
  (vC:TopMeth K jA "full" "Play.full" zv5)
  (uE:TopDef K "refuse_full" zr5)
  (uL:TopDef K "by_moments" zh4)
  (uM:TopMeth K jA "go_on" "Play.go_on" zx6)
  (uN:TopMeth K jA "holds" "Play.holds" zq6)
  (qG:TopMeth K jB "width_at" "Steady.width_at" zy2)
  (qR:TopMeth K jF "width_at" "Late.width_at" zu3)
  (qL:TopMeth K jC "width_at" "Tidal.width_at" ze3)
  (qY:TopMeth K jA "room_in" "Play.room_in" zi4)
  (vL:TopMeth K jA "let" "Play.let" zpb)
  (qM:TopMeth K jC "__init__" "Tidal.__init__" zg3)
  (qH:TopMeth K jB "__init__" "Steady.__init__" zx2)
  (qS:TopMeth K jF "__init__" "Late.__init__" zo3)
  (vQ:TopDef K "gate_of" zsf)
  (qT:TopMeth K jA "__init__" "Play.__init__" zq1)
  (vT:TopDef K "played" zqi)
  (vD:TopDef K "_law_draw" zy7)
  (vE:TopDef K "_law_size" zv8)
  (uO:TopDef K "_law_fills" zd4)
  (vF:TopDef K "_law_gate" zb8)
  (vG:TopDef K "_law_pipe" zg8)
  (uP:TopDef K "_law_pipes" zc4)
  (uQ:TopDef K "_law_until" zz6)
  (uR:TopDef K "_law_width" zv6)
  (vM:TopDef K "_law_let" zpa)
  (uA:TopDef K "_law_come" zw5)
  (uS:TopDef K "_law_drawn" zm2)
  (vH:TopDef K "_law_name" zq8)
  (vI:TopDef K "_law_vats" zn2)
  (uF:TopDef K "_law_spoilt" zg5)
  (uT:TopDef K "_law_fault" zw6)
  (qI:TopDef K "_law_two_faults" zz2)
  (qU:TopDef K "_law_too_full" zt2)
  (qZ:TopDef K "_law_let_due" zf4)
  (vN:TopDef K "_law_due" zh3)
  (vZ:TopDef K "law" zbw)
  (kW:XCls K "TooFull" jG)
  (kQ:XCls K "NoMoment" jI)
  (qA:XCls K "NoPipe" jK)
  (kO:XCls K "NoAmount" jH)
  (kU:XCls K "TooWide" jJ)
  (kK:XCls K "TooLittle" jE)
  (qE:XCls K "YardError" jQ)
  (vB:XCls K "NoRow" qN)
  (uG:XCls K "NoName" kY)
  (qF:XCls K "NoMeasure" kD)
  (kx:KxT K [jK,jH,jJ,jE,jG,jI] [jK,jH,jJ,jE,jG,jI,qN,kY,kD])
  (kE:PySem.W.exmOne K (.ref jK) (.ref jQ)=some true)
  (jX:PySem.W.exmOne K (.ref jH) (.ref jQ)=some true)
  (jZ:PySem.W.exmOne K (.ref jJ) (.ref jQ)=some true)
  (jW:PySem.W.exmOne K (.ref jE) (.ref jQ)=some true)
  (kA:PySem.W.exmOne K (.ref jG) (.ref jQ)=some true)
  (jY:PySem.W.exmOne K (.ref jI) (.ref jQ)=some true)
  (qC:PySem.W.nsIn K mainGlobals "ValueError"=some none)
  (vW:PySem.W.nsIn K mainGlobals "abs"=some none)
  (kN:PySem.W.nsIn K mainGlobals "enumerate"=some none)
  (uY:PySem.W.nsIn K mainGlobals "int"=some none)
  (jR:PySem.W.nsIn K mainGlobals "isinstance"=some none)
  (jT:PySem.W.nsIn K mainGlobals "len"=some none)
  (kS:PySem.W.nsIn K mainGlobals "list"=some none)
  (vR:PySem.W.nsIn K mainGlobals "max"=some none)
  (vV:PySem.W.nsIn K mainGlobals "min"=some none)
  (jS:PySem.W.nsIn K mainGlobals "range"=some none) (kt:Kit K)
 :∃ fd:FuncData,(∀ (s:Shared) (v:Value),BindsTo s fd ⟨[v],[]⟩ [("script",v)])/\∀ base:Heap,K.In base->base.Ns mainGlobals mg->FnOk l.prog w K mg base CX0 7 fa fd ["script"] (zp21 K):=by
 have M:Md K mg:=⟨⟨h,X,G⟩⟩
 refine zz91 M vZ hfa zez (λ _ _ _ _ _ _ us hl=>by obtain ⟨_,rfl⟩:=ar1 hl;rfl) λ base kb nb=>?_
 have uU:=zai (P:=l.prog) (w:=w) (K:=K) (mg:=mg) (base:=base) (jF:=jF) (jA:=jA) (jB:=jB) (jC:=jC) jL.cls vC (M.not kN) kI jM
 have kL:=zcc (P:=l.prog) (w:=w) (K:=K) (mg:=mg) (base:=base) (jF:=jF) (jA:=jA) (jB:=jB) (jC:=jC) (jG:=jG) M uE jL.cls uU kW
 have uC:=zje (P:=l.prog) (w:=w) (K:=K) (mg:=mg) (base:=base) (jI:=jI) M uL (M.not jS) kQ
 have uB:=zcf (P:=l.prog) (w:=w) (K:=K) (mg:=mg) (base:=base) (jF:=jF) (jA:=jA) (jB:=jB) (jC:=jC) (jG:=jG) jL.cls uM (M.not kN) (M.not jT) jN jP jO jM jU kL
 have qV:=zqh (P:=l.prog) (w:=w) (K:=K) (mg:=mg) (base:=base) (jF:=jF) (jA:=jA) (jB:=jB) (jC:=jC) jL.cls uN (M.not kS) jM
 have qB:=ze8 (P:=l.prog) (w:=w) (K:=K) (mg:=mg) (base:=base) kT.cls qG kB
 have qP:=zob (P:=l.prog) (w:=w) (K:=K) (mg:=mg) (base:=base) qJ.cls qR kM kF
 have qK:=zn9 (P:=l.prog) (w:=w) (K:=K) (mg:=mg) (base:=base) kR.cls qL kG kC kH
 have qQ:=zyb (P:=l.prog) (w:=w) (K:=K) (mg:=mg) (base:=base) (jF:=jF) (jK:=jK) (jA:=jA) (jB:=jB) (jC:=jC) jL.cls qY (M.not jT) qJ.cls kT.cls kR.cls jN jP jO kJ qB qP qK qA
 have uV:=zvi (P:=l.prog) (w:=w) (K:=K) (mg:=mg) (base:=base) (jF:=jF) (jH:=jH) (jK:=jK) (jA:=jA) (jB:=jB) (jC:=jC) (jE:=jE) (jJ:=jJ) jL.cls vL jP jM jU jO jN qQ kO kU kK
 have vU:=zt9 (P:=l.prog) (w:=w) (K:=K) (mg:=mg) (base:=base) M kR qM kG kC kH
 have vS:=zj8 (P:=l.prog) (w:=w) (K:=K) (mg:=mg) (base:=base) M kT qH kB
 have vX:=ztb (P:=l.prog) (w:=w) (K:=K) (mg:=mg) (base:=base) M qJ qS kM kF
 have vO:=zbo (P:=l.prog) (w:=w) (K:=K) (mg:=mg) (base:=base) (jF:=jF) (jB:=jB) (jC:=jC) M vQ vU vS vX
 have vY:=zub (P:=l.prog) (w:=w) (K:=K) (mg:=mg) (base:=base) (jF:=jF) (jA:=jA) (jB:=jB) (jC:=jC) M jL qT (M.not jT) (M.not kS) vO kI jM jO kJ jN jP jU
 have vP:=zmn (P:=l.prog) (w:=w) (K:=K) (mg:=mg) (base:=base) (jH:=jH) (jI:=jI) (jK:=jK) (jG:=jG) (jE:=jE) (jJ:=jJ) M vT jL.cls qV vY uB kL uV uC
 have jD:=zsi (P:=l.prog) (w:=w) (K:=K) (mg:=mg) (base:=base) M vD (M.not jT)
 have kX:=zbi (P:=l.prog) (w:=w) (K:=K) (mg:=mg) (base:=base) M vE
 have uH:=zwg (P:=l.prog) (w:=w) (K:=K) (mg:=mg) (base:=base) M uO (M.not jS) jD kX
 have uW:=zlj (P:=l.prog) (w:=w) (K:=K) (mg:=mg) (base:=base) M vF kX
 have uX:=zdj (P:=l.prog) (w:=w) (K:=K) (mg:=mg) (base:=base) M vG jD uW
 have uI:=zpg (P:=l.prog) (w:=w) (K:=K) (mg:=mg) (base:=base) M uP (M.not jS) jD uX
 have uJ:=zdg (P:=l.prog) (w:=w) (K:=K) (mg:=mg) (base:=base) M uQ jD
 have jV:=zlh (P:=l.prog) (w:=w) (K:=K) (mg:=mg) (base:=base) M uR
 have vJ:=zal (P:=l.prog) (w:=w) (K:=K) (mg:=mg) (base:=base) M vM (M.not uY) (M.not jT) (M.not vV)
 have qO:=zkj (P:=l.prog) (w:=w) (K:=K) (mg:=mg) (base:=base) M uA
 have DT__law_come:=zyf (P:=l.prog) (w:=w) (K:=K) (mg:=mg) (base:=base) M uA
 have uK:=zah (P:=l.prog) (w:=w) (K:=K) (mg:=mg) (base:=base) M uS (M.not jT) (M.not kS) (M.not jS) jV vJ qO
 have uZ:=zbj (P:=l.prog) (w:=w) (K:=K) (mg:=mg) (base:=base) M vH
 have vA:=zei (P:=l.prog) (w:=w) (K:=K) (mg:=mg) (base:=base) M vI (M.not jT) (M.not vR) (M.not jS) jD uZ
 have uD:=zoe (P:=l.prog) (w:=w) (K:=K) (mg:=mg) (base:=base) M uF (M.not vW) (M.not jT) (M.not vR) jD jV
 have qW:=zjh (P:=l.prog) (w:=w) (K:=K) (mg:=mg) (base:=base) M uT (M.not jT) jV
 have qD:=zd8 (P:=l.prog) (w:=w) (K:=K) (mg:=mg) (base:=base) M qI (M.not jT) jD qW
 have kZ:=zka (P:=l.prog) (w:=w) (K:=K) (mg:=mg) (base:=base) M qU (M.not jT) (M.not jS)
 have qX:=zec (P:=l.prog) (w:=w) (K:=K) (mg:=mg) (base:=base) M qZ (M.not uY) (M.not jT)
 have vK:=zml (P:=l.prog) (w:=w) (K:=K) (mg:=mg) (base:=base) M vN (M.not uY) (M.not jS) jV DT__law_come kZ qX
 exact zpv M kt (M.not qC) (M.not jR) (M.not jT) (M.not kS) (M.not jS) jD uH uI uJ uK vA uD qD vK vP qE qA kO kU kK kW kQ vB uG qF kE jX jZ jW kA jY kx
end K13
local macro_rules|`(tactic| walk_at "top")=>`(tactic| (refine' zxq ?a ?l ?c ?k;(case a=>k_is);(case l=>k_is);(case c=>k_is);(case k=>k_is)))
local macro_rules|`(tactic| walk_at "topn")=>`(tactic| (refine' zkm ?a ?l ?c ?k ?t ?d;(case a=>k_is);(case l=>k_is);(case c=>k_is);(case k=>k_is);(case t=>k_is);(case d=>rfl)))
local macro_rules|`(tactic| walk_at "meth")=>`(tactic| (refine' zfn ?a ?i ?l ?c ?k;(case a=>k_is);(case i=>k_is);(case l=>k_is);(case c=>k_is);(case k=>k_is)))
local macro_rules|`(tactic| walk_at "cls")=>`(tactic| (refine' zjq ?a ?pg ?hd ?po ?sa ?mk ?kc;(case a=>k_is);(case pg=>k_is);(case hd=>k_is);(case po=>k_is);(case sa=>k_is);(case mk=>k_is);(case kc=>k_is)))
local macro_rules|`(tactic| walk_at "xcl")=>`(tactic| (refine' ⟨?a,?b⟩;(case a=>k_is);(case b=>first|k_exc|k_is)))
local macro_rules|`(tactic| walk_at "exk")=>`(tactic| (refine' ⟨?a,?b,?c,?d,?e,?f,?g,?h⟩;(case a=>first|k_is|rfl);(case b=>k_is);(case c=>k_is);(case d=>k_is);(case e=>k_is);(case f=>k_is);(case g=>k_is);(case h=>k_is)))
local macro_rules|`(tactic| walk_at "kxt")=>`(tactic| (refine' Eq.trans (b:=some true) ?p ?q;(case p=>kit_is);(case q=>rfl)))
local macro_rules|`(tactic| walk_at "kxf")=>`(tactic| (refine' Eq.trans (b:=some false) ?p ?q;(case p=>kit_is);(case q=>rfl)))
def PySem.W.Fast.tw4455569138379702345 : Nat := 0
def PySem.W.Fast.tw14413698624165770980 : Nat := 0
def PySem.W.Fast.tw16473101612906408666 : Nat := 0
def PySem.W.Fast.tw9438522190660676354 : Nat := 0
def PySem.W.Fast.tw6419376426643577033 : Nat := 0
def PySem.W.Fast.tw9279607905411497089 : Nat := 0
def PySem.W.Fast.tw17677997046958389015 : Nat := 0
def PySem.W.Fast.tw8110192520790477894 : Nat := 0
def PySem.W.Fast.tw16911171642429636925 : Nat := 0
def PySem.W.Fast.tw496874646149349293 : Nat := 0
def PySem.W.Fast.tw14775966313477400650 : Nat := 0
def PySem.W.Fast.tw2550171079489858806 : Nat := 0
def PySem.W.Fast.tw4360662664471699415 : Nat := 0
def PySem.W.Fast.tw1348989901055117312 : Nat := 0
def PySem.W.Fast.tw14488075195311219432 : Nat := 0
def PySem.W.Fast.tw13144515024800609127 : Nat := 0
def PySem.W.Fast.tw10445351770500283183 : Nat := 0
def PySem.W.Fast.tw15400334274058530363 : Nat := 0
def PySem.W.Fast.tw16704436142298303042 : Nat := 0
def PySem.W.Fast.tw105238761318127829 : Nat := 0
def PySem.W.Fast.tw15228828995355600820 : Nat := 0
def PySem.W.Fast.tw7741862007168653625 : Nat := 0
def PySem.W.Fast.tw10529717674156196692 : Nat := 0
def PySem.W.Fast.tw16422522732200709596 : Nat := 0
def PySem.W.Fast.tw3910354608109199839 : Nat := 0
def PySem.W.Fast.tw12752555101604927428 : Nat := 0
def PySem.W.Fast.tw12358157088403076188 : Nat := 0
def PySem.W.Fast.tw3851414915767841027 : Nat := 0
def PySem.W.Fast.tw2526621775848570785 : Nat := 0
def PySem.W.Fast.tw13349376909844233796 : Nat := 0
def PySem.W.Fast.tw4058059363523370930 : Nat := 0
def PySem.W.Fast.tw9545501912718037957 : Nat := 0
def PySem.W.Fast.tw17817184609250916541 : Nat := 0
def PySem.W.Fast.tw850195507525189908 : Nat := 0
def PySem.W.Fast.tw6816559813637873424 : Nat := 0
def PySem.W.Fast.tw887331439672283525 : Nat := 0
def PySem.W.Fast.tw5115080067394906807 : Nat := 0
def PySem.W.Fast.tw3201538419811804256 : Nat := 0
def PySem.W.Fast.tw7458845460670010750 : Nat := 0
def PySem.W.Fast.tw2612938884027450149 : Nat := 0
def PySem.W.Fast.tw9383393498386937387 : Nat := 0
def PySem.W.Fast.tw1454390749792241298 : Nat := 0
def PySem.W.Fast.tw16740413849018123552 : Nat := 0
def PySem.W.Fast.tw6134899497291992697 : Nat := 0
def PySem.W.Fast.tw12718989485107650698 : Nat := 0
def PySem.W.Fast.tw16225105828855003066 : Nat := 0
def PySem.W.Fast.tw14689804548684896852 : Nat := 0
def PySem.W.Fast.tw10966060518294600250 : Nat := 0
def PySem.W.Fast.tw14873535704097975602 : Nat := 0
def PySem.W.Fast.tw16081572563378648226 : Nat := 0
def PySem.W.Fast.tw11942566802127523321 : Nat := 0
def PySem.W.Fast.tw15832794270170500689 : Nat := 0
def PySem.W.Fast.tw2471333273002532537 : Nat := 0
def PySem.W.Fast.tw14014885410690215802 : Nat := 0
def PySem.W.Fast.tw6423414992608522700 : Nat := 0
def PySem.W.Fast.tw17013950279100345814 : Nat := 0
def PySem.W.Fast.tw13913956190917648021 : Nat := 0
def PySem.W.Fast.tw7111222876078226019 : Nat := 0
def PySem.W.Fast.tw15270055997082149752 : Nat := 0
def PySem.W.Fast.tw15765734374792068069 : Nat := 0
def PySem.W.Fast.tw3710694124779815017 : Nat := 0
def PySem.W.Fast.tw14850645804958135033 : Nat := 0
def PySem.W.Fast.tw1742927883787727570 : Nat := 0
def PySem.W.Fast.tw12390529361858304361 : Nat := 0
def PySem.W.Fast.tw16958745123868951084 : Nat := 0
def PySem.W.Fast.tw5026855174832556140 : Nat := 0
def PySem.W.Fast.tw69454491876360454 : Nat := 0
def PySem.W.Fast.tw9019077612249972907 : Nat := 0
def PySem.W.Fast.tw2420109484170918119 : Nat := 0
def PySem.W.Fast.tw17499864757896474837 : Nat := 0
def PySem.W.Fast.tw15497449624013436804 : Nat := 0
def PySem.W.Fast.tw8161308721074594663 : Nat := 0
def PySem.W.Fast.tw10371145151724702880 : Nat := 0
def PySem.W.Fast.tw1674782299706551255 : Nat := 0
def PySem.W.Fast.tw6101995860193877060 : Nat := 0
def PySem.W.Fast.tw4828369461705848283 : Nat := 0
def PySem.W.Fast.tw17641255158755216093 : Nat := 0
def PySem.W.Fast.tw3203425210867110806 : Nat := 0
def PySem.W.Fast.tw6394121944038633762 : Nat := 0
def PySem.W.Fast.tw8944391104202825006 : Nat := 0
def PySem.W.Fast.tw9755324026322064049 : Nat := 0
def PySem.W.Fast.tw15229638831546608313 : Nat := 0
def PySem.W.Fast.tw12381954980978620368 : Nat := 0
def PySem.W.Fast.tw6118880424344654110 : Nat := 0
def PySem.W.Fast.tw7765041809021037513 : Nat := 0
def PySem.W.Fast.tw10165767773532494948 : Nat := 0
def PySem.W.Fast.tw4396995317840456895 : Nat := 0
def PySem.W.Fast.tw1837251572274483817 : Nat := 0
def PySem.W.Fast.tw3465238677353644897 : Nat := 0
def PySem.W.Fast.tw15037719282209261945 : Nat := 0
def PySem.W.Fast.tw8553659794102027014 : Nat := 0
def PySem.W.Fast.tw15363404944660499930 : Nat := 0
def PySem.W.Fast.tw12329768157116922560 : Nat := 0
open PySem PySem.W PyProof.Rows L3 L4
set_option maxRecDepth 100000 in
set_option maxHeartbeats 0 in
theorem PySem.Challenge.cw_vatyard_k13_played_refused_holds : PySem.Challenge.rw_vatyard_k13_played_refused.Holds := by
  w_on; o_law; k_head; (case hw => w_witness2)
  k_fill
  refine L3.law_walk (k := 7) (l := PySem.Challenge.rw_vatyard_k13_played_refused) ⟨rfl, by decide, rfl, by decide⟩ rfl rfl (fun w h Y => PySem.W.kIn_of Y) ?F
  case F =>
    intro w mg fa h KX G hmg
    refine' K13.all_mk KX G hmg ?jL ?kT ?qJ ?kR ?kI ?jM ?jN ?jP ?jO ?jU ?kB ?kM ?kF ?kG ?kC ?kH ?kJ ?vC ?uE ?uL ?uM ?uN ?qG ?qR ?qL ?qY ?vL ?qM ?qH ?qS ?vQ ?qT ?vT ?vD ?vE ?uO ?vF ?vG ?uP ?uQ ?uR ?vM ?uA ?uS ?vH ?vI ?uF ?uT ?qI ?qU ?qZ ?vN ?vZ ?kW ?kQ ?qA ?kO ?kU ?kK ?qE ?vB ?uG ?qF ?kx ?kE ?jX ?jZ ?jW ?kA ?jY ?qC ?vW ?kN ?uY ?jR ?jT ?kS ?vR ?vV ?jS ?kt
    (case jL => walk_at "cls")
    (case kT => walk_at "cls")
    (case qJ => walk_at "cls")
    (case kR => walk_at "cls")
    (case kI => k_is)
    (case jM => k_is)
    (case jN => k_is)
    (case jP => k_is)
    (case jO => k_is)
    (case jU => k_is)
    (case kB => k_is)
    (case kM => k_is)
    (case kF => k_is)
    (case kG => k_is)
    (case kC => k_is)
    (case kH => k_is)
    (case kJ => k_is)
    (case vC => walk_at "meth")
    (case uE => walk_at "top")
    (case uL => walk_at "top")
    (case uM => walk_at "meth")
    (case uN => walk_at "meth")
    (case qG => walk_at "meth")
    (case qR => walk_at "meth")
    (case qL => walk_at "meth")
    (case qY => walk_at "meth")
    (case vL => walk_at "meth")
    (case qM => walk_at "meth")
    (case qH => walk_at "meth")
    (case qS => walk_at "meth")
    (case vQ => walk_at "top")
    (case qT => walk_at "meth")
    (case vT => walk_at "top")
    (case vD => walk_at "top")
    (case vE => walk_at "top")
    (case uO => walk_at "top")
    (case vF => walk_at "top")
    (case vG => walk_at "top")
    (case uP => walk_at "top")
    (case uQ => walk_at "top")
    (case uR => walk_at "top")
    (case vM => walk_at "top")
    (case uA => walk_at "top")
    (case uS => walk_at "top")
    (case vH => walk_at "top")
    (case vI => walk_at "top")
    (case uF => walk_at "top")
    (case uT => walk_at "top")
    (case qI => walk_at "top")
    (case qU => walk_at "top")
    (case qZ => walk_at "top")
    (case vN => walk_at "top")
    (case vZ => walk_at "top")
    (case kW => walk_at "xcl")
    (case kQ => walk_at "xcl")
    (case qA => walk_at "xcl")
    (case kO => walk_at "xcl")
    (case kU => walk_at "xcl")
    (case kK => walk_at "xcl")
    (case qE => walk_at "xcl")
    (case vB => walk_at "xcl")
    (case uG => walk_at "xcl")
    (case qF => walk_at "xcl")
    (case kE => first | kts_exm | k_is)
    (case jX => first | kts_exm | k_is)
    (case jZ => first | kts_exm | k_is)
    (case jW => first | kts_exm | k_is)
    (case kA => first | kts_exm | k_is)
    (case jY => first | kts_exm | k_is)
    (case kx => exact ⟨(zn0 (by walk_at "exk") (zn0 (by walk_at "exk") (zn0 (by walk_at "exk") (zn0 (by walk_at "exk") (zn0 (by walk_at "exk") (zn0 (by walk_at "exk") zyd)))))), (zn0 (zn0 (by walk_at "kxt") (zn0 (by walk_at "kxf") (zn0 (by walk_at "kxf") (zn0 (by walk_at "kxf") (zn0 (by walk_at "kxf") (zn0 (by walk_at "kxf") (zn0 (by walk_at "kxf") (zn0 (by walk_at "kxf") (zn0 (by walk_at "kxf") zyd))))))))) (zn0 (zn0 (by walk_at "kxf") (zn0 (by walk_at "kxt") (zn0 (by walk_at "kxf") (zn0 (by walk_at "kxf") (zn0 (by walk_at "kxf") (zn0 (by walk_at "kxf") (zn0 (by walk_at "kxf") (zn0 (by walk_at "kxf") (zn0 (by walk_at "kxf") zyd))))))))) (zn0 (zn0 (by walk_at "kxf") (zn0 (by walk_at "kxf") (zn0 (by walk_at "kxt") (zn0 (by walk_at "kxf") (zn0 (by walk_at "kxf") (zn0 (by walk_at "kxf") (zn0 (by walk_at "kxf") (zn0 (by walk_at "kxf") (zn0 (by walk_at "kxf") zyd))))))))) (zn0 (zn0 (by walk_at "kxf") (zn0 (by walk_at "kxf") (zn0 (by walk_at "kxf") (zn0 (by walk_at "kxt") (zn0 (by walk_at "kxf") (zn0 (by walk_at "kxf") (zn0 (by walk_at "kxf") (zn0 (by walk_at "kxf") (zn0 (by walk_at "kxf") zyd))))))))) (zn0 (zn0 (by walk_at "kxf") (zn0 (by walk_at "kxf") (zn0 (by walk_at "kxf") (zn0 (by walk_at "kxf") (zn0 (by walk_at "kxt") (zn0 (by walk_at "kxf") (zn0 (by walk_at "kxf") (zn0 (by walk_at "kxf") (zn0 (by walk_at "kxf") zyd))))))))) (zn0 (zn0 (by walk_at "kxf") (zn0 (by walk_at "kxf") (zn0 (by walk_at "kxf") (zn0 (by walk_at "kxf") (zn0 (by walk_at "kxf") (zn0 (by walk_at "kxt") (zn0 (by walk_at "kxf") (zn0 (by walk_at "kxf") (zn0 (by walk_at "kxf") zyd))))))))) zyd)))))), (zn0 (by kit_is) (zn0 (by kit_is) (zn0 (by kit_is) (zn0 (by kit_is) (zn0 (by kit_is) (zn0 (by kit_is) zyd)))))), by decide⟩)
    (case qC => k_is)
    (case vW => k_is)
    (case kN => k_is)
    (case uY => k_is)
    (case jR => k_is)
    (case jT => k_is)
    (case kS => k_is)
    (case vR => k_is)
    (case vV => k_is)
    (case jS => k_is)
    (case kt => exact ⟨fun t ht T hT => by simp only [List.mem_cons, List.not_mem_nil, or_false] at ht hT; rcases ht with rfl | rfl | rfl | rfl | rfl | rfl <;> rcases hT with rfl | rfl | rfl | rfl | rfl <;> rfl⟩)
