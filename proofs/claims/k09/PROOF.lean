import PyProof.Rows.All
import Wide.All
import OpenK.AllK
import Wide.FinOn
import Lean
import PyProof.EqAt
import PyProof.EqKinds
import PyProof.TupleCall
import PyProof.StrLawsIn
import PyProof.StrLawsJoin
import PyProof.ZipIter
import PyProof.EnumFor
import PyProof.EnumMake
import PyProof.EnumStmt
import PyProof.DictItems
import KE.KPairComp
import KE.KSortTup
import PyProof.DictWalks
import PyProof.Rows.SortWalk
import PyProof.ReprRoads
import PyProof.ReprLen
import PyProof.NsDelKeeps
import PyProof.RulesAs
import PySem.Challenge.RW_vatyard_k09_letting_refused
set_option Elab.async false
set_option genSizeOf false
set_option linter.all false
set_option maxRecDepth 100000
set_option maxHeartbeats 4000000
abbrev Fg:=PySem.W.Frag
namespace L2
open PySem PySem.Spec PyProof.Rows
abbrev Key:=Sum Int Str
def keyIs:Key->Value->Bool
|.inl k,v=>Value.isInt k v
|.inr x,v=>Value.isStrOf x v
def keyH (w:World):Key->Int
|.inl k=>hashInt k
|.inr x=>hashStr w x
theorem zd1:∀ {k:Key} {v:Value},keyIs k v=true->(∃ i t,k=Sum.inl i/\v=Value.int i t) \/ (∃ x t,k=Sum.inr x/\v=Value.str x t)
|.inl i,v,h=>by
  obtain ⟨t,e⟩:=Value.isInt_shape (k:=i) (v:=v) h
  exact .inl ⟨i,t,rfl,e⟩
|.inr x,v,h=>by
  obtain ⟨t,e⟩:=Value.isStrOf_shape (x:=x) (v:=v) h
  exact .inr ⟨x,t,rfl,e⟩
theorem zal (i:Int) (t:Tok):keyIs (.inl i) (.int i t)=true:=by simp [keyIs,Value.isInt]
theorem zel (x:Str) (t:Tok):keyIs (.inr x) (.str x t)=true:=by simp [keyIs,Value.isStrOf]
theorem key_ll (a b:Int):decide ((Sum.inl a:Key)=Sum.inl b)=(a == b):=by
 by_cases e:a=b
 ·subst e;simp
 ·have h:¬ (Sum.inl a:Key)=Sum.inl b:=λ q=>e (Sum.inl.inj q)
  rw [decide_eq_false h]
  exact (beq_eq_false_iff_ne.mpr e).symm
theorem key_rr (a b:Str):decide ((Sum.inr a:Key)=Sum.inr b)=decide (a=b):=by
 by_cases e:a=b
 ·subst e;simp
 ·have h:¬ (Sum.inr a:Key)=Sum.inr b:=λ q=>e (Sum.inr.inj q)
  rw [decide_eq_false h,decide_eq_false e]
theorem key_lr (a:Int) (b:Str):decide ((Sum.inl a:Key)=Sum.inr b)=false:=decide_eq_false (λ q=>nomatch q)
theorem key_rl (a:Str) (b:Int):decide ((Sum.inr a:Key)=Sum.inl b)=false:=decide_eq_false (λ q=>nomatch q)
def zn1 (prog:Program) (w:World):PySem.KeyKind prog w Key where
 is:=keyIs
 hash:=keyH w
 inj:=λ v a b ha hb=>by
  rcases zd1 ha with ⟨i,t,rfl,rfl⟩|⟨x,t,rfl,rfl⟩
  ·rcases zd1 hb with ⟨j,u,rfl,e⟩|⟨y,u,rfl,e⟩
   ·injection e with e1 _;rw [e1]
   ·exact nomatch e
  ·rcases zd1 hb with ⟨j,u,rfl,e⟩|⟨y,u,rfl,e⟩
   ·exact nomatch e
   ·injection e with e1 _;rw [e1]
 byValue:=λ k v h=>by
  rcases zd1 h with ⟨i,t,rfl,rfl⟩|⟨x,t,rfl,rfl⟩ <;> rfl
 pyHash:=λ hv h=>by
  rcases zd1 hv with ⟨i,t,rfl,rfl⟩|⟨x,t,rfl,rfl⟩
  ·exact wpAny_pyHash_int h
  ·exact wpAny_pyHash_str h
 eqBool:=λ hu hv h=>by
  rcases zd1 hu with ⟨i,t,rfl,rfl⟩|⟨x,t,rfl,rfl⟩
  ·rcases zd1 hv with ⟨j,u,rfl,rfl⟩|⟨y,u,rfl,rfl⟩
   ·rw [key_ll] at h;exact wpAny_eqBool_int h
   ·rw [key_lr] at h;exact SeqAt.EqAt.int_str i t y u _ _ _ _ h
  ·rcases zd1 hv with ⟨j,u,rfl,rfl⟩|⟨y,u,rfl,rfl⟩
   ·rw [key_rl] at h;exact SeqAt.EqAt.str_int x t j u _ _ _ _ h
   ·rw [key_rr] at h;exact wpAny_eqBool_str h
 «strs»:=λ k x t v h=>by
  rcases zd1 h with ⟨i,u,rfl,e⟩|⟨y,u,rfl,e⟩
  ·exact nomatch e
  ·injection e with e1 _
   subst e1
   cases v <;> rfl
theorem zoh (prog:Program) (w:World) (i:Int) (t:Tok):(zn1 prog w).is (.inl i) (.int i t)=true:=zal i t
theorem zqh (prog:Program) (w:World) (x:Str) (t:Tok):(zn1 prog w).is (.inr x) (.str x t)=true:=zel x t
inductive V where
|non|bl (b:Bool)|int (i:Int)|str (x:Str)|byt (b:Array UInt8)|flt (b:UInt64)|ref (a:Addr)|ty (n:String)
 deriving DecidableEq
def RelV:V->Value->Prop
|.non,u=>u=Value.none
|.bl b,u=>u=Value.bool b
|.int i,u=>∃ t,u=Value.int i t
|.str x,u=>∃ t,u=Value.str x t
|.byt b,u=>∃ t,u=Value.bytes b t
|.flt b,u=>∃ t,u=Value.float b t
|.ref a,u=>u=Value.ref a
|.ty n,u=>u=Value.type n
abbrev Vals:List V->List Value->Prop:=Paired RelV
theorem Vals.length {xs:List V} {us:List Value} (r:Vals xs us):xs.length=us.length:=Paired.length r
theorem Vals.get:∀ {xs:List V} {us:List Value} {i:Nat} {x:V},Vals xs us->xs[i]?=some x->∃ u,us[i]?=some u/\RelV x u
|_,_,_,_,.nil,e=>by simp at e
|_,_,0,_,.cons r _,e=>by simp at e;subst e;exact ⟨_,rfl,r⟩
|_,_,i+1,x,.cons _ t,e=>by
  obtain ⟨u,h1,h2⟩:=Vals.get (i:=i) (x:=x) t (by simpa using e)
  exact ⟨u,by simpa using h1,h2⟩
theorem Vals.set {x:V} {u:Value} (r:RelV x u):∀ {xs:List V} {us:List Value} (i:Nat),Vals xs us->Vals (xs.set i x) (us.set i u)
|_,_,_,.nil=>.nil
|_,_,0,.cons _ t=>.cons r t
|_,_,i+1,.cons q t=>.cons q (Vals.set r i t)
theorem Vals.append:∀ {xs ys:List V} {us ws:List Value},Vals xs us->Vals ys ws->Vals (xs++ys) (us++ws)
|_,_,_,_,.nil,s=>s
|_,_,_,_,.cons r t,s=>.cons r (Vals.append t s)
theorem Vals.take:∀ {xs:List V} {us:List Value} (n:Nat),Vals xs us->Vals (xs.take n) (us.take n)
|_,_,0,_=>.nil
|_,_,_+1,.nil=>.nil
|_,_,n+1,.cons r t=>.cons r (Vals.take n t)
theorem Vals.drop:∀ {xs:List V} {us:List Value} (n:Nat),Vals xs us->Vals (xs.drop n) (us.drop n)
|_,_,0,r=>r
|_,_,_+1,.nil=>.nil
|_,_,n+1,.cons _ t=>Vals.drop n t
theorem Vals.none_of:∀ {xs:List V} {us:List Value} {i:Nat},Vals xs us->xs[i]?=none->us[i]?=none:=λ {xs us i} r e=>by
 have h1:=r.length
 have h2:xs.length<=i:=List.getElem?_eq_none_iff.mp e
 exact List.getElem?_eq_none_iff.mpr (by lia)
def RelO:Option V->Option Value->Prop
|some v,some u=>RelV v u
|none,none=>True
|_,_=>False
def KV {κ:Type}:List (κ×V)->List (κ×Value)->Prop:=Paired λ (p:κ×V) (q:κ×Value)=>p.1=q.1/\RelV p.2 q.2
def kV:Key->V
|.inl i=>.int i
|.inr x=>.str x
inductive HO where
 /-- a list -/
|lst (xs:List V)
 /-- a tuple (never changes) -/
|tup (xs:List V)
 /-- a dict whose keys are ints and texts;one whose keys are tuples of ints and texts (the empty one is both) -/
|dK (kvs:List (Key×V))|dT (kvs:List (List Key×V))
 /-- a set of ints: its members,its size -/
|set (S:Int->Bool) (n:Nat)
 /-- an instance of the class at C,its dict at dx,its attributes -/
|ins (C dx:Addr) (fs:List (Str×V))
 /-- the dict of the instance at x -/
|own (x:Addr)
 /-- the dict of an exception -/
|xd (fs:List (Str×V))
 /-- a bound method,f of x -/
|met (f x:Addr)
 /-- a range object lo,lo+1,.. below hi -/
|rng (lo hi:Int)
 /-- a thing that is known to the object (the script;a dict while a loop walks it): read,never written while it is so -/
|frz (o:Obj) (u:HO)
 /-- a code object's table -/
|tbl (ps:Array Value)
 /-- any other thing,by what is true of its one object (a def of one's own: SetO a S n:=HO.ext λ h=>..) -/
|ext (φ:Heap->Prop)
abbrev Hp:=Addr->Option HO
def upd (H:Hp) (a:Addr) (o:HO):Hp:=λ b=>if b=a then some o else H b
theorem zg0 {H:Hp} {a:Addr} {o:HO}:upd H a o a=some o:=by unfold upd;rw [if_pos rfl]
theorem upd_ne {H:Hp} {a b:Addr} {o:HO} (h:b≠a):upd H a o b=H b:=by unfold upd;rw [if_neg h]
theorem ne_of {H:Hp} {a b:Addr} {o u:HO} (h:H a=some o) (h':H b=some u) (d:o≠u):a≠b:=by
 intro e;subst e;rw [h] at h';exact d (Option.some.inj h')
theorem zu2 {H:Hp} {a b:Addr} {o:HO} (h:H a=some o) (h':H b=none):a≠b:=by
 intro e;subst e;rw [h] at h';cases h'
section
variable (P:Program) (w:World)
def ObjOk (H:Hp) (h:Heap) (a:Addr):HO->Prop
|.lst xs=>xs.length<=sizeLine/\∃ (its:List Value) (n:Nat),Vals xs its/\h.get? a=some { cls:=.type "list",data:=.seq its.toArray n }
|.tup xs=>xs.length<=sizeLine/\∃ its:List Value,Vals xs its/\IsTup h a its.toArray
|.dK kvs=>kvs.length<=sizeLine/\(a == sysModules)=false/\∃ vs,KV kvs vs/\h.DictOf (zn1 P w) a vs
|.dT kvs=>kvs.length<=sizeLine/\(a == sysModules)=false/\∃ xs:List (List Key×Addr×Value),
   Paired (λ (p:List Key×V) (q:List Key×Addr×Value)=>p.1=q.1/\H q.2.1=some (.tup (p.1.map kV))/\RelV p.2 q.2.2) kvs xs /\
   ∃ o es ep,h.get? a=some o/\o.ExactDict/\o.data=.dict es ep/\es.toList=xs.map (entryOfKey (tupleKind (zn1 P w)))/\(xs.map (·.1)).Nodup
|.set S n=>h.SetOf (intKind P w) a S n
|.ins C dx fs=>H dx=some (.own a)/\fs.length<=1000/\dx≠a/\h.get? a=some (PySem.W.instObj C dx) /\
   ∃ mA,h.Ns1 dx mA/\(∀ f,RelO (fs.lookup f) (mA f))/\PySem.Within mA (fs.map (·.1))
|.own _=>∃ o,h.get? a=some o
|.xd fs=>∃ mA,h.Ns1 a mA/\∀ f,RelO (fs.lookup f) (mA f)
|.rng lo hi=>∃ t u v,h.get? a=some { cls:=.type "range",data:=.fields #[.int lo t,.int hi u,.int 1 v] }
|.frz o u=>h.get? a=some o/\ObjOk H h a u
|.tbl ps=>h.get? a=some { cls:=.none,data:=.fields ps }
|.met f x=>h.get? a=some (PySem.W.methodObj (.ref f) (.ref x))
|.ext φ=>φ h/\(∃ o,h.get? a=some o)/\∀ h1 h2:Heap,φ h1->(∀ o,h1.get? a=some o->h2.get? a=some o)->φ h2
def HOk (H:Hp) (h:Heap):Prop:=∀ a o,H a=some o->ObjOk P w H h a o
end
section
variable {P:Program} {w:World} {H H':Hp} {h h':Heap} {a:Addr} {o:HO}
theorem ObjOk.lt (x:ObjOk P w H h a o):a < h.objs.size:=by
 cases o with
|lst xs=>obtain ⟨_,_,_,_,e⟩:=x;exact Heap.lt_size e
|tup xs=>obtain ⟨_,_,_,p⟩:=x;exact p.lt
|dK kvs=>obtain ⟨_,_,_,_,o,_,_,e,_⟩:=x;exact Heap.lt_size e
|dT kvs=>obtain ⟨_,_,_,_,o,_,_,e,_⟩:=x;exact Heap.lt_size e
|set S n=>obtain ⟨o,_,_,_,e,_⟩:=x;exact Heap.lt_size e
|ins C dx fs=>obtain ⟨_,_,_,e,_⟩:=x;exact Heap.lt_size e
|own y=>obtain ⟨_,e⟩:=x;exact Heap.lt_size e
|xd fs=>obtain ⟨_,⟨_,_,_,e,_⟩,_⟩:=x;exact Heap.lt_size e
|rng lo hi=>obtain ⟨_,_,_,e⟩:=x;exact Heap.lt_size e
|frz ob u=>obtain ⟨e,_⟩:=x;exact Heap.lt_size e
|tbl ps=>exact Heap.lt_size (show h.get? a=some _ from x)
|met f y=>exact Heap.lt_size (show h.get? a=some _ from x)
|ext φ=>obtain ⟨_,⟨_,e⟩,_⟩:=x;exact Heap.lt_size e
theorem Paired.mapP {α β:Type} {F G:α->β->Prop}:∀ {l₁:List α} {l₂:List β},Paired F l₁ l₂->(∀ a b,F a b->G a b)->Paired G l₁ l₂
|_,_,.nil,_=>.nil
|_,_,.cons r t,f=>.cons (f _ _ r) (Paired.mapP t f)
theorem ObjOk.stay (x:ObjOk P w H h a o) (k:∀ b u,(b=a \/ H b=some (.own a))->h.get? b=some u->h'.get? b=some u)
  (ho:∀ b,H b=some (.own a)->H' b=some (.own a)) (ht:∀ b xs,H b=some (.tup xs)->H' b=some (.tup xs)):ObjOk P w H' h' a o:=by
 induction o with
|lst xs=>obtain ⟨z,its,n,r,e⟩:=x;exact ⟨z,its,n,r,k _ _ (.inl rfl) e⟩
|tup xs=>obtain ⟨z,its,r,ob,e,c⟩:=x;exact ⟨z,its,r,ob,k _ _ (.inl rfl) e,c⟩
|dK kvs=>obtain ⟨z,y,vs,r,ob,es,ep,e,c⟩:=x;exact ⟨z,y,vs,r,ob,es,ep,k _ _ (.inl rfl) e,c⟩
|dT kvs =>
  obtain ⟨z,y,xs,r,ob,es,ep,e,c⟩:=x
  exact ⟨z,y,xs,Paired.mapP r λ p q z=>⟨z.1,ht _ _ z.2.1,z.2.2⟩,ob,es,ep,k _ _ (.inl rfl) e,c⟩
|set S n=>obtain ⟨ob,es,ep,t,e,c⟩:=x;exact ⟨ob,es,ep,t,k _ _ (.inl rfl) e,c⟩
|ins C dx fs =>
  obtain ⟨d,z,ne,e,mA,⟨od,es,ep,e2,c⟩,r⟩:=x
  exact ⟨ho _ d,z,ne,k _ _ (.inl rfl) e,mA,⟨od,es,ep,k _ _ (.inr d) e2,c⟩,r⟩
|own y=>obtain ⟨ob,e⟩:=x;exact ⟨ob,k _ _ (.inl rfl) e⟩
|xd fs=>obtain ⟨mA,⟨od,es,ep,e,c⟩,r⟩:=x;exact ⟨mA,⟨od,es,ep,k _ _ (.inl rfl) e,c⟩,r⟩
|rng lo hi=>obtain ⟨t,u,v,e⟩:=x;exact ⟨t,u,v,k _ _ (.inl rfl) e⟩
|frz ob u ih=>obtain ⟨e,q⟩:=x;exact ⟨k _ _ (.inl rfl) e,ih q⟩
|tbl ps =>
  have e:h.get? a=some { cls:=.none,data:=.fields ps }:=x
  show h'.get? a=some { cls:=.none,data:=.fields ps }
  exact k a _ (.inl rfl) e
|met f y =>
  have e:h.get? a=some (PySem.W.methodObj (.ref f) (.ref y)):=x
  show h'.get? a=some (PySem.W.methodObj (.ref f) (.ref y))
  exact k a _ (.inl rfl) e
|ext φ=>obtain ⟨p,⟨o,e⟩,st⟩:=x;exact ⟨st _ _ p λ o q=>k _ _ (.inl rfl) q,⟨o,k _ _ (.inl rfl) e⟩,st⟩
theorem HOk.lt (x:HOk P w H h) (e:H a=some o):a < h.objs.size:=(x a o e).lt
theorem HOk.fresh (x:HOk P w H h) (e:h.objs.size<=a):H a=none:=by
 cases q:H a with
|none=>rfl
|some u=>exact absurd (Nat.lt_of_lt_of_le (x.lt q) e) (Nat.lt_irrefl _)
theorem HOk.kept (x:HOk P w H h) (k:∀ b u,h.get? b=some u->h'.get? b=some u):HOk P w H h':=λ a o e =>
 (x a o e).stay (λ b u _ q=>k b u q) (λ _ q=>q) λ _ _ q=>q
theorem HOk.laid (x:HOk P w H h) (k:∀ b u,h.get? b=some u->h'.get? b=some u) (hp:h.objs.size<=a) (new:ObjOk P w (upd H a o) h' a o):HOk P w (upd H a o) h':=λ b u e=>by
 have hn:=x.fresh hp
 by_cases hb:b=a
 ·subst hb;rw [zg0] at e;cases e;exact new
 ·rw [upd_ne hb] at e
  exact (x b u e).stay (λ c v _ q=>k c v q) (λ c q=>by rw [upd_ne (zu2 q hn)];exact q) λ c xs q=>by rw [upd_ne (zu2 q hn)];exact q
end
def Rd (H:Hp) (a:Addr) (u:HO):Prop:=H a=some u \/ ∃ o,H a=some (.frz o u)
theorem Rd.ok {P:Program} {w:World} {H:Hp} {h:Heap} {a:Addr} {u:HO} (r:Rd H a u) (x:HOk P w H h):ObjOk P w H h a u:=by
 rcases r with r|⟨o,r⟩
 ·exact x a u r
 ·obtain ⟨_,q⟩:=x a _ r
  exact q
def Mut:Option HO->Prop
|some (.lst _)=>True
|some (.dK _)=>True
|some (.dT _)=>True
|some (.set _ _)=>True
|some (.ins _ _ _)=>True
|some (.ext _)=>True
|_=>False
section
variable {P:Program} {w:World} {H:Hp} {h h':Heap} {x e:Addr} {o':HO}
theorem HOk.write (ok:HOk P w H h) (mu:Mut (H x)) (he:e=x \/ H e=some (.own x)) (k:∀ b u,b≠e->h.get? b=some u->h'.get? b=some u) (heo:∃ u,h'.get? e=some u)
  (new:ObjOk P w (upd H x o') h' x o'):HOk P w (upd H x o') h':=λ b u q=>by
 have nown:∀ c y,H c=some (.own y)->c≠x:=λ c y r z=>by subst z;rw [r] at mu;exact mu
 have ntup:∀ c xs,H c=some (.tup xs)->c≠x:=λ c xs r z=>by subst z;rw [r] at mu;exact mu
 by_cases hb:b=x
 ·subst hb;rw [zg0] at q;cases q;exact new
 ·rw [upd_ne hb] at q
  by_cases hbe:b=e
  ·have q':H b=some (.own x):=by
    rcases he with z|z
    ·exact absurd (hbe.trans z) hb
    ·rw [hbe];exact z
   rw [q] at q';cases q'
   obtain ⟨v,hv⟩:=heo
   exact ⟨v,by rw [hbe];exact hv⟩
  ·refine (ok b u q).stay (λ c v hc r=>k c v ?_ r) (λ c r=>by rw [upd_ne (nown c b r)];exact r) λ c xs r=>by rw [upd_ne (ntup c xs r)];exact r
   rcases hc with rfl|hc
   ·exact hbe
   ·rintro rfl
    rcases he with z|z
    ·exact nown c b hc z
    ·rw [hc] at z;cases z;exact hb rfl
end
structure Un (fs ex:List Addr) (H H':Hp) (h h':Heap):Prop where
 keep:∀ b o,h.get? b=some o->H b=none->b ∉ fs->b ∉ ex->h'.get? b=some o
 slot:∀ b o,h.get? b=some o->H b=none->b∈fs->b ∉ ex->∃ sl,h'.get? b=some { o with slots:=sl }
 free:∀ b o,h.get? b=some o->H b=none->b ∉ ex->H' b=none
 there:∀ b o,h.get? b=some o->b ∉ ex->∃ o',h'.get? b=some o'
 tups:∀ b xs,H b=some (.tup xs)->H' b=some (.tup xs)
 frzs:∀ b o u,H b=some (.frz o u)->H' b=some (.frz o u)
 tbls:∀ b ps,H b=some (.tbl ps)->∃ more,H' b=some (.tbl (ps++more))
section
variable {fs fs' ex ex':List Addr} {H H1 H2:Hp} {h h1 h2 h':Heap} {a x e:Addr} {o:HO}
theorem Un.any (u:Un fs ex H H1 h h1) {b:Addr} {ob:Obj} (q:h.get? b=some ob) (n:H b=none) (hx:b ∉ ex):∃ sl,h1.get? b=some { ob with slots:=sl }:=by
 by_cases hb:b∈fs
 ·exact u.slot b ob q n hb hx
 ·exact ⟨ob.slots,u.keep b ob q n hb hx⟩
theorem Un.trans (a:Un fs ex H H1 h h1) (b:Un fs ex H1 H2 h1 h2):Un fs ex H H2 h h2 where
 keep:=λ c ob q n hc hx=>b.keep c ob (a.keep c ob q n hc hx) (a.free c ob q n hx) hc hx
 slot:=λ c ob q n hc hx=>by
  obtain ⟨sl,e1⟩:=a.slot c ob q n hc hx
  obtain ⟨sl',e2⟩:=b.slot c _ e1 (a.free c ob q n hx) hc hx
  exact ⟨sl',e2⟩
 free:=λ c ob q n hx=>by
  obtain ⟨o',e1⟩:=a.there c ob q hx
  exact b.free c o' e1 (a.free c ob q n hx) hx
 there:=λ c ob q hx=>by
  obtain ⟨o',e1⟩:=a.there c ob q hx
  exact b.there c o' e1 hx
 tups:=λ c xs q=>b.tups c xs (a.tups c xs q)
 frzs:=λ c ob xs q=>b.frzs c ob xs (a.frzs c ob xs q)
 tbls:=λ c ps q=>by
  obtain ⟨m1,e1⟩:=a.tbls c ps q
  obtain ⟨m2,e2⟩:=b.tbls c _ e1
  exact ⟨m1++m2,by rw [e2,Array.append_assoc]⟩
theorem Un.kept (k:∀ b u,h.get? b=some u->h'.get? b=some u):Un fs ex H H h h' :=
 ⟨λ b ob q _ _ _=>k b ob q,λ b ob q _ _ _=>⟨ob.slots,k b ob q⟩,λ _ _ _ n _=>n,λ b ob q _=>⟨ob,k b ob q⟩,λ _ _ q=>q,λ _ _ _ q=>q,λ _ ps q=>⟨#[],by rw [q];simp⟩⟩
theorem Un.refl:Un fs ex H H h h:=Un.kept λ _ _ q=>q
theorem Un.laid (k:∀ b u,h.get? b=some u->h'.get? b=some u) (hp:h.objs.size<=a) (hn:H a=none):Un fs ex H (upd H a o) h h' where
 keep:=λ b u q _ _ _=>k b u q
 slot:=λ b u q _ _ _=>⟨u.slots,k b u q⟩
 free:=λ b u q n _=>by rw [upd_ne (Nat.ne_of_lt (Nat.lt_of_lt_of_le (Heap.lt_size q) hp))];exact n
 there:=λ b u q _=>⟨u,k b u q⟩
 tups:=λ b xs q=>by rw [upd_ne (zu2 q hn)];exact q
 frzs:=λ b u xs q=>by rw [upd_ne (zu2 q hn)];exact q
 tbls:=λ b ps q=>⟨#[],by rw [upd_ne (zu2 q hn),q];simp⟩
theorem Un.write (mu:Mut (H x)) (he:e=x \/ H e=some (.own x)) (k:∀ b u,b≠e->h.get? b=some u->h'.get? b=some u) (heo:∃ u,h'.get? e=some u):Un fs ex H (upd H x o) h h':=by
 have hx:∀ b,H b=none->b≠x:=λ b n z=>by subst z;rw [n] at mu;exact mu
 have hb:∀ b,H b=none->b≠e:=λ b n z=>by
  subst z
  rcases he with r|r
  ·exact hx b n r
  ·rw [n] at r;cases r
 have hm:∀ b u,H b=some u->¬ Mut (some u)->b≠x:=λ b u q nm z=>by subst z;rw [q] at mu;exact nm mu
 refine ⟨λ b u q n _ _=>k b u (hb b n) q,λ b u q n _ _=>⟨u.slots,k b u (hb b n) q⟩,λ b u q n _=>by rw [upd_ne (hx b n)];exact n,λ b u q _=>?_,
  λ b xs q=>by rw [upd_ne (hm b _ q λ z=>z)];exact q,λ b u xs q=>by rw [upd_ne (hm b _ q λ z=>z)];exact q,λ b ps q=>⟨#[],by rw [upd_ne (hm b _ q λ z=>z),q];simp⟩⟩
 by_cases hbe:b=e
 ·subst hbe;exact heo
 ·exact ⟨u,k b u hbe q⟩
theorem Un.mono (u:Un fs ex H H1 h h1) (hs:∀ b∈fs,b∈fs') (hx:∀ b∈ex,b∈ex'):Un fs' ex' H H1 h h1 :=
 ⟨λ b ob q n hb he=>u.keep b ob q n (λ z=>hb (hs b z)) λ z=>he (hx b z),λ _ _ q n _ he=>u.any q n λ z=>he (hx _ z),λ b ob q n he=>u.free b ob q n λ z=>he (hx b z),λ b ob q he=>u.there b ob q λ z=>he (hx b z),u.tups,u.frzs,u.tbls⟩
end
def trk (h:Heap) (H:Hp):List Addr:=(List.range h.objs.size).filter λ a=>(H a).isSome
def hidT (h:Heap) (H:Hp):Heap:=PySem.W.hideAll h (trk h H)
theorem zrk (h:Heap) (H:Hp):(hidT h H).objs.size=h.objs.size:=PySem.W.hideAll_size _ _
theorem zlo {h:Heap} {H:Hp} {b:Addr} {o:Obj} (e:h.get? b=some o) (n:H b=none):(hidT h H).get? b=some o :=
 PySem.W.hideAll_get _ e λ hm=>by
  have q:(H b).isSome=true:=(List.mem_filter.mp hm).2
  rw [n] at q;simp at q
theorem zer {h:Heap} {H:Hp} {b:Addr} {o:Obj} (e:(hidT h H).get? b=some o):h.get? b=some o/\H b=none:=by
 have e':h.get? b=some o:=PySem.W.of_hideAll (trk h H) e
 refine ⟨e',?_⟩
 cases q:H b with
|none=>rfl
|some x =>
  have hm:b∈trk h H:=List.mem_filter.mpr ⟨List.mem_range.mpr (Heap.lt_size e'),by simp [q]⟩
  have z:(hidT h H).get? b=none:=PySem.W.hideAll_none (trk h H) hm
  rw [z] at e;cases e
structure Mod (K:Fg) (mg:Str->Option Value) (base:Heap):Prop where
 kin:K.In base
 glob:base.Ns mainGlobals mg
 blt:∃ mb,base.Ns builtinsNs mb/\∀ x:Str,x ≠ "__name__"->mb x=bootBuiltins x
 nolimit:base.NoLimit
structure Cx where
 prog:Program
 w:World
 K:Fg
 mg:Str->Option Value
 base:Heap
 A:Around
 N:List Str
 s₀:Shared
 H₀:Hp
 env:Env
 outer:List Env
 stack:List Env
 ex:List Addr
 fn:Str->Bool
 calm:Bool
 pn:List (Addr×Obj)
 xe:Value->Shared->Prop
def frs (l:List Env):List Addr:=l.filterMap (·.frame)
abbrev Cx.fs (X:Cx):List Addr:=frs X.outer
def Vis (sc:Scope) (x:Str):Prop:=sc.names.lookup x=some .local \/ sc.names.lookup x=some .cell \/ sc.names.lookup x=some .free
def Loc (sc:Scope) (x:Str):Prop:=sc.names.lookup x=some .local \/ sc.names.lookup x=some .cell
def Look (env:Env) (h:Heap) (m:Str->Option Value) (x:Str) (u:Value):Prop :=
 (env.kindOf x=some .local/\m x=some u) \/ ((env.kindOf x=some .cell \/ env.kindOf x=some .free)/\∃ c,env.cells.lookup x=some c/\h.IsCell c (some u))
structure Cx.Ok (X:Cx):Prop where
 mod:Mod X.K X.mg X.base
 kind:X.env.scope.kind=.function
 glob:X.env.globals=mainGlobals
 blt:X.env.builtins=builtinsNs
 above:X.s₀.heap.objs.size<=X.env.locals
 inj:∀ x y c,X.env.cells.lookup x=some c->X.env.cells.lookup y=some c->x=y
 has:∀ x,(X.env.kindOf x=some .cell \/ X.env.kindOf x=some .free)->∃ c,X.env.cells.lookup x=some c
 cab:∀ x c,X.fn x=true->X.env.cells.lookup x=some c->X.s₀.heap.objs.size<=c
 hd:X.calm=true->X.A.handled=none
 frames:X.A.frames=some X.stack
 stk:X.stack=X.outer \/ (X.stack=X.env :: X.outer/\X.env.frame=some X.env.locals)
 exf:∀ b∈X.ex,b≠X.env.locals/\∀ x c,X.env.cells.lookup x=some c->c≠b
 bs:∀ b o,X.base.get? b=some o->X.s₀.heap.get? b=some o/\X.H₀ b=none
 bsz:X.base.objs.size<=X.s₀.heap.objs.size
 noex:∀ b o,X.base.get? b=some o->b ∉ X.ex
 exfs:∀ b∈X.ex,b ∉ X.fs
 funs:X.s₀.heap.FunFrames X.base X.outer
 frf:∀ b∈X.fs,X.H₀ b=none
structure Inv (X:Cx) (pins:List (Addr×Obj)) (σ:List (Option V)) (H:Hp) (s:Shared):Prop where
 ok:X.Ok
 os:s.os=X.s₀.os
 bare:AllBare s.gens
 base:Un X.fs X.ex X.H₀ H X.s₀.heap s.heap
 loc:∃ m,s.heap.Ns X.env.locals m/\∀ (i:Nat) (x:Str) (v:V),X.N[i]?=some x->σ[i]?=some (some v)->Vis X.env.scope x->∃ u,RelV v u/\Look X.env s.heap m x u
 cell:∀ x c,X.env.cells.lookup x=some c->∃ v,s.heap.IsCell c v
 free:H X.env.locals=none
 freeC:∀ x c,X.env.cells.lookup x=some c->H c=none
 pin:∀ p∈X.pn++pins,s.heap.get? p.1=some p.2/\H p.1=none/\p.1≠X.env.locals/\p.1 ∉ X.fs/\∀ v,p.2.data≠.cell v
 hok:HOk X.prog X.w H s.heap
 len:σ.length=X.N.length
section
variable {X:Cx} {pins:List (Addr×Obj)} {σ:List (Option V)} {H H':Hp} {s:Shared} {h':Heap}
theorem Cx.Ok.nofr (ok:X.Ok) {b:Addr} {o:Obj} (e:X.base.get? b=some o):b ∉ X.fs:=λ hb=>by
 have:=(ok.funs.mem hb).1
 rw [e] at this;cases this
theorem Inv.bs (I:Inv X pins σ H s):∀ b o,X.base.get? b=some o->s.heap.get? b=some o/\H b=none:=λ b o e =>
 ⟨I.base.keep b o (I.ok.bs b o e).1 (I.ok.bs b o e).2 (I.ok.nofr e) (I.ok.noex b o e),I.base.free b o (I.ok.bs b o e).1 (I.ok.bs b o e).2 (I.ok.noex b o e)⟩
theorem Inv.bk (I:Inv X pins σ H s):∀ b o,X.base.get? b=some o->s.heap.get? b=some o:=λ b o e=>(I.bs b o e).1
theorem Inv.mod (I:Inv X pins σ H s):Mod X.K X.mg X.base:=I.ok.mod
theorem Inv.kIn (I:Inv X pins σ H s):X.K.In s.heap:=I.ok.mod.kin.keeps I.bk
theorem Inv.lt (I:Inv X pins σ H s):X.env.locals < s.heap.objs.size:=let ⟨_,hn,_⟩:=I.loc;hn.lt
theorem Inv.sz (I:Inv X pins σ H s):X.s₀.heap.objs.size<=s.heap.objs.size:=Nat.le_trans I.ok.above (Nat.le_of_lt I.lt)
theorem Inv.nofs (I:Inv X pins σ H s) {a:Addr} (h:s.heap.objs.size<=a):a ∉ X.fs:=λ hb=>by
 obtain ⟨_,o,ho,_⟩:=I.ok.funs.mem hb
 exact absurd (Nat.lt_of_lt_of_le (Heap.lt_size ho) (Nat.le_trans I.sz h)) (Nat.lt_irrefl _)
theorem Inv.cne (I:Inv X pins σ H s):∀ x c,X.env.cells.lookup x=some c->c≠X.env.locals:=λ x c e z=>by
 obtain ⟨v,o,ho,hd⟩:=I.cell x c e
 obtain ⟨m,⟨o',es,ep,ho',hd',_⟩,_⟩:=I.loc
 rw [z,ho'] at ho;cases ho;rw [hd'] at hd;cases hd
theorem Inv.funs (I:Inv X pins σ H s):s.heap.FunFrames X.base X.outer:=by
 have all:∀ (l:List Env),(∀ b∈frs l,b∈X.fs)->X.s₀.heap.FunFrames X.base l->s.heap.FunFrames X.base l:=by
  intro l
  induction l with
 |nil=>intro _ _;trivial
 |cons env r ih =>
   intro hs hl
   obtain ⟨hk,⟨L,o,hf,hn,ho,hd⟩,hr⟩:=hl
   have hL:L∈X.fs:=hs L (by unfold frs;rw [List.filterMap_cons,hf];exact List.mem_cons_self)
   obtain ⟨sl,e⟩:=I.base.slot L o ho (I.ok.frf L hL) hL λ z=>I.ok.exfs L z hL
   exact ⟨hk,⟨L,_,hf,hn,e,hd⟩,ih (λ b hb=>hs b (by unfold frs;rw [List.filterMap_cons,hf];exact List.mem_cons_of_mem _ hb)) hr⟩
 exact all X.outer (λ _ hb=>hb) I.ok.funs
theorem Inv.stack (I:Inv X pins σ H s):s.heap.FunFrames X.base X.stack:=by
 rcases I.ok.stk with e|⟨e,hf⟩
 ·rw [e];exact I.funs
 ·rw [e]
  obtain ⟨m,hn,_⟩:=I.loc
  refine .cons (by rw [I.ok.kind];decide) hf hn ?_ I.funs
  exact Heap.get?_none_of_le (Nat.le_trans I.ok.bsz I.ok.above)
theorem Inv.stkSub (I:Inv X pins σ H s):∀ b∈frs X.stack,b∈X.env.locals :: X.fs:=λ b hb=>by
 rcases I.ok.stk with e|⟨e,hf⟩
 ·rw [e] at hb;exact List.mem_cons_of_mem _ hb
 ·rw [e] at hb
  unfold frs at hb
  rw [List.filterMap_cons,hf] at hb
  exact hb
theorem Inv.stkFree (I:Inv X pins σ H s):∀ b∈frs X.stack,H b=none:=λ b hb=>by
 rcases List.mem_cons.mp (I.stkSub b hb) with e|hb
 ·rw [e];exact I.free
 ·obtain ⟨_,o,ho,_⟩:=I.ok.funs.mem hb
  exact I.base.free b o ho (I.ok.frf b hb) λ z=>I.ok.exfs b z hb
theorem Inv.step {g':Array GenState} {t':Nat} {d':Drawn} {ch:List Addr} (I:Inv X pins σ H s)
  (hch:∀ b∈ch,(b∈X.ex \/ X.s₀.heap.objs.size<=b)/\b≠X.env.locals/\(∀ x c,X.env.cells.lookup x=some c->c≠b)/\∀ p∈X.pn++pins,p.1≠b)
  (keep:∀ b o,b≠X.env.locals->b ∉ X.fs->b ∉ ch->s.heap.get? b=some o->H b=none->h'.get? b=some o)
  (slot:∀ b o,b≠X.env.locals->b∈X.fs->b ∉ ch->s.heap.get? b=some o->H b=none->∃ sl,h'.get? b=some { o with slots:=sl }) (free:∀ b o,b ∉ ch->s.heap.get? b=some o->H b=none->H' b=none)
  (there:∀ b o,b ∉ ch->s.heap.get? b=some o->∃ o',h'.get? b=some o')
  (tups:∀ b xs,H b=some (.tup xs)->H' b=some (.tup xs)) (frzs:∀ b o u,H b=some (.frz o u)->H' b=some (.frz o u)) (tbls:∀ b ps,H b=some (.tbl ps)->∃ more,H' b=some (.tbl (ps++more)))
  (ns:∀ m,s.heap.Ns X.env.locals m->h'.Ns X.env.locals m) (hok:HOk X.prog X.w H' h') (hg:AllBare g') :
  Inv X pins σ H' { s with heap:=h',gens:=g',drawn:=d',toks:=t' }:=by
 have neL:∀ b o,X.s₀.heap.get? b=some o->b≠X.env.locals:=λ b o e=>Nat.ne_of_lt (Nat.lt_of_lt_of_le (Heap.lt_size e) I.ok.above)
 have neC:∀ b o,X.s₀.heap.get? b=some o->b ∉ X.ex->b ∉ ch:=λ b o e hx hb=>by
  rcases (hch b hb).1 with z|z
  ·exact hx z
  ·exact absurd (Nat.lt_of_lt_of_le (Heap.lt_size e) z) (Nat.lt_irrefl _)
 have cellK:∀ x c,X.env.cells.lookup x=some c->∀ v,s.heap.IsCell c v->h'.IsCell c v:=λ x c e v ⟨o,ho,hd⟩=>by
  have nch:c ∉ ch:=λ z=>(hch c z).2.2.1 x c e rfl
  by_cases hc:c∈X.fs
  ·obtain ⟨sl,q⟩:=slot c o (I.cne x c e) hc nch ho (I.freeC x c e)
   exact ⟨_,q,hd⟩
  ·exact ⟨o,keep c o (I.cne x c e) hc nch ho (I.freeC x c e),hd⟩
 refine ⟨I.ok,I.os,hg,⟨λ b o e n hb hx=>?_,λ b o e n hb hx=>?_,λ b o e n hx=>?_,λ b o e hx=>?_,λ b xs e=>tups b xs (I.base.tups b xs e),λ b o xs e=>frzs b o xs (I.base.frzs b o xs e),λ b ps e=>?_⟩,?_,λ x c e=>?_,?_,λ x c e=>?_,λ p hp=>?_,hok,I.len⟩
 ·exact keep b o (neL b o e) hb (neC b o e hx) (I.base.keep b o e n hb hx) (I.base.free b o e n hx)
 ·obtain ⟨sl,e1⟩:=I.base.slot b o e n hb hx
  obtain ⟨sl',e2⟩:=slot b _ (neL b o e) hb (neC b o e hx) e1 (I.base.free b o e n hx)
  exact ⟨sl',e2⟩
 ·obtain ⟨o',e1⟩:=I.base.there b o e hx
  exact free b o' (neC b o e hx) e1 (I.base.free b o e n hx)
 ·obtain ⟨o',e1⟩:=I.base.there b o e hx
  exact there b o' (neC b o e hx) e1
 ·obtain ⟨m1,e1⟩:=I.base.tbls b ps e
  obtain ⟨m2,e2⟩:=tbls b _ e1
  exact ⟨m1++m2,by rw [e2,Array.append_assoc]⟩
 ·obtain ⟨m,hn,hl⟩:=I.loc
  refine ⟨m,ns m hn,λ i x v e1 e2 e3=>?_⟩
  obtain ⟨u,r,l⟩:=hl i x v e1 e2 e3
  refine ⟨u,r,?_⟩
  rcases l with l|⟨k,c,e,z⟩
  ·exact .inl l
  ·exact .inr ⟨k,c,e,cellK x c e _ z⟩
 ·obtain ⟨v,z⟩:=I.cell x c e
  exact ⟨v,cellK x c e v z⟩
 ·obtain ⟨m,⟨o,_,_,ho,_⟩,_⟩:=I.loc
  exact free _ o (λ z=>(hch _ z).2.1 rfl) ho I.free
 ·obtain ⟨v,o,ho,hd⟩:=I.cell x c e
  exact free c o (λ z=>(hch c z).2.2.1 x c e rfl) ho (I.freeC x c e)
 ·obtain ⟨e,n,ne,nf,d⟩:=I.pin p hp
  have nch:p.1 ∉ ch:=λ z=>(hch p.1 z).2.2.2 p hp rfl
  exact ⟨keep p.1 p.2 ne nf nch e n,free p.1 p.2 nch e n,ne,nf,d⟩
theorem Inv.un {t':Nat} (I:Inv X pins σ H s) (u:Un X.fs [] H H' s.heap h') (hok:HOk X.prog X.w H' h'):Inv X pins σ H' { s with heap:=h',toks:=t' }:=by
 obtain ⟨m,⟨o,es,ep,ho,r⟩,_⟩:=id I.loc
 obtain ⟨sl,hL⟩:=u.any ho I.free (by simp)
 exact I.step (g':=s.gens) (d':=s.drawn) (ch:=[]) (λ _ z=>nomatch z) (λ b o _ hb _ e n=>u.keep b o e n hb (by simp)) (λ b o _ hb _ e n=>u.slot b o e n hb (by simp)) (λ b o _ e n=>u.free b o e n (by simp)) (λ b o _ e=>u.there b o e (by simp)) u.tups u.frzs u.tbls (λ m' hm=>by
  obtain ⟨o',es',ep',ho',r'⟩:=hm
  rw [ho] at ho';cases ho'
  exact ⟨_,es',ep',hL,r'⟩) hok I.bare
theorem Inv.call {g':Array GenState} {t':Nat} {d':Drawn} {ch:List Addr} (I:Inv X pins σ H s) (u:Un (frs X.stack) ch H H' s.heap h') (hok:HOk X.prog X.w H' h') (hg:AllBare g')
  (hch:∀ b∈ch,(b∈X.ex \/ X.s₀.heap.objs.size<=b)/\b≠X.env.locals/\(∀ x c,X.env.cells.lookup x=some c->c≠b)/\∀ p∈X.pn++pins,p.1≠b) :
  Inv X pins σ H' { s with heap:=h',gens:=g',drawn:=d',toks:=t' }:=by
 obtain ⟨m,⟨o,es,ep,ho,r⟩,_⟩:=id I.loc
 obtain ⟨sl,hL⟩:=u.any ho I.free λ z=>(hch _ z).2.1 rfl
 exact I.step (ch:=ch) hch (λ b o hL hb hc e n=>u.keep b o e n (λ z=>(List.mem_cons.mp (I.stkSub b z)).elim hL hb) hc) (λ b o _ _ hc e n=>u.any e n hc) (λ b o hc e n=>u.free b o e n hc) (λ b o hc e=>u.there b o e hc) u.tups u.frzs u.tbls (λ m' hm=>by
  obtain ⟨o',es',ep',ho',r'⟩:=hm
  rw [ho] at ho';cases ho'
  exact ⟨_,es',ep',hL,r'⟩) hok hg
theorem Inv.turned {t':Nat} {it:Addr} (I:Inv X pins σ H s) (k:∀ b o,b≠it->s.heap.get? b=some o->h'.get? b=some o) (hn:H it=none) (hL:it≠X.env.locals)
  (h1:it∈X.ex \/ X.s₀.heap.objs.size<=it) (h2:∀ x c,X.env.cells.lookup x=some c->c≠it) (h3:∀ p∈X.pn++pins,p.1≠it):Inv X pins σ H { s with heap:=h',toks:=t' }:=by
 have nit:∀ b u,H b=some u->b≠it:=λ b u e z=>by rw [z,hn] at e;cases e
 refine I.step (g':=s.gens) (d':=s.drawn) (ch:=[it]) (λ b hb=>?_) (λ b o _ _ hc e _=>k b o (λ z=>hc (by simp [z])) e) (λ b o _ _ hc e _=>⟨o.slots,k b o (λ z=>hc (by simp [z])) e⟩) (λ _ _ _ _ n=>n)
  (λ b o hc e=>⟨o,k b o (λ z=>hc (by simp [z])) e⟩) (λ _ _ e=>e) (λ _ _ _ e=>e) (λ b ps e=>⟨#[],by rw [e];simp⟩) (λ m hm=>?_) (λ b u e=>?_) I.bare
 ·have e:b=it:=by simpa using hb
  subst e
  exact ⟨h1,hL,h2,h3⟩
 ·obtain ⟨o,es,ep,ho,r⟩:=hm
  exact ⟨o,es,ep,k _ o (Ne.symm hL) ho,r⟩
 ·refine (I.hok b u e).stay (λ c v hc q=>k c v ?_ q) (λ _ q=>q) λ _ _ q=>q
  rcases hc with z|z
  ·rw [z];exact nit b u e
  ·exact nit c _ z
theorem Inv.tok (I:Inv X pins σ H s) (t:Nat):Inv X pins σ H { s with toks:=t }:=I.un (h':=s.heap) (t':=t) Un.refl I.hok
theorem Inv.kept {t':Nat} (I:Inv X pins σ H s) (k:∀ b u,s.heap.get? b=some u->h'.get? b=some u):Inv X pins σ H { s with heap:=h',toks:=t' }:=I.un (Un.kept k) (I.hok.kept k)
theorem Inv.laid {a:Addr} {o:HO} {t':Nat} (I:Inv X pins σ H s) (k:∀ b u,s.heap.get? b=some u->h'.get? b=some u) (hp:s.heap.objs.size<=a) (new:ObjOk X.prog X.w (upd H a o) h' a o) :
  Inv X pins σ (upd H a o) { s with heap:=h',toks:=t' }:=I.un (Un.laid k hp (I.hok.fresh hp)) (I.hok.laid k hp new)
theorem Inv.write {x e:Addr} {o:HO} {t':Nat} (I:Inv X pins σ H s) (mu:Mut (H x)) (he:e=x \/ H e=some (.own x)) (k:∀ b u,b≠e->s.heap.get? b=some u->h'.get? b=some u) (heo:∃ u,h'.get? e=some u)
  (new:ObjOk X.prog X.w (upd H x o) h' x o):Inv X pins σ (upd H x o) { s with heap:=h',toks:=t' }:=I.un (Un.write mu he k heo) (I.hok.write mu he k heo new)
theorem Inv.pins_of {pins':List (Addr×Obj)} (I:Inv X pins σ H s) (h:∀ p∈pins',s.heap.get? p.1=some p.2/\H p.1=none/\p.1≠X.env.locals/\p.1 ∉ X.fs/\∀ v,p.2.data≠.cell v):Inv X pins' σ H s :=
 ⟨I.ok,I.os,I.bare,I.base,I.loc,I.cell,I.free,I.freeC,λ p hp=>(List.mem_append.mp hp).elim (λ z=>I.pin p (List.mem_append_left _ z)) (h p),I.hok,I.len⟩
theorem zpf {N:List Str} (hN:N.Nodup) {i j:Nat} {x:Str} (a:N[i]?=some x) (b:N[j]?=some x):i=j:=by
 obtain ⟨h1,e1⟩:=List.getElem?_eq_some_iff.mp a
 obtain ⟨h2,e2⟩:=List.getElem?_eq_some_iff.mp b
 exact (List.getElem_inj hN).mp (e1.trans e2.symm)
theorem zhh {M:Model} {A:Around} {E:Value->Shared->Prop} {i:Nat} {x:Str} {v:V} {u:Value} {Q:Unit->Shared->Prop} (I:Inv X pins σ H s) (hN:X.N.Nodup) (hi:X.N[i]?=some x) (hx:Loc X.env.scope x) (r:RelV v u)
  (h:∀ s',Inv X pins (σ.set i (some v)) H s'->(∃ a,Heap.SameBut a s.heap s'.heap/\(a=X.env.locals \/ X.env.cells.lookup x=some a))->Q () s') (hf:X.fn x=true \/ X.env.scope.names.lookup x=some .local:=by first|exact .inl rfl|exact .inr rfl|assumption):wpAny M A (storeName X.env x u) Q E s:=by
 obtain ⟨m,hn,hl⟩:=id I.loc
 have hcls:(X.env.scope.kind == .class || (X.env.scope.kind == .module && X.env.locals != X.env.globals))=false:=by rw [I.ok.kind];rfl
 have hiσ:i < σ.length:=by rw [I.len];exact (List.getElem?_eq_some_iff.mp hi).1
 have cne:=I.cne
 have tracked:∀ {a:Addr} {h':Heap},(∃ o,s.heap.get? a=some o/\H a=none)->Heap.SameBut a s.heap h'->HOk X.prog X.w H h':=λ {a h'} ha hs b ob e=>by
  obtain ⟨_,_,hfree⟩:=ha
  refine (I.hok b ob e).stay (λ c w' hc q=>(hs.2 c ?_).trans q) (λ _ q=>q) λ _ _ q=>q
  rintro rfl
  rcases hc with rfl|hc
  ·rw [hfree] at e;cases e
  ·rw [hfree] at hc;cases hc
 rcases hx with hk|hk
 ·refine wpAny_storeName_local hk hn (λ h' hn' hs=>?_) hcls
  obtain ⟨oL,_,_,hoL,_⟩:=id hn
  refine h _ ⟨I.ok,I.os,I.bare,⟨λ b o e n hb hx=>?_,λ b o e n hb hx=>?_,I.base.free,λ b o e hx=>?_,I.base.tups,I.base.frzs,I.base.tbls⟩,⟨_,hn',λ j y v' e1 e2 e3=>?_⟩,λ y c e=>?_,I.free,I.freeC,λ p hp=>?_,tracked ⟨oL,hoL,I.free⟩ hs,by simpa using I.len⟩ ⟨_,hs,.inl rfl⟩
  ·exact (hs.2 b (Nat.ne_of_lt (Nat.lt_of_lt_of_le (Heap.lt_size e) I.ok.above))).trans (I.base.keep b o e n hb hx)
  ·obtain ⟨sl,e1⟩:=I.base.slot b o e n hb hx
   exact ⟨sl,(hs.2 b (Nat.ne_of_lt (Nat.lt_of_lt_of_le (Heap.lt_size e) I.ok.above))).trans e1⟩
  ·obtain ⟨o',e1⟩:=I.base.there b o e hx
   exact ⟨o',(hs.2 b (Nat.ne_of_lt (Nat.lt_of_lt_of_le (Heap.lt_size e) I.ok.above))).trans e1⟩
  ·by_cases hj:j=i
   ·subst hj
    rw [hi] at e1;cases e1
    rw [List.getElem?_set_self hiσ] at e2
    cases e2
    exact ⟨u,r,.inl ⟨hk,by simp⟩⟩
   ·rw [List.getElem?_set_ne (Ne.symm hj)] at e2
    obtain ⟨u',r',q⟩:=hl j y v' e1 e2 e3
    refine ⟨u',r',?_⟩
    rcases q with ⟨k,e⟩|⟨k,c,e,z⟩
    ·refine .inl ⟨k,?_⟩
     have:y≠x:=λ e=>hj (zpf hN e1 (e ▸ hi))
     simp [this,e]
    ·exact .inr ⟨k,c,e,z.sameBut hs (cne y c e)⟩
  ·obtain ⟨w',z⟩:=I.cell y c e
   exact ⟨w',z.sameBut hs (cne y c e)⟩
  ·obtain ⟨e,n,ne,nf,d⟩:=I.pin p hp
   exact ⟨(hs.2 p.1 ne).trans e,n,ne,nf,d⟩
 ·have hfn:X.fn x=true:=by
   rcases hf with z|z
   ·exact z
   ·rw [z] at hk;cases hk
  obtain ⟨c,hc⟩:=I.ok.has x (.inl hk)
  obtain ⟨w',z⟩:=I.cell x c hc
  refine wpAny_storeName_cell I.ok.kind hk hc z (λ h' hc' hs=>?_)
  obtain ⟨oc,hoc,hocd⟩:=id z
  refine h { s with heap:=h' } ⟨I.ok,I.os,I.bare,⟨λ b o e n hb hx=>?_,λ b o e n hb hx=>?_,I.base.free,λ b o e hx=>?_,I.base.tups,I.base.frzs,I.base.tbls⟩,⟨m,hn.sameBut hs (Ne.symm (cne x c hc)),λ j y v' e1 e2 e3=>?_⟩,λ y c' e=>?_,I.free,I.freeC,λ p hp=>?_,tracked ⟨oc,hoc,I.freeC x c hc⟩ hs,by simpa using I.len⟩ ⟨c,hs,.inr hc⟩
  ·exact (hs.2 b (Nat.ne_of_lt (Nat.lt_of_lt_of_le (Heap.lt_size e) (I.ok.cab x c hfn hc)))).trans (I.base.keep b o e n hb hx)
  ·obtain ⟨sl,e1⟩:=I.base.slot b o e n hb hx
   exact ⟨sl,(hs.2 b (Nat.ne_of_lt (Nat.lt_of_lt_of_le (Heap.lt_size e) (I.ok.cab x c hfn hc)))).trans e1⟩
  ·obtain ⟨o',e1⟩:=I.base.there b o e hx
   exact ⟨o',(hs.2 b (Nat.ne_of_lt (Nat.lt_of_lt_of_le (Heap.lt_size e) (I.ok.cab x c hfn hc)))).trans e1⟩
  ·by_cases hj:j=i
   ·subst hj
    rw [hi] at e1;cases e1
    rw [List.getElem?_set_self hiσ] at e2
    cases e2
    exact ⟨u,r,.inr ⟨.inl hk,c,hc,hc'⟩⟩
   ·rw [List.getElem?_set_ne (Ne.symm hj)] at e2
    obtain ⟨u',r',q⟩:=hl j y v' e1 e2 e3
    refine ⟨u',r',?_⟩
    rcases q with q|⟨k,c',e,z'⟩
    ·exact .inl q
    ·refine .inr ⟨k,c',e,z'.sameBut hs ?_⟩
     rintro rfl
     exact hj (zpf hN e1 (I.ok.inj _ _ _ e hc ▸ hi))
  ·by_cases hcc:c'=c
   ·subst hcc;exact ⟨_,hc'⟩
   ·obtain ⟨w2,z2⟩:=I.cell y c' e
    exact ⟨w2,z2.sameBut hs hcc⟩
  ·obtain ⟨e,n,ne,nf,d⟩:=I.pin p hp
   refine ⟨(hs.2 p.1 ?_).trans e,n,ne,nf,d⟩
   intro q
   rw [q,hoc] at e
   have q':oc=p.2:=Option.some.inj e
   exact d w' (by rw [<- q'];exact hocd)
theorem zpc {M:Model} {A:Around} {E:Value->Shared->Prop} {i:Nat} {x:Str} {v:V} {u:Value} {Q:Unit->Shared->Prop} (I:Inv X pins σ H s) (hN:X.N.Nodup) (hi:X.N[i]?=some x) (hx:Loc X.env.scope x) (r:RelV v u)
  (h:∀ s',Inv X pins (σ.set i (some v)) H s'->Q () s') (hf:X.fn x=true \/ X.env.scope.names.lookup x=some .local:=by first|exact .inl rfl|exact .inr rfl|assumption):wpAny M A (storeName X.env x u) Q E s :=
 zhh I hN hi hx r (λ s' I' _=>h s' I') hf
theorem Inv.call' {s':Shared} {ch:List Addr} (I:Inv X pins σ H s) (ho:s'.os=s.os) (u:Un (frs X.stack) ch H H' s.heap s'.heap) (hok:HOk X.prog X.w H' s'.heap) (hg:AllBare s'.gens)
  (hch:∀ b∈ch,(b∈X.ex \/ X.s₀.heap.objs.size<=b)/\b≠X.env.locals/\(∀ x c,X.env.cells.lookup x=some c->c≠b)/\∀ p∈X.pn++pins,p.1≠b):Inv X pins σ H' s':=by
 obtain ⟨h',g',d',t',o'⟩:=s'
 have e:o'=s.os:=ho
 subst e
 exact I.call (g':=g') (t':=t') (d':=d') u hok hg hch
end
abbrev XK:=Value->Option Addr->Hp->Prop
abbrev St:=List (Option V)
abbrev VK:=V->Hp->Prop
abbrev TE:=St->Hp->VK->Prop
abbrev TT:=St->Hp->(Bool->Hp->Prop)->Prop
abbrev TA:=St->Hp->(List V->Hp->Prop)->Prop
structure Ends where
 nx:St->Hp->Prop
 rt:VK
 bk:St->Hp->Prop:=λ _ _=>False
 ct:St->Hp->Prop:=λ _ _=>False
abbrev TS:=Ends->St->Hp->Prop
def EP (X:Cx) (pins:List (Addr×Obj)) (σ:St) (Q:VK) (u:Value) (s':Shared):Prop:=∃ v H',Inv X pins σ H' s'/\RelV v u/\Q v H'
def TP (X:Cx) (pins:List (Addr×Obj)) (σ:St) (Q:Bool->Hp->Prop) (b:Bool) (s':Shared):Prop:=∃ H',Inv X pins σ H' s'/\Q b H'
def AP (X:Cx) (pins:List (Addr×Obj)) (σ:St) (Q:List V->Hp->Prop) (us:List Value) (s':Shared):Prop:=∃ vs H',Inv X pins σ H' s'/\Vals vs us/\Q vs H'
def SP (X:Cx) (pins:List (Addr×Obj)) (D:Ends) (f:Flow) (s':Shared):Prop :=
 match f with
|.next=>∃ σ' H',Inv X pins σ' H' s'/\D.nx σ' H'
|.brk=>∃ σ' H',Inv X pins σ' H' s'/\D.bk σ' H'
|.cont=>∃ σ' H',Inv X pins σ' H' s'/\D.ct σ' H'
|.ret u=>∃ v σ' H',Inv X pins σ' H' s'/\RelV v u/\D.rt v H'
def PE (X:Cx) (e:Expr) (t:TE):Prop :=
 ∀ (pins:List (Addr×Obj)) (s:Shared) (σ:St) (H:Hp) (Q:VK),Inv X pins σ H s->t σ H Q->wpAny (model X.prog X.w) X.A (eval e X.env) (EP X pins σ Q) X.xe s
def PT (X:Cx) (e:Expr) (t:TT):Prop :=
 ∀ (pins:List (Addr×Obj)) (s:Shared) (σ:St) (H:Hp) (Q:Bool->Hp->Prop),Inv X pins σ H s->t σ H Q->wpAny (model X.prog X.w) X.A (isTrue e X.env (eval e X.env)) (TP X pins σ Q) X.xe s
def PW (X:Cx) (e:Expr) (t:TT):Prop :=
 ∀ (whole:Sem Value) (pins:List (Addr×Obj)) (s:Shared) (σ:St) (H:Hp) (Q:Bool->Hp->Prop),Inv X pins σ H s->t σ H Q->wpAny (model X.prog X.w) X.A (isTrue e X.env whole) (TP X pins σ Q) X.xe s
theorem PW.pt {X:Cx} {e:Expr} {t:TT} (h:PW X e t):PT X e t:=h _
def PA (X:Cx) (es:List Expr) (t:TA):Prop :=
 ∀ (pos:Pos) (pins:List (Addr×Obj)) (s:Shared) (σ:St) (H:Hp) (Q:List V->Hp->Prop),Inv X pins σ H s->t σ H Q->wpAny (model X.prog X.w) X.A (spliced (backTo pos (starEach es X.env))) (AP X pins σ Q) X.xe s
def PS (X:Cx) (st:Stmt) (t:TS):Prop :=
 ∀ (pins:List (Addr×Obj)) (s:Shared) (σ:St) (H:Hp) (D:Ends),Inv X pins σ H s->t D σ H->wpAny (model X.prog X.w) X.A (exec st X.env) (SP X pins D) X.xe s
def PSs (X:Cx) (st:List Stmt) (t:TS):Prop :=
 ∀ (pins:List (Addr×Obj)) (s:Shared) (σ:St) (H:Hp) (D:Ends),Inv X pins σ H s->t D σ H->wpAny (model X.prog X.w) X.A (execs st X.env) (SP X pins D) X.xe s
theorem thn {α:Type} {t:Sem α} {Q Q':α->Shared->Prop} {M:Model} {A:Around} {E:Value->Shared->Prop} {s:Shared} (h:wpAny M A t Q E s) (hQ:∀ a s,Q a s->Q' a s):wpAny M A t Q' E s:=wpAny_mono h hQ λ _ _ x=>x
section
variable {X:Cx}
theorem bin {a b:Expr} {ta tb:TE} (ha:PE X a ta) (hb:PE X b tb) {pins:List (Addr×Obj)} {s:Shared} {σ:St} {H:Hp} {R:V->V->Hp->Prop} (I:Inv X pins σ H s) (h:ta σ H λ x H1=>tb σ H1 λ y H2=>R x y H2)
  {α:Type} {Q:α->Shared->Prop} {f:Value->Value->Sem α}
  (hf:∀ v u s2 x y H2,Inv X pins σ H2 s2->RelV x v->RelV y u->R x y H2->wpAny (model X.prog X.w) X.A (f v u) Q X.xe s2) :
  wpAny (model X.prog X.w) X.A (eval a X.env) (λ v s₁=>wpAny (model X.prog X.w) X.A (eval b X.env) (λ u s₂=>wpAny (model X.prog X.w) X.A (f v u) Q X.xe s₂) X.xe s₁) X.xe s:=by
 refine thn (ha pins s σ H _ I h) λ v s1 ⟨x,H1,I1,r1,q1⟩=>?_
 refine thn (hb pins s1 σ H1 _ I1 q1) λ u s2 ⟨y,H2,I2,r2,q2⟩=>?_
 exact hf v u s2 x y H2 I2 r1 r2 q2
def tVar (i:Nat):TE:=λ σ H Q=>∃ v,σ[i]?=some (some v)/\Q v H
def tC (v:V):TE:=λ _ H Q=>Q v H
theorem pe_var {i:Nat} {x:Str} {pos:Pos} (hN:X.N[i]?=some x) (hv:Vis X.env.scope x) (hd:(x == ("__debug__":Str))=false:=by decide) (hcd:(x == ("__classdict__":Str))=false:=by decide):PE X (.Name x pos) (tVar i):=by
 intro pins s σ H Q I h
 obtain ⟨v,e,h⟩:=h
 obtain ⟨m,hn,hl⟩:=I.loc
 obtain ⟨u,r,l⟩:=hl i x v hN e hv
 have fin:EP X pins σ Q u s:=⟨v,H,I,r,h⟩
 rcases l with ⟨hk,hm⟩|⟨hk,c,hc,hcell⟩
 ·exact wpAny_Name (wpAny_loadName_local I.ok.kind hk hn hm fin) hd
 ·rcases hk with hk|hk
  ·exact wpAny_Name (wpAny_loadName_cell I.ok.kind hk hc hcell fin) hd
  ·exact wpAny_Name (wpAny_loadName_free I.ok.kind hk hc hcell fin hcd) hd
theorem pe_int {i j pos}:PE X (.Constant (.int i) j pos) (tC (.int i)):=λ _ _ _ H _ I h=>wpAny_Constant_int ⟨.int i,H,I.tok _,⟨_,rfl⟩,h⟩
theorem pe_bl {b j pos}:PE X (.Constant (.bool b) j pos) (tC (.bl b)):=λ _ _ _ H _ I h=>Constant_bool ⟨.bl b,H,I,rfl,h⟩
theorem pe_str {x j pos}:PE X (.Constant (.str x) j pos) (tC (.str x)):=λ _ _ _ H _ I h=>Calls.Constant_str ⟨.str x,H,I.tok _,⟨_,rfl⟩,h⟩
def Gl (X:Cx) (x:Str):Prop:=X.env.kindOf x=some .globalImplicit
theorem ztd {E:Value->Shared->Prop} {pins:List (Addr×Obj)} {s:Shared} {σ:St} {H:Hp} {x:Str} {u:Value} {pos:Pos} {Q:Value->Shared->Prop} (I:Inv X pins σ H s) (hg:Gl X x) (hm:X.mg x=some u) (h:Q u s)
  (hd:(x == ("__debug__":Str))=false:=by decide):wpAny (model X.prog X.w) X.A (eval (.Name x pos) X.env) Q E s :=
 Calls.Name_function_global I.ok.kind hg (Calls.loadGlobal_global (by rw [I.ok.glob];exact I.mod.glob.keeps I.bk) hm h) hd
theorem ld_blt {E:Value->Shared->Prop} {pins:List (Addr×Obj)} {s:Shared} {σ:St} {H:Hp} {x:Str} {u:Value} {pos:Pos} {Q:Value->Shared->Prop} (I:Inv X pins σ H s) (hg:Gl X x) (hm:X.mg x=none) (hv:bootBuiltins x=some u) (h:Q u s)
  (hn:x ≠ "__name__":=by decide) (hd:(x == ("__debug__":Str))=false:=by decide):wpAny (model X.prog X.w) X.A (eval (.Name x pos) X.env) Q E s:=by
 obtain ⟨mb,h1,h2⟩:=I.mod.blt
 exact Calls.Name_function_global I.ok.kind hg (Calls.loadGlobal_builtin (by rw [I.ok.glob];exact I.mod.glob.keeps I.bk) hm (by rw [I.ok.blt];exact h1.keeps I.bk) ((h2 x hn).trans hv) h) hd
theorem zo1 {x:Str} {v:V} {u:Value} {pos:Pos} (hg:Gl X x) (hm:X.mg x=some u) (r:RelV v u) (hd:(x == ("__debug__":Str))=false:=by decide):PE X (.Name x pos) (tC v) :=
 λ _ _ _ H _ I h=>ztd I hg hm ⟨v,H,I,r,h⟩ hd
theorem zj9 {x:Str} {v:V} {u:Value} {pos:Pos} (hg:Gl X x) (hm:X.mg x=none) (hv:bootBuiltins x=some u) (r:RelV v u) (hn:x ≠ "__name__":=by decide) (hd:(x == ("__debug__":Str))=false:=by decide):PE X (.Name x pos) (tC v) :=
 λ _ _ _ H _ I h=>ld_blt I hg hm hv ⟨v,H,I,r,h⟩ hn hd
variable {a b:Expr} {ta tb:TE} {pos:Pos}
variable {tA tB':TT} {rest:List Expr}
def tAnd (t u:TT):TT:=λ σ H Q=>t σ H λ c H1=>if c=true then u σ H1 Q else Q false H1
def tOr (t u:TT):TT:=λ σ H Q=>t σ H λ c H1=>if c=true then Q true H1 else u σ H1 Q
def tNot (t:TT):TT:=λ σ H Q=>t σ H λ c H1=>Q (!c) H1
theorem zjn (ha:PT X a tA):PW X (.BoolOp .And [a] pos) tA:=by
 intro wh pins s σ H Q I h
 refine isTrue_and (thn (ha pins s σ H Q I h) λ c s1 e=>?_)
 cases c with
|true=>exact isTrue_and_nil e
|false=>exact e
theorem pw_or1 (ha:PT X a tA):PW X (.BoolOp .Or [a] pos) tA:=by
 intro wh pins s σ H Q I h
 refine isTrue_or (thn (ha pins s σ H Q I h) λ c s1 e=>?_)
 cases c with
|false=>exact isTrue_or_nil e
|true=>exact e
theorem pw_and (ha:PT X a tA) (hb:PW X (.BoolOp .And (b :: rest) pos) tB'):PW X (.BoolOp .And (a :: b :: rest) pos) (tAnd tA tB'):=by
 intro wh pins s σ H Q I h
 refine isTrue_and (thn (ha pins s σ H _ I h) λ c s1 ⟨H1,I1,q1⟩=>?_)
 cases c with
|true=>exact hb wh pins s1 σ H1 Q I1 q1
|false=>exact ⟨H1,I1,q1⟩
theorem pw_or (ha:PT X a tA) (hb:PW X (.BoolOp .Or (b :: rest) pos) tB'):PW X (.BoolOp .Or (a :: b :: rest) pos) (tOr tA tB'):=by
 intro wh pins s σ H Q I h
 refine isTrue_or (thn (ha pins s σ H _ I h) λ c s1 ⟨H1,I1,q1⟩=>?_)
 cases c with
|true=>exact ⟨H1,I1,q1⟩
|false=>exact hb wh pins s1 σ H1 Q I1 q1
theorem pt_not (ha:PT X a tA):PT X (.UnaryOp .Not a pos) (tNot tA):=by
 intro pins s σ H Q I h
 exact isTrue_not (ha pins s σ H (λ c H1=>Q (!c) H1) I h)
def tAndV (ta tb:TE):TE:=λ σ H Q=>ta σ H λ x H1=>∃ c,x=.bl c/\if c=true then tb σ H1 Q else Q (.bl false) H1
def tNotV (ta:TE):TE:=λ σ H Q=>ta σ H λ x H1=>∃ c,x=.bl c/\Q (.bl (!c)) H1
theorem pe_one {op} {t:TE} (h:PE X a t):PE X (.BoolOp op [a] pos) t:=λ pins s σ H Q I hw=>BoolOp_one (h pins s σ H Q I hw)
theorem pe_and (ha:PE X a ta) (hb:PE X (.BoolOp .And (b :: rest) pos) tb):PE X (.BoolOp .And (a :: b :: rest) pos) (tAndV ta tb):=by
 intro pins s σ H Q I h
 refine BoolOp_and (thn (ha pins s σ H _ I h) λ v s1 ⟨x,H1,I1,r1,q1⟩=>?_)
 obtain ⟨c,rfl,q1⟩:=q1
 cases r1
 refine wpAny_truthy_bool ?_
 cases c with
|true=>exact hb pins s1 σ H1 Q I1 q1
|false=>exact ⟨.bl false,H1,I1,rfl,q1⟩
theorem pe_not (ha:PE X a ta):PE X (.UnaryOp .Not a pos) (tNotV ta):=by
 intro pins s σ H Q I h
 refine UnaryOp_ (thn (ha pins s σ H _ I h) λ v s1 ⟨x,H1,I1,r1,q1⟩=>?_)
 obtain ⟨c,rfl,q1⟩:=q1
 cases r1
 exact not_of (wpAny_truthy_bool ⟨.bl (!c),H1,I1,rfl,q1⟩)
def tIf (t:TT) (ta tb:TE):TE:=λ σ H Q=>t σ H λ c H1=>if c=true then ta σ H1 Q else tb σ H1 Q
theorem zgj {c:Expr} (hc:PT X c tA) (ha:PE X a ta) (hb:PE X b tb):PE X (.IfExp c a b pos) (tIf tA ta tb):=by
 intro pins s σ H Q I h
 refine wpAny_IfExp (thn (hc pins s σ H _ I h) λ d s1 ⟨H1,I1,q1⟩=>?_)
 cases d with
|true=>exact ha pins s1 σ H1 Q I1 q1
|false=>exact hb pins s1 σ H1 Q I1 q1
end
def SqL (K:Fg) (H:Hp) (a:Addr) (xs:List V):Prop :=
 Rd H a (.lst xs) \/
  ∃ (o:Obj) (its:Array Value) (n:Nat),K.lookup a=some o/\o.cls=.type "list"/\o.dict=none/\o.data=.seq its n/\its.size<=sizeLine/\Vals xs its.toList
def SqT (K:Fg) (H:Hp) (a:Addr) (xs:List V):Prop :=
 Rd H a (.tup xs) \/
  ∃ (o:Obj) (its:Array Value) (n:Nat),K.lookup a=some o/\o.cls=.type "tuple"/\o.data=.seq its n/\its.size<=sizeLine/\Vals xs its.toList
def absV:Value->Option V
|.none=>some .non
|.bool b=>some (.bl b)
|.int i _=>some (.int i)
|.str x _=>some (.str x)
|.bytes b _=>some (.byt b)
|.float b _=>some (.flt b)
|.ref a=>some (.ref a)
|.type n=>some (.ty n)
|_=>none
theorem RelV.abs {x:V} {u:Value} (r:RelV x u):absV u=some x:=by
 cases x with
|non=>cases r;rfl
|bl _=>cases r;rfl
|int _=>obtain ⟨t,rfl⟩:=r;rfl
|str _=>obtain ⟨t,rfl⟩:=r;rfl
|byt _=>obtain ⟨t,rfl⟩:=r;rfl
|flt _=>obtain ⟨t,rfl⟩:=r;rfl
|ref _=>cases r;rfl
|ty _=>cases r;rfl
theorem RelV.inj {x y:V} {u:Value} (r:RelV x u) (q:RelV y u):x=y:=Option.some.inj (r.abs.symm.trans q.abs)
theorem Vals.inj:∀ {xs ys:List V} {us:List Value},Vals xs us->Vals ys us->xs=ys
|_,_,_,.nil,.nil=>rfl
|_,_,_,.cons r t,.cons r' t'=>by rw [r.inj r',Vals.inj t t']
section
variable {X:Cx} {pins:List (Addr×Obj)} {σ:St} {H:Hp} {s:Shared} {a:Addr} {xs ys:List V}
theorem SqL.of {K:Fg} (h:H a=some (.lst xs)):SqL K H a xs:=.inl (.inl h)
theorem SqT.of {K:Fg} (h:H a=some (.tup xs)):SqT K H a xs:=.inl (.inl h)
theorem Inv.list (I:Inv X pins σ H s) (h:SqL X.K H a xs):∃ its:List Value,Vals xs its/\PlainL s.heap a its.toArray/\xs.length<=sizeLine:=by
 rcases h with h|⟨o,its,n,hk,hc,hd,hs,hz,r⟩
 ·obtain ⟨z,its,n,r,e⟩:=h.ok I.hok
  exact ⟨its,r,⟨_,n,e,rfl,rfl,rfl⟩,z⟩
 ·refine ⟨its.toList,r,⟨o,n,I.kIn a o hk,hc,hd,by simpa using hs⟩,?_⟩
  have e:=r.length
  simp only [Array.length_toList] at e
  lia
theorem Inv.tuple (I:Inv X pins σ H s) (h:SqT X.K H a xs):∃ its:List Value,Vals xs its/\IsTup s.heap a its.toArray/\xs.length<=sizeLine:=by
 rcases h with h|⟨o,its,n,hk,hc,hs,hz,r⟩
 ·obtain ⟨z,its,r,p⟩:=h.ok I.hok
  exact ⟨its,r,p,z⟩
 ·refine ⟨its.toList,r,⟨o,I.kIn a o hk,hc,n,by simpa using hs⟩,?_⟩
  have e:=r.length
  simp only [Array.length_toList] at e
  lia
theorem Inv.list_inj (I:Inv X pins σ H s) (h:SqL X.K H a xs) (h':SqL X.K H a ys):xs=ys:=by
 obtain ⟨its,r,⟨o,n,e,_,_,d⟩,_⟩:=I.list h
 obtain ⟨its',r',⟨o',n',e',_,_,d'⟩,_⟩:=I.list h'
 rw [e] at e';cases e'
 rw [d] at d'
 injection d' with d1 _
 have:its=its':=by simpa using congrArg Array.toList d1
 subst this
 exact r.inj r'
theorem Inv.tuple_inj (I:Inv X pins σ H s) (h:SqT X.K H a xs) (h':SqT X.K H a ys):xs=ys:=by
 obtain ⟨its,r,⟨o,e,_,n,d⟩,_⟩:=I.tuple h
 obtain ⟨its',r',⟨o',e',_,n',d'⟩,_⟩:=I.tuple h'
 rw [e] at e';cases e'
 rw [d] at d'
 injection d' with d1 _
 have:its=its':=by simpa using congrArg Array.toList d1
 subst this
 exact r.inj r'
end
abbrev Cx.wish (X:Cx) (E:Value->Shared->Prop):Cx:={ X with xe:=E }
abbrev Cx.nox (X:Cx):Cx:=X.wish λ _ _=>False
theorem Cx.Ok.wish {X:Cx} (ok:X.Ok) (E:Value->Shared->Prop):(X.wish E).Ok :=
 ⟨ok.mod,ok.kind,ok.glob,ok.blt,ok.above,ok.inj,ok.has,ok.cab,ok.hd,ok.frames,ok.stk,ok.exf,ok.bs,ok.bsz,ok.noex,ok.exfs,ok.funs,ok.frf⟩
theorem Cx.Ok.unwish {X:Cx} {E:Value->Shared->Prop} (ok:(X.wish E).Ok):X.Ok :=
 ⟨ok.mod,ok.kind,ok.glob,ok.blt,ok.above,ok.inj,ok.has,ok.cab,ok.hd,ok.frames,ok.stk,ok.exf,ok.bs,ok.bsz,ok.noex,ok.exfs,ok.funs,ok.frf⟩
section
variable {X:Cx} {pins:List (Addr×Obj)} {σ:St} {H:Hp} {s:Shared} {E:Value->Shared->Prop}
theorem Inv.wish (I:Inv X pins σ H s) (E:Value->Shared->Prop):Inv (X.wish E) pins σ H s:=⟨I.ok.wish E,I.os,I.bare,I.base,I.loc,I.cell,I.free,I.freeC,I.pin,I.hok,I.len⟩
theorem Inv.unwish (I:Inv (X.wish E) pins σ H s):Inv X pins σ H s:=⟨I.ok.unwish,I.os,I.bare,I.base,I.loc,I.cell,I.free,I.freeC,I.pin,I.hok,I.len⟩
theorem SP.unwish {D:Ends} {f:Flow} {s':Shared} (h:SP (X.wish E) pins D f s'):SP X pins D f s':=by
 cases f with
|next=>obtain ⟨σ',H',I,q⟩:=h;exact ⟨σ',H',I.unwish,q⟩
|brk=>obtain ⟨σ',H',I,q⟩:=h;exact ⟨σ',H',I.unwish,q⟩
|cont=>obtain ⟨σ',H',I,q⟩:=h;exact ⟨σ',H',I.unwish,q⟩
|ret u=>obtain ⟨v,σ',H',I,r,q⟩:=h;exact ⟨v,σ',H',I.unwish,r,q⟩
theorem PE.nox {e:Expr} {t:TE} (h:PE X.nox e t):PE X e t:=λ pins s σ H Q I hw =>
 wpAny_mono (h pins s σ H Q (I.wish _) hw) (λ _ _ ⟨v,H',I',r,q⟩=>⟨v,H',I'.unwish,r,q⟩) λ _ _ z=>False.elim z
theorem PT.nox {e:Expr} {t:TT} (h:PT X.nox e t):PT X e t:=λ pins s σ H Q I hw =>
 wpAny_mono (h pins s σ H Q (I.wish _) hw) (λ _ _ ⟨H',I',q⟩=>⟨H',I'.unwish,q⟩) λ _ _ z=>False.elim z
theorem PSs.nox {st:List Stmt} {t:TS} (h:PSs X.nox st t):PSs X st t:=λ pins s σ H D I hw =>
 wpAny_mono (h pins s σ H D (I.wish _) hw) (λ _ _ q=>q.unwish) λ _ _ z=>False.elim z
end
section
variable {X:Cx} {st:Stmt} {rest:List Stmt} {t u:TS} {e:Expr} {te:TE} {pos:Pos}
def tNext:TS:=λ D σ H=>D.nx σ H
def tSeq (t u:TS):TS:=λ D σ H=>t { D with nx:=u D } σ H
theorem zq0:PSs X [] tNext:=λ _ _ σ H _ I h=>wpAny_execs_nil ⟨σ,H,I,h⟩
theorem zd0 (h1:PS X st t) (h2:PSs X rest u):PSs X (st :: rest) (tSeq t u):=by
 intro pins s σ H D I h
 refine wpAny_execs_cons (thn (h1 pins s σ H { D with nx:=u D } I h) λ f s1 q=>?_)
 cases f with
|next =>
  obtain ⟨σ',H',I',q⟩:=q
  exact h2 pins s1 σ' H' D I' q
|ret v=>exact q
|brk=>exact q
|cont=>exact q
theorem zh0 (h1:PS X st t):PSs X [st] t:=by
 intro pins s σ H D I h
 refine wpAny_execs_cons (thn (h1 pins s σ H D I h) λ f s1 q=>?_)
 cases f with
|next=>exact wpAny_execs_nil q
|ret v=>exact q
|brk=>exact q
|cont=>exact q
theorem Inv.quiet {pins:List (Addr×Obj)} {σ:St} {H:Hp} {s:Shared} (I:Inv X pins σ H s):interactive X.env=false:=by simp [interactive,I.ok.kind]
def tDrop (te:TE):TS:=λ D σ H=>te σ H λ _ H1=>D.nx σ H1
theorem zvn (he:PE X e te) (hs:swapsWith e none pos.line X.env=pure false:=by rfl):PS X (.Expr e pos) (tDrop te):=by
 intro pins s σ H D I h
 exact wpAny_Expr_any (thn (he pins s σ H _ I h) λ v s1 ⟨x,H1,I1,r1,q1⟩=>⟨σ,H1,I1,q1⟩) I.quiet hs
def tRet (te:TE):TS:=λ D σ H=>te σ H D.rt
theorem ps_ret (he:PE X e te):PS X (.Return (some e) pos) (tRet te):=by
 intro pins s σ H D I h
 exact wpAny_Return_some (thn (he pins s σ H _ I h) λ v s1 ⟨x,H1,I1,r1,q1⟩=>⟨x,σ,H1,I1,r1,q1⟩)
def tIfS (c:TT) (t u:TS):TS:=λ D σ H=>c σ H λ b H1=>if b=true then t D σ H1 else u D σ H1
theorem ps_if {c:Expr} {a b:List Stmt} {tc:TT} (hc:PT X c tc) (ha:PSs X a t) (hb:PSs X b u):PS X (.If c a b pos) (tIfS tc t u):=by
 intro pins s σ H D I h
 refine wpAny_If (thn (hc pins s σ H _ I h) λ d s1 ⟨H1,I1,q1⟩=>?_)
 cases d with
|true=>exact ha pins s1 σ H1 D I1 q1
|false=>exact hb pins s1 σ H1 D I1 q1
end
abbrev TG:=V->St->Hp->(St->Hp->Prop)->Prop
abbrev TGs:=List V->St->Hp->(St->Hp->Prop)->Prop
def PG (X:Cx) (target:Expr) (t:TG):Prop :=
 ∀ (pins:List (Addr×Obj)) (s:Shared) (σ:St) (H:Hp) (v:V) (u:Value) (Q:St->Hp->Prop),Inv X pins σ H s->RelV v u->t v σ H Q ->
  wpAny (model X.prog X.w) X.A (assign target X.env u) (λ _ s'=>∃ σ' H',Inv X pins σ' H' s'/\Q σ' H') X.xe s
def PGs (X:Cx) (ts:List Expr) (t:TGs):Prop :=
 ∀ (pins:List (Addr×Obj)) (s:Shared) (σ:St) (H:Hp) (vs:List V) (us:List Value) (Q:St->Hp->Prop),Inv X pins σ H s->Vals vs us->t vs σ H Q ->
  wpAny (model X.prog X.w) X.A (assignInOrder ((assignEach ts X.env).map (·.2)) us) (λ _ s'=>∃ σ' H',Inv X pins σ' H' s'/\Q σ' H') X.xe s
abbrev TSet:=V->V->V->Hp->(Hp->Prop)->Prop
def PSet (X:Cx) (t:TSet):Prop :=
 ∀ (pins:List (Addr×Obj)) (s:Shared) (σ:St) (H:Hp) (o i v:V) (ov iv u:Value) (Q:Hp->Prop),Inv X pins σ H s->RelV o ov->RelV i iv->RelV v u->t o i v H Q ->
  wpAny (model X.prog X.w) X.A (setItem ov iv u) (λ _ s'=>∃ H',Inv X pins σ H' s'/\Q H') X.xe s
abbrev TIp:=V->V->Hp->VK->Prop
def PIp (X:Cx) (op:Operator) (t:TIp):Prop :=
 ∀ (pins:List (Addr×Obj)) (s:Shared) (σ:St) (H:Hp) (x y:V) (v u:Value) (Q:VK),Inv X pins σ H s->RelV x v->RelV y u->t x y H Q ->
  wpAny (model X.prog X.w) X.A (inplaceOp op v u) (EP X pins σ Q) X.xe s
section
variable {X:Cx} {pos:Pos}
def gName (i:Nat):TG:=λ v σ H Q=>Q (σ.set i (some v)) H
theorem ze1 {i:Nat} {x:Str} (hN:X.N.Nodup) (hi:X.N[i]?=some x) (hx:Loc X.env.scope x) (hf:X.fn x=true \/ X.env.scope.names.lookup x=some .local:=by first|exact .inl rfl|exact .inr rfl|assumption):PG X (.Name x pos) (gName i):=by
 intro pins s σ H v u Q I r h
 exact wpAny_assign_Name (zpc I hN hi hx r (λ s' I'=>⟨_,H,I',h⟩) hf)
def gNil:TGs:=λ vs σ H Q=>vs=[]/\Q σ H
def gCons (t:TG) (u:TGs):TGs:=λ vs σ H Q=>∃ v r,vs=v :: r/\t v σ H λ σ' H'=>u r σ' H' Q
theorem zfe:PGs X [] gNil:=by
 intro pins s σ H vs us Q I r h
 obtain ⟨e,h⟩:=h
 subst e
 cases r
 exact assignInOrder_nil ⟨σ,H,I,h⟩
theorem zj2 {e:Expr} {es:List Expr} {t:TG} {u:TGs} (h1:PG X e t) (h2:PGs X es u)
  (hs:(assignEach (e :: es) X.env).map (·.2)=assign e X.env :: (assignEach es X.env).map (·.2):=by rfl):PGs X (e :: es) (gCons t u):=by
 intro pins s σ H vs us Q I r h
 obtain ⟨v,vr,e1,h⟩:=h
 subst e1
 cases r with
|cons r rr =>
  rw [hs]
  refine assignInOrder_cons (thn (h1 pins s σ H _ _ _ I r h) λ _ s1 ⟨σ1,H1,I1,q1⟩=>?_)
  exact h2 pins s1 σ1 H1 _ _ Q I1 rr q1
def gTup (K:Fg) (n:Nat) (t:TGs):TG:=λ v σ H Q=>∃ a xs,v=.ref a/\SqT K H a xs/\xs.length=n/\t xs σ H Q
theorem pg_tup {es:List Expr} {k:Nat} {t:TGs} {n:Nat} (hc:X.calm=true) (h:PGs X es t)
  (hn:(assignEach es X.env).length=n:=by rfl) (hst:(assignEach es X.env).findIdx? (·.1)=none:=by rfl):PG X (.Tuple es k pos) (gTup X.K n t):=by
 intro pins s σ H v u Q I r hw
 obtain ⟨a,xs,e1,hq,hl,hw⟩:=hw
 subst e1
 cases r
 obtain ⟨its,rv,ht,hz⟩:=I.tuple hq
 refine assign_Tuple_tuple (I.ok.hd hc) ht (by simp [hn,<- hl,rv.length]) hst λ h' hx=>?_
 have I1:Inv X pins σ H { s with heap:=h' }:=I.kept (t':=s.toks) λ b o e=>hx b o (Nat.ne_of_lt (Heap.lt_size e)) e
 exact h pins _ σ H xs _ Q I1 (by simpa using rv) hw
def gSub (to ti:TE) (t:TSet):TG:=λ v σ H Q=>to σ H λ o H1=>ti σ H1 λ i H2=>t o i v H2 λ H3=>Q σ H3
theorem pg_sub {o i:Expr} {to ti:TE} {t:TSet} (ho:PE X o to) (hi:PE X i ti) (hs:PSet X t)
  (ha:∀ v,assign (.Subscript o i pos) X.env v=(do
   let ov <- holding [v] (eval o X.env)
   let iv <- holding [v,ov] (eval i X.env)
   standAt pos
   holding [v,ov,iv] (setItem ov iv v)
   release [v,ov,iv] []):=by intro _;rfl):PG X (.Subscript o i pos) (gSub to ti t):=by
 intro pins s σ H v u Q I r h
 rw [ha]
 refine wpAny_bind (wpAny_holding (thn (ho pins s σ H _ I h) λ ov s1 ⟨x,H1,I1,r1,q1⟩=>?_))
 refine wpAny_bind (wpAny_holding (thn (hi pins s1 σ H1 _ I1 q1) λ iv s2 ⟨y,H2,I2,r2,q2⟩=>?_))
 refine wpAny_bind (wpAny_standAt (wpAny_bind (wpAny_holding (thn (hs pins s2 σ H2 x y v ov iv u _ I2 r1 r2 r q2) λ _ s3 ⟨H3,I3,q3⟩=>?_))))
 exact wpAny_release ⟨σ,H3,I3,q3⟩
def tAsg (te:TE) (g:TG):TS:=λ D σ H=>te σ H λ x H1=>g x σ H1 D.nx
theorem ps_asg {tg e:Expr} {te:TE} {g:TG} (he:PE X e te) (hg:PG X tg g) (hs:swapsWithSole [tg] e pos.line X.env=pure false:=by rfl) (hw:swappedStores [tg] e X.env=pure none:=by rfl)
  (h1:(assignEach [tg] X.env).map (·.2)=[assign tg X.env]:=by rfl):PS X (.Assign [tg] e pos) (tAsg te g):=by
 intro pins s σ H D I h
 refine wpAny_Assign_stores (thn (he pins s σ H _ I h) λ v s1 ⟨x,H1,I1,r1,q1⟩=>?_) hs hw
 rw [h1]
 exact thn (hg pins s1 σ H1 x v _ I1 r1 q1) λ _ s2 q=>q
theorem ps_set {i:Nat} {x:Str} {e:Expr} {te:TE} {pos':Pos} (hN:X.N.Nodup) (hi:X.N[i]?=some x) (hx:Loc X.env.scope x) (he:PE X e te) (hs:swapsWith e (some (.Name x pos')) pos.line X.env=pure false:=by rfl) (hf:X.fn x=true \/ X.env.scope.names.lookup x=some .local:=by first|exact .inl rfl|exact .inr rfl|assumption) :
  PS X (.Assign [.Name x pos'] e pos) (tAsg te (gName i)):=by
 intro pins s σ H D I h
 refine wpAny_Assign_Name (thn (he pins s σ H _ I h) λ v s1 ⟨y,H1,I1,r1,q1⟩=>?_) hs
 exact zpc I1 hN hi hx r1 (λ s2 I2=>⟨_,H1,I2,q1⟩) hf
def tAugS (to ti te:TE) (tget:V->V->Hp->VK->Prop) (tip:TIp) (tset:TSet):TS:=λ D σ H=>to σ H λ o H1=>ti σ H1 λ i H2=>tget o i H2 λ x H3=>te σ H3 λ y H4=>tip x y H4 λ z H5=>tset o i z H5 λ H6=>D.nx σ H6
def PGet (X:Cx) (t:V->V->Hp->VK->Prop):Prop :=
 ∀ (pins:List (Addr×Obj)) (s:Shared) (σ:St) (H:Hp) (o i:V) (ov iv:Value) (Q:VK),Inv X pins σ H s->RelV o ov->RelV i iv->t o i H Q ->
  wpAny (model X.prog X.w) X.A (getItem ov iv) (EP X pins σ Q) X.xe s
theorem zdj {o i e:Expr} {to ti te:TE} {tget:V->V->Hp->VK->Prop} {tip:TIp} {tset:TSet} {op:Operator} {tpos:Pos} (ho:PE X o to) (hi:PE X i ti) (hg:PGet X tget) (he:PE X e te) (hp:PIp X op tip) (hs:PSet X tset)
  (ha:∀ ov iv new,augStore i ov iv new=(do holding [new,ov,iv] (setItem ov iv new);release [new,ov,iv] [];pure .next):=by intros;rfl):PS X (.AugAssign (.Subscript o i tpos) op e pos) (tAugS to ti te tget tip tset):=by
 intro pins s σ H D I h
 refine wpAny_AugAssign_SubscriptAny (thn (ho pins s σ H _ I h) λ ov s1 ⟨x1,H1,I1,r1,q1⟩=>?_) ha
 refine thn (hi pins s1 σ H1 _ I1 q1) λ iv s2 ⟨x2,H2,I2,r2,q2⟩=>?_
 refine thn (hg pins s2 σ H2 x1 x2 ov iv _ I2 r1 r2 q2) λ old s3 ⟨x3,H3,I3,r3,q3⟩=>?_
 refine thn (he pins s3 σ H3 _ I3 q3) λ v s4 ⟨x4,H4,I4,r4,q4⟩=>?_
 refine thn (hp pins s4 σ H4 x3 x4 old v _ I4 r3 r4 q4) λ new s5 ⟨x5,H5,I5,r5,q5⟩=>?_
 exact thn (hs pins s5 σ H5 x1 x2 x5 ov iv new _ I5 r1 r2 r5 q5) λ _ s6 ⟨H6,I6,q6⟩=>⟨σ,H6,I6,q6⟩
def ipI (f:Int->Int->Int):TIp:=λ x y H Q=>∃ i j,x=.int i/\y=.int j/\Q (.int (f i j)) H
theorem ip_add:PIp X .Add (ipI λ i j=>i+j):=by
 intro pins s σ H x y v u Q I r1 r2 h
 obtain ⟨i,j,e1,e2,q⟩:=h
 subst e1;subst e2
 obtain ⟨t,rfl⟩:=r1
 obtain ⟨t',rfl⟩:=r2
 exact iadd_int ⟨.int _,H,I.tok _,⟨_,rfl⟩,q⟩
theorem ip_sub:PIp X .Sub (ipI λ i j=>i - j):=by
 intro pins s σ H x y v u Q I r1 r2 h
 obtain ⟨i,j,e1,e2,q⟩:=h
 subst e1;subst e2
 obtain ⟨t,rfl⟩:=r1
 obtain ⟨t',rfl⟩:=r2
 exact isub_int ⟨.int _,H,I.tok _,⟨_,rfl⟩,q⟩
end
section
variable {X:Cx} {pos:Pos}
end
structure It where
 go:Nat->Hp->Prop
 yld:Nat->Hp->V->Hp->Prop
 stop:Nat->Hp->Prop
def FpOk (X:Cx) (pins:List (Addr×Obj)) (H:Hp) (b:Addr):Prop :=
 H b=none/\b≠X.env.locals/\b ∉ X.fs/\(b∈X.ex \/ X.s₀.heap.objs.size<=b)/\(∀ x c,X.env.cells.lookup x=some c->c≠b)/\∀ p∈X.pn++pins,p.1≠b
theorem Inv.fpOk {X:Cx} {pins:List (Addr×Obj)} {σ:St} {H H':Hp} {s:Shared} {b:Addr} (I:Inv X pins σ H s) (hb:s.heap.objs.size<=b) (hn:H' b=none):FpOk X pins H' b:=by
 refine ⟨hn,Nat.ne_of_gt (Nat.lt_of_lt_of_le I.lt hb),I.nofs hb,.inr (Nat.le_trans I.sz hb),λ x c e z=>?_,λ p hp z=>?_⟩
 ·obtain ⟨v,q⟩:=I.cell x c e
  exact absurd (Nat.lt_of_lt_of_le q.lt (by rw [z];exact hb)) (Nat.lt_irrefl _)
 ·exact absurd (Nat.lt_of_lt_of_le (Heap.lt_size (I.pin p hp).1) (by rw [z];exact hb)) (Nat.lt_irrefl _)
structure Turn (P:Program) (w:World) (K:Fg) (tg:Expr) (J:It) (fp:List Addr) (it:Addr) (tn:Nat->Heap->Prop):Prop where
 mem:it∈fp
 obj:∀ i h,tn i h->∀ b∈fp,∃ o,h.get? b=some o/\∀ v,o.data≠.cell v
 keep:∀ i h h',tn i h->(∀ b∈fp,∀ o,h.get? b=some o->h'.get? b=some o)->tn i h'
 item:∀ (X:Cx),X.prog=P->X.w=w->X.K=K->X.calm=true->∀ (i:Nat) (pins:List (Addr×Obj)) (s:Shared) (σ:St) (H:Hp) (E:Value->Shared->Prop),Inv X pins σ H s->(∀ b∈fp,FpOk X pins H b)->tn i s.heap->J.go i H ->
  wpAny (model P w) X.A (pyNext (.ref it)) (λ r s1=>∃ u,r=some u /\
   wpAny (model P w) X.A (letOwnedTupleGo tg (.ref it) u) (λ _ s2=>∃ x H',Inv X pins σ H' s2/\RelV x u/\J.yld i H x H'/\tn (i+1) s2.heap/\∀ b∈fp,H' b=none) E s1) E s
 done:∀ (X:Cx),X.prog=P->X.w=w->X.K=K->X.calm=true->∀ (i:Nat) (pins:List (Addr×Obj)) (s:Shared) (σ:St) (H:Hp) (E:Value->Shared->Prop),Inv X pins σ H s->(∀ b∈fp,FpOk X pins H b)->tn i s.heap->J.stop i H ->
  wpAny (model P w) X.A (pyNext (.ref it)) (λ r s1=>r=none/\Inv X pins σ H s1) E s
 self:∀ (A:Around) (i:Nat) (s:Shared) (Q:Value->Shared->Prop) (E:Value->Shared->Prop),tn i s.heap->Q (.ref it) s->wpAny (model P w) A (pyIter (.ref it)) Q E s
abbrev TI:=St->Hp->(It->Hp->Prop)->Prop
def PIE (X:Cx) (pins:List (Addr×Obj)) (σ:St) (tg:Expr) (R:It->Hp->Prop) (itv:Value) (s2:Shared):Prop :=
 ∃ (it:Addr) (fp:List Addr) (tn:Nat->Heap->Prop) (J:It) (H':Hp),itv=.ref it/\Inv X pins σ H' s2/\Turn X.prog X.w X.K tg J fp it tn/\tn 0 s2.heap/\(∀ b∈fp,FpOk X pins H' b)/\R J H'
def PI (X:Cx) (tg iter:Expr) (wi:TI):Prop :=
 ∀ (pins:List (Addr×Obj)) (s:Shared) (σ:St) (H:Hp) (R:It->Hp->Prop),Inv X pins σ H s->wi σ H R ->
  wpAny (model X.prog X.w) X.A (eval iter X.env) (λ v s1=>wpAny (model X.prog X.w) X.A (pyIter v) (PIE X pins σ tg R) X.xe s1) X.xe s
theorem go_of {M : Model} {A : Around} {E : Value → Shared → Prop} {s : Shared} {tg : Expr} {it : Addr} {u : Value} {o : Obj} {n : String} {vs : Array Value} {Q : Unit → Shared → Prop} (ho : s.heap.get? it = some o) (hc : o.cls = .type n) (hd : o.data = .fields vs)
    (hn : ["enumerate", "zip", "dict_itemiterator", "dict_reverseitemiterator", "odict_iterator", "itertools.zip_longest", "itertools.pairwise"].contains n = false) (hQ : Q () s) : wpAny M A (letOwnedTupleGo tg (.ref it) u) Q E s := by
  unfold letOwnedTupleGo
  cases tg <;> first
    | exact wpAny_pure hQ
    | (cases u <;> first
        | exact wpAny_pure hQ
        | (refine wpAny_bind (wpAny_load ho ?_)
           rw [hc, hd]
           show wpAny M A (if (["enumerate", "zip", "dict_itemiterator", "dict_reverseitemiterator", "odict_iterator", "itertools.zip_longest", "itertools.pairwise"].contains n && vs[0]? == some (rawInt _)) = true then _ else _) Q E s
           rw [if_neg (by intro h; rw [hn, Bool.false_and] at h; cases h)]
           exact wpAny_pure hQ))
def Itl (K:Fg) (a:Addr):It :=
 ⟨λ i H=>∃ xs x,SqL K H a xs/\xs[i]?=some x,λ i H x H'=>H'=H/\∀ xs,SqL K H a xs->xs[i]?=some x,λ i H=>∃ xs,SqL K H a xs/\xs.length<=i⟩
def Itt (K:Fg) (a:Addr):It :=
 ⟨λ i H=>∃ xs x,SqT K H a xs/\xs[i]?=some x,λ i H x H'=>H'=H/\∀ xs,SqT K H a xs->xs[i]?=some x,λ i H=>∃ xs,SqT K H a xs/\xs.length<=i⟩
def Itr (lo:Int) (n:Nat):It:=⟨λ i _=>i < n,λ i H x H'=>H'=H/\x=.int (lo+i),λ i _=>n<=i⟩
theorem zfl {P:Program} {w:World} {K:Fg} {tg:Expr} (a it:Addr):Turn P w K tg (Itl K a) [it] it (λ i h=>h.IsListIter it a i) where
 mem:=by simp
 obj:=λ i h st b hb=>by
  have e:b=it:=by simpa using hb
  subst e
  obtain ⟨o,e,c,d⟩:=st
  exact ⟨o,e,λ v z=>by rw [d] at z;cases z⟩
 keep:=λ i h h' st k=>st.at λ o e=>k it (by simp) o e
 item:=by
  intro X hP hw hK hc i pins s σ H E I hf st hg
  subst hP hw hK
  obtain ⟨xs,x,hq,hx⟩:=hg
  obtain ⟨its,rv,p,hz⟩:=I.list hq
  obtain ⟨u,hu,ru⟩:=rv.get hx
  obtain ⟨f0,f1,f2,f3,f4,f5⟩:=hf it (by simp)
  refine wpAny_pyNext_list_item st p.isList (x:=u) (by simpa using hu) λ h' st' sb=>?_
  have I1:Inv X pins σ H { s with heap:=h' }:=I.turned (t':=s.toks) (λ b o hb e=>(sb.2 b hb).trans e) f0 f1 f3 f4 f5
  obtain ⟨o,e,c,d⟩:=id st'
  exact ⟨u,rfl,go_of (s:={ s with heap:=h' }) e c d (by decide) ⟨x,H,I1,ru,⟨rfl,λ ys hy=>by rw [I.list_inj hy hq];exact hx⟩,st',λ b hb=>(hf b hb).1⟩⟩
 done:=by
  intro X hP hw hK hc i pins s σ H E I hf st hg
  subst hP hw hK
  obtain ⟨xs,hq,hx⟩:=hg
  obtain ⟨its,rv,p,hz⟩:=I.list hq
  obtain ⟨f0,f1,f2,f3,f4,f5⟩:=hf it (by simp)
  have hl:=rv.length
  exact wpAny_pyNext_list_end (I.ok.hd hc) st p.isList (by simp;lia) λ h' eb=>⟨rfl,I.turned (t':=s.toks) (λ b o hb e=>eb b o hb e) f0 f1 f3 f4 f5⟩
 self:=λ _ _ _ _ _ st h=>wpAny_pyIter_listiter st h
theorem zek {P:Program} {w:World} {K:Fg} {tg:Expr} (a it:Addr):Turn P w K tg (Itt K a) [it] it (λ i h=>h.IsTupleIter it a i) where
 mem:=by simp
 obj:=λ i h st b hb=>by
  have e:b=it:=by simpa using hb
  subst e
  obtain ⟨o,e,c,d⟩:=st
  exact ⟨o,e,λ v z=>by rw [d] at z;cases z⟩
 keep:=λ i h h' st k=>st.at λ o e=>k it (by simp) o e
 item:=by
  intro X hP hw hK hc i pins s σ H E I hf st hg
  subst hP hw hK
  obtain ⟨xs,x,hq,hx⟩:=hg
  obtain ⟨its,rv,p,hz⟩:=I.tuple hq
  obtain ⟨u,hu,ru⟩:=rv.get hx
  obtain ⟨f0,f1,f2,f3,f4,f5⟩:=hf it (by simp)
  refine wpAny_pyNext_tuple_item st (show s.heap.IsTuple a its.toArray from p) (x:=u) (by simpa using hu) λ h' st' sb=>?_
  have I1:Inv X pins σ H { s with heap:=h' }:=I.turned (t':=s.toks) (λ b o hb e=>(sb.2 b hb).trans e) f0 f1 f3 f4 f5
  obtain ⟨o,e,c,d⟩:=id st'
  exact ⟨u,rfl,go_of (s:={ s with heap:=h' }) e c d (by decide) ⟨x,H,I1,ru,⟨rfl,λ ys hy=>by rw [I.tuple_inj hy hq];exact hx⟩,st',λ b hb=>(hf b hb).1⟩⟩
 done:=by
  intro X hP hw hK hc i pins s σ H E I hf st hg
  subst hP hw hK
  obtain ⟨xs,hq,hx⟩:=hg
  obtain ⟨its,rv,p,hz⟩:=I.tuple hq
  obtain ⟨f0,f1,f2,f3,f4,f5⟩:=hf it (by simp)
  have hl:=rv.length
  exact wpAny_pyNext_tuple_end (I.ok.hd hc) st (show s.heap.IsTuple a its.toArray from p) (by simp;lia) λ h' eb=>⟨rfl,I.turned (t':=s.toks) (λ b o hb e=>eb b o hb e) f0 f1 f3 f4 f5⟩
 self:=λ _ _ _ _ _ st h=>wpAny_pyIter_tupleiter st h
theorem zxi {P:Program} {w:World} {K:Fg} {tg:Expr} (it:Addr) (lo:Int) (n:Nat):Turn P w K tg (Itr lo n) [it] it (λ i h=>IsRangeIter h it (lo+(i:Nat) * 1) ((n:Int) - (i:Nat)) 1) where
 mem:=by simp
 obj:=λ i h st b hb=>by
  have e:b=it:=by simpa using hb
  subst e
  exact ⟨_,st,λ v z=>by
   have z':Data.fields _=Data.cell v:=z
   cases z'⟩
 keep:=λ i h h' st k=>k it (by simp) _ st
 item:=by
  intro X hP hw hK hc i pins s σ H E I hf st hg
  subst hP hw hK
  obtain ⟨f0,f1,f2,f3,f4,f5⟩:=hf it (by simp)
  have W:=Walks.range (prog:=X.prog) (w:=X.w) (I.ok.hd hc) it lo 1 n
  refine W.item i s _ _ hg st λ v h' tk hv st' kk=>?_
  obtain ⟨t,rfl⟩:=hv
  have I1:Inv X pins σ H { s with heap:=h',toks:=tk }:=I.turned (λ b o hb e=>kk b o (by simpa using hb) e) f0 f1 f3 f4 f5
  refine ⟨_,rfl,go_of (s:={ s with heap:=h',toks:=tk }) (n := "range_iterator") st' rfl rfl (by decide) ⟨.int (lo+i),H,I1,⟨t,?_⟩,⟨rfl,rfl⟩,st',λ b hb=>(hf b hb).1⟩⟩
  rw [Int.mul_one]
 done:=by
  intro X hP hw hK hc i pins s σ H E I hf st hg
  subst hP hw hK
  obtain ⟨f0,f1,f2,f3,f4,f5⟩:=hf it (by simp)
  exact wpAny_pyNext_range_end (I.ok.hd hc) st (by have:n<=i:=hg;lia) λ h' eb=>⟨rfl,I.turned (t':=s.toks) (λ b o hb e=>eb b o hb e) f0 f1 f3 f4 f5⟩
 self:=λ _ _ _ _ _ st h=>wpAny_pyIter_rangeiter st h
section
variable {X:Cx} {tg:Expr}
theorem zro {pins:List (Addr×Obj)} {σ:St} {H:Hp} {s:Shared} {R:It->Hp->Prop} {E:Value->Shared->Prop} {lo hi:Int} {t u v:Tok} {tk:Nat} (I:Inv X pins σ H s) (h1:-(2 ^ 62)<=lo) (h2:lo < 2 ^ 62) (h3:-(2 ^ 62)<=hi) (h4:hi < 2 ^ 62)
  (q:R (Itr lo (hi - lo).toNat) H):wpAny (model X.prog X.w) X.A (pyIter (.ref s.heap.objs.size)) (PIE X pins σ tg R) E { s with heap:=s.heap.push { cls:=.type "range",data:=.fields #[.int lo t,.int hi u,.int 1 v] },toks:=tk }:=by
 refine wpAny_pyIter_range (IsRange.new ..) (small_one h1 h2 h3 h4) ?_
 have I1:Inv X pins σ H { s with heap:=s.heap.push { cls:=.type "range",data:=.fields #[.int lo t,.int hi u,.int 1 v] },toks:=tk }:=I.kept λ b o e=>Heap.get?_push_of_some _ e
 refine ⟨(s.heap.push { cls:=.type "range",data:=.fields #[.int lo t,.int hi u,.int 1 v] }).objs.size,[(s.heap.push { cls:=.type "range",data:=.fields #[.int lo t,.int hi u,.int 1 v] }).objs.size],_,_,H,rfl,
  I1.kept (t':=tk) λ b o e=>Heap.get?_push_of_some _ e,zxi _ lo (hi - lo).toNat,?_,λ b hb=>?_,q⟩
 ·have e1:lo+((0:Nat):Int) * 1=lo:=by simp
  have e2:(((hi - lo).toNat:Nat):Int) - ((0:Nat):Int)=Builtin.Range.rangeSize lo hi 1:=by rw [rangeSize_one];split <;> lia
  show IsRangeIter _ _ (lo+((0:Nat):Int) * 1) ((((hi - lo).toNat:Nat):Int) - ((0:Nat):Int)) 1
  rw [e1,e2]
  exact Heap.get?_push_size _ rfl
 ·have e:b=(s.heap.push { cls:=.type "range",data:=.fields #[.int lo t,.int hi u,.int 1 v] }).objs.size:=by simpa using hb
  subst e
  exact I1.fpOk (Nat.le_refl _) (I1.hok.fresh (Nat.le_refl _))
def iRng1 (ta:TA):TI:=λ σ H R=>ta σ H λ vs H1=>∃ j:Int,vs=[.int j]/\-(2 ^ 62)<=j/\j < 2 ^ 62/\R (Itr 0 j.toNat) H1
theorem zv2 {a:Expr} {ta:TA} {p pos:Pos} (hg:Gl X "range") (hm:X.mg "range"=none) (ha:PA X [a] ta) (hs:starEach [a] X.env=[(false,eval a X.env)]:=by rfl):PI X tg (.Call (.Name "range" p) [a] [] pos) (iRng1 ta):=by
 intro pins s σ H R I h
 refine Call_ (ld_blt I hg hm boot_range (PyProof.Rows.callWith_type1 (thn (ha pos pins s σ H _ I h) λ us s1 ⟨vs,H1,I1,r1,q1⟩=>?_) hs rfl))
 obtain ⟨j,e,q1,q2,q⟩:=q1
 subst e
 cases r1 with
|cons r rr =>
  cases rr
  obtain ⟨t,rfl⟩:=r
  exact call_range_1 (zro I1 (by lia) (by lia) q1 q2 (by simpa using q))
def tFor (wi:TI) (g:TG) (tb:TS):TS:=λ D σ H=>wi σ H λ J H1=>∃ W:Nat->Nat->St->Hp->Prop,(∃ m,W 0 m σ H1)/\∀ i m σ H,W i m σ H ->
 (J.stop i H/\D.nx σ H) \/ (J.go i H/\∃ N:St->Hp->Prop,(∀ σ' H',N σ' H'->∃ m',m' < m/\W (i+1) m' σ' H')/\∀ x H',J.yld i H x H'->g x σ H' λ σ2 H2=>tb { D with nx:=N,ct:=N,bk:=D.nx } σ2 H2)
def pinsAt (fp:List Addr) (h:Heap):List (Addr×Obj):=fp.filterMap λ b=>(h.get? b).map λ o=>(b,o)
theorem zx5 {fp:List Addr} {h:Heap} {b:Addr} {o:Obj} (hb:b∈fp) (e:h.get? b=some o):(b,o)∈pinsAt fp h:=List.mem_filterMap.mpr ⟨b,hb,by rw [e];rfl⟩
theorem zcm {fp:List Addr} {h:Heap} {p:Addr×Obj} (hp:p∈pinsAt fp h):p.1∈fp/\h.get? p.1=some p.2:=by
 obtain ⟨b,hb,e⟩:=List.mem_filterMap.mp hp
 cases q:h.get? b with
|none=>rw [q] at e;cases e
|some o =>
  rw [q] at e
  have e':(b,o)=p:=Option.some.inj e
  subst e'
  exact ⟨hb,q⟩
theorem Inv.pinned {pins:List (Addr×Obj)} {σ:St} {H:Hp} {s:Shared} {fp:List Addr} (I:Inv X pins σ H s) (hf:∀ b∈fp,FpOk X pins H b) (ho:∀ b∈fp,∃ o,s.heap.get? b=some o/\∀ v,o.data≠.cell v):Inv X (pins++pinsAt fp s.heap) σ H s :=
 I.pins_of λ p hp=>(List.mem_append.mp hp).elim (λ z=>I.pin p (List.mem_append_right _ z)) λ z=>by
  obtain ⟨hb,e⟩:=zcm z
  obtain ⟨f0,f1,f2,_⟩:=hf p.1 hb
  obtain ⟨o,e',d⟩:=ho p.1 hb
  rw [e] at e';cases e'
  exact ⟨e,f0,f1,f2,d⟩
theorem Inv.unpinned {pins pl:List (Addr×Obj)} {σ:St} {H:Hp} {s:Shared} (I:Inv X (pins++pl) σ H s):Inv X pins σ H s:=I.pins_of λ p hp=>I.pin p (List.mem_append_right _ (List.mem_append_left _ hp))
theorem ps_for {iter:Expr} {body:List Stmt} {wi:TI} {g:TG} {tb:TS} {pos:Pos} (hp:PassesOwn (model X.prog X.w) X.A X.env X.xe) (hc:X.calm=true) (hi:PI X tg iter wi) (hg:PG X tg g) (hb:PSs X body tb)
  (hs:∀ x,foldedSetIterable iter X.env x=pure x:=by intro _;rfl):PS X (.For tg iter body [] pos) (tFor wi g tb):=by
 intro pins s σ H D I h
 refine wpAny_For (thn (hi pins s σ H _ I h) λ v s1 h1=>thn h1 λ itv s2 h2=>?_) hs
 obtain ⟨it,fp,tn,J,H2,e,I2,T,st2,f2,W,⟨m0,w0⟩,turn⟩:=h2
 subst e
 -- what stays true of the iterator's objects through the loop
 have stat:∀ {H':Hp},(∀ b∈fp,H' b=none)->∀ b∈fp,FpOk X pins H' b:=λ hn b hb=>⟨hn b hb,(f2 b hb).2⟩
 refine codeAny_forLoop_any (λ n s'=>∃ i σ' H',Inv X pins σ' H' s'/\tn i s'.heap/\(∀ b∈fp,H' b=none)/\W i n σ' H') ?_ m0 ⟨0,σ,H2,I2,st2,λ b hb=>(f2 b hb).1,w0⟩
 rintro n s3 ⟨i,σ3,H3,I3,st3,fr3,w3⟩
 rcases turn i n σ3 H3 w3 with ⟨stop,qn⟩|⟨go,N,hN,step⟩
 ·refine wpAny_passesOwn hp (thn (T.done X rfl rfl rfl hc i pins s3 σ3 H3 X.xe I3 (stat fr3) st3 stop) λ r s4 ⟨hr,I4⟩=>?_)
  subst hr
  exact wpAny_execs_nil ⟨σ3,H3,I4,qn⟩
 ·refine wpAny_passesOwn hp (thn (T.item X rfl rfl rfl hc i pins s3 σ3 H3 X.xe I3 (stat fr3) st3 go) λ r s4 ⟨u,hr,h4⟩=>?_)
  subst hr
  refine wpAny_passesOwn hp (thn h4 λ _ s5 ⟨x,H5,I5,r5,y5,st5,fr5⟩=>?_)
  have I5':=I5.pinned (stat fr5) (T.obj _ _ st5)
  refine wpAny_passesOwn hp (thn (hg _ s5 σ3 H5 x u _ I5' r5 (step x H5 y5)) λ _ s6 ⟨σ6,H6,I6,q6⟩=>?_)
  refine wpAny_passesOwn hp (thn (hb _ s6 σ6 H6 _ I6 q6) λ f s7 q7=>?_)
  have again:∀ {σ7:St} {H7:Hp},Inv X (pins++pinsAt fp s5.heap) σ7 H7 s7->N σ7 H7->∃ m,m < n/\∃ i σ' H',Inv X pins σ' H' s7/\tn i s7.heap/\(∀ b∈fp,H' b=none)/\W i m σ' H':=λ {σ7 H7} I7 n7=>by
   obtain ⟨m',hm,w7⟩:=hN σ7 H7 n7
   refine ⟨m',hm,i+1,σ7,H7,I7.unpinned,T.keep _ _ _ st5 λ b hb o e=>(I7.pin (b,o) (List.mem_append_right _ (List.mem_append_right _ (zx5 hb e)))).1,λ b hb=>?_,w7⟩
   obtain ⟨o,e,d⟩:=T.obj _ _ st5 b hb
   exact (I7.pin (b,o) (List.mem_append_right _ (List.mem_append_right _ (zx5 hb e)))).2.1
  cases f with
 |next=>obtain ⟨σ7,H7,I7,n7⟩:=q7;exact again I7 n7
 |cont=>obtain ⟨σ7,H7,I7,n7⟩:=q7;exact again I7 n7
 |brk=>obtain ⟨σ7,H7,I7,q7⟩:=q7;exact ⟨σ7,H7,I7.unpinned,q7⟩
 |ret v=>obtain ⟨x7,σ7,H7,I7,r7,q7⟩:=q7;exact ⟨x7,σ7,H7,I7.unpinned,r7,q7⟩
end
abbrev R2:=V->V->Hp->VK->Prop
def OpR (X:Cx) (f:Value->Value->Sem Value) (r:R2):Prop :=
 ∀ (pins:List (Addr×Obj)) (s:Shared) (σ:St) (H:Hp) (x y:V) (v u:Value) (Q:VK),Inv X pins σ H s->RelV x v->RelV y u->r x y H Q ->
  wpAny (model X.prog X.w) X.A (f v u) (EP X pins σ Q) X.xe s
def UnR (X:Cx) (f:Value->Sem Value) (r:V->Hp->VK->Prop):Prop :=
 ∀ (pins:List (Addr×Obj)) (s:Shared) (σ:St) (H:Hp) (x:V) (v:Value) (Q:VK),Inv X pins σ H s->RelV x v->r x H Q ->
  wpAny (model X.prog X.w) X.A (f v) (EP X pins σ Q) X.xe s
def CallR (X:Cx) (f:Value) (r:List V->Hp->VK->Prop):Prop :=
 ∀ (pins:List (Addr×Obj)) (s:Shared) (σ:St) (H:Hp) (xs:List V) (us:List Value) (Q:VK),Inv X pins σ H s->Vals xs us->r xs H Q ->
  wpAny (model X.prog X.w) X.A (call f us) (EP X pins σ Q) X.xe s
def TruR (X:Cx) (r:V->Hp->(Bool->Hp->Prop)->Prop):Prop :=
 ∀ (pins:List (Addr×Obj)) (s:Shared) (σ:St) (H:Hp) (x:V) (v:Value) (Q:Bool->Hp->Prop),Inv X pins σ H s->RelV x v->r x H Q ->
  wpAny (model X.prog X.w) X.A (truthy v) (TP X pins σ Q) X.xe s
def tOp (r:R2) (ta tb:TE):TE:=λ σ H Q=>ta σ H λ x H1=>tb σ H1 λ y H2=>r x y H2 Q
def tUn (r:V->Hp->VK->Prop) (ta:TE):TE:=λ σ H Q=>ta σ H λ x H1=>r x H1 Q
def rI (C:Int->Int->Prop) (g:Int->Int->V):R2:=λ x y H Q=>∃ i j,x=.int i/\y=.int j/\C i j/\Q (g i j) H
def rI0 (g:Int->Int->V):R2:=λ x y H Q=>∃ i j,x=.int i/\y=.int j/\Q (g i j) H
def rU (g:Int->V):V->Hp->VK->Prop:=λ x H Q=>∃ i,x=.int i/\Q (g i) H
section
variable {X:Cx} {a b c:Expr} {ta tb tc:TE} {pos:Pos}
theorem binT (ha:PE X a ta) (hb:PE X b tb) {pins:List (Addr×Obj)} {s:Shared} {σ:St} {H:Hp} {R:V->V->Hp->Prop} (I:Inv X pins σ H s)
  (h:ta σ H λ x H1=>tb σ H1 λ y H2=>R x y H2) {Q:Value->Shared->Prop} {f:Value->Value->Sem Value}
  (hf:∀ v u s2 x y H2,Inv X pins σ H2 s2->RelV x v->RelV y u->R x y H2->wpAny (model X.prog X.w) X.A (f v u) Q X.xe s2) :
  wpAny (model X.prog X.w) X.A (eval a X.env) (λ v s₁=>wpAny (model X.prog X.w) X.A (eval b X.env) (λ u s₂=>wpAny (model X.prog X.w) X.A (f v u) Q X.xe s₂) X.xe s₁) X.xe s:=by
 refine thn (ha pins s σ H _ I h) λ v s1 ⟨x,H1,I1,r1,q1⟩=>?_
 refine thn (hb pins s1 σ H1 _ I1 q1) λ u s2 ⟨y,H2,I2,r2,q2⟩=>?_
 exact hf v u s2 x y H2 I2 r1 r2 q2
theorem pe_op {op:Operator} {r:R2} (ho:OpR X (binaryOp op) r) (ha:PE X a ta) (hb:PE X b tb):PE X (.BinOp a op b pos) (tOp r ta tb):=by
 intro pins s σ H Q I h
 exact wpAny_BinOp (binT ha hb I h λ v u s2 x y H2 I2 rx ry q=>ho pins s2 σ H2 x y v u Q I2 rx ry q)
theorem pe_un {op:UnaryOp} {r:V->Hp->VK->Prop} (ho:UnR X (unaryOp op) r) (ha:PE X a ta):PE X (.UnaryOp op a pos) (tUn r ta):=by
 intro pins s σ H Q I h
 exact UnaryOp_ (thn (ha pins s σ H _ I h) λ v s1 ⟨x,H1,I1,r1,q1⟩=>ho pins s1 σ H1 x v Q I1 r1 q1)
theorem opI {f:Value->Value->Sem Value} {C:Int->Int->Prop} {g:Int->Int->Int}
  (rule:∀ (i j:Int) (t u:Tok) (s:Shared) (Q:Value->Shared->Prop) (E:Value->Shared->Prop),C i j->Q (.int (g i j) s.toks) { s with toks:=s.toks+1 }->wpAny (model X.prog X.w) X.A (f (.int i t) (.int j u)) Q E s) :
  OpR X f (rI C λ i j=>.int (g i j)):=by
 intro pins s σ H x y v u Q I rx ry h
 obtain ⟨i,j,rfl,rfl,hc,q⟩:=h
 obtain ⟨t,rfl⟩:=rx
 obtain ⟨t',rfl⟩:=ry
 exact rule i j t t' s _ _ hc ⟨.int (g i j),H,I.tok _,⟨_,rfl⟩,q⟩
theorem opI0 {f:Value->Value->Sem Value} {g:Int->Int->Int}
  (rule:∀ (i j:Int) (t u:Tok) (s:Shared) (Q:Value->Shared->Prop) (E:Value->Shared->Prop),Q (.int (g i j) s.toks) { s with toks:=s.toks+1 }->wpAny (model X.prog X.w) X.A (f (.int i t) (.int j u)) Q E s) :
  OpR X f (rI0 λ i j=>.int (g i j)):=by
 intro pins s σ H x y v u Q I rx ry h
 obtain ⟨i,j,rfl,rfl,q⟩:=h
 obtain ⟨t,rfl⟩:=rx
 obtain ⟨t',rfl⟩:=ry
 exact rule i j t t' s _ _ ⟨.int (g i j),H,I.tok _,⟨_,rfl⟩,q⟩
theorem opB0 {f:Value->Value->Sem Value} {g:Int->Int->Bool}
  (rule:∀ (i j:Int) (t u:Tok) (s:Shared) (Q:Value->Shared->Prop) (E:Value->Shared->Prop),Q (.bool (g i j)) s->wpAny (model X.prog X.w) X.A (f (.int i t) (.int j u)) Q E s) :
  OpR X f (rI0 λ i j=>.bl (g i j)):=by
 intro pins s σ H x y v u Q I rx ry h
 obtain ⟨i,j,rfl,rfl,q⟩:=h
 obtain ⟨t,rfl⟩:=rx
 obtain ⟨t',rfl⟩:=ry
 exact rule i j t t' s _ _ ⟨.bl (g i j),H,I,rfl,q⟩
def CPow (i j:Int):Prop:=0<=j/\j<=1000000/\i.natAbs < 2 ^ 64
def CMul (i j:Int):Prop:=(-(2 ^ 64) < i/\i < 2 ^ 64) \/ (-(2 ^ 64) < j/\j < 2 ^ 64)
theorem CMul.ok {i j:Int} (h:CMul i j):IntMulOk i j:=by
 rcases h with ⟨h1,h2⟩|⟨h1,h2⟩
 ·exact .of_left (intBits_le_64 h1 h2)
 ·exact .of_right (intBits_le_64 h1 h2)
theorem op_add:OpR X (binaryOp .Add) (rI0 λ i j=>.int (i+j)):=opI0 λ _ _ _ _ _ _ _ q=>add_int q
theorem op_sub:OpR X (binaryOp .Sub) (rI0 λ i j=>.int (i - j)):=opI0 λ _ _ _ _ _ _ _ q=>sub_int q
theorem op_mul:OpR X (binaryOp .Mult) (rI CMul λ i j=>.int (i * j)):=opI λ _ _ _ _ _ _ _ hc q=>mul_int q hc.ok
theorem op_mod:OpR X (binaryOp .Mod) (rI (λ _ j=>0 < j) λ i j=>.int (i % j)):=opI λ i j _ _ _ _ _ hc q=>by
 have h1:(0:Int) < j:=hc
 exact mod_int' (by lia) (by rw [Int.fmod_eq_emod_of_nonneg i (by lia)];exact q)
theorem op_pow:OpR X (binaryOp .Pow) (rI CPow λ i j=>.int (i ^ j.toNat)):=opI λ _ _ _ _ _ _ _ hc q=>pow_int_small hc.1 hc.2.1 hc.2.2 q
theorem unI {f:Value->Sem Value} {g:Int->Int}
  (rule:∀ (i:Int) (t:Tok) (s:Shared) (Q:Value->Shared->Prop) (E:Value->Shared->Prop),Q (.int (g i) s.toks) { s with toks:=s.toks+1 }->wpAny (model X.prog X.w) X.A (f (.int i t)) Q E s) :
  UnR X f (rU λ i=>.int (g i)):=by
 intro pins s σ H x v Q I rx h
 obtain ⟨i,rfl,q⟩:=h
 obtain ⟨t,rfl⟩:=rx
 exact rule i t s _ _ ⟨.int (g i),H,I.tok _,⟨_,rfl⟩,q⟩
theorem un_neg:UnR X (unaryOp .USub) (rU λ i=>.int (-i)):=unI λ _ _ _ _ _ q=>neg_int q
end
def scal:V->V->Bool
|.non,.non=>true|.non,.int _=>true|.int _,.non=>true|.non,.bl _=>true|.bl _,.non=>true|.non,.str _=>true|.str _,.non=>true
|.int _,.int _=>true|.bl _,.bl _=>true|.str _,.str _=>true|.byt _,.byt _=>true
|.int _,.str _=>true|.str _,.int _=>true|.bl _,.str _=>true|.str _,.bl _=>true
|_,_=>false
def rEq:R2:=λ x y H Q=>scal x y=true/\Q (.bl (decide (x=y))) H
def rNe:R2:=λ x y H Q=>scal x y=true/\Q (.bl (!decide (x=y))) H
theorem zsd {i j:Int}:decide (V.int i=V.int j)=(i == j):=by
 rw [Bool.eq_iff_iff]
 simp
theorem dec_bl {i j:Bool}:decide (V.bl i=V.bl j)=(i == j):=by
 rw [Bool.eq_iff_iff]
 simp
theorem zud {i j:Str}:decide (V.str i=V.str j)=(i == j):=by
 rw [Bool.eq_iff_iff]
 simp
theorem zcn {i j:Array UInt8}:decide (V.byt i=V.byt j)=(i.toList == j.toList):=by
 rw [Bool.eq_iff_iff]
 cases i
 cases j
 simp
section
variable {X:Cx} {a b c:Expr} {ta tb tc:TE} {pos:Pos}
theorem fin_bl {pins:List (Addr×Obj)} {σ:St} {H:Hp} {s:Shared} {Q:VK} {k k':Bool} (I:Inv X pins σ H s) (q:Q (.bl k) H) (e:k=k'):EP X pins σ Q (.bool k') s:=by
 subst e
 exact ⟨.bl k,H,I,rfl,q⟩
theorem op_eq:OpR X (compareOp .Eq) rEq:=by
 intro pins s σ H x y v u Q I rx ry h
 obtain ⟨hs,q⟩:=h
 cases x with
|non =>
  cases rx
  cases y with
 |non=>cases ry;exact PySem.EqNone.eq_none_none (fin_bl I q (by simp))
 |bl j=>cases ry;exact PySem.EqNone.eq_none_bool (fin_bl I q (by simp))
 |int j=>obtain ⟨t',rfl⟩:=ry;exact PySem.EqNone.eq_none_int (fin_bl I q (by simp))
 |str j=>obtain ⟨t',rfl⟩:=ry;exact PySem.EqNone.eq_none_str (fin_bl I q (by simp))
 |_=>exact absurd (show false=true from hs) Bool.false_ne_true
|bl i =>
  cases rx
  cases y with
 |non=>cases ry;exact PySem.EqNone.eq_bool_none (fin_bl I q (by simp))
 |bl j=>cases ry;exact eq_bool (fin_bl I q dec_bl)
 |str j=>obtain ⟨t',rfl⟩:=ry;exact PySem.EqMixed.eq_bool_str (fin_bl I q (by simp))
 |_=>exact absurd (show false=true from hs) Bool.false_ne_true
|int i =>
  obtain ⟨t,rfl⟩:=rx
  cases y with
 |non=>cases ry;exact PySem.EqNone.eq_int_none (fin_bl I q (by simp))
 |int j=>obtain ⟨t',rfl⟩:=ry;exact eq_int (fin_bl I q zsd)
 |str j=>obtain ⟨t',rfl⟩:=ry;exact PySem.EqMixed.eq_int_str (fin_bl I q (by simp))
 |_=>exact absurd (show false=true from hs) Bool.false_ne_true
|str i =>
  obtain ⟨t,rfl⟩:=rx
  cases y with
 |non=>cases ry;exact PySem.EqNone.eq_str_none (fin_bl I q (by simp))
 |bl j=>cases ry;exact PySem.EqMixed.eq_str_bool (fin_bl I q (by simp))
 |int j=>obtain ⟨t',rfl⟩:=ry;exact PySem.EqMixed.eq_str_int (fin_bl I q (by simp))
 |str j=>obtain ⟨t',rfl⟩:=ry;exact eq_str (fin_bl I q zud)
 |_=>exact absurd (show false=true from hs) Bool.false_ne_true
|byt i =>
  obtain ⟨t,rfl⟩:=rx
  cases y with
 |byt j=>obtain ⟨t',rfl⟩:=ry;exact PySem.W.eq_bytes (fin_bl I q zcn)
 |_=>exact absurd (show false=true from hs) Bool.false_ne_true
|_=>cases y <;> exact absurd (show false=true from hs) Bool.false_ne_true
theorem op_ne:OpR X (compareOp .NotEq) rNe:=by
 intro pins s σ H x y v u Q I rx ry h
 obtain ⟨hs,q⟩:=h
 cases x with
|non =>
  cases rx
  cases y with
 |non=>cases ry;exact PySem.EqNone.ne_none_none (fin_bl I q (by simp))
 |bl j=>cases ry;exact PySem.EqNone.ne_none_bool (fin_bl I q (by simp))
 |int j=>obtain ⟨t',rfl⟩:=ry;exact PySem.EqNone.ne_none_int (fin_bl I q (by simp))
 |str j=>obtain ⟨t',rfl⟩:=ry;exact PySem.EqNone.ne_none_str (fin_bl I q (by simp))
 |_=>exact absurd (show false=true from hs) Bool.false_ne_true
|bl i =>
  cases rx
  cases y with
 |non=>cases ry;exact PySem.EqNone.ne_bool_none (fin_bl I q (by simp))
 |bl j=>cases ry;exact ne_bool (fin_bl I q (congrArg not dec_bl))
 |str j=>obtain ⟨t',rfl⟩:=ry;exact PySem.EqMixed.ne_bool_str (fin_bl I q (by simp))
 |_=>exact absurd (show false=true from hs) Bool.false_ne_true
|int i =>
  obtain ⟨t,rfl⟩:=rx
  cases y with
 |non=>cases ry;exact PySem.EqNone.ne_int_none (fin_bl I q (by simp))
 |int j=>obtain ⟨t',rfl⟩:=ry;exact ne_int (fin_bl I q (congrArg not zsd))
 |str j=>obtain ⟨t',rfl⟩:=ry;exact PySem.EqMixed.ne_int_str (fin_bl I q (by simp))
 |_=>exact absurd (show false=true from hs) Bool.false_ne_true
|str i =>
  obtain ⟨t,rfl⟩:=rx
  cases y with
 |non=>cases ry;exact PySem.EqNone.ne_str_none (fin_bl I q (by simp))
 |bl j=>cases ry;exact PySem.EqMixed.ne_str_bool (fin_bl I q (by simp))
 |int j=>obtain ⟨t',rfl⟩:=ry;exact PySem.EqMixed.ne_str_int (fin_bl I q (by simp))
 |str j=>obtain ⟨t',rfl⟩:=ry;exact ne_str (fin_bl I q (congrArg not zud))
 |_=>exact absurd (show false=true from hs) Bool.false_ne_true
|byt i =>
  obtain ⟨t,rfl⟩:=rx
  cases y with
 |byt j=>obtain ⟨t',rfl⟩:=ry;exact PySem.W.ne_bytes (fin_bl I q (congrArg not zcn))
 |_=>exact absurd (show false=true from hs) Bool.false_ne_true
|_=>cases y <;> exact absurd (show false=true from hs) Bool.false_ne_true
theorem op_lt:OpR X (compareOp .Lt) (rI0 λ i j=>.bl (decide (i < j))):=opB0 λ _ _ _ _ _ _ _ q=>lt_int q
theorem op_le:OpR X (compareOp .LtE) (rI0 λ i j=>.bl (decide (i<=j))):=opB0 λ _ _ _ _ _ _ _ q=>le_int q
theorem op_gt:OpR X (compareOp .Gt) (rI0 λ i j=>.bl (decide (j < i))):=opB0 λ _ _ _ _ _ _ _ q=>gt_int q
theorem op_ge:OpR X (compareOp .GtE) (rI0 λ i j=>.bl (decide (j<=i))):=opB0 λ _ _ _ _ _ _ _ q=>ge_int q
theorem OpR.or {f:Value->Value->Sem Value} {r r':R2} (h:OpR X f r) (h':OpR X f r'):OpR X f (λ x y H Q=>r x y H Q \/ r' x y H Q):=by
 intro pins s σ H x y v u Q I rx ry q
 rcases q with q|q
 ·exact h pins s σ H x y v u Q I rx ry q
 ·exact h' pins s σ H x y v u Q I rx ry q
theorem nomark (b:Expr) {op:CmpOp} (h:op≠.In:=by decide) (h2:op≠.NotIn:=by decide):behindInMarks op b=false:=by
 have e1:(op == CmpOp.In)=false:=by cases op <;> first|rfl|exact absurd rfl h
 have e2:(op == CmpOp.NotIn)=false:=by cases op <;> first|rfl|exact absurd rfl h2
 cases b <;> simp [behindInMarks,e1,e2]
theorem zeb {op:CmpOp} {r:R2} (ho:OpR X (compareOp op) r) (ha:PE X a ta) (hb:PE X b tb) (hm:behindInMarks op b=false):PE X (.Compare a [op] [b] pos) (tOp r ta tb):=by
 intro pins s σ H Q I h
 exact wpAny_Compare1 (binT ha hb I h λ v u s2 x y H2 I2 rx ry q=>ho pins s2 σ H2 x y v u Q I2 rx ry q) hm
def tTest (t:TE):TT:=λ σ H Q=>t σ H λ x H'=>∃ k,x=.bl k/\Q k H'
theorem zzq {op:CmpOp} {r:R2} (ho:OpR X (compareOp op) r) (ha:PE X a ta) (hb:PE X b tb) (hm:behindInMarks op b=false):PT X (.Compare a [op] [b] pos) (tTest (tOp r ta tb)):=by
 intro pins s σ H Q I h
 refine wpAny_isTrue_Compare1 (thn (ha pins s σ H _ I h) λ v s1 ⟨x,H1,I1,r1,q1⟩=>thn (hb pins s1 σ H1 _ I1 q1) λ u s2 ⟨y,H2,I2,r2,q2⟩ =>
  thn (ho pins s2 σ H2 x y v u _ I2 r1 r2 q2) λ c s3 ⟨z,H3,I3,r3,k,e,q3⟩=>?_) hm
 subst e
 cases r3
 exact wpAny_truthy_bool ⟨H3,I3,q3⟩
def tChain (r r':R2) (ta tb tc:TE):TE:=λ σ H Q=>ta σ H λ x H1=>tb σ H1 λ y H2=>r x y H2 λ z H3=>∃ k,z=.bl k /\
 (if k=true then tc σ H3 λ w' H4=>r' y w' H4 Q else Q (.bl false) H3)
theorem zaq {op op':CmpOp} {r r':R2} (ho:OpR X (compareOp op) r) (ho':OpR X (compareOp op') r') (ha:PE X a ta) (hb:PE X b tb) (hc:PE X c tc)
  (hm:lastMarks [op,op'] [b,c]=false:=by with_unfolding_all rfl):PE X (.Compare a [op,op'] [b,c] pos) (tChain r r' ta tb tc):=by
 intro pins s σ H Q I h
 refine Compare_chain (thn (ha pins s σ H _ I h) λ v s1 ⟨x,H1,I1,r1,q1⟩=>chain_link (thn (hb pins s1 σ H1 _ I1 q1) λ u s2 ⟨y,H2,I2,r2,q2⟩ =>
  thn (ho pins s2 σ H2 x y v u _ I2 r1 r2 q2) λ d s3 ⟨z,H3,I3,r3,k,e,q3⟩=>?_)) hm
 subst e
 cases r3
 refine wpAny_truthy_bool ?_
 cases k with
|false=>exact ite_ff ⟨.bl false,H3,I3,rfl,q3⟩
|true=>exact ite_tt (chain_last (thn (hc pins s3 σ H3 _ I3 q3) λ w' s4 ⟨z',H4,I4,r4,q4⟩=>ho' pins s4 σ H4 y z' u w' Q I4 r2 r4 q4))
theorem zjp {op op':CmpOp} {r r':R2} (ho:OpR X (compareOp op) r) (ho':OpR X (compareOp op') r') (ha:PE X a ta) (hb:PE X b tb) (hc:PE X c tc)
  (hm:lastMarks [op,op'] [b,c]=false:=by with_unfolding_all rfl):PT X (.Compare a [op,op'] [b,c] pos) (tTest (tChain r r' ta tb tc)):=by
 intro pins s σ H Q I h
 refine isTrue_chain (thn (ha pins s σ H _ I h) λ v s1 ⟨x,H1,I1,r1,q1⟩=>test_link (thn (hb pins s1 σ H1 _ I1 q1) λ u s2 ⟨y,H2,I2,r2,q2⟩ =>
  thn (ho pins s2 σ H2 x y v u _ I2 r1 r2 q2) λ d s3 ⟨z,H3,I3,r3,k,e,q3⟩=>?_)) hm
 subst e
 cases r3
 refine wpAny_truthy_bool ?_
 cases k with
|false =>
  obtain ⟨k',e',q'⟩:=q3
  cases e'
  exact ite_ff ⟨H3,I3,q'⟩
|true =>
  refine ite_tt (test_last (thn (hc pins s3 σ H3 _ I3 q3) λ w' s4 ⟨z',H4,I4,r4,q4⟩=>thn (ho' pins s4 σ H4 y z' u w' _ I4 r2 r4 q4) λ d' s5 ⟨z2,H5,I5,r5,k2,e2,q5⟩=>?_))
  subst e2
  cases r5
  exact wpAny_truthy_bool ⟨H5,I5,q5⟩
def TruV (K:Fg) (x:V) (H:Hp) (k:Bool):Prop :=
 match x with
|.non=>k=false
|.bl b=>k=b
|.int i=>k=(i != 0)
|.str y=>y.length<=sizeLine/\k=((y.length:Int) != 0)
|.byt y=>y.size<=sizeLine/\k=((y.size:Int) != 0)
|.ref p=>(∃ xs,SqL K H p xs/\k=!xs.isEmpty) \/ (∃ xs,SqT K H p xs/\k=!xs.isEmpty) \/ ∃ kvs,H p=some (.dK kvs)/\k=!kvs.isEmpty
|_=>False
theorem zsj {κ:Type} {kvs:List (κ×V)} {vs:List (κ×Value)} (r:KV kvs vs):(!vs.isEmpty)=!kvs.isEmpty:=by
 cases r <;> rfl
theorem zje {xs:List V} {its:List Value} (r:Vals xs its):(!its.toArray.isEmpty)=!xs.isEmpty:=by
 cases r <;> simp
theorem line63:(sizeLine:Nat) < 2 ^ 63:=by rw [sizeLine_eq];decide
theorem tru_ok:TruR X (λ x H Q=>∃ k,TruV X.K x H k/\Q k H):=by
 intro pins s σ H x v Q I rx h
 obtain ⟨k,e,q⟩:=h
 have hl:=line63
 have hs:sizeLine=16777216:=sizeLine_eq
 cases x with
|non =>
  cases rx
  have e':k=false:=e
  subst e'
  exact truthy_none ⟨H,I,q⟩
|bl b =>
  cases rx
  have e':k=b:=e
  subst e'
  exact wpAny_truthy_bool ⟨H,I,q⟩
|int i =>
  obtain ⟨t,rfl⟩:=rx
  have e':k=(i != 0):=e
  subst e'
  exact PySem.P.truthy_int ⟨H,I,q⟩
|str y =>
  obtain ⟨t,rfl⟩:=rx
  obtain ⟨hy,e'⟩:y.length<=sizeLine/\k=((y.length:Int) != 0):=e
  subst e'
  exact PySem.P.truthy_str (by lia) ⟨H,I.tok _,q⟩
|byt y =>
  obtain ⟨t,rfl⟩:=rx
  obtain ⟨hy,e'⟩:y.size<=sizeLine/\k=((y.size:Int) != 0):=e
  subst e'
  exact PySem.W.truthy_bytes (by lia) ⟨H,I.tok _,q⟩
|ref p =>
  cases rx
  have e':(∃ xs,SqL X.K H p xs/\k=!xs.isEmpty) \/ (∃ xs,SqT X.K H p xs/\k=!xs.isEmpty) \/ ∃ kvs,H p=some (.dK kvs)/\k=!kvs.isEmpty:=e
  rcases e' with ⟨xs,hx,e'⟩|⟨xs,hx,e'⟩|⟨kvs,hx,e'⟩
  ·subst e'
   obtain ⟨its,r,pl,hz⟩:=I.list hx
   have hlen:=r.length
   exact wpAny_truthy_list pl.isList (by simp only [List.size_toArray];lia) ⟨H,I.tok _,by rw [zje r];exact q⟩
  ·subst e'
   obtain ⟨its,r,pl,hz⟩:=I.tuple hx
   have hlen:=r.length
   exact truthy_tuple pl (by simp only [List.size_toArray];lia) ⟨H,I.tok _,by rw [zje r];exact q⟩
  ·subst e'
   obtain ⟨hz,hS,vs,r,m⟩:kvs.length<=sizeLine/\(p == sysModules)=false/\∃ vs,KV kvs vs/\s.heap.DictOf (zn1 X.prog X.w) p vs:=I.hok p _ hx
   have hlen:kvs.length=vs.length:=Paired.length r
   exact wpAny_truthy_dict hS m (by lia) ⟨H,I.tok _,by rw [zsj r];exact q⟩
|_=>exact (show False from e).elim
theorem zio (ha:PE X a ta) (he:∀ whole,isTrue a X.env whole=(do let v <- whole;standAt a.pos;holding [v] (truthy v))) :
  PT X a (λ σ H Q=>ta σ H λ x H'=>∃ k,TruV X.K x H' k/\Q k H'):=by
 intro pins s σ H Q I h
 exact isTrue_plain (thn (ha pins s σ H _ I h) λ v s1 ⟨x,H1,I1,r1,q1⟩=>tru_ok pins s1 σ H1 x v Q I1 r1 q1) (he _)
theorem zlj:OpR X (binaryOp .Add) (λ x y H Q=>∃ i j,x=.str i/\y=.str j/\i.length+j.length<=sizeLine/\Q (.str (i++j)) H):=by
 intro pins s σ H x y v u Q I rx ry h
 obtain ⟨i,j,rfl,rfl,hz,q⟩:=h
 obtain ⟨t,rfl⟩:=rx
 obtain ⟨t',rfl⟩:=ry
 exact add_str (λ t' tk=>⟨.str (i++j),H,I.tok _,⟨_,rfl⟩,q⟩) hz
theorem vals1 {x:V} {us:List Value} (r:Vals [x] us):∃ u,us=[u]/\RelV x u:=by
 cases r with
|cons r1 r2=>cases r2;exact ⟨_,rfl,r1⟩
theorem vals2 {x y:V} {us:List Value} (r:Vals [x,y] us):∃ u w',us=[u,w']/\RelV x u/\RelV y w':=by
 cases r with
|cons r1 r2 =>
  cases r2 with
 |cons r3 r4=>cases r4;exact ⟨_,_,rfl,r1,r3⟩
theorem zbm (hc:X.calm=true):CallR X (.builtin "max") (λ xs H Q=>∃ i j,xs=[.int i,.int j]/\Q (.int (if j > i then j else i)) H):=by
 intro pins s σ H xs us Q I r h
 obtain ⟨i,j,rfl,q⟩:=h
 obtain ⟨u,w',rfl,⟨t,rfl⟩,⟨t',rfl⟩⟩:=vals2 r
 refine max_two_ints (I.ok.hd hc) λ h' tk k=>⟨_,H,I.kept k,?_,q⟩
 by_cases hj:j > i
 ·rw [if_pos hj,if_pos hj];exact ⟨_,rfl⟩
 ·rw [if_neg hj,if_neg hj];exact ⟨_,rfl⟩
theorem zgl (hc:X.calm=true):CallR X (.builtin "min") (λ xs H Q=>∃ i j,xs=[.int i,.int j]/\Q (.int (if j < i then j else i)) H):=by
 intro pins s σ H xs us Q I r h
 obtain ⟨i,j,rfl,q⟩:=h
 obtain ⟨u,w',rfl,⟨t,rfl⟩,⟨t',rfl⟩⟩:=vals2 r
 refine min_two_ints (I.ok.hd hc) λ h' tk k=>⟨_,H,I.kept k,?_,q⟩
 by_cases hj:j < i
 ·rw [if_pos hj,if_pos hj];exact ⟨_,rfl⟩
 ·rw [if_neg hj,if_neg hj];exact ⟨_,rfl⟩
theorem zsl:CallR X (.type "int") (λ xs H Q=>(∃ i,xs=[.int i]/\Q (.int i) H) \/ ∃ k,xs=[.bl k]/\Q (.int (if k then 1 else 0)) H):=by
 intro pins s σ H xs us Q I r h
 rcases h with ⟨i,rfl,q⟩|⟨k,rfl,q⟩
 ·obtain ⟨u,rfl,t,rfl⟩:=vals1 r
  exact call_int_int ⟨.int i,H,I,⟨_,rfl⟩,q⟩
 ·obtain ⟨u,rfl,r1⟩:=vals1 r
  cases r1
  exact call_int_bool ⟨.int (if k then 1 else 0),H,I.tok _,⟨_,rfl⟩,q⟩
def LenV (K:Fg) (x:V) (H:Hp) (n:Nat):Prop :=
 match x with
|.str y=>y.length<=sizeLine/\n=y.length
|.byt y=>y.size<=sizeLine/\n=y.size
|.ref p=>(∃ xs,SqL K H p xs/\n=xs.length) \/ ∃ xs,SqT K H p xs/\n=xs.length
|_=>False
theorem zbo:CallR X (.builtin "len") (λ xs H Q=>∃ x n,xs=[x]/\LenV X.K x H n/\Q (.int n) H):=by
 intro pins s σ H xs us Q I r h
 obtain ⟨x,n,rfl,e,q⟩:=h
 obtain ⟨u,rfl,rx⟩:=vals1 r
 have hl:=line63
 have hs:sizeLine=16777216:=sizeLine_eq
 cases x with
|str y =>
  obtain ⟨t,rfl⟩:=rx
  obtain ⟨hy,e'⟩:y.length<=sizeLine/\n=y.length:=e
  subst e'
  exact len_str (by lia) ⟨.int _,H,I.tok _,⟨_,rfl⟩,q⟩
|byt y =>
  obtain ⟨t,rfl⟩:=rx
  obtain ⟨hy,e'⟩:y.size<=sizeLine/\n=y.size:=e
  subst e'
  exact PySem.W.len_bytes (by lia) ⟨.int _,H,I.tok _,⟨_,rfl⟩,q⟩
|ref p =>
  cases rx
  have e':(∃ xs,SqL X.K H p xs/\n=xs.length) \/ ∃ xs,SqT X.K H p xs/\n=xs.length:=e
  rcases e' with ⟨xs,hx,e'⟩|⟨xs,hx,e'⟩
  ·subst e'
   obtain ⟨its,r',pl,hz⟩:=I.list hx
   have hlen:=r'.length
   exact Calls.call_len_list pl.isList (by simp only [List.size_toArray];lia) ⟨.int xs.length,H,I.tok _,⟨_,by simp only [List.size_toArray];rw [hlen]⟩,q⟩
  ·subst e'
   obtain ⟨its,r',pl,hz⟩:=I.tuple hx
   have hlen:=r'.length
   exact len_tuple pl (by simp only [List.size_toArray];lia) ⟨.int xs.length,H,I.tok _,⟨_,by simp only [List.size_toArray];rw [hlen]⟩,q⟩
|_=>exact (show False from e).elim
end
structure ObjM (h:Heap) (x dx C:Addr) (mA:Str->Option Value):Prop where
 obj:h.get? x=some (PySem.W.instObj C dx)
 ns:h.Ns1 dx mA
 ne:dx≠x
theorem zbl {h:Heap} {dx:Addr} {mA:Str->Option Value} (n:h.Ns1 dx mA):∃ od,h.get? dx=some od/\∀ name,PySem.W.lookIn name od=some (mA name):=by
 obtain ⟨o,es,ep,ho,hd,hk,_,hm⟩:=n
 refine ⟨o,ho,λ name=>?_⟩
 have e:=hm name
 unfold nsFind findBy at e
 rw [<- Array.find?_toList] at e
 unfold PySem.W.lookIn
 rw [hd]
 dsimp only
 split
 ·rename_i y q
  rw [q] at e
  exact congrArg some e
 ·rename_i q
  rw [q] at e
  have a:es.toList.any (·.refKey)=false:=by
   rw [List.any_eq_false]
   intro y hy
   obtain ⟨z,t,hkey⟩:=hk y (Array.mem_toList_iff.mp hy)
   simp [DictEntry.refKey,hkey]
  have a':¬ es.toList.any (·.refKey)=true:=by rw [a];exact Bool.false_ne_true
  rw [if_neg a']
  exact congrArg some e
theorem ObjM.look {h:Heap} {x dx C:Addr} {mA:Str->Option Value} (I:ObjM h x dx C mA):∃ od,PySem.W.InstAt h x (PySem.W.instObj C dx) C (some od)/\∀ name,PySem.W.lookIn name od=some (mA name) :=
 let ⟨od,ho,hl⟩:=zbl I.ns
 ⟨od,⟨I.obj,rfl,rfl,ho⟩,hl⟩
section
variable {prog:Program} {w:World} {A:Around} {E:Value->Shared->Prop} {s:Shared} {K:Fg} {x dx C f:Addr} {mA:Str->Option Value} {name:Str} {v:Value}
theorem zns {expr:Bool} {Q:Value->Shared->Prop} (X:K.In s.heap) (I:ObjM s.heap x dx C mA) (hg:PySem.W.plainGet K C name=true) (hh:PySem.W.hasDictIn K C=true)
  (ha:PySem.W.findIn K (.ref C) name=some none) (hv:mA name=some v) (hv':PySem.W.handedIn v=true) (h:Q v { s with toks:=s.toks+1 }) :
  wpAny (model prog w) A (getAttr (.ref x) name expr) Q E s:=by
 obtain ⟨od,J,hl⟩:=I.look
 exact PySem.W.get_value X J (PySem.W.plainGet_of hg).1 (PySem.W.findObj_own hh ha rfl (by rw [hl,hv])) hv' h
theorem zup {pl:Sem Bool} {Q:Value×List Value->Shared->Prop} (X:K.In s.heap) (I:ObjM s.heap x dx C mA) (hg:PySem.W.plainGet K C name=true)
  (hf:PySem.W.findIn K (.ref C) name=some (some (.ref f))) (ht:PySem.W.isFn K (.ref f)=true) (hv:mA name=none) (h:Q (.ref f,[.ref x]) s) :
  wpAny (model prog w) A (getMethod (.ref x) name pl) Q E s:=by
 obtain ⟨od,J,hl⟩:=I.look
 exact PySem.W.method_fn X J (PySem.W.plainGet_of hg).1 (PySem.W.plainGet_of hg).2 hf (beq_iff_eq.mp ht) (by show (PySem.W.lookIn name od).map (·.isSome)=some false;rw [hl,hv];rfl) h
theorem zes {ns:List Str} {Q:Unit->Shared->Prop} (X:K.In s.heap) (I:ObjM s.heap x dx C mA)
  (hs:PySem.W.findIn K (.ref C) "__setattr__"=some (some (.builtin "object.__setattr__"))) (hp:PySem.W.plainOver K C=true) (ht:PySem.W.takerIn K C name=some none) (hh:PySem.W.hasDictIn K C=true)
  (hw:PySem.Within mA ns) (hsz:ns.length<=sizeLine)
  (h:∀ h',ObjM h' x dx C (λ y=>if y=name then some v else mA y)->Heap.SameBut dx s.heap h'->Q () { s with heap:=h',toks:=s.toks+2 }) :
  wpAny (model prog w) A (setAttr (.ref x) name v) Q E s:=by
 obtain ⟨od,J,hl⟩:=I.look
 refine PySem.W.set_plain X J hs (PySem.W.osa_open (s:={ s with toks:=s.toks+1 }) (r:=none) X J hp ht λ b=>?_)
 obtain ⟨cd,hc,hd'⟩:=PySem.W.any_some hh
 have hx:s.heap.get? x=some ⟨.ref C,some dx,.plain,#[]⟩:=I.obj
 refine wpAny_bind (wpAny_pure (wpAny_bind (wpAny_bind (wpAny_loadPart hx (wpAny_bind (PySem.W.Looks.here (s:={ s with toks:=s.toks+1 }) (PySem.W.looks_clsIn X hc) ?_))))))
 rw [hd']
 refine wpAny_pure (a:=some dx) (wpAny_bind (wpAny_pure (wpAny_bind ?_)))
 refine wpAny_nsSet1 (s:={ s with toks:=s.toks+1 }) I.ns λ h' hn2 hs2=>?_
 obtain ⟨oD,esD,epD,hoD,hdD,hcD⟩:=hn2.count (PySem.Within.cons name v hw)
 refine wpAny_bind (wpAny_lookBehind hoD (by rw [hdD];exact pastItsLine_dict (Nat.le_trans hcD (by rw [List.length_cons];lia))) ?_)
 exact wpAny_pure (h _ ⟨(hs2.2 _ (Ne.symm I.ne)).trans I.obj,hn2,I.ne⟩ hs2)
theorem zhp {R:Result->Shared->Prop} {vs:List Value} {kw:List (Str×Value)} (X:K.In s.heap) (hm:PySem.W.makesIn K C=true)
  (hi:PySem.W.findIn K (.ref C) "__init__"=some (some (.ref f))) (hf:PySem.W.typeIn K (.ref f)=some (.type "function"))
  (h:codeAny (model prog w) (A.under (.builtin "type.__call__" ⟨.ref C :: vs,kw⟩)) (.call (.ref f) ⟨.ref (s.heap.objs.size+1) :: vs,kw⟩) (PySem.W.InitBack (s.heap.objs.size+1) R)
   { s with heap:=(s.heap.push PySem.W.emptyDict).push (PySem.W.instObj C s.heap.objs.size) }) :
  codeAny (model prog w) A (.call (.ref C) ⟨vs,kw⟩) R s:=by
 obtain ⟨hh,g,d,t,os⟩:=s
 exact PySem.W.make_core (PySem.W.makes_of X hm) (PySem.W.looks_findIn X hi) (λ self=>PySem.W.bind_fn X self hf) (.inl rfl) h
end
def putF (f:Str) (v:V):List (Str×V)->List (Str×V)
|[]=>[(f,v)]
|(g,x) :: r=>if g=f then (g,v) :: r else (g,x) :: putF f v r
theorem zcb (f g:Str) (v:V):∀ fs:List (Str×V),(putF f v fs).lookup g=if g=f then some v else fs.lookup g
|[]=>by
  show List.lookup g [(f,v)]=_
  by_cases h:g=f
  ·have hb:(g == f)=true:=beq_iff_eq.mpr h
   simp only [List.lookup,hb,if_pos h]
  ·have hb:(g == f)=false:=beq_eq_false_iff_ne.mpr h
   simp only [List.lookup,hb,if_neg h]
|(k,x) :: r=>by
  have ih:=zcb f g v r
  rw [show putF f v ((k,x) :: r)=(if k=f then (k,v) :: r else (k,x) :: putF f v r) from rfl]
  by_cases hk:k=f
  ·rw [if_pos hk]
   by_cases h:g=k
   ·have hb:(g == k)=true:=beq_iff_eq.mpr h
    simp only [List.lookup,hb,if_pos (h.trans hk)]
   ·have hb:(g == k)=false:=beq_eq_false_iff_ne.mpr h
    simp only [List.lookup,hb,if_neg (λ e:g=f=>h (e.trans hk.symm))]
  ·rw [if_neg hk]
   by_cases h:g=k
   ·have hb:(g == k)=true:=beq_iff_eq.mpr h
    simp only [List.lookup,hb,if_neg (λ e:g=f=>hk (h.symm.trans e))]
   ·have hb:(g == k)=false:=beq_eq_false_iff_ne.mpr h
    simp only [List.lookup,hb]
    exact ih
theorem zwb (f:Str) (v:V):∀ fs:List (Str×V),f∈(putF f v fs).map (·.1)/\∀ g,g∈fs.map (·.1)->g∈(putF f v fs).map (·.1)
|[]=>⟨by simp [putF],λ g h=>by simp at h⟩
|(k,x) :: r=>by
  obtain ⟨i1,i2⟩:=zwb f v r
  rw [show putF f v ((k,x) :: r)=(if k=f then (k,v) :: r else (k,x) :: putF f v r) from rfl]
  by_cases hk:k=f
  ·rw [if_pos hk]
   subst hk
   exact ⟨by simp,λ g h=>by simpa using h⟩
  ·rw [if_neg hk]
   refine ⟨?_,λ g h=>?_⟩
   ·rw [List.map_cons]
    exact List.mem_cons_of_mem _ i1
   ·rw [List.map_cons] at h ⊢
    rcases List.mem_cons.mp h with e|e
    ·exact List.mem_cons.mpr (.inl e)
    ·exact List.mem_cons_of_mem _ (i2 g e)
theorem zya (f:Str) (v:V):∀ fs:List (Str×V),(putF f v fs).length<=fs.length+1
|[]=>by simp [putF]
|(k,x) :: r=>by
  have ih:=zya f v r
  rw [show putF f v ((k,x) :: r)=(if k=f then (k,v) :: r else (k,x) :: putF f v r) from rfl]
  by_cases hk:k=f
  ·rw [if_pos hk,List.length_cons,List.length_cons];lia
  ·rw [if_neg hk,List.length_cons,List.length_cons];lia
theorem RelO.some_of {v:V} {o:Option Value} (r:RelO (some v) o):∃ u,o=some u/\RelV v u:=by
 cases o with
|none=>exact (show False from r).elim
|some u=>exact ⟨u,rfl,r⟩
theorem RelO.none_of {o:Option Value} (r:RelO none o):o=none:=by
 cases o with
|none=>rfl
|some u=>exact (show False from r).elim
theorem zml {v:V} {u:Value} (r:RelV v u):PySem.W.handedIn u=true:=by
 cases v with
|non=>cases (show u=Value.none from r);rfl
|bl b=>cases (show u=Value.bool b from r);rfl
|int i=>obtain ⟨t,e⟩:=(show ∃ t,u=Value.int i t from r);cases e;rfl
|str x=>obtain ⟨t,e⟩:=(show ∃ t,u=Value.str x t from r);cases e;rfl
|byt b=>obtain ⟨t,e⟩:=(show ∃ t,u=Value.bytes b t from r);cases e;rfl
|flt b=>obtain ⟨t,e⟩:=(show ∃ t,u=Value.float b t from r);cases e;rfl
|ref a=>cases (show u=Value.ref a from r);rfl
|ty n=>cases (show u=Value.type n from r);rfl
section
variable {P:Program} {w:World} {H H':Hp} {h h':Heap} {a C dx:Addr} {fs fs':List (Str×V)}
theorem zhg (hok:HOk P w H h) (e:H a=some (.ins C dx fs)):∃ mA,ObjM h a dx C mA/\(∀ f,RelO (fs.lookup f) (mA f))/\PySem.Within mA (fs.map (·.1))/\fs.length<=1000/\H dx=some (.own a):=by
 obtain ⟨d,z,ne,ob,mA,n,r,q⟩:=(show ObjOk P w H h a (.ins C dx fs) from hok a _ e)
 exact ⟨mA,⟨ob,n,ne⟩,r,q,z,d⟩
end
structure Cls (K:Fg) (C:Addr):Prop where
 pg:PySem.W.plainGet K C Str.empty=true
 hd:PySem.W.hasDictIn K C=true
 po:PySem.W.plainOver K C=true
 sa:PySem.W.findIn K (.ref C) "__setattr__"=some (some (.builtin "object.__setattr__"))
theorem Cls.get {K:Fg} {C:Addr} (c:Cls K C) (f:Str):PySem.W.plainGet K C f=true:=c.pg
def NoAttr (K:Fg) (C:Addr) (f:Str):Prop:=PySem.W.findIn K (.ref C) f=some none
theorem NoAttr.taker {K:Fg} {C:Addr} {f:Str} (n:NoAttr K C f):PySem.W.takerIn K C f=some none:=by
 unfold PySem.W.takerIn
 rw [show PySem.W.findIn K (.ref C) f=some none from n]
 rfl
structure Con (K:Fg) (C:Addr) (f:Str) (v:V) (u:Value):Prop where
 at_:PySem.W.findIn K (.ref C) f=some (some u)
 rel:RelV v u
 get:PySem.W.specialIn K u "__get__"=some none
 cp:PySem.W.copiedNames.contains f=false
structure Meth (K:Fg) (C:Addr) (m:Str) (f:Addr):Prop where
 at_:PySem.W.findIn K (.ref C) m=some (some (.ref f))
 fn:PySem.W.isFn K (.ref f)=true
 kp:PySem.W.keepIn K (.ref f)=true
section
variable {X:Cx} {pins:List (Addr×Obj)} {σ:St} {H:Hp} {s:Shared} {a C dx:Addr} {fs:List (Str×V)} {f:Str} {v:V} {A:Around} {E:Value->Shared->Prop}
theorem zyd {b:Bool} {Q:Value->Shared->Prop} (I:Inv X pins σ H s) (e:H a=some (.ins C dx fs)) (c:Cls X.K C) (n:NoAttr X.K C f) (l:fs.lookup f=some v)
  (h:∀ u s',Inv X pins σ H s'->RelV v u->Q u s'):wpAny (model X.prog X.w) A (getAttr (.ref a) f b) Q E s:=by
 obtain ⟨mA,O,r,_,_,_⟩:=zhg I.hok e
 obtain ⟨u,hu,ru⟩:=RelO.some_of (v:=v) (o:=mA f) (by rw [<- l];exact r f)
 exact zns I.kIn O (c.get f) c.hd n hu (zml ru) (h u _ (I.tok _) ru)
theorem zj3 {m:Str} {g:Addr} {pl:Sem Bool} {Q:Value×List Value->Shared->Prop} (I:Inv X pins σ H s) (e:H a=some (.ins C dx fs)) (c:Cls X.K C) (k:Meth X.K C m g) (l:fs.lookup m=none)
  (h:Q (.ref g,[.ref a]) s):wpAny (model X.prog X.w) A (getMethod (.ref a) m pl) Q E s:=by
 obtain ⟨mA,O,r,_,_,_⟩:=zhg I.hok e
 have hn:mA m=none:=RelO.none_of (by rw [<- l];exact r m)
 exact zup I.kIn O (c.get m) k.at_ k.fn hn h
theorem zhd {y:V} {u:Value} {Q:Unit->Shared->Prop} (I:Inv X pins σ H s) (e:H a=some (.ins C dx fs)) (c:Cls X.K C) (n:NoAttr X.K C f) (hl:fs.length < 1000) (ry:RelV y u)
  (h:∀ s',Inv X pins σ (upd H a (.ins C dx (putF f y fs))) s'->Q () s'):wpAny (model X.prog X.w) A (setAttr (.ref a) f u) Q E s:=by
 obtain ⟨mA,O,r,wi,_,ho⟩:=zhg I.hok e
 have hz:(fs.map (·.1)).length<=sizeLine:=by rw [List.length_map,sizeLine_eq];lia
 refine zes I.kIn O c.sa c.po n.taker c.hd wi hz λ h' O' sb=>h _ ?_
 have hd:∃ o,h'.get? dx=some o:=let ⟨o,_,_,e',_⟩:=O'.ns;⟨o,e'⟩
 refine I.write (x:=a) (e:=dx) (by rw [e];exact True.intro) (.inr ho) (λ b q hb z=>(sb.2 b hb).trans z) hd ?_
 refine ⟨by rw [upd_ne O.ne];exact ho,?_,O.ne,O'.obj,_,O'.ns,λ g=>?_,λ g hg=>?_⟩
 ·have:=zya f y fs;lia
 ·show RelO ((putF f y fs).lookup g) (if g=f then some u else mA g)
  rw [zcb]
  by_cases q:g=f
  ·rw [if_pos q,if_pos q];exact ry
  ·rw [if_neg q,if_neg q];exact r g
 ·by_cases q:g=f
  ·rw [q];exact (zwb f y fs).1
  ·refine (zwb f y fs).2 g (wi g λ z=>hg ?_)
   show (if g=f then some u else mA g)=none
   rw [if_neg q];exact z
theorem Inv.made (I:Inv X pins σ H s):Inv X pins σ (upd (upd H s.heap.objs.size (.own (s.heap.objs.size+1))) (s.heap.objs.size+1) (.ins C s.heap.objs.size []))
  { s with heap:=(s.heap.push PySem.W.emptyDict).push (PySem.W.instObj C s.heap.objs.size) }:=by
 have e1:(s.heap.push PySem.W.emptyDict).get? s.heap.objs.size=some PySem.W.emptyDict:=Heap.get?_push_size s.heap rfl
 have e2:((s.heap.push PySem.W.emptyDict).push (PySem.W.instObj C s.heap.objs.size)).get? (s.heap.objs.size+1)=some (PySem.W.instObj C s.heap.objs.size):=by
  have:=Heap.get?_push_size (s.heap.push PySem.W.emptyDict) (o:=PySem.W.instObj C s.heap.objs.size) rfl
  rwa [Heap.size_push] at this
 have e3:(s.heap.push PySem.W.emptyDict).Ns s.heap.objs.size (λ _=>none):=⟨PySem.W.emptyDict,#[],_,e1,rfl,(λ e he=>absurd he (by simp)),λ _=>rfl⟩
 have I1:=I.laid (a:=s.heap.objs.size) (o:=.own (s.heap.objs.size+1)) (h':=s.heap.push PySem.W.emptyDict) (t':=s.toks) (λ b u q=>Heap.get?_push_of_some _ q) (Nat.le_refl _) ⟨_,e1⟩
 refine I1.laid (a:=s.heap.objs.size+1) (o:=.ins C s.heap.objs.size []) (t':=s.toks) (λ b u q=>Heap.get?_push_of_some _ q) (Nat.le_of_eq (Heap.size_push _ _)) ?_
 have ne:s.heap.objs.size≠s.heap.objs.size+1:=Nat.ne_of_lt (Nat.lt_succ_self _)
 refine ⟨by rw [upd_ne ne,zg0],Nat.zero_le _,ne,e2,λ _=>none,(Heap.Ns1.of_empty e3).at λ o q=>Heap.get?_push_of_some _ q,λ _=>True.intro,λ y hy=>absurd rfl hy⟩
theorem zvq {prog:Program} {w:World} {env:Env} {e:Expr} {f:Str} {pos:Pos} {s:Shared} {Q:Value->Shared->Prop} (hb:attributeBase e f env (eval e env)=eval e env)
  (h:wpAny (model prog w) A (eval e env) (λ o s₁=>wpAny (model prog w) A (getAttr o f true) Q E s₁) E s):wpAny (model prog w) A (eval (.Attribute e f pos) env) Q E s :=
 Attribute_any_ h (by rw [arm_eval_Attribute,hb])
end
def tFld (K:Fg) (ta:TE) (f:Str):TE:=λ σ H Q=>ta σ H λ x H1=>∃ a C dx fs v,x=.ref a/\H1 a=some (.ins C dx fs)/\Cls K C/\NoAttr K C f/\fs.lookup f=some v/\Q v H1
def sFld (K:Fg) (ta tv:TE) (f:Str):TS:=λ D σ H=>tv σ H λ y H1=>ta σ H1 λ x H2=>∃ a C dx fs,x=.ref a/\H2 a=some (.ins C dx fs)/\Cls K C/\NoAttr K C f/\fs.length < 1000 /\
 D.nx σ (upd H2 a (.ins C dx (putF f y fs)))
def InOp (X:Cx) (op:Operator) (rd:V->V->Hp->VK->Prop):Prop :=
 ∀ (pins:List (Addr×Obj)) (s:Shared) (σ:St) (H:Hp) (x y:V) (u v:Value) (Q:VK),Inv X pins σ H s->RelV x u->RelV y v->rd x y H Q->wpAny (model X.prog X.w) X.A (inplaceOp op u v) (EP X pins σ Q) X.xe s
def zqm (K:Fg) (ta tv:TE) (rd:V->V->Hp->VK->Prop) (f:Str):TS:=λ D σ H=>ta σ H λ x H1=>∃ a C dx fs v,x=.ref a/\H1 a=some (.ins C dx fs)/\Cls K C/\NoAttr K C f/\fs.lookup f=some v /\
 tv σ H1 λ y H2=>rd v y H2 λ z H3=>∃ dx' fs',H3 a=some (.ins C dx' fs')/\fs'.length < 1000/\D.nx σ (upd H3 a (.ins C dx' (putF f z fs')))
section
variable {X:Cx} {o e value:Expr} {f:Str} {pos pos' tpos:Pos} {ta tv:TE}
theorem pe_fld (he:PE X e ta) (hb:attributeBase e f X.env (eval e X.env)=eval e X.env):PE X (.Attribute e f pos) (tFld X.K ta f):=by
 intro pins s σ H Q I h
 refine zvq hb (thn (he pins s σ H _ I h) λ u s1 ⟨x,H1,I1,rx,a,C,dx,fs,v,ex,ea,c,n,l,q⟩=>?_)
 subst ex
 obtain rfl:u=Value.ref a:=rx
 exact zyd I1 ea c n l λ u' s2 I2 ru=>⟨v,H1,I2,ru,q⟩
theorem ps_fld (ha:PE X o ta) (hv:PE X value tv) (hs:swapsWith value (some (.Attribute o f pos')) pos.line X.env=pure false):PS X (.Assign [.Attribute o f pos'] value pos) (sFld X.K ta tv f):=by
 intro pins s σ H D I h
 refine plainObj_wpAny_Assign_Attribute (thn (hv pins s σ H _ I h) λ u s1 ⟨y,H1,I1,ry,q⟩=>thn (ha pins s1 σ H1 _ I1 q) λ ov s2 ⟨x,H2,I2,rx,a,C,dx,fs,ex,ea,c,n,l,q2⟩=>?_) hs
 subst ex
 obtain rfl:ov=Value.ref a:=rx
 exact zhd I2 ea c n l ry λ s3 I3=>⟨σ,_,I3,q2⟩
theorem zhk {op:Operator} {rd:V->V->Hp->VK->Prop} (ha:PE X o ta) (hv:PE X value tv) (hop:InOp X op rd):PS X (.AugAssign (.Attribute o f tpos) op value pos) (zqm X.K ta tv rd f):=by
 intro pins s σ H D I h
 refine wpAny_AugAssign_AttributeAny (thn (ha pins s σ H _ I h) λ ov s1 ⟨x,H1,I1,rx,a,C,dx,fs,v,ex,ea,c,n,l,q⟩=>?_)
 subst ex
 obtain rfl:ov=Value.ref a:=rx
 refine zyd I1 ea c n l λ u s2 I2 ru=>thn (hv pins s2 σ H1 _ I2 q) λ w3 s3 ⟨y,H2,I3,ry,q3⟩=>thn (hop pins s3 σ H2 v y u w3 _ I3 ru ry q3) λ w4 s4 ⟨z,H3,I4,rz,dx',fs',ea',l',q4⟩=>?_
 exact zhd I4 ea' c n l' rz λ s5 I5=>⟨σ,_,I5,q4⟩
def rAdd:V->V->Hp->VK->Prop:=λ x y H Q=>∃ i j,x=.int i/\y=.int j/\Q (.int (i+j)) H
theorem in_add:InOp X .Add rAdd:=by
 rintro pins s σ H x y u v Q I rx ry ⟨i,j,rfl,rfl,q⟩
 obtain ⟨t,rfl⟩:=(show ∃ t,u=Value.int i t from rx)
 obtain ⟨t',rfl⟩:=(show ∃ t',v=Value.int j t' from ry)
 exact PyProof.Rows.iadd_int ⟨.int (i+j),H,I.tok _,⟨_,rfl⟩,q⟩
theorem zkq {pl:Sem Bool} {m:Str} {apos:Pos} {args:List Expr} {pins:List (Addr×Obj)} {s:Shared} {σ:St} {H:Hp} {Q:Value->Shared->Prop} {te:TE} (he:PE X e te) (I:Inv X pins σ H s)
  (h:te σ H λ x H1=>∃ a C dx fs g,x=.ref a/\H1 a=some (.ins C dx fs)/\Cls X.K C/\Meth X.K C m g/\fs.lookup m=none /\
   ∀ s1,Inv X pins σ H1 s1->wpAny (model X.prog X.w) X.A (callWith pos (.ref g) [.ref a] (backTo pos (starEach args X.env)) (backToKw pos (keywordEach [] X.env))) Q X.xe s1)
  (ht:eval (.Call (.Attribute e m apos) args [] pos) X.env=(do
   let ov <- eval e X.env
   standAt apos.atName
   let (f,first) <- holding [ov] (getMethod ov m pl)
   callWith pos f first (backTo pos (starEach args X.env)) (backToKw pos (keywordEach [] X.env)))) :
  wpAny (model X.prog X.w) X.A (eval (.Call (.Attribute e m apos) args [] pos) X.env) Q X.xe s:=by
 refine PySem.W.methodCall_KW (pl:=pl) (thn (he pins s σ H _ I h) λ u s1 ⟨x,H1,I1,rx,a,C,dx,fs,g,ex,ea,c,k,l,q⟩=>?_) ht
 subst ex
 obtain rfl:u=Value.ref a:=rx
 exact zj3 I1 ea c k l (q s1 I1)
end
section
variable {X:Cx} {pins:List (Addr×Obj)} {σ:St} {H:Hp} {s:Shared} {A:Around} {E:Value->Shared->Prop} {Q:Value->Shared->Prop} {c:Value} {b:Bool}
inductive TyOf (K:Fg) (H:Hp):V->Value->Prop where
|non:TyOf K H .non (.type "NoneType")
|bl (x:Bool):TyOf K H (.bl x) (.type "bool")
|int (i:Int):TyOf K H (.int i) (.type "int")
|str (x:Str):TyOf K H (.str x) (.type "str")
|flt (x:UInt64):TyOf K H (.flt x) (.type "float")
|lst {a:Addr} {xs:List V} (e:H a=some (.lst xs)):TyOf K H (.ref a) (.type "list")
|frz {a:Addr} {o:Obj} {xs:List V} (e:H a=some (.frz o (.lst xs))):TyOf K H (.ref a) (.type "list")
|tup {a:Addr} {xs:List V} (e:H a=some (.tup xs)):TyOf K H (.ref a) (.type "tuple")
|dK {a:Addr} {kvs:List (Key×V)} (e:H a=some (.dK kvs)):TyOf K H (.ref a) (.type "dict")
|dT {a:Addr} {kvs:List (List Key×V)} (e:H a=some (.dT kvs)):TyOf K H (.ref a) (.type "dict")
|ins {a C dx:Addr} {fs:List (Str×V)} (e:H a=some (.ins C dx fs)) (cl:Cls K C) (ha:PySem.W.findIn K (.ref C) "__class__"=some (some (.builtin "object.__class__")))
   (hn:PySem.W.specialIn K (.builtin "object.__class__") "__get__"=some (some (.builtin "getset_descriptor.__get__"))) (htk:PySem.W.takesIn K (.builtin "object.__class__")=some true)
   (hm:PySem.W.mroIn K C (.type "object")=some true):TyOf K H (.ref a) (.ref C)
theorem zul {x:V} {u t:Value} (I:Inv X pins σ H s) (rx:RelV x u) (ty:TyOf X.K H x t) (e:PySem.W.kitOne X.K t c=some b) (h:∀ tk,Q (.bool b) { s with toks:=tk }) :
  wpAny (model X.prog X.w) A (call (.builtin "isinstance") [u,c]) Q E s:=by
 cases ty with
|non=>cases (show u=Value.none from rx);exact PySem.W.kia_one PySem.W.kitx_none I.kIn True.intro e (λ z=>nomatch z) h
|bl y=>cases (show u=Value.bool y from rx);exact PySem.W.kia_one PySem.W.kitx_bool I.kIn True.intro e (λ z=>nomatch z) h
|int i=>obtain ⟨t,q⟩:=(show ∃ t,u=Value.int i t from rx);cases q;exact PySem.W.kia_one PySem.W.kitx_int I.kIn True.intro e (λ z=>nomatch z) h
|str y=>obtain ⟨t,q⟩:=(show ∃ t,u=Value.str y t from rx);cases q;exact PySem.W.kia_one PySem.W.kitx_str I.kIn True.intro e (λ z=>nomatch z) h
|flt y=>obtain ⟨t,q⟩:=(show ∃ t,u=Value.float y t from rx);cases q;exact PySem.W.kia_one PySem.W.kitx_float I.kIn True.intro e (λ z=>nomatch z) h
|@lst a xs ea =>
  cases (show u=Value.ref a from rx)
  obtain ⟨_,_,n,_,h1⟩:=(show ObjOk X.prog X.w H s.heap a (.lst xs) from I.hok a _ ea)
  exact PySem.W.kia_one PySem.W.kitx_list I.kIn ⟨_,h1,rfl⟩ e (λ z=>nomatch z) h
|@frz a ob xs ea =>
  cases (show u=Value.ref a from rx)
  obtain ⟨_,_,_,n,_,h1⟩:=(show ObjOk X.prog X.w H s.heap a (.frz ob (.lst xs)) from I.hok a _ ea)
  exact PySem.W.kia_one PySem.W.kitx_list I.kIn ⟨_,h1,rfl⟩ e (λ z=>nomatch z) h
|@tup a xs ea =>
  cases (show u=Value.ref a from rx)
  obtain ⟨_,_,_,p⟩:=(show ObjOk X.prog X.w H s.heap a (.tup xs) from I.hok a _ ea)
  obtain ⟨o,h1,h2,_⟩:=p
  exact PySem.W.kia_one PySem.W.kitx_tuple I.kIn ⟨o,h1,h2⟩ e (λ z=>nomatch z) h
|@dK a kvs ea =>
  cases (show u=Value.ref a from rx)
  obtain ⟨_,_,vs,_,p⟩:=(show ObjOk X.prog X.w H s.heap a (.dK kvs) from I.hok a _ ea)
  obtain ⟨o,es,ep,h1,h2,_⟩:=p
  exact PySem.W.kia_one PySem.W.kitx_dict I.kIn ⟨o,h1,h2.1⟩ e (λ z=>nomatch z) h
|@dT a kvs ea =>
  cases (show u=Value.ref a from rx)
  obtain ⟨_,_,xs,_,o,es,ep,h1,h2,_⟩:=(show ObjOk X.prog X.w H s.heap a (.dT kvs) from I.hok a _ ea)
  exact PySem.W.kia_one PySem.W.kitx_dict I.kIn ⟨o,h1,h2.1⟩ e (λ z=>nomatch z) h
|@ins a C dx fs ea cl ha hn htk hm =>
  cases (show u=Value.ref a from rx)
  obtain ⟨mA,O,_⟩:=zhg I.hok ea
  obtain ⟨od,J,_⟩:=O.look
  exact PySem.W.kia_one (PySem.W.kitx_own (cl.get _) cl.hd ha hn htk hm) I.kIn J e (λ z=>nomatch z) h
end
structure Room (k:Nat) (A:Around):Prop where
 hd:A.handled=none
 dp:A.depth+3 * k+5 < recursionLimit
 gd:A.guards=some []
 un:A.units+16 * k+200 < cLine
theorem Room.mono {j k:Nat} {A:Around} (r:Room k A) (h:j<=k):Room j A:=⟨r.hd,by have:=r.dp;lia,r.gd,by have:=r.un;lia⟩
theorem Room.deeper {k:Nat} {A:Around} (r:Room (k+1) A) (env:Env):Room k (A.deeper env) :=
 ⟨r.hd,by have:=r.dp;show A.depth+1+3 * k+5 < _;lia,r.gd,by have:=r.un;show A.units+3+16 * k+200 < _;lia⟩
theorem zui {A:Around} {C:Addr} {us:List Value} {kw:List (Str×Value)}:(A.under (.builtin "type.__call__" ⟨.ref C :: us,kw⟩)).depth=A.depth+1:=by
 first|rfl|simp [Around.under,Code.weight,Code.isCreation,Code.isGuard,Code.isCaller,Code.frames,Code.isFrame,guardIds]
theorem zxj {A:Around} {C:Addr} {us:List Value} {kw:List (Str×Value)}:(A.under (.builtin "type.__call__" ⟨.ref C :: us,kw⟩)).units=A.units+1:=by
 first|rfl|simp [Around.under,Code.cUnits,Code.frames,Code.isFrame]
theorem Room.make {k:Nat} {A:Around} (r:Room (k+1) A) (C:Addr) (us:List Value) (kw:List (Str×Value)):Room k (A.under (.builtin "type.__call__" ⟨.ref C :: us,kw⟩)) :=
 ⟨r.hd,by have:=r.dp;rw [zui];lia,r.gd,by have:=r.un;rw [zxj];lia⟩
theorem Room.depth {k:Nat} {A:Around} (r:Room k A):A.depth < recursionLimit:=by have:=r.dp;lia
theorem Room.units {k:Nat} {A:Around} (r:Room k A):A.units+64 < cLine:=by have:=r.un;lia
def tNil:TA:=λ _ H Q=>Q [] H
def tCons (ta:TE) (tr:TA):TA:=λ σ H Q=>ta σ H λ x H1=>tr σ H1 λ xs H2=>Q (x :: xs) H2
section
variable {X:Cx} {e:Expr} {es:List Expr} {te:TE} {t:TA} {pos:Pos}
theorem pa_nil:PA X [] tNil:=λ _ _ _ _ H Q I h=>Calls.spliced_nil ⟨[],H,I,.nil,h⟩
theorem za0 (ha:PE X e te) (hr:PA X es t) (hs:starEach (e :: es) X.env=(false,eval e X.env) :: starEach es X.env:=by rfl):PA X (e :: es) (tCons te t):=by
 intro pos pins s σ H Q I h
 rw [hs]
 show wpAny _ _ (spliced ((false,eval e X.env) :: backTo pos (starEach es X.env))) _ _ s
 refine Calls.spliced_cons (thn (ha pins s σ H _ I h) λ u s1 ⟨x,H1,I1,r1,q1⟩=>?_)
 exact thn (hr pos pins s1 σ H1 _ I1 q1) λ us s2 ⟨xs,H2,I2,r2,q2⟩=>⟨x :: xs,H2,I2,.cons r1 r2,q2⟩
def tTup (t:TA):TE:=λ σ H Q=>t σ H λ xs H1=>xs.length<=sizeLine/\∀ p,H1 p=none->Q (.ref p) (upd H1 p (.tup xs))
def tLst (t:TA):TE:=λ σ H Q=>t σ H λ xs H1=>xs.length<=sizeLine/\∀ p,H1 p=none->Q (.ref p) (upd H1 p (.lst xs))
theorem pe_tup {x1} (h:PA X es t):PE X (.Tuple es x1 pos) (tTup t):=by
 intro pins s σ H Q I hq
 refine wpAny_Tuple_spliced (thn (h pos pins s σ H _ I hq) λ us s1 ⟨xs,H1,I1,r,z,q⟩=>⟨by rw [<- r.length];exact z,?_⟩)
 have hf:H1 s1.heap.objs.size=none:=I1.hok.fresh (Nat.le_refl _)
 refine ⟨.ref s1.heap.objs.size,upd H1 s1.heap.objs.size (.tup xs),I1.laid (t':=s1.toks) (λ b u e=>Heap.get?_push_of_some _ e) (Nat.le_refl _) ?_,rfl,q _ hf⟩
 exact ⟨z,us,r,⟨_,Heap.get?_push_size _ rfl,rfl,_,rfl⟩⟩
theorem pe_lst (h:PA X es t):PE X (.List es pos) (tLst t):=by
 intro pins s σ H Q I hq
 refine wpAny_List_spliced (thn (h pos pins s σ H _ I hq) λ us s1 ⟨xs,H1,I1,r,z,q⟩=>⟨by rw [<- r.length];exact z,?_⟩)
 have hf:H1 s1.heap.objs.size=none:=I1.hok.fresh (Nat.le_refl _)
 refine ⟨.ref s1.heap.objs.size,upd H1 s1.heap.objs.size (.lst xs),I1.laid (t':=s1.toks) (λ b u e=>Heap.get?_push_of_some _ e) (Nat.le_refl _) ?_,rfl,q _ hf⟩
 exact ⟨z,us,0,r,Heap.get?_push_size _ rfl⟩
end
abbrev Sp:=List V->Hp->VK->XK->Prop
abbrev CXT:=List Env->Hp->Shared->XK->Value->Shared->Prop
structure Env0 (P:Program) (w:World) (K:Fg) (mg:Str->Option Value) (base:Heap) (A:Around) (outer:List Env) (s:Shared) (H:Hp):Prop where
 frames:A.frames=some outer
 mod:Mod K mg base
 bs:∀ b o,base.get? b=some o->s.heap.get? b=some o/\H b=none
 bsz:base.objs.size<=s.heap.objs.size
 funs:s.heap.FunFrames base outer
 frf:∀ b∈frs outer,H b=none
 hok:HOk P w H s.heap
 bare:AllBare s.gens
def CE (outer:List Env) (P:Program) (w:World) (H:Hp) (s:Shared) (Q:VK) (u:Value) (s':Shared):Prop :=
 ∃ v H',s'.os=s.os/\AllBare s'.gens/\Un (frs outer) [] H H' s.heap s'.heap/\HOk P w H' s'.heap/\RelV v u/\Q v H'
def CR (CX:CXT) (outer:List Env) (P:Program) (w:World) (H:Hp) (s:Shared) (Q:VK) (E:XK) (r:Result) (s':Shared):Prop :=
 match r with
|.ok (.ret u)=>CE outer P w H s Q u s'
|.ok _=>False
|.error e=>CX outer H s E e s'
structure FnOk (P:Program) (w:World) (K:Fg) (mg:Str->Option Value) (base:Heap) (CX:CXT) (k:Nat) (f:Addr) (fd:FuncData) (ps:List Str) (sp:Sp):Prop where
 len:∀ vs H Q E,sp vs H Q E->vs.length=ps.length
 run:∀ (A:Around) (outer:List Env) (s:Shared) (H:Hp) (args:Args) (us:List Value) (vs:List V) (Q:VK) (E:XK),Room k A->Env0 P w K mg base A outer s H->BindsTo s fd args (ps.zip us)->Vals vs us->sp vs H Q E ->
  codeAny (model P w) A (.call (.ref f) args) (CR CX outer P w H s Q E) s
theorem FnOk.mono {P:Program} {w:World} {K:Fg} {mg:Str->Option Value} {base:Heap} {CX:CXT} {j k:Nat} {f:Addr} {fd:FuncData} {ps:List Str} {sp:Sp} (F:FnOk P w K mg base CX j f fd ps sp) (h:j<=k) :
  FnOk P w K mg base CX k f fd ps sp:=⟨F.len,λ A outer s H args us vs Q E hr=>F.run A outer s H args us vs Q E (hr.mono h)⟩
theorem FnOk.imp {P:Program} {w:World} {K:Fg} {mg:Str->Option Value} {base:Heap} {CX:CXT} {k:Nat} {f:Addr} {fd:FuncData} {ps:List Str} {sp sp':Sp} (F:FnOk P w K mg base CX k f fd ps sp)
  (h:∀ vs H Q E,sp' vs H Q E->sp vs H Q E):FnOk P w K mg base CX k f fd ps sp' :=
 ⟨λ vs H Q E q=>F.len vs H Q E (h _ _ _ _ q),λ A outer s H args us vs Q E hr he hb hv hs=>F.run A outer s H args us vs Q E hr he hb hv (h _ _ _ _ hs)⟩
theorem Env0.make {P:Program} {w:World} {K:Fg} {mg:Str->Option Value} {base:Heap} {A:Around} {outer:List Env} {s:Shared} {H:Hp} (e:Env0 P w K mg base A outer s H) (C:Addr) (us:List Value) (kw:List (Str×Value)) :
  Env0 P w K mg base (A.under (.builtin "type.__call__" ⟨.ref C :: us,kw⟩)) outer s H:=⟨by first|exact e.frames|(simpa [Around.under,Code.envs,Code.isFrame,pushEnvs] using e.frames),e.mod,e.bs,e.bsz,e.funs,e.frf,e.hok,e.bare⟩
section
variable {X:Cx} {pins:List (Addr×Obj)} {σ:St} {H:Hp} {s s':Shared}
theorem Inv.env0 (I:Inv X pins σ H s):Env0 X.prog X.w X.K X.mg X.base X.A X.stack s H :=
 ⟨I.ok.frames,I.ok.mod,I.bs,Nat.le_trans I.ok.bsz I.sz,I.stack,I.stkFree,I.hok,I.bare⟩
theorem Inv.after {Q:VK} {u:Value} (I:Inv X pins σ H s) (h:CE X.stack X.prog X.w H s Q u s'):EP X pins σ Q u s':=by
 obtain ⟨v,H',os,bare,un,hok,r,q⟩:=h
 obtain ⟨hh,g,d,t,os'⟩:=s'
 obtain rfl:os'=s.os:=os
 exact ⟨v,H',I.call (h':=hh) (g':=g) (d':=d) (t':=t) (ch:=[]) un hok bare (λ b z=>absurd z (by simp)),r,q⟩
end
def tCall (sp:Sp) (dvs:List V) (E:XK) (t:TA):TE:=λ σ H Q=>t σ H λ vs H1=>sp (vs++dvs) H1 Q E
def tMeth (C:Addr) (m:Str) (sp:Sp) (dvs:List V) (E:XK) (ta:TE) (t:TA):TE:=λ σ H Q=>ta σ H λ x H1=>∃ a dx fs,x=.ref a/\H1 a=some (.ins C dx fs)/\fs.lookup m=none /\
 t σ H1 λ vs H2=>sp (x :: (vs++dvs)) H2 Q E
def tMake (C:Addr) (sp:Sp) (dvs:List V) (E:XK) (t:TA):TE:=λ σ H Q=>t σ H λ vs H1=>∀ x dx,H1 x=none->H1 dx=none->dx≠x ->
 sp (.ref x :: (vs++dvs)) (upd (upd H1 dx (.own x)) x (.ins C dx [])) (λ v H2=>v=.non/\Q (.ref x) H2) E
def Binds (K:Fg) (fd:FuncData) (ps:List Str) (ds:List Value):Prop :=
 ∀ (s:Shared) (us:List Value),K.In s.heap->(us++ds).length=ps.length->BindsTo s fd ⟨us,[]⟩ (ps.zip (us++ds))
theorem Binds.all {K:Fg} {fd:FuncData} {ps:List Str} (h:∀ us:List Value,us.length=ps.length->bindArgs fd ⟨us,[]⟩=pure (ps.zip us)):Binds K fd ps []:=λ s us _ hl=>by
 rw [List.append_nil] at hl ⊢
 exact .of_eq (h us hl)
def Passes (CX:CXT) (X:Cx) (E:XK):Prop:=∀ (pins:List (Addr×Obj)) (σ:St) (H:Hp) (s:Shared) (e:Value) (s':Shared),Inv X pins σ H s->CX X.stack H s E e s'->X.xe e s'
section
variable {X:Cx} {CX:CXT} {k:Nat} {f C:Addr} {fd:FuncData} {ps:List Str} {sp:Sp} {dvs:List V} {ds:List Value} {E:XK} {x m:Str} {p pos apos:Pos} {e o:Expr} {es:List Expr} {ta:TE} {t:TA}
theorem run_fn {pins:List (Addr×Obj)} {σ:St} {H:Hp} {s:Shared} {Q:VK} {us:List Value} {vs:List V} (F:FnOk X.prog X.w X.K X.mg X.base CX k f fd ps sp) (hr:Room k X.A) (hb:Binds X.K fd ps ds) (hd:Vals dvs ds) (hx:Passes CX X E)
  (I:Inv X pins σ H s) (r:Vals vs us) (h:sp (vs++dvs) H Q E):wpAny (model X.prog X.w) X.A (call (.ref f) us) (EP X pins σ Q) X.xe s:=by
 have r2:Vals (vs++dvs) (us++ds):=r.append hd
 have hl:(us++ds).length=ps.length:=by rw [<- r2.length];exact F.len _ _ _ _ h
 refine wpAny_call (codeAny_mono (F.run X.A X.stack s H ⟨us,[]⟩ (us++ds) (vs++dvs) Q E hr I.env0 (hb s us I.kIn hl) r2 h) λ r s' hq=>?_)
 cases r with
|error e=>exact hx pins σ H s e s' I hq
|ok fl =>
  cases fl with
 |ret u=>exact I.after hq
 |next=>exact False.elim hq
 |brk=>exact False.elim hq
 |cont=>exact False.elim hq
theorem zls (F:FnOk X.prog X.w X.K X.mg X.base CX k f fd ps sp) (hr:Room k X.A) (hg:Gl X x) (hm:X.mg x=some (.ref f)) (hk:PySem.W.keepIn X.K (.ref f)=true) (hb:Binds X.K fd ps ds) (hd:Vals dvs ds) (hx:Passes CX X E)
  (ha:PA X (e :: es) t) (hdb:(x == ("__debug__":Str))=false:=by decide) (he:starEach (e :: es) X.env=(false,eval e X.env) :: starEach es X.env:=by rfl) (hpl:(backTo pos (starEach es X.env)).any (·.1)=false:=by rfl) :
  PE X (.Call (.Name x p) (e :: es) [] pos) (tCall sp dvs E t):=by
 intro pins s σ H Q I h
 refine wpAny_Call_Name_kw (ztd I hg hm ?_ hdb)
 refine PySem.W.callWith_K (h₀:=X.base) I.ok.mod.kin hk (thn (ha pos pins s σ H _ I h) λ us s1 ⟨vs,H1,I1,r,q⟩=>⟨I1.kIn,?_⟩) he hpl
 exact run_fn F hr hb hd hx I1 r q
theorem zyq {pl:Sem Bool} (he:PE X o ta) (c:Cls X.K C) (hm:Meth X.K C m f) (F:FnOk X.prog X.w X.K X.mg X.base CX k f fd ps sp) (hr:Room k X.A) (hb:Binds X.K fd ps ds) (hd:Vals dvs ds) (hx:Passes CX X E) (ha:PA X (e :: es) t)
  (hst:starEach (e :: es) X.env=(false,eval e X.env) :: starEach es X.env:=by rfl) (hpl:(backTo pos (starEach es X.env)).any (·.1)=false:=by rfl)
  (ht:eval (.Call (.Attribute o m apos) (e :: es) [] pos) X.env=(do
   let ov <- eval o X.env
   standAt apos.atName
   let (f,first) <- holding [ov] (getMethod ov m pl)
   callWith pos f first (backTo pos (starEach (e :: es) X.env)) (backToKw pos (keywordEach [] X.env))):=by rfl) :
  PE X (.Call (.Attribute o m apos) (e :: es) [] pos) (tMeth C m sp dvs E ta t):=by
 intro pins s σ H Q I h
 refine PySem.W.methodCall_KW (pl:=pl) (thn (he pins s σ H _ I h) λ u s1 ⟨x,H1,I1,rx,a,dx,fs,ex,ea,l,q⟩=>?_) ht
 subst ex
 obtain rfl:u=Value.ref a:=rx
 refine zj3 I1 ea c hm l ?_
 refine PySem.W.callWith_K (first:=[.ref a]) (h₀:=X.base) I.ok.mod.kin hm.kp (thn (ha pos pins s1 σ H1 _ I1 q) λ us s2 ⟨vs,H2,I2,r,q2⟩=>⟨I2.kIn,?_⟩) hst hpl
 exact run_fn (us:=.ref a :: us) (vs:=.ref a :: vs) F hr hb hd hx I2 (.cons rfl r) q2
theorem zto {pl:Sem Bool} (he:PE X o ta) (c:Cls X.K C) (hm:Meth X.K C m f) (F:FnOk X.prog X.w X.K X.mg X.base CX k f fd ps sp) (hr:Room k X.A) (hb:Binds X.K fd ps ds) (hd:Vals dvs ds) (hx:Passes CX X E)
  (ht:eval (.Call (.Attribute o m apos) [] [] pos) X.env=(do
   let ov <- eval o X.env
   standAt apos.atName
   let (f,first) <- holding [ov] (getMethod ov m pl)
   callWith pos f first (backTo pos (starEach [] X.env)) (backToKw pos (keywordEach [] X.env))):=by rfl) :
  PE X (.Call (.Attribute o m apos) [] [] pos) (tMeth C m sp dvs E ta tNil):=by
 intro pins s σ H Q I h
 refine PySem.W.methodCall_KW (pl:=pl) (thn (he pins s σ H _ I h) λ u s1 ⟨x,H1,I1,rx,a,dx,fs,ex,ea,l,q⟩=>?_) ht
 subst ex
 obtain rfl:u=Value.ref a:=rx
 refine zj3 I1 ea c hm l ?_
 exact PySem.W.callWith_K0 (first:=[.ref a]) I1.kIn hm.kp (run_fn (us:=[.ref a]) (vs:=[.ref a]) F hr hb hd hx I1 (.cons rfl .nil) q)
structure Mk (K:Fg) (C f:Addr):Prop where
 makes:PySem.W.makesIn K C=true
 init:PySem.W.findIn K (.ref C) "__init__"=some (some (.ref f))
 fn:PySem.W.isFn K (.ref f)=true
 kp:PySem.W.keepIn K (.ref C)=true
theorem ztp {pins:List (Addr×Obj)} {σ:St} {H:Hp} {s:Shared} {Q:VK} {us:List Value} {vs:List V} (M:Mk X.K C f) (F:FnOk X.prog X.w X.K X.mg X.base CX k f fd ps sp) (hr:Room (k+1) X.A) (hb:Binds X.K fd ps ds) (hd:Vals dvs ds)
  (hx:Passes CX X E) (I:Inv X pins σ H s) (r:Vals vs us)
  (h:∀ x dx,H x=none->H dx=none->dx≠x->sp (.ref x :: (vs++dvs)) (upd (upd H dx (.own x)) x (.ins C dx [])) (λ v H2=>v=.non/\Q (.ref x) H2) E) :
  wpAny (model X.prog X.w) X.A (call (.ref C) us) (EP X pins σ Q) X.xe s:=by
 have hq:=h (s.heap.objs.size+1) s.heap.objs.size (I.hok.fresh (Nat.le_succ _)) (I.hok.fresh (Nat.le_refl _)) (Nat.ne_of_lt (Nat.lt_succ_self _))
 have I2:=Inv.made (C:=C) I
 have r2:Vals (V.ref (s.heap.objs.size+1) :: (vs++dvs)) (Value.ref (s.heap.objs.size+1) :: (us++ds)):=.cons rfl (r.append hd)
 have hl:(Value.ref (s.heap.objs.size+1) :: us++ds).length=ps.length:=by
  have e:=r2.length
  rw [F.len _ _ _ _ hq] at e
  exact e.symm
 refine wpAny_call (zhp (f:=f) I.kIn M.makes M.init (beq_iff_eq.mp M.fn) (codeAny_mono (F.run _ X.stack _ _ ⟨Value.ref (s.heap.objs.size+1) :: us,[]⟩ (Value.ref (s.heap.objs.size+1) :: (us++ds)) _ _ E (hr.make C us [])
  (I2.env0.make C us []) (hb _ (Value.ref (s.heap.objs.size+1) :: us) I2.kIn hl) r2 hq) λ r s' hq'=>?_))
 cases r with
|error e=>exact hx pins σ _ _ e s' I2 hq'
|ok fl =>
  cases fl with
 |ret u =>
   obtain ⟨v,H',I3,rv,ev,q3⟩:=I2.after hq'
   subst ev
   exact ⟨rv,⟨V.ref (s.heap.objs.size+1),H',I3,rfl,q3⟩⟩
 |next=>exact False.elim hq'
 |brk=>exact False.elim hq'
 |cont=>exact False.elim hq'
theorem zqq (M:Mk X.K C f) (F:FnOk X.prog X.w X.K X.mg X.base CX k f fd ps sp) (hr:Room (k+1) X.A) (hg:Gl X x) (hm:X.mg x=some (.ref C)) (hb:Binds X.K fd ps ds) (hd:Vals dvs ds) (hx:Passes CX X E)
  (ha:PA X (e :: es) t) (hdb:(x == ("__debug__":Str))=false:=by decide) (he:starEach (e :: es) X.env=(false,eval e X.env) :: starEach es X.env:=by rfl) (hpl:(backTo pos (starEach es X.env)).any (·.1)=false:=by rfl) :
  PE X (.Call (.Name x p) (e :: es) [] pos) (tMake C sp dvs E t):=by
 intro pins s σ H Q I h
 refine wpAny_Call_Name_kw (ztd I hg hm ?_ hdb)
 refine PySem.W.callWith_K (h₀:=X.base) I.ok.mod.kin M.kp (thn (ha pos pins s σ H _ I h) λ us s1 ⟨vs,H1,I1,r,q⟩=>⟨I1.kIn,?_⟩) he hpl
 exact ztp M F hr hb hd hx I1 r q
end
section
variable {X:Cx} {CX:CXT} {k:Nat} {f C:Addr} {fd:FuncData} {ps ks:List Str} {sp:Sp} {E:XK} {x m:Str} {p pos apos kpos:Pos} {e o:Expr} {es:List Expr} {kws:List Keyword} {te ta:TE} {t tk:TA} {nm:Option Str}
variable {g:List Value->List Value->List Value} {gV:List V->List V->List V}
end
structure FnScope (N P:List Str) (sc:Scope):Prop where
 kind:sc.kind=.function
 co:sc.isCoroutine=false
 gen:sc.isGenerator=false
 nd:N.Nodup
 pre:N.take P.length=P
 par:∀ x∈P,sc.names.lookup x=some .local \/ sc.names.lookup x=some .cell
 nofree:∀ y∈sc.names,y.2≠.free
theorem zzg {kindOf:Str->Option NameKind} {x:Str}:∀ {binds:List (Str×Value)} {m:Str->Option Value},(∀ v,(x,v) ∉ binds)->bindL kindOf binds m x=m x
|[],_,_=>rfl
|(n,v) :: r,m,h=>by
  unfold bindL
  rw [zzg λ w hw=>h w (List.mem_cons_of_mem _ hw)]
  split
  ·have:x≠n:=by rintro rfl;exact h v List.mem_cons_self
   simp [this]
  ·rfl
theorem zng {kindOf:Str->Option NameKind} {x:Str}:∀ {binds:List (Str×Value)} {m:Str->Option Value},(∀ v,(x,v) ∉ binds)->bindC kindOf binds m x=m x
|[],_,_=>rfl
|(n,v) :: r,m,h=>by
  unfold bindC
  rw [zng λ w hw=>h w (List.mem_cons_of_mem _ hw)]
  split
  ·rfl
  ·have:x≠n:=by rintro rfl;exact h v List.mem_cons_self
   simp [this]
theorem zxg {kindOf:Str->Option NameKind} {x:Str} {v:Value}:∀ {P:List Str} {vs:List Value} {i:Nat} {m:Str->Option Value},P.Nodup->P[i]?=some x->vs[i]?=some v->kindOf x=some .local ->
  bindL kindOf (P.zip vs) m x=some v
|[],_,_,_,_,h,_,_=>by simp at h
|_ :: _,[],_,_,_,_,h,_=>by simp at h
|p :: P,w :: vs,0,m,nd,h1,h2,hk=>by
  simp at h1 h2;subst h1;subst h2
  show bindL kindOf ((p,w) :: P.zip vs) m p=_
  unfold bindL
  rw [zzg λ v hv=>(List.nodup_cons.mp nd).1 (List.of_mem_zip hv).1,if_pos hk]
  simp
|p :: P,w :: vs,i+1,m,nd,h1,h2,hk=>by
  show bindL kindOf ((p,w) :: P.zip vs) m x=_
  unfold bindL
  exact zxg (i:=i) (List.nodup_cons.mp nd).2 (by simpa using h1) (by simpa using h2) hk
theorem zvg {kindOf:Str->Option NameKind} {x:Str} {v:Value}:∀ {P:List Str} {vs:List Value} {i:Nat} {m:Str->Option Value},P.Nodup->P[i]?=some x->vs[i]?=some v->kindOf x≠some .local ->
  bindC kindOf (P.zip vs) m x=some v
|[],_,_,_,_,h,_,_=>by simp at h
|_ :: _,[],_,_,_,_,h,_=>by simp at h
|p :: P,w :: vs,0,m,nd,h1,h2,hk=>by
  simp at h1 h2;subst h1;subst h2
  show bindC kindOf ((p,w) :: P.zip vs) m p=_
  unfold bindC
  rw [zng λ v hv=>(List.nodup_cons.mp nd).1 (List.of_mem_zip hv).1,if_neg hk]
  simp
|p :: P,w :: vs,i+1,m,nd,h1,h2,hk=>by
  show bindC kindOf ((p,w) :: P.zip vs) m x=_
  unfold bindC
  exact zvg (i:=i) (List.nodup_cons.mp nd).2 (by simpa using h1) (by simpa using h2) hk
def start (N:List Str) (vs:List V):St:=vs.map some++List.replicate (N.length - vs.length) none
def cxOf (CX:CXT) (P:Program) (w:World) (K:Fg) (mg:Str->Option Value) (base:Heap) (N:List Str) (qual:Str) (scope:Scope) (f:Addr) (cd:Value) (A:Around) (outer:List Env) (s:Shared) (H:Hp) (E:XK):Cx where
 prog:=P
 w:=w
 K:=K
 mg:=mg
 base:=base
 A:=A.deeper (envOfC qual scope s.heap.objs.size f cd)
 N:=N
 s₀:=s
 H₀:=H
 env:=envOfC qual scope s.heap.objs.size f cd
 outer:=outer
 stack:=envOfC qual scope s.heap.objs.size f cd :: outer
 ex:=[]
 calm:=true
 fn:=λ _=>true
 pn:=[]
 xe:=λ e s'=>wpAny (model P w) (A.deeper (envOfC qual scope s.heap.objs.size f cd)) (leaving (envOfC qual scope s.heap.objs.size f cd) e) (λ _ s''=>CX outer H s E e s'') (λ e' s''=>CX outer H s E e' s'') s'
theorem zck {sc:Scope} {n:Nat} {x:Str} (h:sc.names.lookup x=some .cell):∃ c,(cellsFrom n sc.names []).lookup x=some c:=by
 have q:=PySem.W.cellsFrom_some sc.names n [] (.inl h)
 exact Option.isSome_iff_exists.mp q
theorem zvl {CX:CXT} {P:Program} {w:World} {K:Fg} {mg:Str->Option Value} {base:Heap} {N ps:List Str} {qual:Str} {scope:Scope} {f:Addr} {cd:Value} {A:Around} {outer:List Env} {s s1:Shared} {H:Hp} {E:XK} {us:List Value} {vs:List V}
  (S:FnScope N ps scope) (hd:A.handled=none) (e0:Env0 P w K mg base A outer s H) (hl:vs.length=ps.length) (r:Vals vs us)
  (x:InCallC s s.heap.objs.size (bindL (envOfC qual scope s.heap.objs.size f cd).kindOf (ps.zip us) λ _=>none) (cellsFrom (s.heap.objs.size+1) scope.names []) (bindC (envOfC qual scope s.heap.objs.size f cd).kindOf (ps.zip us) λ _=>none) s1) :
  Inv (cxOf CX P w K mg base N qual scope f cd A outer s H E) [] (start N vs) H s1:=by
 have hpl:ps.length<=N.length:=by have:=congrArg List.length S.pre;rw [List.length_take] at this;lia
 obtain ⟨h1,tk,rfl,hk⟩:=x.done
 have noA:∀ b:Addr,b ∉ (cxOf CX P w K mg base N qual scope f cd A outer s H E).ex:=λ b z=>absurd (show b∈([]:List Addr) from z) (by simp)
 refine ⟨⟨e0.mod,S.kind,rfl,rfl,Nat.le_refl _,λ y z c h1 h2=>?_,λ y hy=>?_,λ y c _ h=>?_,λ _=>hd,Around.frames_deeper e0.frames,.inr ⟨rfl,rfl⟩,λ b z=>absurd z (noA b),e0.bs,e0.bsz,λ b _ _=>noA b,λ b z=>absurd z (noA b),e0.funs,e0.frf⟩,
  rfl,e0.bare,Un.kept hk,⟨_,x.toInCall.ns,λ i y v h1 h2 h3=>?_⟩,λ y c h=>⟨_,x.cell y c h⟩,e0.hok.fresh (Nat.le_refl _),λ y c h=>?_,λ p hp=>absurd (show p∈([]:List (Addr×Obj)) from hp) (by simp),e0.hok.kept hk,?_⟩
 ·exact name_of_addr x.apart (PySem.mem_of_lookup h1) (PySem.mem_of_lookup h2)
 ·have hy:scope.names.lookup y=some .cell \/ scope.names.lookup y=some .free:=hy
  rcases hy with hy|hy
  ·exact zck hy
  ·exact absurd rfl (S.nofree _ (PySem.mem_of_lookup hy))
 ·exact Nat.le_of_lt (x.above y c (PySem.mem_of_lookup h))
 ·have hi:i < vs.length:=by
   unfold start at h2
   by_cases hi:i < vs.length
   ·exact hi
   ·rw [List.getElem?_append_right (by simpa using hi)] at h2
    rw [List.getElem?_replicate] at h2
    split at h2 <;> cases h2
  have ha:vs[i]?=some v:=by
   unfold start at h2
   rw [List.getElem?_append_left (by simpa using hi),List.getElem?_map] at h2
   cases e:vs[i]? with
  |none=>rw [e] at h2;cases h2
  |some a=>rw [e] at h2;cases h2;rfl
  obtain ⟨u,hu,rv⟩:=r.get ha
  have hp:ps[i]?=some y:=by
   rw [<- S.pre,List.getElem?_take_of_lt (by lia)];exact h1
  have ndP:ps.Nodup:=by rw [<- S.pre];exact S.nd.sublist (List.take_sublist _ _)
  refine ⟨u,rv,?_⟩
  rcases S.par y (List.mem_of_getElem? hp) with k|k
  ·exact .inl ⟨k,zxg ndP hp hu k⟩
  ·obtain ⟨c,e⟩:=zck (n:=s.heap.objs.size+1) k
   refine .inr ⟨.inl k,c,e,?_⟩
   have q:=x.cell y c e
   rw [zvg ndP hp hu (by show scope.names.lookup y≠_;rw [k];decide)] at q
   exact q
 ·exact e0.hok.fresh (Nat.le_of_lt (x.above y c (PySem.mem_of_lookup h)))
 ·unfold start
  show _=N.length
  rw [List.length_append,List.length_map,List.length_replicate]
  lia
theorem fn_of {CX:CXT} {P:Program} {w:World} {K:Fg} {mg:Str->Option Value} {base:Heap} {k:Nat} {f:Addr} {name qual:Str} {params:Arguments} {body:List Stmt} {scope:Scope} {dV kV doc pm cdv ct oc:Value} {an od:Option Addr}
  {osl:Array (Option Value)} {N ps:List Str} {sp:Sp} (lk:K.lookup f=some ⟨oc,od,.func (PySem.W.fnOf name qual params body scope dV kV doc pm an cdv ct),osl⟩) (hcd:PySem.W.codeIn K cdv qual=true) (S:FnScope N ps scope)
  (len:∀ vs H Q E,sp vs H Q E->vs.length=ps.length)
  (hbody:∀ (A:Around) (outer:List Env) (s:Shared) (H:Hp) (vs:List V) (Q:VK) (E:XK),Room k (A.deeper (envOfC qual scope s.heap.objs.size f cdv))->sp vs H Q E ->
   ∃ t,PSs (cxOf CX P w K mg base N qual scope f cdv A outer s H E) body t/\t { nx:=λ _ H'=>Q .non H',rt:=Q } (start N vs) H) :
  FnOk P w K mg base CX (k+1) f (PySem.W.fnOf name qual params body scope dV kV doc pm an cdv ct) ps sp:=by
 refine ⟨len,λ A outer s H args us vs Q E hr e0 hb r hsp=>?_⟩
 have hl:=len _ _ _ _ hsp
 have KX:K.In s.heap:=e0.mod.kin.keeps λ b o e=>(e0.bs b o e).1
 have lim:s.heap.NoLimit:=e0.mod.nolimit.keeps λ b o e=>(e0.bs b o e).1
 have hkind:∀ y∈ps.zip us,scope.names.lookup y.1=some .local \/ (scope.names.lookup y.1=some .cell/\((cellsFrom (s.heap.objs.size+1) scope.names []).lookup y.1).isSome=true):=λ ⟨n,v⟩ hy=>by
  rcases S.par n (List.of_mem_zip hy).1 with q|q
  ·exact .inl q
  ·exact .inr ⟨q,PySem.W.cellsFrom_some _ _ _ (.inl q)⟩
 refine codeAny_call_function hr.depth (KX _ _ lk) rfl S.co S.gen rfl (PySem.W.codeRec_of KX hcd) (hb _ _ _ _ ?_)
 refine wpAny_newFunctionEnv_cells S.kind hkind λ env he s1 x=>?_
 subst he
 refine ⟨lim.keeps x.toInCall.keep,codeAny_func ?_⟩
 obtain ⟨t,ht,hq⟩:=hbody A outer s H vs Q E (hr.deeper _) hsp
 have I:Inv (cxOf CX P w K mg base N qual scope f cdv A outer s H E) [] (start N vs) H s1:=zvl S hr.hd e0 hl r x
 refine wpAny_mono (ht [] s1 (start N vs) H _ I hq) (λ fl s' hs=>?_) λ e s' hs=>hs
 have fin:∀ {σ':St} {H':Hp} {v:V} {u:Value},Inv (cxOf CX P w K mg base N qual scope f cdv A outer s H E) [] σ' H' s'->RelV v u->Q v H'->CE outer P w H s Q u s' :=
  λ {σ' H' v u} J rv q=>⟨v,H',J.os,J.bare,J.base,J.hok,rv,q⟩
 cases fl with
|ret u =>
  obtain ⟨v,σ',H',J,rv,q⟩:=hs
  exact fin J rv q
|next =>
  obtain ⟨σ',H',J,q⟩:=hs
  exact fin (v:=V.non) (u:=Value.none) J rfl q
|brk =>
  obtain ⟨_,_,_,q⟩:=hs
  exact False.elim q
|cont =>
  obtain ⟨_,_,_,q⟩:=hs
  exact False.elim q
section
variable {X:Cx} {x:Str} {p pos:Pos} {e:Expr} {es:List Expr} {t:TA} {id T:String} {r:List V->Hp->VK->Prop}
def tCB (r:List V->Hp->VK->Prop) (t:TA):TE:=λ σ H Q=>t σ H λ vs H1=>r vs H1 Q
theorem zl0 (hc:CallR X (.builtin id) r) (hg:Gl X x) (hm:X.mg x=none) (hv:bootBuiltins x=some (.builtin id)) (ha:PA X (e :: es) t) (hn:x ≠ "__name__":=by decide) (hdb:(x == ("__debug__":Str))=false:=by decide)
  (he:starEach (e :: es) X.env=(false,eval e X.env) :: starEach es X.env:=by rfl) (hpl:(backTo pos (starEach es X.env)).any (·.1)=false:=by rfl):PE X (.Call (.Name x p) (e :: es) [] pos) (tCB r t):=by
 intro pins s σ H Q I h
 refine wpAny_Call_Name_kw (ld_blt I hg hm hv ?_ hn hdb)
 exact PyProof.Rows.callWith_builtin1 (thn (ha pos pins s σ H _ I h) λ us s1 ⟨vs,H1,I1,r1,q1⟩=>hc pins s1 σ H1 vs us Q I1 r1 q1) he hpl
theorem zw2 (hc:CallR X (.type T) r) (hg:Gl X x) (hm:X.mg x=none) (hv:bootBuiltins x=some (.type T)) (ha:PA X (e :: es) t) (hn:x ≠ "__name__":=by decide) (hdb:(x == ("__debug__":Str))=false:=by decide)
  (he:starEach (e :: es) X.env=(false,eval e X.env) :: starEach es X.env:=by rfl) (hpl:(backTo pos (starEach es X.env)).any (·.1)=false:=by rfl):PE X (.Call (.Name x p) (e :: es) [] pos) (tCB r t):=by
 intro pins s σ H Q I h
 refine wpAny_Call_Name_kw (ld_blt I hg hm hv ?_ hn hdb)
 exact PyProof.Rows.callWith_type1 (thn (ha pos pins s σ H _ I h) λ us s1 ⟨vs,H1,I1,r1,q1⟩=>hc pins s1 σ H1 vs us Q I1 r1 q1) he hpl
end
end L2
namespace HT
open PySem PyProof.Rows
section
open PySem.SeqAt
open PySem.AutoSeq1 (wpAny_loadPart')
open PySem.MeetsSeq PySem.MeetsSeq2 PySem.MeetsSeq3
end
section
variable {prog:Program} {w:World} {A:Around} {E:Value->Shared->Prop} {s:Shared}
theorem cat_tup {t b:Addr} {vs ws:List Value} {Q:Value->Shared->Prop} (ht:IsTup s.heap t vs.toArray) (hb:IsTup s.heap b ws.toArray) (hv:vs≠[])
  (h1:ws=[]->Q (.ref t) s) (h2:ws≠[]->Q (.ref s.heap.objs.size) { s with heap:=s.heap.push { cls:=.type "tuple",data:=.seq (vs++ws).toArray } })
  (hsz:vs.length+ws.length<=sizeLine):wpAny (model prog w) A (binaryOp .Add (.ref t) (.ref b)) Q E s:=by
 obtain ⟨⟨cls,dd,data,sl⟩,ho,hc,n,hd⟩:=id ht
 obtain ⟨⟨cls2,dd2,data2,sl2⟩,ho2,hc2,n2,hd2⟩:=id hb
 simp only at hc hd hc2 hd2
 subst hc hd hc2 hd2
 have e:vs.toArray++ws.toArray=(vs++ws).toArray:=by simp
 by_cases hw:ws=[]
 ·exact concat_meets ⟨_,ho,rfl⟩ ⟨_,ho2,rfl⟩ noFill_tuple_add seq_tuple_add PySem.F.slot_tuple_add PySem.F.entry_tuple_add (PySem.F.args_tuple_add_2 _ _)
   (tuple_addW1 t b vs.toArray ws.toArray n n2 dd dd2 sl sl2 (by simpa using hv) (by simp [hw])) ⟨ho,ho2,h1 hw⟩
 ·refine concat_meets ⟨_,ho,rfl⟩ ⟨_,ho2,rfl⟩ noFill_tuple_add seq_tuple_add PySem.F.slot_tuple_add PySem.F.entry_tuple_add (PySem.F.args_tuple_add_2 _ _)
   (tuple_addW2 t b vs.toArray ws.toArray n n2 dd dd2 sl sl2 (by simpa using hv) (by simpa using hw) (by rw [List.size_toArray,List.size_toArray];exact hsz)) ⟨ho,ho2,?_⟩
  rw [e]
  exact h2 hw
def sIx (n d:Nat):Option Int->Nat
|none=>d
|some v=>if v < 0 then (v+(n:Int)).toNat else min v.toNat n
end
end HT
namespace L2
open PySem PySem.Spec PyProof.Rows
abbrev TO:=St->Hp->(Option Int->Hp->Prop)->Prop
def PO (X:Cx) (e:Option Expr) (t:TO):Prop :=
 ∀ (pins:List (Addr×Obj)) (s:Shared) (σ:St) (H:Hp) (Q:Option Int->Hp->Prop),Inv X pins σ H s->t σ H Q ->
  wpAny (model X.prog X.w) X.A (evalPart e X.env) (λ u s'=>∃ o H',Inv X pins σ H' s'/\IsPart u o/\Q o H') X.xe s
def zxn:TO:=λ _ H Q=>Q none H
def tPart (t:TE):TO:=λ σ H Q=>t σ H λ x H1=>∃ i,x=.int i/\Q (some i) H1
theorem zzh {ns:List Int}:∀ {us:List Value},Vals (ns.map V.int) us->IntsAre us ns:=by
 induction ns with
|nil=>intro us r;rw [List.map_nil] at r;cases r;exact .nil
|cons n ns ih =>
  intro us r
  rw [List.map_cons] at r
  cases r with
 |cons r1 r2 =>
   obtain ⟨t,e⟩:=r1
   subst e
   exact .cons n t (ih r2)
section
variable {X:Cx} {e:Expr} {te:TE} {lo hi:Option Expr} {tl th:TO} {pos p2:Pos}
theorem zss:PO X none zxn:=by
 intro pins s σ H Q I h
 rw [evalPart_none]
 exact wpAny_pure ⟨none,H,I,.none,h⟩
theorem zpq (h:PE X e te):PO X (some e) (tPart te):=by
 intro pins s σ H Q I hw
 rw [evalPart_some]
 refine thn (h pins s σ H _ I hw) λ u s1 ⟨x,H1,I1,r1,q1⟩=>?_
 obtain ⟨i,rfl,q⟩:=q1
 obtain ⟨t,rfl⟩:=r1
 exact ⟨some i,H1,I1,.int i t,q⟩
def SlR (X:Cx) (r:V->Option Int->Option Int->Hp->VK->Prop):Prop :=
 ∀ (pins:List (Addr×Obj)) (s:Shared) (σ:St) (H:Hp) (x:V) (v vl vu:Value) (lo hi:Option Int) (sl:Addr) (Q:VK),Inv X pins σ H s->RelV x v->s.heap.IsSliceOf sl vl vu .none->IsPart vl lo->IsPart vu hi->r x lo hi H Q ->
  ∃ T id,typeLookup (.type T) "__getitem__"=pure (some (.builtin id))/\s.TypeIs v T/\wpAny (model X.prog X.w) X.A (getItem v (.ref sl)) (EP X pins σ Q) X.xe s
def cutV (xs:List V) (lo hi:Option Int):List V:=(xs.drop (HT.sIx xs.length 0 lo)).take (HT.sIx xs.length xs.length hi - HT.sIx xs.length 0 lo)
theorem zmh (xs:List V) (lo hi:Option Int):(cutV xs lo hi).length<=xs.length:=by
 unfold cutV
 rw [List.length_take,List.length_drop]
 lia
def rCatT (K:Fg):R2:=λ x y H Q=>∃ a b xs ys,x=.ref a/\y=.ref b/\SqT K H a xs/\SqT K H b ys/\xs≠[]/\xs.length+ys.length<=sizeLine /\
 (ys=[]->Q (.ref a) H)/\(ys≠[]->∀ p,H p=none->Q (.ref p) (upd H p (.tup (xs++ys))))
theorem Vals.nil_iff {xs:List V} {us:List Value} (r:Vals xs us):us=[] ↔ xs=[]:=by
 cases r with
|nil=>simp
|cons _ _=>simp
theorem zlq:OpR X (binaryOp .Add) (rCatT X.K):=by
 intro pins s σ H x y v u Q I rx ry h
 obtain ⟨a,b,xs,ys,rfl,rfl,ha,hb,hx,hz,q1,q2⟩:=h
 cases rx
 cases ry
 obtain ⟨its,r1,p1,_⟩:=I.tuple ha
 obtain ⟨its2,r2,p2,_⟩:=I.tuple hb
 refine HT.cat_tup p1 p2 (λ z=>hx (r1.nil_iff.mp z)) (λ z=>⟨.ref a,H,I,rfl,q1 (r2.nil_iff.mp z)⟩) (λ z=>?_) (by rw [<- r1.length,<- r2.length];exact hz)
 refine ⟨.ref s.heap.objs.size,_,I.laid (t':=s.toks) (o:=.tup (xs++ys)) (λ b ob q=>Heap.get?_push_of_some _ q) (Nat.le_refl _) ?_,rfl,q2 (λ w=>z (r2.nil_iff.mpr w)) _ (I.hok.fresh (Nat.le_refl _))⟩
 exact ⟨by rw [List.length_append];exact hz,_,r1.append r2,IsTup.new _ _⟩
end
def ixN (n:Nat) (i:Int):Option Nat:=if 0<=i then (if i < n then some i.toNat else none) else if -(n:Int)<=i then some (i+n).toNat else none
def atI {α:Type} (xs:List α) (i:Int):Option α:=(ixN xs.length i).bind λ j=>xs[j]?
theorem zlm {n:Nat} {i:Int} {j:Nat} (h:ixN n i=some j):seqIndex? i n=some j/\j < n/\-(n:Int)<=i/\i < n:=by
 unfold ixN at h
 by_cases h0:0<=i
 ·rw [if_pos h0] at h
  by_cases h1:i < n
  ·rw [if_pos h1] at h
   have e:i.toNat=j:=Option.some.inj h
   exact ⟨by rw [seqIndex_of h0 h1,e],by lia,by lia,h1⟩
  ·rw [if_neg h1] at h;cases h
 ·rw [if_neg h0] at h
  by_cases h1:-(n:Int)<=i
  ·rw [if_pos h1] at h
   have e:(i+n).toNat=j:=Option.some.inj h
   exact ⟨by rw [seqIndex_neg (by lia) h1,e],by lia,h1,by lia⟩
  ·rw [if_neg h1] at h;cases h
theorem zaj {α:Type} {xs:List α} {i:Int} {v:α} (h:atI xs i=some v):∃ j,seqIndex? i xs.length=some j/\xs[j]?=some v/\j < xs.length/\-(xs.length:Int)<=i/\i < xs.length:=by
 unfold atI at h
 cases e:ixN xs.length i with
|none=>rw [e] at h;cases h
|some j =>
  rw [e] at h
  obtain ⟨h1,h2,h3,h4⟩:=zlm e
  exact ⟨j,h1,h,h2,h3,h4⟩
theorem zsq {α:Type} {xs:List α} {j:Nat} {v:α} (h:xs[j]?=some v):atI xs (j:Int)=some v:=by
 have hj:j < xs.length:=(List.getElem?_eq_some_iff.mp h).1
 have e:ixN xs.length (j:Int)=some j:=by
  unfold ixN
  rw [if_pos (by lia),if_pos (by lia)];simp
 unfold atI;rw [e];exact h
def ztr (b:Expr):Prop:=∀ o i,subscripted b false o i=operate [o,i] (getItem o i)
def IxR (X:Cx) (r:R2):Prop :=
 ∀ (value slice:Expr) (pins:List (Addr×Obj)) (s:Shared) (σ:St) (H:Hp) (x y:V) (v u:Value) (Q:VK),Inv X pins σ H s->RelV x v->RelV y u->r x y H Q ->
  subscripted slice false v u=operate [v,u] (getItem v u)->wpAny (model X.prog X.w) X.A (subscriptTail value slice v u) (EP X pins σ Q) X.xe s
def MtR (X:Cx) (id:String) (r:V->List V->Hp->VK->Prop):Prop :=
 ∀ (pins:List (Addr×Obj)) (s:Shared) (σ:St) (H:Hp) (x:V) (xs:List V) (v:Value) (us:List Value) (Q:VK),Inv X pins σ H s->RelV x v->Vals xs us->r x xs H Q ->
  wpAny (model X.prog X.w) X.A (call (.builtin id) (v :: us)) (EP X pins σ Q) X.xe s
section
variable {X:Cx} {a b:Expr} {ta tb:TE} {pos:Pos}
theorem IxR.or {r r':R2} (h:IxR X r) (h':IxR X r'):IxR X (λ x y H Q=>r x y H Q \/ r' x y H Q):=by
 intro value slice pins s σ H x y v u Q I rx ry q hs
 rcases q with q|q
 ·exact h value slice pins s σ H x y v u Q I rx ry q hs
 ·exact h' value slice pins s σ H x y v u Q I rx ry q hs
theorem pe_ix {r:R2} (hr:IxR X r) (ha:PE X a ta) (hb:PE X b tb) (hs:ztr b):PE X (.Subscript a b pos) (tOp r ta tb):=by
 intro pins s σ H Q I h
 exact Subscript_ (binT ha hb I h λ v u s2 x y H2 I2 rx ry q=>hr a b pins s2 σ H2 x y v u Q I2 rx ry q (hs _ _))
def rIxL (K:Fg):R2:=λ x y H Q=>∃ p xs i v,x=.ref p/\y=.int i/\SqL K H p xs/\atI xs i=some v/\Q v H
def rIxT (K:Fg):R2:=λ x y H Q=>∃ p xs i v,x=.ref p/\y=.int i/\SqT K H p xs/\atI xs i=some v/\Q v H
def rIxS:R2:=λ x y H Q=>∃ z i c,x=.str z/\y=.int i/\z.length<=sizeLine/\atI z.cps.toList i=some c/\Q (.str ⟨#[c]⟩) H
theorem zwr:IxR X (rIxL X.K):=by
 intro value slice pins s σ H x y v u Q I rx ry h hs
 obtain ⟨p,xs,i,z,rfl,rfl,hq,he,q⟩:=h
 cases rx
 obtain ⟨t,rfl⟩:=ry
 obtain ⟨its,r,pl,hz⟩:=I.list hq
 obtain ⟨j,h1,h2,h3,h4,h5⟩:=zaj he
 obtain ⟨w,ew,rw'⟩:=r.get h2
 have hl:=r.length
 have hn:=line63
 have fin:EP X pins σ Q w s:=⟨z,H,I,rw',q⟩
 by_cases h0:0<=i
 ·have hj:i.toNat=j:=by
   rw [seqIndex_of h0 h5] at h1
   exact Option.some.inj h1
  exact item_listR pl.isList h0 (by lia) (by rw [hj];simpa using ew) fin hs
 ·have hj:(i+(its.toArray.size:Int)).toNat=j:=by
   rw [seqIndex_neg (by lia) h4] at h1
   rw [List.size_toArray,<- hl]
   exact Option.some.inj h1
  exact subscriptTail_builtinR (x:=w) pl.isList.typeIs slot_list_getitem.lookup
   (wpAny_getItem_list_neg (Q:=λ r s'=>r=w/\EP X pins σ Q r s') pl.isList (by lia) (by rw [List.size_toArray] <;> lia) (by lia) (by rw [hj];simpa using ew) ⟨rfl,fin⟩) hs
theorem ix_tup:IxR X (rIxT X.K):=by
 intro value slice pins s σ H x y v u Q I rx ry h hs
 obtain ⟨p,xs,i,z,rfl,rfl,hq,he,q⟩:=h
 cases rx
 obtain ⟨t,rfl⟩:=ry
 obtain ⟨its,r,pl,hz⟩:=I.tuple hq
 obtain ⟨j,h1,h2,h3,h4,h5⟩:=zaj he
 obtain ⟨w,ew,rw'⟩:=r.get h2
 have hl:=r.length
 have hn:=line63
 have fin:EP X pins σ Q w s:=⟨z,H,I,rw',q⟩
 exact subscriptTail_builtinR (x:=w) pl.typeIs slot_tuple_getitem.lookup
  (getItem_tuple (j:=j) (Q:=λ r s'=>r=w/\EP X pins σ Q r s') pl (by lia) (by lia) (by rw [List.size_toArray,<- hl];exact h1) (by simpa using ew) ⟨rfl,fin⟩) hs
theorem ix_str:IxR X rIxS:=by
 intro value slice pins s σ H x y v u Q I rx ry h hs
 obtain ⟨z,i,c,rfl,rfl,hz,he,q⟩:=h
 obtain ⟨t,rfl⟩:=rx
 obtain ⟨t',rfl⟩:=ry
 obtain ⟨j,h1,h2,h3,h4,h5⟩:=zaj he
 have hl:z.cps.toList.length=z.length:=by simp [Str.length]
 rw [hl] at h1 h4 h5
 have hn:=line63
 exact tail_any (typeIs_str s z t) slot_str_getitem.lookup (getItem_str (c:=c) (by
  have e1:decide (i < -(2 ^ 63:Int))=false:=decide_eq_false (by lia)
  have e2:decide (i ≥ 2 ^ 63)=false:=decide_eq_false (by lia)
  rw [e1,e2,Bool.or_false]) (by rw [h1];simpa using h2) ⟨.str ⟨#[c]⟩,H,I.tok _,⟨_,rfl⟩,q⟩) hs
def rIx (K:Fg):R2:=λ x y H Q=>rIxL K x y H Q \/ rIxT K x y H Q \/ rIxS x y H Q
theorem ix_seq:IxR X (rIx X.K):=zwr.or (ix_tup.or ix_str)
theorem zuh (its:List Value) (n j:Nat) (u:Value):Obj.mapSeq (·.setIfInBounds j u) { cls:=.type "list",data:=.seq its.toArray n }={ cls:=.type "list",data:=.seq (its.set j u).toArray n }:=by
 simp [Obj.mapSeq]
theorem Inv.lst {pins:List (Addr×Obj)} {σ:St} {H:Hp} {s:Shared} {p:Addr} {xs:List V} (I:Inv X pins σ H s) (h:H p=some (.lst xs)) :
  ∃ (its:List Value) (n:Nat),Vals xs its/\s.heap.get? p=some { cls:=.type "list",data:=.seq its.toArray n }/\xs.length<=sizeLine:=by
 obtain ⟨z,its,n,r,e⟩:=I.hok p _ h
 exact ⟨its,n,r,e,z⟩
theorem Inv.lstUpd {pins:List (Addr×Obj)} {σ:St} {H:Hp} {s:Shared} {p:Addr} {xs ys:List V} {its its':List Value} {n n':Nat} {f:Obj->Obj} (I:Inv X pins σ H s) (h:H p=some (.lst xs))
  (ho:s.heap.get? p=some { cls:=.type "list",data:=.seq its.toArray n }) (hf:f { cls:=.type "list",data:=.seq its.toArray n }={ cls:=.type "list",data:=.seq its'.toArray n' }) (r:Vals ys its') (hz:ys.length<=sizeLine) (t:Nat) :
  Inv X pins σ (upd H p (.lst ys)) { s with heap:=s.heap.update p f,toks:=t }:=by
 have e:(s.heap.update p f).get? p=some { cls:=.type "list",data:=.seq its'.toArray n' }:=by
  rw [Heap.get?_update_self f ho (by rw [hf] <;> rfl),hf]
 refine I.write (x:=p) (e:=p) (by rw [h];trivial) (.inl rfl) (λ b u hb q=>(Heap.get?_update_other _ _ (Ne.symm hb)).trans q) ⟨_,e⟩ ?_
 exact ⟨hz,its',n',r,e⟩
def rSetL:V->V->V->Hp->(Hp->Prop)->Prop:=λ o i v H Q=>∃ p xs k j,o=.ref p/\i=.int k/\H p=some (.lst xs)/\ixN xs.length k=some j/\Q (upd H p (.lst (xs.set j v)))
theorem zjo:PSet X rSetL:=by
 intro pins s σ H o i v ov iv u Q I ro ri rv h
 obtain ⟨p,xs,k,j,rfl,rfl,hp,hj,q⟩:=h
 cases ro
 obtain ⟨t,rfl⟩:=ri
 obtain ⟨its,n,r,ho,hz⟩:=I.lst hp
 obtain ⟨h1,h2,h3,h4⟩:=zlm hj
 have hl:=r.length
 have hn:=line63
 have I':Inv X pins σ (upd H p (.lst (xs.set j v))) { s with heap:=s.heap.update p (Obj.mapSeq (·.setIfInBounds j u)) } :=
  I.lstUpd hp ho (zuh its n j u) (r.set rv j) (by rw [List.length_set];exact hz) s.toks
 by_cases h0:0<=k
 ·have hk:k.toNat=j:=by
   rw [seqIndex_of h0 h4] at h1
   exact Option.some.inj h1
  exact PySem.W.ki_setAt ho h0 (by lia) (by rw [List.size_toArray,<- hl];exact h4) (by rw [hk];exact ⟨_,I',q⟩)
 ·have hk:(k+(its.toArray.size:Int)).toNat=j:=by
   rw [seqIndex_neg (by lia) h3] at h1
   rw [List.size_toArray,<- hl]
   exact Option.some.inj h1
  exact PySem.W.ki_setBack ho (by lia) (by rw [List.size_toArray,<- hl];exact h3) (by lia) (by rw [hk];exact ⟨_,I',q⟩)
theorem zrf (lo hi:Option Int) (n:Nat):(sliceBounds lo hi none n).1=((HT.sIx n 0 lo:Nat):Int)/\(sliceBounds lo hi none n).2.1=((HT.sIx n n hi:Nat):Int)/\(sliceBounds lo hi none n).2.2=1:=by
 refine ⟨?_,?_,rfl⟩
 ·cases lo with
 |none=>simp [sliceBounds,HT.sIx]
 |some i =>
   simp only [sliceBounds,HT.sIx,Option.getD_none,show (1:Int) > 0 by decide,if_true]
   by_cases h:i < 0
   ·simp only [h,if_true] <;> lia
   ·simp only [h,if_false] <;> lia
 ·cases hi with
 |none=>simp [sliceBounds,HT.sIx]
 |some i =>
   simp only [sliceBounds,HT.sIx,Option.getD_none,show (1:Int) > 0 by decide,if_true]
   by_cases h:i < 0
   ·simp only [h,if_true] <;> lia
   ·simp only [h,if_false] <;> lia
theorem zpe (its:List Value) (lo hi:Option Int):slicePick its.toArray lo hi none=((its.drop (HT.sIx its.length 0 lo)).take (HT.sIx its.length its.length hi - HT.sIx its.length 0 lo)).toArray:=by
 obtain ⟨h1,h2,h3⟩:=zrf lo hi its.toArray.size
 unfold slicePick
 rw [h1,h2,h3]
 simp only [sliceRange_one,pick_run,List.size_toArray] <;> rfl
def rSlL (K:Fg):V->Option Int->Option Int->Hp->VK->Prop:=λ x lo hi H Q=>∃ a xs,x=.ref a/\SqL K H a xs/\∀ p,H p=none->Q (.ref p) (upd H p (.lst (cutV xs lo hi)))
theorem zst:SlR X (rSlL X.K):=by
 intro pins s σ H x v vl vu lo hi sl Q I rx hs pl pu h
 obtain ⟨a,xs,rfl,hx,q⟩:=h
 cases rx
 obtain ⟨its,r,ht,hz⟩:=I.list hx
 have hlen:=r.length
 refine ⟨"list",_,slot_list_getitem.lookup,ht.isList.typeIs,?_⟩
 refine wpAny_getItem_list_slice ht.isList hs pl pu .none (by simp) ?_ (by rw [List.size_toArray] <;> lia)
 rw [zpe,<- hlen]
 refine ⟨.ref s.heap.objs.size,_,I.laid (t':=s.toks) (o:=.lst (cutV xs lo hi)) (λ b ob q=>Heap.get?_push_of_some _ q) (Nat.le_refl _) ?_,rfl,q _ (I.hok.fresh (Nat.le_refl _))⟩
 exact ⟨Nat.le_trans (zmh xs lo hi) hz,_,0,(r.drop (HT.sIx xs.length 0 lo)).take (HT.sIx xs.length xs.length hi - HT.sIx xs.length 0 lo),Heap.get?_push_size _ rfl⟩
theorem CallR.or {f:Value} {r r':List V->Hp->VK->Prop} (h:CallR X f r) (h':CallR X f r'):CallR X f (λ xs H Q=>r xs H Q \/ r' xs H Q):=by
 intro pins s σ H xs us Q I rs q
 rcases q with q|q
 ·exact h pins s σ H xs us Q I rs q
 ·exact h' pins s σ H xs us Q I rs q
theorem zwe:CallR X (.type "list") (λ xs H Q=>∃ p ys,xs=[.ref p]/\(SqL X.K H p ys \/ SqT X.K H p ys)/\∀ l,H l=none->Q (.ref l) (upd H l (.lst ys))):=by
 intro pins s σ H xs us Q I r h
 obtain ⟨p,ys,rfl,hq,q⟩:=h
 obtain ⟨u,rfl,rx⟩:=vals1 r
 cases rx
 have fin:∀ (its:List Value),Vals ys its->ys.length<=sizeLine->∀ (h':Heap) (c':Nat),(∀ b o',s.heap.get? b=some o'->h'.get? b=some o') ->
   h'.get? s.heap.objs.size=some { cls:=.type "list",dict:=none,data:=.seq its.toArray c',slots:=#[] }->EP X pins σ Q (.ref s.heap.objs.size) { s with heap:=h' }:=λ its r' hz h' c' kp e =>
  ⟨.ref s.heap.objs.size,_,I.laid (t':=s.toks) kp (Nat.le_refl _) (show ObjOk X.prog X.w _ h' _ (.lst ys) from ⟨hz,its,c',r',e⟩),rfl,q _ (I.hok.fresh (Nat.le_refl _))⟩
 rcases hq with hq|hq
 ·obtain ⟨its,r',pl,hz⟩:=I.list hq
  have hlen:=r'.length
  obtain ⟨o,ho,hc,n,hd⟩:=pl.isList
  exact call_list_seq p (.inl rfl) ho hc hd (λ h' c' kp e=>fin its r' hz h' c' kp e) (by simp only [List.size_toArray] <;> lia)
 ·obtain ⟨its,r',pl,hz⟩:=I.tuple hq
  have hlen:=r'.length
  obtain ⟨o,ho,hc,n,hd⟩:=pl
  exact call_list_seq p (.inr rfl) ho hc hd (λ h' c' kp e=>fin its r' hz h' c' kp e) (by simp only [List.size_toArray] <;> lia)
def tyV (K:Fg) (T:String) (x:V) (H:Hp):Prop:=match x with
|.str _=>T = "str"
|.int _=>T = "int"
|.ref p=>(T = "list"/\∃ xs,SqL K H p xs) \/ (T = "tuple"/\∃ o,K.lookup p=some o/\o.cls=.type "tuple"/\o.dict=none) \/
   (T = "dict"/\((∃ kvs,H p=some (.dK kvs)) \/ ∃ kvs,H p=some (.dT kvs))) \/ (T = "set"/\∃ S n,H p=some (.set S n))
|_=>False
theorem tyV_is {pins:List (Addr×Obj)} {σ:St} {H:Hp} {s:Shared} {T:String} {x:V} {v:Value} (I:Inv X pins σ H s) (r:RelV x v) (ty:tyV X.K T x H) :
  s.TypeIs v T/\∀ a,v=.ref a->∃ ob,s.heap.get? a=some ob/\ob.dict=none:=by
 cases x with
|str z =>
  obtain ⟨t,rfl⟩:=r
  cases (show T = "str" from ty)
  exact ⟨typeIs_str s z t,λ _ e=>nomatch e⟩
|int i =>
  obtain ⟨t,rfl⟩:=r
  cases (show T = "int" from ty)
  exact ⟨typeIs_int s i t,λ _ e=>nomatch e⟩
|ref p =>
  cases r
  rcases ty with ⟨rfl,xs,hq⟩|⟨rfl,o,hk,hc,hd⟩|⟨rfl,hk⟩|⟨rfl,S,n,hk⟩
  ·obtain ⟨its,_,pl,_⟩:=I.list hq
   refine ⟨pl.isList.typeIs,λ a e=>?_⟩
   cases e
   obtain ⟨o,n,e,c,hd,_⟩:=pl
   exact ⟨o,e,hd⟩
  ·refine ⟨⟨o,I.kIn p o hk,hc⟩,λ a e=>?_⟩
   cases e
   exact ⟨o,I.kIn _ o hk,hd⟩
  ·have z:∃ o,s.heap.get? p=some o/\o.ExactDict:=by
    rcases hk with ⟨kvs,hk⟩|⟨kvs,hk⟩
    ·obtain ⟨_,_,_,_,o,_,_,e,ex,_⟩:=I.hok p _ hk
     exact ⟨o,e,ex⟩
    ·obtain ⟨_,_,_,_,o,_,_,e,ex,_⟩:=I.hok p _ hk
     exact ⟨o,e,ex⟩
   obtain ⟨o,e,ex⟩:=z
   refine ⟨⟨o,e,ex.1⟩,λ a e2=>?_⟩
   cases e2
   exact ⟨o,e,ex.2.1⟩
  ·obtain ⟨o,_,_,_,e,ex,_⟩:=I.hok p _ hk
   refine ⟨⟨o,e,ex.1⟩,λ a e2=>?_⟩
   cases e2
   exact ⟨o,e,ex.2.1⟩
|_=>exact False.elim ty
def tBM (K:Fg) (T:String) (r:V->List V->Hp->VK->Prop) (to:TE) (t:TA):TE:=λ σ H Q=>to σ H λ x H1=>tyV K T x H1/\t σ H1 λ xs H2=>r x xs H2 Q
variable {o e:Expr} {es:List Expr} {to:TE} {t:TA} {name:Str} {apos cpos:Pos} {T id:String} {r:V->List V->Hp->VK->Prop}
theorem pe_bm (pa:PlainAttrs T) (slot:Slot T name id) (hty:typeOf (.builtin id)=pure (.type "method_descriptor")) (hm:MtR X id r) (ho:PE X o to) (ha:PA X (e :: es) t)
  (hbase:attributeBase o name X.env (eval o X.env)=eval o X.env:=by rfl)
  (hfew:((backTo cpos (starEach (e :: es) X.env)).all (λ x=>!x.1) && (backToKw cpos (keywordEach [] X.env)).all (λ x=>x.1.isSome)
   && decide ((e :: es).length+([]:List Keyword).length+(if ([]:List Keyword).isEmpty then 0 else 1) < 30))=true:=by rfl)
  (hline:(apos.endLine == cpos.line)=true:=by rfl) (hs:starEach (e :: es) X.env=(false,eval e X.env) :: starEach es X.env:=by rfl) (hplain:(backTo cpos (starEach es X.env)).any (·.1)=false:=by rfl) :
  PE X (.Call (.Attribute o name apos) (e :: es) [] cpos) (tBM X.K T r to t):=by
 intro pins s σ H Q I h
 refine wpAny_Call_method_late hbase hfew hline rfl (thn (ho pins s σ H _ I h) λ v s1 ⟨x,H1,I1,r1,ty,q1⟩=>?_)
 obtain ⟨h1,h2⟩:=tyV_is I1 r1 ty
 refine ⟨T,id,pa,slot,hty,h1,h2,?_⟩
 have hA:=ha cpos pins s1 σ H1 _ I1 q1
 rw [hs] at hA ⊢
 refine Calls.callWith_builtin (by show (false || (backTo cpos (starEach es X.env)).any (·.1))=false;rw [hplain] <;> rfl) (Calls.evalArgs_plain ?_)
 exact thn hA λ us s2 ⟨vs,H2,I2,r2,q2⟩=>hm pins s2 σ H2 x vs v us Q I2 r1 r2 q2
end
def MtM (X:Cx) (id:String) (r:V->List V->Hp->VK->Prop):Prop :=
 ∀ (pins:List (Addr×Obj)) (s:Shared) (σ:St) (H:Hp) (x:V) (xs:List V) (v:Value) (us:List Value) (Q:VK),Inv X pins σ H s->RelV x v->Vals xs us->r x xs H Q ->
  wpAny (model X.prog X.w) X.A (call (.builtin id) (v :: us)) (EP X pins σ Q) X.xe s
theorem Vals.one:∀ {x:V} {us:List Value},Vals [x] us->∃ u,us=[u]/\RelV x u
|_,_,.cons r .nil=>⟨_,rfl,r⟩
theorem Vals.two:∀ {x y:V} {us:List Value},Vals [x,y] us->∃ u v,us=[u,v]/\RelV x u/\RelV y v
|_,_,_,.cons r (.cons q .nil)=>⟨_,_,rfl,r,q⟩
theorem Vals.rep {xs:List V} {us:List Value} (h:Vals xs us):∀ k:Nat,Vals (List.replicate k xs).flatten (List.replicate k us).flatten
|0=>.nil
|k+1=>by
  rw [List.replicate_succ,List.replicate_succ,List.flatten_cons,List.flatten_cons]
  exact Vals.append h (Vals.rep h k)
theorem zqg (its:List Value):∀ (k:Nat) (acc:List Value),
  List.foldl (λ x1 x2=>x1++x2) acc.toArray (List.replicate k its.toArray)=(acc++(List.replicate k its).flatten).toArray
|0,acc=>by simp
|k+1,acc=>by
  have e:acc.toArray++its.toArray=(acc++its).toArray:=by simp
  have e2:(acc++its)++(List.replicate k its).flatten=acc++(List.replicate (k+1) its).flatten:=by
   rw [List.replicate_succ,List.flatten_cons,List.append_assoc]
  rw [<- e2,<- zqg its k (acc++its),<- e,List.replicate_succ,List.foldl_cons]
section
variable {X:Cx} {pins:List (Addr×Obj)} {σ:St} {H:Hp} {s:Shared} {l b:Addr} {xs ys zs:List V}
theorem Inv.lset {its its':List Value} {n:Nat} {f:Array Value->Array Value} {t':Nat} (I:Inv X pins σ H s) (hH:H l=some (.lst xs))
  (e:s.heap.get? l=some { cls:=.type "list",data:=.seq its.toArray n }) (hf:f its.toArray=its'.toArray) (hv:Vals ys its') (hz:ys.length<=sizeLine) :
  Inv X pins σ (upd H l (.lst ys)) { s with heap:=s.heap.update l (Obj.mapSeq f),toks:=t' }:=by
 have q:=PySem.IsL.update e f
 rw [hf] at q
 refine I.write (x:=l) (e:=l) (by rw [hH];exact trivial) (.inl rfl) (λ b' u hb hu=>(Heap.get?_update_other s.heap (Obj.mapSeq f) (Ne.symm hb)).trans hu) ⟨_,q⟩ ?_
 exact ⟨hz,its',_,hv,q⟩
theorem Inv.lnew {its:List Value} {t':Nat} (I:Inv X pins σ H s) (hv:Vals ys its) (hz:ys.length<=sizeLine) :
  Inv X pins σ (upd H s.heap.objs.size (.lst ys)) { s with heap:=s.heap.push { cls:=.type "list",data:=.seq its.toArray },toks:=t' } :=
 I.laid (λ _ _ q=>Heap.get?_push_of_some _ q) (Nat.le_refl _) ⟨hz,its,0,hv,Heap.get?_push_size _ rfl⟩
theorem Inv.fresh (I:Inv X pins σ H s):H s.heap.objs.size=none:=I.hok.fresh (Nat.le_refl _)
theorem Inv.lstM (I:Inv X pins σ H s) (hH:H l=some (.lst xs)):xs.length<=sizeLine/\∃ (its:List Value) (n:Nat),Vals xs its/\xs.length=its.length/\s.heap.get? l=some { cls:=.type "list",data:=.seq its.toArray n }:=by
 obtain ⟨z,its,n,r,e⟩:=I.hok l _ hH
 exact ⟨z,its,n,r,r.length,e⟩
theorem zci {n:Nat} (h:n<=sizeLine):Builtin.List.listTooLong n=false:=by
 unfold Builtin.List.listTooLong
 exact decide_eq_false (by lia)
end
section
variable {X:Cx}
def zpn:V->List V->Hp->VK->Prop:=λ x vs H Q=>∃ l xs y,x=.ref l/\vs=[y]/\H l=some (.lst xs)/\xs.length < sizeLine/\Q .non (upd H l (.lst (xs++[y])))
theorem zdg:MtM X "list.append" zpn:=by
 intro pins s σ H x vs v us Q I rx rv h
 obtain ⟨l,xs,y,rfl,rfl,hH,hz,q⟩:=h
 cases rx
 obtain ⟨u,rfl,ru⟩:=rv.one
 obtain ⟨z,its,n,r,hl,e⟩:=I.lstM hH
 refine call_meets F.slot_list_append ⟨_,e,rfl⟩ F.entry_list_append (F.args_list_append_2 _ _) (PySem.list_append l its.toArray n u (by rw [List.size_toArray];lia)) ⟨e,?_⟩
 refine ⟨.non,_,I.lset (its':=its++[u]) hH e (by simp) (r.append (.cons ru .nil)) ?_,rfl,q⟩
 rw [List.length_append,List.length_singleton]
 lia
def zps:V->List V->Hp->VK->Prop:=λ x vs H Q=>∃ l b xs zs,x=.ref l/\vs=[.ref b]/\H l=some (.lst xs)/\H b=some (.lst zs)/\xs.length+zs.length<=sizeLine/\Q .non (upd H l (.lst (xs++zs)))
theorem zrt:MtM X "list.extend" zps:=by
 intro pins s σ H x vs v us Q I rx rv h
 obtain ⟨l,b,xs,zs,rfl,rfl,hH,hB,hz,q⟩:=h
 cases rx
 obtain ⟨u,rfl,ru⟩:=rv.one
 cases ru
 obtain ⟨z,its,n,r,hl,e⟩:=I.lstM hH
 obtain ⟨z2,its2,n2,r2,hl2,e2⟩:=I.lstM hB
 have hsz:its.toArray.size+its2.toArray.size<=sizeLine:=by rw [List.size_toArray,List.size_toArray];lia
 have hlong:¬ (!its.toArray.isEmpty && Builtin.List.listTooLong (its.toArray.size+its2.toArray.size))=true:=by
  rw [zci hsz,Bool.and_false]
  exact Bool.false_ne_true
 refine call_meets F.slot_list_extend ⟨_,e,rfl⟩ F.entry_list_extend (F.args_list_extend_2 _ _)
  (AutoSeq1.list_extend_list_list_0 l its.toArray n b its2.toArray n2 hlong (by rw [List.size_toArray];lia) (by lia)) ⟨e,e2,?_⟩
 refine ⟨.non,_,I.lset (its':=its++its2) hH e (by simp) (r.append r2) ?_,rfl,q⟩
 rw [List.length_append]
 lia
def rCat:R2:=λ x y H Q=>∃ l b xs zs,x=.ref l/\y=.ref b/\H l=some (.lst xs)/\H b=some (.lst zs)/\xs.length+zs.length<=sizeLine/\∀ p,H p=none->Q (.ref p) (upd H p (.lst (xs++zs)))
theorem op_cat:OpR X (binaryOp .Add) rCat:=by
 intro pins s σ H x y v u Q I rx ry h
 obtain ⟨l,b,xs,zs,rfl,rfl,hH,hB,hz,q⟩:=h
 cases rx
 cases ry
 obtain ⟨z,its,n,r,hl,e⟩:=I.lstM hH
 obtain ⟨z2,its2,n2,r2,hl2,e2⟩:=I.lstM hB
 refine PySem.P.add_list e e2 ?_ (by rw [List.size_toArray,List.size_toArray];lia)
 have ea:its.toArray++its2.toArray=(its++its2).toArray:=by simp
 rw [ea]
 exact ⟨.ref _,_,I.lnew (t':=s.toks) (r.append r2) (by rw [List.length_append];lia),rfl,q _ I.fresh⟩
def rRep:R2:=λ x y H Q=>∃ l k xs,x=.ref l/\y=.int k/\H l=some (.lst xs)/\-(2 ^ 63)<=k/\k < 2 ^ 63/\xs.length * k.toNat<=sizeLine /\
 ∀ p,H p=none->Q (.ref p) (upd H p (.lst (List.replicate k.toNat xs).flatten))
theorem zxr {α:Type} (xs:List α) (k:Nat):(List.replicate k xs).flatten.length=k * xs.length:=by
 induction k with
|zero=>simp
|succ k ih=>rw [List.replicate_succ,List.flatten_cons,List.length_append,ih,Nat.succ_mul,Nat.add_comm]
theorem op_rep:OpR X (binaryOp .Mult) rRep:=by
 intro pins s σ H x y v u Q I rx ry h
 obtain ⟨l,k,xs,rfl,rfl,hH,h1,h2,hz,q⟩:=h
 cases rx
 obtain ⟨t,rfl⟩:=ry
 obtain ⟨z,its,n,r,hl,e⟩:=I.lstM hH
 have hlen:its.toArray.size * k.toNat<=sizeLine:=by rw [List.size_toArray,<- hl];exact hz
 have hcap:¬ its.toArray.size * k.toNat > (2 ^ 63 - 1) / 8:=by
  have:(sizeLine:Nat)<=(2 ^ 63 - 1) / 8:=by decide
  lia
 have hfit:¬ (!Builtin.List.listFitsIndex k)=true:=by
  rw [fitsIndex_both h1 h2]
  exact Bool.false_ne_true
 have hlong:¬ Builtin.List.listTooLong (its.toArray.size * k.toNat)=true:=by
  rw [zci hlen]
  exact Bool.false_ne_true
 have hnew:List.foldl (λ x1 x2=>x1++x2) #[] (List.replicate (if its.toArray.isEmpty=true then 0 else k.toNat) its.toArray)=(List.replicate k.toNat its).flatten.toArray:=by
  have f0:∀ m:Nat,List.foldl (λ x1 x2=>x1++x2) #[] (List.replicate m its.toArray)=(List.replicate m its).flatten.toArray:=λ m=>by
   have:=zqg its m []
   rw [List.nil_append] at this
   exact this
  rw [f0]
  cases its with
 |nil=>simp
 |cons a r'=>rw [if_neg (by simp)]
 refine wpAny_binaryOp_repeat_ref (T := "list") (U := "int") (by decide) ⟨_,e,rfl⟩ (λ s'=>typeIs_int s' k t) noFill_list_mul F.fills_int_mul F.slot_int_rmul repeat_list F.slot_int_index.lookup
  (call_meets F.slot_int_rmul (typeIs_int s k t) F.entry_int_rmul (F.args_int_rmul_2 _ _) (int___rmul___int_list k t l its.toArray n)
   ⟨e,rfl,⟨_,e,rfl⟩,call_meets F.slot_list_mul ⟨_,e,rfl⟩ F.entry_list_mul (F.args_list_mul_2 _ _) (AutoListH.list___mul___list_int_3 l its.toArray n k t hfit hcap hlong) ⟨e,?_⟩⟩)
 rw [hnew]
 exact ⟨.ref _,_,I.lnew (t':=s.toks) (r.rep k.toNat) (by rw [zxr,Nat.mul_comm];exact hz),rfl,q _ I.fresh⟩
end
section
variable {prog:Program} {w:World} {A:Around} {E:Value->Shared->Prop} {s:Shared}
end
section
variable {X:Cx}
end
end L2
namespace Att
open PySem PySem.W PySem.Calls PyProof.Rows
theorem zqa {P:Params} {h:Heap}:∀ (ns:List Int) (vs:List Value),WellAll P h vs (ns.map WData.int)->IntsAre vs ns:=by
 intro ns
 induction ns with
|nil =>
  intro vs w
  rw [List.map_nil] at w
  cases w
  exact .nil
|cons n ns ih =>
  intro vs w
  rw [List.map_cons] at w
  cases w with
 |cons a b =>
   cases a
   exact .cons _ _ (ih _ b)
theorem ztl {l:OpenLaw} {n:Nat} (hn:l.most=some n) {P:Params} {h:Heap} {args:List WData} {vals:List Value}
  (hpre:l.row.toRowW.claim.pre args=true) (hwl:WellAll P h vals args) :
  ∃ a vs ns,vals=[Value.ref a]/\args=[WData.list (ns.map WData.int)]/\h.get? a=some { cls:=.type "list",data:=.seq vs.toArray }/\IntsAre vs ns/\ns.length<=n:=by
 have hsh:WShape.hasAll [] args [.list .int]=true:=(pre_splitW hpre).1
 have hc:l.pre.holds [] { args:=args }=true:=(pre_splitW hpre).2
 obtain ⟨d,r,rfl,h1,h2⟩:=hasAllW_cons hsh
 obtain rfl:=hasAllW_nil h2
 obtain ⟨xs,rfl,h3⟩:=hasW_list h1
 obtain ⟨ns,rfl⟩:=items_int h3
 have hlen:ns.length<=n:=by
  unfold OpenLaw.pre at hc
  have h4:(WTm.not (.lt (.lit (.int (n:Int))) (.len (.arg 0)))).holds [] { args:=[.list (ns.map .int)] }=true:=by
   have h4:=(holds_andW hc).1
   rw [hn] at h4
   exact h4
  have h5:=condW_of h4 (w_not (w_lt w_lit (w_len_list (w_arg rfl))))
  rw [List.length_map] at h5
  refine Nat.le_of_not_lt λ q=>?_
  have q':(n:Int) < ((ns.length:Nat):Int):=by lia
  first
  |(rw [decide_eq_true q'] at h5;exact absurd h5 (by decide))
  |(simp at h5;lia)
 cases hwl with
|cons w1 w2 =>
  cases w2
  cases w1 with
 |list ho hall=>exact ⟨_,_,ns,rfl,rfl,ho,zqa ns _ hall,hlen⟩
theorem zkk (l:OpenLaw) (args:List WData):l.row.toRowW.claim.post args (.bool true) args=true :=
 postW_of (r:=l.row.toRowW) (X:=(true == true))
  (show WShape.has [] (.bool true) .bool=true by first|rfl|decide|simp [WShape.has,WShape.arms,WShape.armsAll])
  (show (WTm.eq .res (.lit (.bool true))).value [] { args:=args,res:=some (.bool true),after:=args }=some (.bool (true == true)) from w_eq_bool (w_res rfl) w_lit) rfl
theorem attach_call {l:OpenLaw} {n:Nat} {q:Program} {loose:List Str} {XP:(Str->Option Value)->Heap->Prop} {YP:World->Heap->Prop} {d:DefRec}
  (hn:l.most=some n) (hdf:d.params.defaults=[])
  (call:∀ (w:World) (s₀ s₁:Shared) (mg mb:Str->Option Value) (fa:Addr) (o:Obj) (pm cd doc:Value) (a:Addr) (vs:List Value) (ns:List Int),
   Ground q loose [] XP w s₀ mg mb s₁.heap->YP w s₁.heap ->
   s₁.heap.get? fa=some o->o.data=.func (docDef d.name d.params d.body d.scope pm cd doc)->s₁.heap.CodeRec cd d.name->mg d.name=some (.ref fa) ->
   s₁.heap.get? a=some { cls:=.type "list",data:=.seq vs.toArray }->IntsAre vs ns->ns.length<=n->s₁.gens=#[] ->
   codeAny (model l.prog w) callerA (.call (.ref fa) ⟨[.ref a],[]⟩) (λ r s'=>r=.ok (.ret (.bool true))/\OldK s₁.heap s'.heap/\s'.os=s₁.os/\AllBare s'.gens) s₁) :
  WalkO q loose XP YP l.row.toRowW d [] (λ f vs=>PySem.call f vs):=by
 intro w s₀ s₁ mg mb G Y fa o pm cd doc dV kV ho hd hcd hD hmg hg args vals as hpre hlay hrd hwl hlo
 obtain rfl:dV=.none:=Dflts.none hD hdf
 obtain rfl:kV=.none:=Dflts.noKw hD
 obtain ⟨a,vs,ns,rfl,rfl,hobj,hints,hlen⟩:=ztl hn hpre hwl
 refine enter_call (codeAny_mono (call w s₀ s₁ mg mb fa o pm cd doc a vs ns G Y ho (fd_plain hd) hcd hmg hobj hints hlen hg) λ r s' hq=>?_)
 obtain ⟨rfl,h2,h3,h4⟩:=hq
 exact ⟨.inl ⟨.bool true,.bool true,[],rfl,λ _=>rfl,.bool true,zkk l _,λ _=>⟨List.Pairwise.nil,λ _ hm=>(nomatch hm)⟩⟩,h2,h3,h4⟩
section
variable {prog:Program} {w:World} {A:Around} {E:Value->Shared->Prop} {s:Shared} {K:Frag}
end
end Att
namespace L2
open PySem PySem.Spec PyProof.Rows
theorem zch:∀ {vs:List Value} {ns:List Int},IntsAre vs ns->Vals (ns.map V.int) vs
|_,_,.nil=>.nil
|_,_,.cons n t h=>.cons ⟨t,rfl⟩ (zch h)
def Only (H:Hp):Prop:=∀ b,H b=none \/ ∃ o xs,H b=some (.frz o (.lst xs))
theorem zcq {P:Program} {w:World} {K:Fg} {mg mb:Str->Option Value} {CX:CXT} {k:Nat} {fa a:Addr} {fd:FuncData} {x:Str} {sp:Sp} {s₁:Shared} {vs:List Value} {ns:List Int}
  (KX:K.In s₁.heap) (hns:s₁.heap.Ns mainGlobals mg) (hb:s₁.heap.Ns builtinsNs mb) (hbb:∀ x:Str,x ≠ "__name__"->mb x=bootBuiltins x) (hlim:s₁.heap.NoLimit) (hg:s₁.gens=#[])
  (ha:s₁.heap.get? a=some { cls:=.type "list",data:=.seq vs.toArray }) (hi:IntsAre vs ns) (hl:ns.length<=sizeLine) (hr:Room k callerA)
  (F:∀ base:Heap,K.In base->base.Ns mainGlobals mg->FnOk P w K mg base CX k fa fd [x] sp) (hbind:∀ (s:Shared) (u:Value),BindsTo s fd ⟨[u],[]⟩ [(x,u)])
  (hsp:∀ H:Hp,Only H->SqL K H a (ns.map V.int)->sp [.ref a] H (λ v _=>v=.bl true) λ _ _ _=>False)
  (hCX:∀ H e s',CX [] H s₁ (λ _ _ _=>False) e s'->False) :
  codeAny (model P w) callerA (.call (.ref fa) ⟨[.ref a],[]⟩) (λ r s'=>r=.ok (.ret (.bool true))/\OldK s₁.heap s'.heap/\s'.os=s₁.os/\AllBare s'.gens) s₁:=by
 have rv:=zch hi
 have lenV:=hi.length
 -- from an abstract heap in which nothing but the script may be tracked
 have core:∀ H:Hp,Only H->SqL K H a (ns.map V.int)->HOk P w H s₁.heap->(∀ b,H b≠none->b=a)->(H a≠none->K.lookup a=none) ->
   codeAny (model P w) callerA (.call (.ref fa) ⟨[.ref a],[]⟩) (λ r s'=>r=.ok (.ret (.bool true))/\OldK s₁.heap s'.heap/\s'.os=s₁.os/\AllBare s'.gens) s₁:=by
  intro H hO hS hok hA hK
  have base_of:∀ {b:Addr} {o:Obj},s₁.heap.get? b=some o->H b=none->(hidT s₁.heap H).get? b=some o:=λ e n=>zlo e n
  have noA:∀ {b:Addr} {o:Obj} {es:Array DictEntry} {ep:Nat},s₁.heap.get? b=some o->o.data=.dict es ep->H b=none:=λ {b o es ep} e d=>by
   cases q:H b with
  |none=>rfl
  |some u =>
    have e':b=a:=hA b (by rw [q];simp)
    subst e'
    rw [ha] at e;cases e
    have d':Data.seq vs.toArray _=Data.dict es ep:=d
    cases d'
  have nsK:∀ {b:Addr} {m:Str->Option Value},s₁.heap.Ns b m->(hidT s₁.heap H).Ns b m:=λ {b m} ⟨o,es,ep,e,d,r⟩=>⟨o,es,ep,base_of e (noA e d),d,r⟩
  have hKb:K.In (hidT s₁.heap H):=λ b o e=>base_of (KX b o e) (by
   cases q:H b with
  |none=>rfl
  |some u =>
    have e':b=a:=hA b (by rw [q];simp)
    subst e'
    rw [hK (by rw [q];simp)] at e;cases e)
  have hM:Mod K mg (hidT s₁.heap H):=⟨hKb,nsK hns,⟨mb,nsK hb,hbb⟩,let ⟨mc,h1,h2⟩:=hlim;⟨mc,nsK h1,h2⟩⟩
  have e0:Env0 P w K mg (hidT s₁.heap H) callerA [] s₁ H:=⟨rfl,hM,λ b o e=>zer e,Nat.le_of_eq (zrk _ _),trivial,λ b hb=>absurd (show b∈([]:List Addr) from hb) (by simp),hok,.of_eq hg⟩
  refine codeAny_mono ((F _ hKb (nsK hns)).run callerA [] s₁ H ⟨[.ref a],[]⟩ [.ref a] [.ref a] _ _ hr e0 (hbind s₁ (.ref a)) (.cons rfl .nil) (hsp H hO hS)) λ r s' h=>?_
  cases r with
 |error e=>exact (hCX H e s' h).elim
 |ok fl =>
   cases fl with
  |next=>exact False.elim h
  |brk=>exact False.elim h
  |cont=>exact False.elim h
  |ret u =>
    obtain ⟨v,H',os,bare,un,hok',r',q⟩:=h
    have q':v=.bl true:=q
    subst q'
    obtain rfl:u=Value.bool true:=r'
    refine ⟨rfl,OldK.of_keep λ b o e=>?_,os,bare⟩
    cases q:H b with
   |none=>exact un.keep b o e q (by intro z;exact absurd (show b∈([]:List Addr) from z) (by simp)) (by simp)
   |some u =>
     rcases hO b with z|⟨ob,xs,z⟩
     ·rw [q] at z;cases z
     ·have z2:=un.frzs b ob _ z
      obtain ⟨e1,_⟩:=hok b _ z
      obtain ⟨e2,_⟩:=hok' b _ z2
      rw [e] at e1;cases e1
      exact e2
 cases hk:K.lookup a with
|some o =>
  -- the script is one of the module's own objects
  have e:=KX a o hk
  rw [ha] at e
  cases e
  refine core (λ _=>none) (λ _=>.inl rfl) (.inr ⟨_,vs.toArray,_,hk,rfl,rfl,rfl,by rw [List.size_toArray,lenV];exact hl,by simpa using rv⟩) (λ b u z=>by have z':(none:Option HO)=some u:=z;cases z') (λ b z=>absurd rfl z) λ z=>absurd rfl z
|none =>
  refine core (λ b=>if b=a then some (.frz { cls:=.type "list",data:=.seq vs.toArray } (.lst (ns.map V.int))) else none) (λ b=>?_) (.inl (.inr ⟨{ cls:=.type "list",data:=.seq vs.toArray },if_pos rfl⟩)) (λ b u z=>?_) (λ b z=>?_) λ _=>hk
  ·by_cases hb:b=a
   ·exact .inr ⟨_,_,if_pos hb⟩
   ·exact .inl (if_neg hb)
  ·by_cases hb:b=a
   ·have z':=(if_pos hb).symm.trans z
    cases z'
    subst hb
    exact ⟨ha,by rw [List.length_map];exact hl,vs,_,rv,ha⟩
   ·have z':=(if_neg hb).symm.trans z
    cases z'
  ·by_cases hb:b=a
   ·exact hb
   ·exact absurd (if_neg hb) z
theorem walk_of {l:PySem.W.OpenLaw} {n k:Nat} {q:Program} {loose:List Str} {XP:(Str->Option Value)->Heap->Prop} {YP:World->Heap->Prop} {d:DefRec} {K:Params->Fg} {CX:World->CXT} {sp:World->Sp} {x:Str}
  (hn:l.most=some n) (hn2:n<=sizeLine) (hdf:d.params.defaults=[]) (hr:Room k callerA)
  (hY:∀ (w:World) (h:Heap),YP w h->(K w.params).In h)
  (F:∀ (w:World) (mg:Str->Option Value) (fa:Addr) (h:Heap),(K w.params).In h->h.Ns mainGlobals mg->mg d.name=some (.ref fa) ->
   ∃ fd:FuncData,(∀ (s:Shared) (u:Value),BindsTo s fd ⟨[u],[]⟩ [(x,u)]) /\
    ∀ base:Heap,(K w.params).In base->base.Ns mainGlobals mg->FnOk l.prog w (K w.params) mg base (CX w) k fa fd [x] (sp w))
  (hsp:∀ (w:World) (H:Hp) (a:Addr) (ns:List Int),ns.length<=n->Only H->SqL (K w.params) H a (ns.map V.int)->sp w [.ref a] H (λ v _=>v=.bl true) λ _ _ _=>False)
  (hCX:∀ (w:World) (H:Hp) (s:Shared) (e:Value) (s':Shared),CX w [] H s (λ _ _ _=>False) e s'->False) :
  PySem.W.WalkO q loose XP YP l.row.toRowW d [] (λ f vs=>PySem.call f vs):=by
 refine Att.attach_call hn hdf λ w s₀ s₁ mg mb fa o pm cd doc a vs ns G Y ho hd hcd hmg hobj hints hlen hg=>?_
 have KX:=hY w _ Y
 obtain ⟨fd,hb,hF⟩:=F w mg fa _ KX G.T.g hmg
 exact zcq KX G.T.g G.T.b G.T.builtins G.T.nolimit hg hobj hints (Nat.le_trans hlen hn2) hr hF hb (λ H hO hS=>hsp w H a ns hlen hO hS) λ H e s'=>hCX w H s₁ e s'
def zf2 (s:Stmt) (j:Nat):Stmt:=match s with
|.ClassDef _ _ _ body _ _ _ _ _ _ _=>body.getD j (.Pass ⟨0,0,0,0⟩)
|_=>.Pass ⟨0,0,0,0⟩
def zn5 (s:Stmt):Arguments:=match s with
|.FunctionDef _ a _ _ _ _ _ _ _ _=>a
|_=>{ posonlyargs:=[],args:=[],vararg:=none,kwonlyargs:=[],kw_defaults:=[],kwarg:=none,defaults:=[] }
def zr1 (s:Stmt):List Stmt:=match s with
|.FunctionDef _ _ b _ _ _ _ _ _ _=>b
|_=>[]
def zf0 (s:Stmt):Scope:=match s with
|.FunctionDef _ _ _ _ _ _ sc _ _ _=>sc
|_=>{ kind:=.function,names:=[],isGenerator:=false,isCoroutine:=false }
abbrev CX0:CXT:=λ _ _ _ _ _ _=>False
abbrev E0:XK:=λ _ _ _=>False
theorem pass0 {X:Cx}:Passes CX0 X E0:=λ _ _ _ _ _ _ _ h=>h.elim
structure Fun (K:Fg) (x qual:Str) (st:Stmt) (f:Addr) (fd:FuncData):Prop where
 ex:∃ (oc:Value) (od:Option Addr) (kV doc pm:Value) (an:Option Addr) (cdv ct:Value) (osl:Array (Option Value)),
  fd=PySem.W.fnOf x qual (zn5 st) (zr1 st) (zf0 st) .none kV doc pm an cdv ct/\K.lookup f=some ⟨oc,od,.func fd,osl⟩/\PySem.W.codeIn K cdv qual=true
 kp:PySem.W.keepIn K (.ref f)=true
section
variable {P:Program} {w:World} {K:Fg} {mg:Str->Option Value} {base:Heap}
theorem Fun.ok {x qual:Str} {st:Stmt} {f:Addr} {fd:FuncData} {N ps:List Str} {k:Nat} {sp:Sp} (F:Fun K x qual st f fd) (S:FnScope N ps (zf0 st)) (len:∀ vs H Q E,sp vs H Q E->vs.length=ps.length)
  (hbody:∀ (cdv:Value) (A:Around) (outer:List Env) (s:Shared) (H:Hp) (vs:List V) (Q:VK) (E:XK),Room k (A.deeper (envOfC qual (zf0 st) s.heap.objs.size f cdv))->sp vs H Q E ->
   ∃ t,PSs (cxOf CX0 P w K mg base N qual (zf0 st) f cdv A outer s H E).nox (zr1 st) t/\t { nx:=λ _ H'=>Q .non H',rt:=Q } (start N vs) H):FnOk P w K mg base CX0 (k+1) f fd ps sp:=by
 obtain ⟨oc,od,kV,doc,pm,an,cdv,ct,osl,rfl,lk,hcd⟩:=F.ex
 refine fn_of lk hcd S len λ A outer s H vs Q E hr hsp=>?_
 obtain ⟨t,h,q⟩:=hbody cdv A outer s H vs Q E hr hsp
 exact ⟨t,h.nox,q⟩
theorem Fun.binds {x qual:Str} {st:Stmt} {f:Addr} {fd:FuncData} {ps:List Str} (F:Fun K x qual st f fd)
  (h:∀ (kV doc pm:Value) (an:Option Addr) (cdv ct:Value) (us:List Value),us.length=ps.length->bindArgs (PySem.W.fnOf x qual (zn5 st) (zr1 st) (zf0 st) .none kV doc pm an cdv ct) ⟨us,[]⟩=pure (ps.zip us)):Binds K fd ps []:=by
 obtain ⟨oc,od,kV,doc,pm,an,cdv,ct,osl,rfl,lk,hcd⟩:=F.ex
 exact .all (h kV doc pm an cdv ct)
theorem fun_mk {x qual:Str} {st:Stmt} {f:Addr} {oc:Value} {od an:Option Addr} {osl:Array (Option Value)} {kV doc pm cdv ct:Value} (l:K.lookup f=some ⟨oc,od,.func (PySem.W.fnOf x qual (zn5 st) (zr1 st) (zf0 st) .none kV doc pm an cdv ct),osl⟩)
  (c:PySem.W.codeIn K cdv qual=true) (k:PySem.W.keepIn K (.ref f)=true):Fun K x qual st f (PySem.W.fnOf x qual (zn5 st) (zr1 st) (zf0 st) .none kV doc pm an cdv ct):=⟨⟨oc,od,kV,doc,pm,an,cdv,ct,osl,rfl,l,c⟩,k⟩
end
section
variable {X:Cx}
theorem pv (i:Nat) {x:Str} {pos:Pos} (hN:X.N[i]?=some x:=by rfl) (hv:Vis X.env.scope x:=by first|exact Or.inl rfl|exact Or.inr (Or.inl rfl)|exact Or.inr (Or.inr rfl)) (hd:(x == ("__debug__":Str))=false:=by decide)
  (hcd:(x == ("__classdict__":Str))=false:=by decide):PE X (.Name x pos) (tVar i):=pe_var hN hv hd hcd
end
def Same (H H':Hp):Prop:=∀ b o,H b=some o->H' b=some o
theorem Same.trans {H H1 H2:Hp} (a:Same H H1) (b:Same H1 H2):Same H H2:=λ c o h=>b c o (a c o h)
theorem Same.seq {K:Fg} {H H':Hp} {a:Addr} {xs:List V} (e:Same H H') (h:SqL K H a xs):SqL K H' a xs:=by
 rcases h with (h|⟨o,h⟩)|h
 ·exact .inl (.inl (e _ _ h))
 ·exact .inl (.inr ⟨o,e _ _ h⟩)
 ·exact .inr h
end L2
namespace L3
open PySem PySem.Spec PyProof.Rows L2
abbrev St:=L2.St
def closeL (env:Env):List (Str×NameKind)->List (Str×Addr)->List (Str×Addr)
|[],cs=>cs
|(n,k) :: r,cs=>closeL env r (if k == .free then (match env.cells.lookup n with|some c=>(n,c) :: cs|none=>cs) else cs)
theorem zy7 {env:Env}:∀ (names:List (Str×NameKind)) (cs:List (Str×Addr)),(∀ y∈names,y.2=.free->∃ c,env.cells.lookup y.1=some c) ->
  (forIn names cs (λ (x:Str×NameKind) (r:List (Str×Addr))=>(match x with|(name,kind)=>if kind == .free then do let c <- cellOf env name;pure (ForInStep.yield ((name,c) :: r)) else pure (ForInStep.yield r):Sem (ForInStep (List (Str×Addr))))):Sem (List (Str×Addr)))=pure (closeL env names cs)
|[],cs,_=>rfl
|(n,k) :: r,cs,h=>by
  rw [List.forIn_cons]
  by_cases hk:k=.free
  ·subst hk
   obtain ⟨c,hc⟩:=h (n,.free) List.mem_cons_self rfl
   have hc':env.cells.lookup n=some c:=hc
   have e1:cellOf env n=pure c:=by unfold cellOf;rw [hc']
   simp only [beq_self_eq_true,if_true,e1]
   have:=zy7 r ((n,c) :: cs) λ y hy=>h y (List.mem_cons_of_mem _ hy)
   unfold closeL
   simp only [beq_self_eq_true,if_true,hc']
   exact this
  ·have hb:(k == NameKind.free)=false:=by simpa using hk
   simp only [hb,Bool.false_eq_true,if_false]
   have:=zy7 r cs λ y hy=>h y (List.mem_cons_of_mem _ hy)
   unfold closeL
   simp only [hb,Bool.false_eq_true,if_false]
   exact this
theorem zid {env:Env} {scope:Scope} (h:∀ y∈scope.names,y.2=.free->∃ c,env.cells.lookup y.1=some c):closureFor scope env=pure (closeL env scope.names []):=by
 unfold closureFor
 show (forIn scope.names [] _ >>= λ cs=>pure cs)=_
 rw [zy7 scope.names [] h]
 rfl
theorem zuc {env:Env} {x:Str} {c:Addr}:∀ (names:List (Str×NameKind)) (cs:List (Str×Addr)),(∀ x c,cs.lookup x=some c->env.cells.lookup x=some c)->(closeL env names cs).lookup x=some c->env.cells.lookup x=some c
|[],cs,h,e=>h x c e
|(n,k) :: r,cs,h,e=>by
  unfold closeL at e
  refine zuc r _ (λ y d q=>?_) e
  split at q
  ·split at q
   ·rename_i c' hc'
    rw [List.lookup_cons] at q
    split at q
    ·rename_i hy
     cases q
     rw [beq_iff_eq.mp hy];exact hc'
    ·exact h y d q
   ·exact h y d q
  ·exact h y d q
theorem zbb {env:Env} {x:Str}:∀ (names:List (Str×NameKind)) (cs:List (Str×Addr)),(∃ c,cs.lookup x=some c)->∃ c,(closeL env names cs).lookup x=some c
|[],cs,h=>h
|(n,k) :: r,cs,⟨c,h⟩=>by
  unfold closeL
  refine zbb r _ ?_
  split
  ·split
   ·rename_i c' hc'
    rw [List.lookup_cons]
    split
    ·exact ⟨_,rfl⟩
    ·exact ⟨c,h⟩
   ·exact ⟨c,h⟩
  ·exact ⟨c,h⟩
theorem zn8 {env:Env} {x:Str}:∀ (names:List (Str×NameKind)) (cs:List (Str×Addr)),(x,NameKind.free)∈names->(∃ c,env.cells.lookup x=some c)->∃ c,(closeL env names cs).lookup x=some c
|[],cs,h,_=>nomatch h
|(n,k) :: r,cs,h,⟨c,hc⟩=>by
  rcases List.mem_cons.mp h with e|h
  ·cases e
   unfold closeL
   simp only [beq_self_eq_true,if_true,hc]
   exact zbb r _ ⟨c,by simp [List.lookup_cons]⟩
  ·unfold closeL
   exact zn8 r _ h ⟨c,hc⟩
section
variable {prog:Program} {w:World} {A:Around} {R:Result->Shared->Prop} {s:Shared}
theorem ztf {elt target iter:Expr} {ifs:List Expr} {scope:Scope} {pos:Pos} {it acc:Value} {env:Env} (I:Nat->Shared->Prop)
  (turn:∀ n s,I n s->wpAny (model prog w) A (pyNext it) (λ r s₁=>match r with
  |none=>R (.ok .next) s₁
  |some v=>wpAny (model prog w) A (letOwnedTupleGo target it v) (λ _ s₁'=>wpAny (model prog w) A (assign target env v) (λ _ s₂ =>
     wpAny (model prog w) A (forIn ifs true λ c r=>if r=true then do let ok <- isTrue c env (eval c env);pure (ForInStep.yield ok) else pure (ForInStep.yield r)) (λ ok s₃ =>
      if ok=true then wpAny (model prog w) A (eval elt env) (λ x s₄ =>
       wpAny (model prog w) A (call (.builtin "list.append") [acc,x]) (λ _ s₅=>∃ m,m < n/\I m s₅) (notedBy (model prog w) A env λ e s'=>R (.error e) s') s₄) (notedBy (model prog w) A env λ e s'=>R (.error e) s') s₃
      else ∃ m,m < n/\I m s₃) (notedBy (model prog w) A env λ e s'=>R (.error e) s') s₂) (notedBy (model prog w) A env λ e s'=>R (.error e) s') s₁') (notedBy (model prog w) A env λ e s'=>R (.error e) s') s₁) (notedBy (model prog w) A env λ e s'=>R (.error e) s') s)
  (n:Nat) (h:I n s) :
  codeAny (model prog w) A (.compLoop (.ListComp elt [⟨target,iter,ifs,0⟩] scope pos) 0 it acc env) R s:=by
 refine codeAny_loop rfl I (λ n s hI=>?_) n h
 show wpAny _ A ((compTurn (.ListComp elt [⟨target,iter,ifs,0⟩] scope pos) 0 it acc env).onRaise (λ x=>do noteFrame x env;theTreesLotGoes x)) _ _ s
 refine wpAny_noted ?_
 rw [compTurn_list]
 refine wpAny_bind (wpAny_standAt (wpAny_bind (wpAny_mono (turn n s hI) (λ r s₁ h₁=>?_) λ _ _ h'=>h')))
 cases r with
|none=>exact wpAny_pure h₁
|some v =>
  refine wpAny_bind (wpAny_mono h₁ (λ _ s₁' h₁'=>?_) λ _ _ h'=>h')
  refine wpAny_bind (wpAny_mono h₁' (λ _ s₂ h₂=>wpAny_bind (wpAny_mono h₂ (λ ok s₃ h₃=>?_) λ _ _ h'=>h')) λ _ _ h'=>h')
  cases ok with
 |false=>exact wpAny_pure ⟨rfl,h₃⟩
 |true =>
   exact wpAny_bind (wpAny_bind (wpAny_mono h₃ (λ x s₄ h₄=>wpAny_bind (wpAny_mono h₄ (λ _ s₅ h₅=>wpAny_pure (wpAny_pure ⟨rfl,h₅⟩)) λ _ _ h'=>h')) λ _ _ h'=>h'))
end
def compCx (X:Cx) (scope:Scope) (N:List Str) (s₀:Shared) (H₀:Hp) (C:Addr) (fp:List Addr):Cx where
 prog:=X.prog
 w:=X.w
 K:=X.K
 mg:=X.mg
 base:=X.base
 A:=X.A
 N:=N
 s₀:=s₀
 H₀:=H₀
 env:=compEnvC scope (closeL X.env scope.names []) C X.env
 outer:=X.stack
 stack:=X.stack
 ex:=fp
 fn:=λ _=>false
 calm:=X.calm
 pn:=[]
 xe:=λ _ _=>False
def compN (N:List Str) (own:List Str) (ix:List Nat):List Str:=own++ix.map λ i=>N.getD i ""
def compσ (n:Nat) (ix:List Nat) (σ:St):St:=List.replicate n none++ix.map λ i=>σ.getD i none
structure CompSc (sc:Scope) (N own:List Str) (ix:List Nat) (scope:Scope):Prop where
 kind:scope.kind=.function
 cell:∀ y∈scope.names,y.2≠.cell
 names:∀ y∈scope.names,y.2=.local->scope.names.lookup y.1=some .local
 free:∀ y∈scope.names,y.2=.free->sc.names.lookup y.1=some .cell \/ sc.names.lookup y.1=some .free
 caps:∀ i∈ix,i < N.length/\scope.names.lookup (N.getD i "")≠some .local
theorem zc9 {env : Env} {x : Str} : ∀ (names : List (Str × NameKind)), (∀ y ∈ names, y.2 ≠ .cell) →
    ((names.map fun (n, k) => if (k == NameKind.free && env.scope.kind == .function && env.kindOf n == some .cell) then (n, NameKind.cell) else (n, k)).lookup x = some .cell ∨
     (names.map fun (n, k) => if (k == NameKind.free && env.scope.kind == .function && env.kindOf n == some .cell) then (n, NameKind.cell) else (n, k)).lookup x = some .free) → names.lookup x = some .free
  | [], _, h => by rcases h with h | h <;> cases h
  | (n, k) :: r, hc, h => by
    have ih := zc9 (env := env) (x := x) r fun y hy => hc y (List.mem_cons_of_mem _ hy)
    have hk : k ≠ .cell := hc (n, k) List.mem_cons_self
    rw [List.map_cons] at h
    by_cases hx : (x == n) = true
    · rw [List.lookup_cons, hx]
      dsimp only at h ⊢
      by_cases hcc : (k == NameKind.free && env.scope.kind == .function && env.kindOf n == some .cell) = true
      · have : k = .free := by
          have := (Bool.and_eq_true_iff.mp (Bool.and_eq_true_iff.mp hcc).1).1
          exact beq_iff_eq.mp this
        rw [this]
      · rw [if_neg hcc, List.lookup_cons, hx] at h
        dsimp only at h
        rcases h with h | h
        · exact absurd (Option.some.inj h) hk
        · exact h
    · have hx' : (x == n) = false := by simpa using hx
      rw [List.lookup_cons, hx']
      refine ih ?_
      by_cases hcc : (k == NameKind.free && env.scope.kind == .function && env.kindOf n == some .cell) = true
      · simp only [hcc, if_true] at h
        rw [List.lookup_cons, hx'] at h
        exact h
      · simp only [hcc, Bool.false_eq_true, if_false] at h
        rw [List.lookup_cons, hx'] at h
        exact h
section
variable {X:Cx} {pins:List (Addr×Obj)} {σ:St} {H H':Hp} {s:Shared}
theorem zvo {scope:Scope} {own:List Str} {ix:List Nat} {fp:List Addr} {h₁:Heap} {m:Str->Option Value} {t':Nat} (I:Inv X pins σ H s) (S:CompSc X.env.scope X.N own ix scope)
  (hns:h₁.Ns s.heap.objs.size m) (k:∀ b o,s.heap.get? b=some o->h₁.get? b=some o) (hf:∀ b∈fp,FpOk X pins H b) (hfo:∀ b∈fp,b < s.heap.objs.size) :
  Inv (compCx X scope (compN X.N own ix) s H s.heap.objs.size fp) [] (compσ own.length ix σ) H { s with heap:=h₁,toks:=t' }:=by
 have hcl:∀ x c,(closeL X.env scope.names []).lookup x=some c->X.env.cells.lookup x=some c:=λ x c e=>zuc scope.names [] (λ _ _ q=>by cases q) e
 have hfree:∀ x,((relabel scope X.env).names.lookup x=some .cell \/ (relabel scope X.env).names.lookup x=some .free)->scope.names.lookup x=some .free:=λ x hx=>zc9 scope.names S.cell hx
 have hX:∀ x,scope.names.lookup x=some .free->X.env.kindOf x=some .cell \/ X.env.kindOf x=some .free:=λ x hx=>S.free (x,.free) (PySem.mem_of_lookup hx) rfl
 refine ⟨⟨I.ok.mod,S.kind,I.ok.glob,I.ok.blt,Nat.le_refl _,λ x y c e1 e2=>I.ok.inj x y c (hcl x c e1) (hcl y c e2),λ x hx=>?_,λ x c z=>(by cases z),I.ok.hd,I.ok.frames,.inl rfl,λ b hb=>?_,I.bs,Nat.le_trans I.ok.bsz I.sz,λ b o e hb=>?_,λ b hb hs=>?_,I.stack,I.stkFree⟩,
  rfl,I.bare,Un.kept k,⟨m,hns,λ i x v e1 e2 e3=>?_⟩,λ x c e=>?_,I.hok.fresh (Nat.le_refl _),λ x c e=>I.freeC x c (hcl x c e),λ p hp=>absurd (show p∈([]:List (Addr×Obj)) from hp) (by simp),I.hok.kept k,?_⟩
 ·have hx1:=hfree x hx
  exact zn8 scope.names [] (PySem.mem_of_lookup hx1) (I.ok.has x (hX x hx1))
 ·exact ⟨Nat.ne_of_lt (hfo b hb),λ x c e=>(hf b hb).2.2.2.2.1 x c (hcl x c e)⟩
 ·rcases (hf b hb).2.2.2.1 with z|z
  ·exact I.ok.noex b o e z
  ·exact absurd (Nat.lt_of_lt_of_le (Heap.lt_size e) (Nat.le_trans I.ok.bsz z)) (Nat.lt_irrefl _)
 ·rcases List.mem_cons.mp (I.stkSub b hs) with z|z
  ·exact (hf b hb).2.1 z
  ·exact (hf b hb).2.2.1 z
 ·-- a captured name
  have e2':(List.replicate own.length (none:Option V)++ix.map λ i=>σ.getD i none)[i]?=some (some v):=e2
  have e1':(own++ix.map λ i=>X.N.getD i "")[i]?=some x:=e1
  by_cases hi:i < own.length
  ·rw [List.getElem?_append_left (by simpa using hi),List.getElem?_replicate] at e2'
   split at e2' <;> cases e2'
  ·have hi':own.length<=i:=Nat.le_of_not_lt hi
   rw [List.getElem?_append_right (by simpa using hi'),List.length_replicate,List.getElem?_map] at e2'
   rw [List.getElem?_append_right hi',List.getElem?_map] at e1'
   cases hq:ix[i - own.length]? with
  |none=>rw [hq] at e2';cases e2'
  |some q =>
    rw [hq] at e1' e2'
    have ex:X.N.getD q ""=x:=Option.some.inj e1'
    have ev:σ.getD q none=some v:=Option.some.inj e2'
    obtain ⟨hql,hnl⟩:=S.caps q (List.mem_of_getElem? hq)
    rw [ex] at hnl
    have e3':(relabel scope X.env).names.lookup x=some .local \/ (relabel scope X.env).names.lookup x=some .cell \/ (relabel scope X.env).names.lookup x=some .free:=e3
    have hcf:(relabel scope X.env).names.lookup x=some .cell \/ (relabel scope X.env).names.lookup x=some .free:=by
     rcases e3' with z|z
     ·exfalso
      cases hs:scope.names.lookup x with
     |none =>
       have:∀ (names:List (Str×NameKind)),names.lookup x=none->(names.map λ (n,k)=>if (k == NameKind.free && X.env.scope.kind == .function && X.env.kindOf n == some .cell) then (n,NameKind.cell) else (n,k)).lookup x=none:=by
        intro names
        induction names with
       |nil=>intro _;rfl
       |cons y r ih =>
         obtain ⟨n,kk⟩:=y
         intro hh
         rw [List.lookup_cons] at hh
         by_cases hxn:(x == n)=true
         ·rw [hxn] at hh;cases hh
         ·have hx':(x == n)=false:=by simpa using hxn
          rw [hx'] at hh
          rw [List.map_cons]
          by_cases hcc:(kk == NameKind.free && X.env.scope.kind == .function && X.env.kindOf n == some .cell)=true
          ·simp only [hcc,if_true];rw [List.lookup_cons,hx'];exact ih hh
          ·simp only [hcc,Bool.false_eq_true,if_false];rw [List.lookup_cons,hx'];exact ih hh
       have q0:=this scope.names hs
       have z':(scope.names.map λ (n,k)=>if (k == NameKind.free && X.env.scope.kind == .function && X.env.kindOf n == some .cell) then (n,NameKind.cell) else (n,k)).lookup x=some .local:=z
       rw [q0] at z';cases z'
     |some kk =>
       have:∀ (names:List (Str×NameKind)),names.lookup x=some kk->(names.map λ (n,k)=>if (k == NameKind.free && X.env.scope.kind == .function && X.env.kindOf n == some .cell) then (n,NameKind.cell) else (n,k)).lookup x=some .local->kk=.local:=by
        intro names
        induction names with
       |nil=>intro h;cases h
       |cons y r ih =>
         obtain ⟨n,k2⟩:=y
         intro hh hz
         rw [List.lookup_cons] at hh
         rw [List.map_cons] at hz
         by_cases hxn:(x == n)=true
         ·rw [hxn] at hh
          have hk2:k2=kk:=Option.some.inj hh
          by_cases hcc:(k2 == NameKind.free && X.env.scope.kind == .function && X.env.kindOf n == some .cell)=true
          ·simp only [hcc,if_true] at hz;rw [List.lookup_cons,hxn] at hz;cases hz
          ·simp only [hcc,Bool.false_eq_true,if_false] at hz;rw [List.lookup_cons,hxn] at hz
           rw [<- hk2];exact Option.some.inj hz
         ·have hx':(x == n)=false:=by simpa using hxn
          rw [hx'] at hh
          by_cases hcc:(k2 == NameKind.free && X.env.scope.kind == .function && X.env.kindOf n == some .cell)=true
          ·simp only [hcc,if_true] at hz;rw [List.lookup_cons,hx'] at hz;exact ih hh hz
          ·simp only [hcc,Bool.false_eq_true,if_false] at hz;rw [List.lookup_cons,hx'] at hz;exact ih hh hz
       have:=this scope.names hs z
       rw [this] at hs
       exact hnl hs
     ·exact z
    have hfr:=hfree x hcf
    have hkX:=hX x hfr
    obtain ⟨mX,hnX,hlX⟩:=I.loc
    have eN:X.N[q]?=some x:=by
     rw [<- ex,List.getD_eq_getElem?_getD]
     rw [List.getElem?_eq_getElem hql];rfl
    have eσ:σ[q]?=some (some v):=by
     rw [List.getD_eq_getElem?_getD] at ev
     cases hs:σ[q]? with
    |none=>rw [hs] at ev;cases ev
    |some o=>rw [hs] at ev;exact congrArg some ev
    obtain ⟨u,r,l⟩:=hlX q x v eN eσ (.inr hkX)
    refine ⟨u,r,.inr ⟨hcf,?_⟩⟩
    rcases l with ⟨hk,_⟩|⟨_,c,ec,hcell⟩
    ·exfalso
     rcases hkX with z|z
     ·rw [hk] at z;cases z
     ·rw [hk] at z;cases z
    ·obtain ⟨c',ec'⟩:=zn8 scope.names [] (PySem.mem_of_lookup hfr) ⟨c,ec⟩
     have:=hcl x c' ec'
     rw [ec] at this
     cases this
     exact ⟨c,ec',hcell.keeps k⟩
 ·obtain ⟨v,z⟩:=I.cell x c (hcl x c e)
  exact ⟨v,z.keeps k⟩
 ·show (compσ own.length ix σ).length=(compN X.N own ix).length
  unfold compσ compN
  simp
theorem zej {scope:Scope} {N:List Str} {pins':List (Addr×Obj)} {σ':St} {fp:List Addr} {s':Shared} {h'':Heap} (I:Inv X pins σ H s) (hf:∀ b∈fp,FpOk X pins H b)
  (I':Inv (compCx X scope N s H s.heap.objs.size fp) pins' σ' H' s') (sb:Heap.SameBut s.heap.objs.size s'.heap h''):Inv X pins σ H' { s' with heap:=h'' }:=by
 have ext:∀ b o,b≠s.heap.objs.size->s'.heap.get? b=some o->h''.get? b=some o:=λ b o nb e=>by rw [sb.2 b nb];exact e
 have old:∀ b o,s.heap.get? b=some o->b≠s.heap.objs.size:=λ b o e=>Nat.ne_of_lt (Heap.lt_size e)
 have u:=I'.base
 refine I.call' (ch:=fp) I'.os ⟨λ b o e n hb hx=>ext b o (old b o e) (u.keep b o e n hb hx),λ b o e n hb hx=>?_,u.free,λ b o e hx=>?_,u.tups,u.frzs,u.tbls⟩ (λ b ob e=>?_) I'.bare λ b hb=>⟨(hf b hb).2.2.2.1,(hf b hb).2.1,(hf b hb).2.2.2.2.1,(hf b hb).2.2.2.2.2⟩
 ·obtain ⟨sl,q⟩:=u.slot b o e n hb hx
  exact ⟨sl,ext b _ (old b o e) q⟩
 ·obtain ⟨o',q⟩:=u.there b o e hx
  exact ⟨o',ext b _ (old b o e) q⟩
 ·have nC:∀ c v,H' c=some v->c≠s.heap.objs.size:=λ c v q z=>by
   have:=I'.free
   rw [z] at q
   have z2:H' s.heap.objs.size=none:=this
   rw [z2] at q;cases q
  refine (I'.hok b ob e).stay (λ c v hc q=>ext c v ?_ q) (λ _ q=>q) λ _ _ q=>q
  rcases hc with z|z
  ·rw [z];exact nC b ob e
  ·exact nC c _ z
end
def kComp (n:Nat) (ix:List Nat) (g:TG) (tt:TT) (te:TE) (σ:St) (J:It) (H1:Hp) (Q:VK):Prop:=∀ D,H1 D=none->∃ W:Nat->Nat->List V->St->Hp->Prop,(∃ m,W 0 m [] (compσ n ix σ) (upd H1 D (.lst []))) /\
 ∀ i m acc σ' H',W i m acc σ' H'->(J.stop i H'/\Q (.ref D) H') \/ (J.go i H'/\∃ N:List V->St->Hp->Prop,(∀ acc' σ2 H2,N acc' σ2 H2->∃ m',m' < m/\W (i+1) m' acc' σ2 H2) /\
  ∀ x H2,J.yld i H' x H2->g x σ' H2 λ σ2 H3=>tt σ2 H3 λ b H4=>if b=true then te σ2 H4 λ y H5=>H5 D=some (.lst acc)/\acc.length < sizeLine/\N (acc++[y]) σ2 (upd H5 D (.lst (acc++[y]))) else N acc σ2 H4)
def tComp (wi:TI) (n:Nat) (ix:List Nat) (g:TG) (tt:TT) (te:TE):TE:=λ σ H Q=>wi σ H λ J H1=>kComp n ix g tt te σ J H1 Q
def tTrue:TT:=λ _ H Q=>Q true H
def PIf (X:Cx) (ifs:List Expr) (t:TT):Prop :=
 ∀ (pins:List (Addr×Obj)) (s:Shared) (σ:St) (H:Hp) (Q:Bool->Hp->Prop),Inv X pins σ H s->t σ H Q ->
  wpAny (model X.prog X.w) X.A (forIn ifs true λ c r=>if r=true then do let ok <- isTrue c X.env (eval c X.env);pure (ForInStep.yield ok) else pure (ForInStep.yield r)) (TP X pins σ Q) X.xe s
theorem zp3 {X:Cx}:PIf X [] tTrue:=λ pins s σ H Q I h=>wpAny_tests_nil ⟨H,I,h⟩
theorem zwn {X:Cx} {c:Expr} {t:TT} (h:PT X c t):PIf X [c] t:=λ pins s σ H Q I q=>wpAny_tests_one (h pins s σ H Q I q)
section
variable {X:Cx} {tg iter elt:Expr} {ifs:List Expr} {scope:Scope} {pos:Pos} {own:List Str} {ix:List Nat} {wi:TI} {g:TG} {tt:TT} {te:TE} {sc:Scope} {N:List Str}
theorem zrd {pins:List (Addr×Obj)} {σ:St} {s2:Shared} {itv:Value} {Q:VK} {RR:Value->Addr->Result->Shared->Prop} {E:Value->Shared->Prop} (hc:X.calm=true) (S:CompSc X.env.scope X.N own ix scope)
  (hb:∀ s₀ H₀ C fp,PG (compCx X scope (compN X.N own ix) s₀ H₀ C fp) tg g/\PIf (compCx X scope (compN X.N own ix) s₀ H₀ C fp) ifs tt/\PE (compCx X scope (compN X.N own ix) s₀ H₀ C fp) elt te)
  (h2:PIE X pins σ tg (λ J H1=>kComp own.length ix g tt te σ J H1 Q) itv s2)
  (hR:∀ (D C:Addr) (m:Str->Option Value) (s':Shared) (H':Hp),s'.heap.Ns C m->C≠X.env.locals->(∀ x c,X.env.cells.lookup x=some c->c≠C)->H' C=none->(X.s₀.heap.objs.size<=C)->(∀ p∈X.pn++pins,p.1≠C) ->
   (∀ h'',Heap.SameBut C s'.heap h''->Inv X pins σ H' { s' with heap:=h'' })->Q (.ref D) H'->RR (.ref D) C (.ok .next) s') :
  wpAny (model X.prog X.w) X.A (newList []) (λ acc s₃=>wpAny (model X.prog X.w) X.A (newFunctionEnv scope X.env.globals (closeL X.env scope.names []) [] X.env.qual none .none (some X.env)) (λ cenv s₄ =>
   codeAny (model X.prog X.w) X.A (.compStart (.ListComp elt [⟨tg,iter,ifs,0⟩] scope pos) 0 itv acc { cenv with scope:=relabel scope X.env }) (RR acc cenv.locals) s₄) E s₃) E s2:=by
 obtain ⟨it,fp,tn,J,H1,e,I2,T,st2,f2,h⟩:=h2
 subst e
 have hD:H1 s2.heap.objs.size=none:=I2.hok.fresh (Nat.le_refl _)
 obtain ⟨W,⟨m0,w0⟩,turn⟩:=h _ hD
 have hlt:∀ b∈fp,b < s2.heap.objs.size:=λ b hbf=>by obtain ⟨o,e,_⟩:=T.obj 0 _ st2 b hbf;exact Heap.lt_size e
 refine wpAny_newObj_type ?_
 -- the new list is tracked
 have I3:Inv X pins σ (upd H1 s2.heap.objs.size (.lst [])) { s2 with heap:=s2.heap.push { cls:=.type "list",dict:=none,data:=.seq ([]:List Value).toArray } }:=I2.lnew (ys:=[]) (its:=[]) .nil (Nat.zero_le _)
 generalize hs3:({ s2 with heap:=s2.heap.push { cls:=.type "list",dict:=none,data:=.seq ([]:List Value).toArray } }:Shared)=s3 at I3 ⊢
 have hsz:s3.heap.objs.size=s2.heap.objs.size+1:=by rw [<- hs3];exact Heap.size_push ..
 have k3:∀ b o,s2.heap.get? b=some o->s3.heap.get? b=some o:=λ b o e=>by rw [<- hs3];exact Heap.get?_push_of_some _ e
 have neD:∀ b∈fp,b≠s2.heap.objs.size:=λ b hbf=>Nat.ne_of_lt (hlt b hbf)
 have f3:∀ b∈fp,FpOk X pins (upd H1 s2.heap.objs.size (.lst [])) b:=λ b hbf=>⟨by rw [upd_ne (neD b hbf)];exact (f2 b hbf).1,(f2 b hbf).2⟩
 have hlt3:∀ b∈fp,b < s3.heap.objs.size:=λ b hbf=>by rw [hsz];exact Nat.lt_succ_of_lt (hlt b hbf)
 refine wpAny_newFunctionEnv S.cell (by intro y hy;simp at hy) (λ h₁ hns₁ hsb₁=>?_) S.kind
 have k4:∀ b o,s3.heap.get? b=some o->h₁.get? b=some o:=λ b o e=>by
  rw [hsb₁.2 b (Nat.ne_of_lt (Heap.lt_size e))];exact Heap.get?_push_of_some _ e
 have I4:=zvo (t':=s3.toks+([]:List (Str×Value)).length) I3 S hns₁ k4 f3 hlt3
 obtain ⟨hG,hT,hE⟩:=hb s3 (upd H1 s2.heap.objs.size (.lst [])) s3.heap.objs.size fp
 have fp':∀ {H':Hp},(∀ b∈fp,H' b=none)->∀ b∈fp,FpOk (compCx X scope (compN X.N own ix) s3 (upd H1 s2.heap.objs.size (.lst [])) s3.heap.objs.size fp) [] H' b:=λ {H'} hn b hbf=>by
  refine ⟨hn b hbf,Nat.ne_of_lt (hlt3 b hbf),?_,.inl hbf,λ x c e=>(f2 b hbf).2.2.2.2.1 x c (zuc scope.names [] (λ _ _ q=>by cases q) e),λ p hp=>absurd (show p∈([]:List (Addr×Obj)) from hp) (by simp)⟩
  intro z
  rcases List.mem_cons.mp (I3.stkSub b z) with z|z
  ·exact (f2 b hbf).2.1 z
  ·exact (f2 b hbf).2.2.1 z
 have st4:tn 0 h₁:=T.keep _ _ _ st2 λ b _ o e=>k4 b o (k3 b o e)
 have cne:∀ x c,X.env.cells.lookup x=some c->c≠s3.heap.objs.size:=λ x c e z=>by
  obtain ⟨v,q⟩:=I3.cell x c e
  exact absurd q.lt (by rw [z];exact Nat.lt_irrefl _)
 have loop:codeAny (model X.prog X.w) X.A (.compLoop (.ListComp elt [⟨tg,iter,ifs,0⟩] scope pos) 0 (.ref it) (.ref s2.heap.objs.size) (compEnvC scope (closeL X.env scope.names []) s3.heap.objs.size X.env)) (RR (.ref s2.heap.objs.size) s3.heap.objs.size) { s3 with heap:=h₁,toks:=s3.toks+([]:List (Str×Value)).length }:=by
  refine ztf (λ n s'=>∃ i acc σ' H',Inv (compCx X scope (compN X.N own ix) s3 (upd H1 s2.heap.objs.size (.lst [])) s3.heap.objs.size fp) [] σ' H' s'/\tn i s'.heap/\(∀ b∈fp,H' b=none)/\W i n acc σ' H') ?_ m0 ⟨0,[],_,_,I4,st4,λ b hbf=>(f3 b hbf).1,w0⟩
  rintro n s5 ⟨i,acc,σ5,H5,I5,st5,fr5,w5⟩
  rcases turn i n acc σ5 H5 w5 with ⟨stop,qn⟩|⟨go,NN,hN,step⟩
  ·refine thn (T.done (compCx X scope (compN X.N own ix) s3 (upd H1 s2.heap.objs.size (.lst [])) s3.heap.objs.size fp) rfl rfl rfl hc i [] s5 σ5 H5 _ I5 (fp' fr5) st5 stop) λ r s6 ⟨hr,I6⟩=>?_
   subst hr
   obtain ⟨m6,hn6,_⟩:=I6.loc
   exact hR _ _ m6 s6 H5 hn6 (Nat.ne_of_gt I3.lt) cne I6.free (I3.sz) (λ p hp z=>absurd (Heap.lt_size (I3.pin p hp).1) (by rw [z];exact Nat.lt_irrefl _)) (λ h'' sb=>zej I3 f3 I6 sb) qn
  ·refine thn (T.item (compCx X scope (compN X.N own ix) s3 (upd H1 s2.heap.objs.size (.lst [])) s3.heap.objs.size fp) rfl rfl rfl hc i [] s5 σ5 H5 _ I5 (fp' fr5) st5 go) λ r s6 ⟨u,hr,h6⟩=>?_
   subst hr
   refine thn h6 λ _ s7 ⟨x,H7,I7,r7,y7,st7,fr7⟩=>?_
   have I7':=I7.pinned (fp' fr7) (T.obj _ _ st7)
   have noE:∀ {α:Type} {t:Sem α} {Q1:α->Shared->Prop} {E1:Value->Shared->Prop} {sx:Shared},wpAny (model X.prog X.w) X.A t Q1 (λ _ _=>False) sx->wpAny (model X.prog X.w) X.A t Q1 E1 sx:=λ q=>wpAny_noRaise q
   refine noE (thn (hG _ s7 σ5 H7 x u _ I7' r7 (step x H7 y7)) λ _ s8 ⟨σ8,H8,I8,q8⟩=>?_)
   refine noE (thn (hT _ s8 σ8 H8 _ I8 q8) λ b s9 ⟨H9,I9,q9⟩=>?_)
   have again:∀ {σz:St} {Hz:Hp} {sz:Shared} {accz:List V},Inv (compCx X scope (compN X.N own ix) s3 (upd H1 s2.heap.objs.size (.lst [])) s3.heap.objs.size fp) ([]++pinsAt fp s7.heap) σz Hz sz->NN accz σz Hz->∃ m,m < n/\∃ i acc σ' H',Inv (compCx X scope (compN X.N own ix) s3 (upd H1 s2.heap.objs.size (.lst [])) s3.heap.objs.size fp) [] σ' H' sz/\tn i sz.heap/\(∀ b∈fp,H' b=none)/\W i m acc σ' H':=λ {σz Hz sz accz} Iz nz=>by
    obtain ⟨m',hm,wz⟩:=hN accz σz Hz nz
    refine ⟨m',hm,i+1,accz,σz,Hz,Iz.unpinned,T.keep _ _ _ st7 λ b hbf o e=>(Iz.pin (b,o) (List.mem_append_right _ (List.mem_append_right _ (zx5 hbf e)))).1,λ b hbf=>?_,wz⟩
    obtain ⟨o,e,d⟩:=T.obj _ _ st7 b hbf
    exact (Iz.pin (b,o) (List.mem_append_right _ (List.mem_append_right _ (zx5 hbf e)))).2.1
   cases b with
  |false =>
    have q9':NN acc σ8 H9:=by simpa using q9
    simp only [Bool.false_eq_true,if_false]
    exact again I9 q9'
  |true =>
    have q9':te σ8 H9 λ y H5=>H5 s2.heap.objs.size=some (.lst acc)/\acc.length < sizeLine/\NN (acc++[y]) σ8 (upd H5 s2.heap.objs.size (.lst (acc++[y]))):=by simpa using q9
    simp only [if_true]
    refine noE (thn (hE _ s9 σ8 H9 _ I9 q9') λ y s10 ⟨yv,H10,I10,r10,hl,hz,q10⟩=>?_)
    refine noE (thn (zdg _ s10 σ8 H10 (.ref s2.heap.objs.size) [yv] (.ref s2.heap.objs.size) [y] (λ _ H'=>NN (acc++[yv]) σ8 H') I10 rfl (.cons r10 .nil) ⟨_,acc,yv,rfl,rfl,hl,hz,q10⟩) λ _ s11 ⟨_,H11,I11,_,q11⟩=>?_)
    exact again I11 q11
 exact codeAny_compStart_list loop (T.self X.A 0 _ _ _ st4 loop)
theorem zx3 (hc:X.calm=true) (hsc:X.env.scope=sc) (hN:X.N=N) (S:CompSc sc N own ix scope) (hi:PI X tg iter wi)
  (hb:∀ s₀ H₀ C fp,PG (compCx X scope (compN N own ix) s₀ H₀ C fp) tg g/\PIf (compCx X scope (compN N own ix) s₀ H₀ C fp) ifs tt/\PE (compCx X scope (compN N own ix) s₀ H₀ C fp) elt te)
  (hs:∀ x,foldedSetIterable iter X.env x=pure x:=by intro _;rfl):PE X (.ListComp elt [⟨tg,iter,ifs,0⟩] scope pos) (tComp wi own.length ix g tt te):=by
 subst hsc hN
 intro pins s σ H Q I h
 rw [eval_ListComp]
 refine wpAny_comprehension_free (use:=none) (g:=⟨tg,iter,ifs,0⟩) (gs:=[]) rfl hs (zid λ y hy hf=>I.ok.has y.1 (S.free y hy hf)) S.kind S.names ?_
 show wpAny _ _ (eval iter X.env) _ _ _
 refine thn (hi pins s σ H _ I h) λ v s1 h1=>thn h1 λ itv s2 h2=>?_
 refine zrd (Q:=Q) (RR:=λ acc C=>compPost (model X.prog X.w) X.A X.xe none (EP X pins σ Q) acc C) hc S hb h2 ?_
 intro D C m s' H' hns _ _ _ _ _ hI q
 exact ⟨m,hns,λ h'' sb=>⟨.ref D,H',hI h'' sb,rfl,q⟩⟩
theorem zod {i:Nat} {x:Str} {pos' pos2:Pos} (hc:X.calm=true) (hsc:X.env.scope=sc) (hN:X.N=N) (S:CompSc sc N own ix scope) (hnd:X.N.Nodup) (hxi:X.N[i]?=some x) (hx:X.env.scope.names.lookup x=some .local) (hi:PI X tg iter wi)
  (hb:∀ s₀ H₀ C fp,PG (compCx X scope (compN N own ix) s₀ H₀ C fp) tg g/\PIf (compCx X scope (compN N own ix) s₀ H₀ C fp) ifs tt/\PE (compCx X scope (compN N own ix) s₀ H₀ C fp) elt te)
  (hsw:swapsWith (.ListComp elt [⟨tg,iter,ifs,0⟩] scope pos) (some (.Name x pos')) pos2.line X.env=pure true:=by rfl)
  (hs:∀ x,foldedSetIterable iter X.env x=pure x:=by intro _;rfl):PS X (.Assign [.Name x pos'] (.ListComp elt [⟨tg,iter,ifs,0⟩] scope pos) pos2) (tAsg (tComp wi own.length ix g tt te) (gName i)):=by
 subst hsc hN
 intro pins s σ H D I h
 rw [exec_Assign_Name_used _ _ _ _ hsw]
 refine wpAny_bind (wpAny_standAt (wpAny_bind ?_))
 show wpAny _ X.A (do let _ <- comprehension (.ListComp elt [⟨tg,iter,ifs,0⟩] scope pos) scope X.env _ (newList []) false (eval iter X.env) (some (assign (.Name x pos') X.env))) _ _ s
 refine wpAny_bind (wpAny_mono (wpAny_comprehension_free (use:=some (assign (.Name x pos') X.env)) (g:=⟨tg,iter,ifs,0⟩) (gs:=[]) (Q:=λ _ s'=>SP X pins D .next s') rfl hs (zid λ y hy hf=>I.ok.has y.1 (S.free y hy hf)) S.kind S.names
  (thn (hi pins s σ H _ I h) λ v s1 h1=>thn h1 λ itv s2 h2=>?_)) (λ _ s' hq=>wpAny_pure (wpAny_pure hq)) λ _ _ e=>e)
 refine zrd (Q:=λ v H1=>gName i v σ H1 D.nx) (RR:=λ acc C=>compPost (model X.prog X.w) X.A X.xe (some (assign (.Name x pos') X.env)) (λ _ s'=>SP X pins D .next s') acc C) hc S hb h2 ?_
 intro L C m s' H' hns nL nC hC hC0 hCp hI q
 show wpAny _ _ (assign (.Name x pos') X.env (.ref L)) _ _ s'
 have I':Inv X pins σ H' s':=hI s'.heap ⟨rfl,λ _ _=>rfl⟩
 refine wpAny_assign_Name (zhh I' hnd hxi (.inl hx) (v:=.ref L) rfl (λ s2 I2 hch=>?_) (.inr hx))
 obtain ⟨a,sba,ha⟩:=hch
 have naC:C≠a:=by
  rcases ha with z|z
  ·rw [z];exact nL
  ·exact λ e=>nC x a z e.symm
 refine ⟨m,hns.sameBut sba naC,λ h'' sb=>?_⟩
 refine ⟨_,H',I2.turned (t':=s2.toks) (it:=C) (λ b o nb e=>?_) hC nL (.inr hC0) nC hCp,q⟩
 rw [sb.2 b nb];exact e
end
def rAddU (K:Fg):R2:=λ x y H Q=>rI0 (λ i j=>.int (i+j)) x y H Q \/ (∃ i j,x=.str i/\y=.str j/\i.length+j.length<=sizeLine/\Q (.str (i++j)) H) \/ rCat x y H Q \/ rCatT K x y H Q
def rMulU:R2:=λ x y H Q=>rI CMul (λ i j=>.int (i * j)) x y H Q \/ rRep x y H Q
def kIter (K:Fg) (x:V) (H:Hp) (R:It->Hp->Prop):Prop:=(∃ a,x=.ref a/\(∃ xs,SqL K H a xs)/\R (Itl K a) H) \/ (∃ a,x=.ref a/\(∃ xs,SqT K H a xs)/\R (Itt K a) H)
def rLen (K:Fg):List V->Hp->VK->Prop:=λ xs H Q=>∃ x n,xs=[x]/\LenV K x H n/\Q (.int (n:Nat)) H
def rMax2:List V->Hp->VK->Prop:=λ xs H Q=>∃ i j,xs=[.int i,.int j]/\Q (.int (if j > i then j else i)) H
def kNewT (xs:List V) (H:Hp) (Q:VK):Prop:=xs.length<=sizeLine/\∀ p,H p=none->Q (.ref p) (upd H p (.tup xs))
def kNewL (xs:List V) (H:Hp) (Q:VK):Prop:=xs.length<=sizeLine/\∀ p,H p=none->Q (.ref p) (upd H p (.lst xs))
def tTupU (t:TA):TE:=λ σ H Q=>t σ H λ xs H1=>kNewT xs H1 Q
def tLstU (t:TA):TE:=λ σ H Q=>t σ H λ xs H1=>kNewL xs H1 Q
def kPart (x:V) (H:Hp) (Q:Option Int->Hp->Prop):Prop:=∃ i,x=.int i/\Q (some i) H
def tPartU (t:TE):TO:=λ σ H Q=>t σ H λ x H1=>kPart x H1 Q
def kFld (K:Fg) (f:Str) (x:V) (H:Hp) (Q:VK):Prop:=∃ a C dx fs v,x=.ref a/\H a=some (.ins C dx fs)/\Cls K C/\NoAttr K C f/\fs.lookup f=some v/\Q v H
def tFldU (K:Fg) (ta:TE) (f:Str):TE:=λ σ H Q=>ta σ H λ x H1=>kFld K f x H1 Q
def kBl (x:V) (H:Hp) (Q:Bool->Hp->Prop):Prop:=∃ k,x=.bl k/\Q k H
def tTestU (t:TE):TT:=λ σ H Q=>t σ H λ x H'=>kBl x H' Q
def kTru (K:Fg) (x:V) (H:Hp) (Q:Bool->Hp->Prop):Prop:=∃ k,TruV K x H k/\Q k H
def tTruU (K:Fg) (t:TE):TT:=λ σ H Q=>t σ H λ x H'=>kTru K x H' Q
section
variable {X:Cx} {tg:Expr}
theorem zcs {K:Fg} (h:X.K=K):OpR X (binaryOp .Add) (rAddU K):=h ▸ op_add.or (zlj.or (op_cat.or zlq))
theorem zjs:OpR X (binaryOp .Mult) rMulU:=op_mul.or op_rep
theorem ix_U {K:Fg} (h:X.K=K):IxR X (rIx K):=h ▸ ix_seq
theorem zi1 {K:Fg} (h:X.K=K):CallR X (.builtin "len") (rLen K):=h ▸ zbo
theorem zuk (hc:X.calm=true):CallR X (.builtin "max") rMax2:=zbm hc
theorem zm3 {es:List Expr} {t:TA} {x1} {pos:Pos} (h:PA X es t):PE X (.Tuple es x1 pos) (tTupU t):=pe_tup h
theorem zl1 {es:List Expr} {t:TA} {pos:Pos} (h:PA X es t):PE X (.List es pos) (tLstU t):=pe_lst h
theorem zki {e:Expr} {te:TE} (h:PE X e te):PO X (some e) (tPartU te):=zpq h
theorem zs0 {K:Fg} (h:X.K=K) {e:Expr} {f:Str} {pos:Pos} {ta:TE} (he:PE X e ta) (hb:attributeBase e f X.env (eval e X.env)=eval e X.env):PE X (.Attribute e f pos) (tFldU K ta f):=h ▸ pe_fld he hb
theorem zt0 {a b:Expr} {ta tb:TE} {pos:Pos} {op:CmpOp} {r:R2} (ho:OpR X (compareOp op) r) (ha:PE X a ta) (hb:PE X b tb) (hm:behindInMarks op b=false):PT X (.Compare a [op] [b] pos) (tTestU (tOp r ta tb)):=zzq ho ha hb hm
theorem zgg {a b c:Expr} {ta tb tc:TE} {pos:Pos} {op op':CmpOp} {r r':R2} (ho:OpR X (compareOp op) r) (ho':OpR X (compareOp op') r') (ha:PE X a ta) (hb:PE X b tb) (hc:PE X c tc)
  (hm:lastMarks [op,op'] [b,c]=false:=by with_unfolding_all rfl):PT X (.Compare a [op,op'] [b,c] pos) (tTestU (tChain r r' ta tb tc)):=zjp ho ho' ha hb hc hm
theorem zh2 {K:Fg} (h:X.K=K) {a:Expr} {ta:TE} (ha:PE X a ta) (he:∀ whole,isTrue a X.env whole=(do let v <- whole;standAt a.pos;holding [v] (truthy v))):PT X a (tTruU K ta):=h ▸ zio ha he
def clsV:V->Option Value
|.ty n=>some (.type n)
|.ref a=>some (.ref a)
|_=>none
theorem zre {cV:V} {c v:Value} (h:clsV cV=some c) (r:RelV cV v):v=c:=by
 cases cV with
|ty n=>cases h;exact r
|ref a=>cases h;exact r
|_=>cases h
def rIsI (K:Fg):List V->Hp->VK->Prop:=λ xs H Q=>∃ x cV c t b,xs=[x,cV]/\clsV cV=some c/\TyOf K H x t/\PySem.W.kitOne K t c=some b/\Q (.bl b) H
theorem zlh {K:Fg} (h:X.K=K):CallR X (.builtin "isinstance") (rIsI K):=by
 subst h
 intro pins s σ H xs us Q I r h
 obtain ⟨x,cV,c,t,b,rfl,rc,ty,e,q⟩:=h
 obtain ⟨u,v,rfl,ru,rv⟩:=r.two
 obtain rfl:=zre rc rv
 exact zul I ru ty e λ tk=>⟨.bl b,H,I.tok tk,rfl,q⟩
end
def Def (P:Program) (w:World) (K:Fg) (mg:Str->Option Value) (base:Heap) (x:Str) (k:Nat) (ps:List Str) (sp:Sp):Prop :=
 ∃ f fd,FnOk P w K mg base CX0 k f fd ps sp/\Binds K fd ps []/\PySem.W.keepIn K (.ref f)=true/\mg x=some (.ref f)
def MakeD (P:Program) (w:World) (K:Fg) (mg:Str->Option Value) (base:Heap) (x:Str) (C:Addr) (k:Nat) (ps:List Str) (sp:Sp):Prop :=
 ∃ f fd,Mk K C f/\FnOk P w K mg base CX0 k f fd ps sp/\Binds K fd ps []/\mg x=some (.ref C)
def MethD (P:Program) (w:World) (K:Fg) (mg:Str->Option Value) (base:Heap) (C:Addr) (m:Str) (k:Nat) (ps:List Str) (sp:Sp):Prop :=
 ∃ f fd,Cls K C/\Meth K C m f/\FnOk P w K mg base CX0 k f fd ps sp/\Binds K fd ps []
section
variable {X:Cx} {k:Nat} {C:Addr} {ps:List Str} {sp:Sp} {x m:Str} {p pos apos:Pos} {e o:Expr} {es:List Expr} {ta:TE} {t:TA}
theorem zk0 (d:Def X.prog X.w X.K X.mg X.base x k ps sp) (hr:Room k X.A) (hg:Gl X x) (ha:PA X (e :: es) t) (hdb:(x == ("__debug__":Str))=false:=by decide)
  (he:starEach (e :: es) X.env=(false,eval e X.env) :: starEach es X.env:=by rfl) (hpl:(backTo pos (starEach es X.env)).any (·.1)=false:=by rfl):PE X (.Call (.Name x p) (e :: es) [] pos) (tCall sp [] E0 t):=by
 obtain ⟨f,fd,F,b,kp,m⟩:=d
 exact zls F hr hg m kp b .nil pass0 ha hdb he hpl
theorem zed (d:MakeD X.prog X.w X.K X.mg X.base x C k ps sp) (hr:Room (k+1) X.A) (hg:Gl X x) (ha:PA X (e :: es) t) (hdb:(x == ("__debug__":Str))=false:=by decide)
  (he:starEach (e :: es) X.env=(false,eval e X.env) :: starEach es X.env:=by rfl) (hpl:(backTo pos (starEach es X.env)).any (·.1)=false:=by rfl):PE X (.Call (.Name x p) (e :: es) [] pos) (tMake C sp [] E0 t):=by
 obtain ⟨f,fd,M,F,b,m⟩:=d
 exact zqq M F hr hg m b .nil pass0 ha hdb he hpl
theorem zvp {pl:Sem Bool} (d:MethD X.prog X.w X.K X.mg X.base C m k ps sp) (hr:Room k X.A) (he:PE X o ta) (ha:PA X (e :: es) t)
  (hst:starEach (e :: es) X.env=(false,eval e X.env) :: starEach es X.env:=by rfl) (hpl:(backTo pos (starEach es X.env)).any (·.1)=false:=by rfl)
  (ht:eval (.Call (.Attribute o m apos) (e :: es) [] pos) X.env=(do
   let ov <- eval o X.env
   standAt apos.atName
   let (f,first) <- holding [ov] (getMethod ov m pl)
   callWith pos f first (backTo pos (starEach (e :: es) X.env)) (backToKw pos (keywordEach [] X.env))):=by rfl) :
  PE X (.Call (.Attribute o m apos) (e :: es) [] pos) (tMeth C m sp [] E0 ta t):=by
 obtain ⟨f,fd,c,M,F,b⟩:=d
 exact zyq he c M F hr b .nil pass0 ha hst hpl ht
end
theorem zt1 {H:Hp} {p:Addr} (h:H p=none) (o:HO):Same H (upd H p o):=λ b u q=>by rw [upd_ne (zu2 q h)];exact q
theorem sseqT {K:Fg} {H H':Hp} {a:Addr} {xs:List V} (e:Same H H') (h:SqT K H a xs):SqT K H' a xs:=by
 rcases h with (h|⟨o,h⟩)|h
 ·exact .inl (.inl (e _ _ h))
 ·exact .inl (.inr ⟨o,e _ _ h⟩)
 ·exact .inr h
section
variable {K:Fg} {σ:St} {H:Hp} {Q:VK} {D:Ends} {a b p:Addr} {i j k:Int} {x y v:V} {xs ys:List V} {ta tb te:TE} {t u:TS} {tA:TA} {tt tt':TT} {A B:Prop}
end
theorem bt_len:bootBuiltins "len"=some (.builtin "len"):=by decide +kernel
theorem bt_max:bootBuiltins "max"=some (.builtin "max"):=by decide +kernel
theorem bt_min:bootBuiltins "min"=some (.builtin "min"):=by decide +kernel
theorem zi0:bootBuiltins "isinstance"=some (.builtin "isinstance"):=by decide +kernel
theorem bt_int:bootBuiltins "int"=some (.type "int"):=by decide +kernel
theorem zrs:bootBuiltins "bool"=some (.type "bool"):=by decide +kernel
theorem zg7:bootBuiltins "list"=some (.type "list"):=by decide +kernel
theorem zzn:bootBuiltins "tuple"=some (.type "tuple"):=by decide +kernel
structure Md (K:Fg) (mg:Str->Option Value):Prop where
 ex:∃ h:Heap,K.In h/\h.Ns mainGlobals mg
theorem Md.got {K:Fg} {mg:Str->Option Value} (M:Md K mg) {x:Str} {v:Value} (e:PySem.W.nsIn K mainGlobals x=some (some v)):mg x=some v:=let ⟨_,X,G⟩:=M.ex;PySem.W.mg_of X G e
theorem Md.not {K:Fg} {mg:Str->Option Value} (M:Md K mg) {x:Str} (e:PySem.W.nsIn K mainGlobals x=some none):mg x=none:=let ⟨_,X,G⟩:=M.ex;PySem.W.mg_none_of X G e
structure TopDef (K:Fg) (x:Str) (st:Stmt):Prop where
 ex:∃ f fd,PySem.W.nsIn K mainGlobals x=some (some (.ref f))/\Fun K x x st f fd
theorem zjk {K:Fg} {x:Str} {st:Stmt} {f:Addr} {oc:Value} {od an:Option Addr} {osl:Array (Option Value)} {kV doc pm cdv ct:Value} (a:PySem.W.nsIn K mainGlobals x=some (some (.ref f)))
  (l:K.lookup f=some ⟨oc,od,.func (PySem.W.fnOf x x (zn5 st) (zr1 st) (zf0 st) .none kV doc pm an cdv ct),osl⟩) (c:PySem.W.codeIn K cdv x=true) (k:PySem.W.keepIn K (.ref f)=true):TopDef K x st:=⟨⟨_,_,a,fun_mk l c k⟩⟩
structure TopMeth (K:Fg) (C:Addr) (m qual:Str) (st:Stmt):Prop where
 ex:∃ f fd,PySem.W.findIn K (.ref C) m=some (some (.ref f))/\PySem.W.isFn K (.ref f)=true/\Fun K m qual st f fd
theorem zwh {K:Fg} {C:Addr} {x qual:Str} {st:Stmt} {f:Addr} {oc:Value} {od an:Option Addr} {osl:Array (Option Value)} {kV doc pm cdv ct:Value} (a:PySem.W.findIn K (.ref C) x=some (some (.ref f))) (i:PySem.W.isFn K (.ref f)=true)
  (l:K.lookup f=some ⟨oc,od,.func (PySem.W.fnOf x qual (zn5 st) (zr1 st) (zf0 st) .none kV doc pm an cdv ct),osl⟩) (c:PySem.W.codeIn K cdv qual=true) (k:PySem.W.keepIn K (.ref f)=true):TopMeth K C x qual st:=⟨⟨_,_,a,i,fun_mk l c k⟩⟩
structure TopCls (K:Fg) (x:Str) (C:Addr):Prop where
 at_:PySem.W.nsIn K mainGlobals x=some (some (.ref C))
 cls:Cls K C
 mkk:PySem.W.makesIn K C=true
 kp:PySem.W.keepIn K (.ref C)=true
theorem zwl {K:Fg} {x:Str} {C:Addr} (a:PySem.W.nsIn K mainGlobals x=some (some (.ref C))) (pg:PySem.W.plainGet K C Str.empty=true) (hd:PySem.W.hasDictIn K C=true) (po:PySem.W.plainOver K C=true)
  (sa:PySem.W.findIn K (.ref C) "__setattr__"=some (some (.builtin "object.__setattr__"))) (mk:PySem.W.makesIn K C=true) (kc:PySem.W.keepIn K (.ref C)=true):TopCls K x C:=⟨a,⟨pg,hd,po,sa⟩,mk,kc⟩
section
variable {P:Program} {w:World} {K:Fg} {mg:Str->Option Value} {base:Heap}
abbrev zo6 (x qual:Str) (st:Stmt) (ps:List Str):Prop :=
 ∀ (kV doc pm:Value) (an:Option Addr) (cdv ct:Value) (us:List Value),us.length=ps.length->bindArgs (PySem.W.fnOf x qual (zn5 st) (zr1 st) (zf0 st) .none kV doc pm an cdv ct) ⟨us,[]⟩=pure (ps.zip us)
abbrev zl6 (P:Program) (w:World) (K:Fg) (mg:Str->Option Value) (base:Heap) (qual:Str) (st:Stmt) (N:List Str) (k:Nat) (sp:Sp):Prop :=
 ∀ (f:Addr) (cdv:Value) (A:Around) (outer:List Env) (s:Shared) (H:Hp) (vs:List V) (Q:VK) (E:XK),Room k (A.deeper (envOfC qual (zf0 st) s.heap.objs.size f cdv))->sp vs H Q E ->
   ∃ t,PSs (cxOf CX0 P w K mg base N qual (zf0 st) f cdv A outer s H E).nox (zr1 st) t/\t { nx:=λ _ H'=>Q .non H',rt:=Q } (start N vs) H
theorem def_of {x:Str} {st:Stmt} {N ps:List Str} {k:Nat} {sp:Sp} (M:Md K mg) (T:TopDef K x st) (S:FnScope N ps (zf0 st)) (hb:zo6 x x st ps) (len:∀ vs H Q E,sp vs H Q E->vs.length=ps.length)
  (body:zl6 P w K mg base x st N k sp):Def P w K mg base x (k+1) ps sp:=by
 obtain ⟨f,fd,a,F⟩:=T.ex
 exact ⟨f,fd,F.ok S len (λ cdv A outer s H vs Q E hr h=>body f cdv A outer s H vs Q E hr h),F.binds hb,F.kp,M.got a⟩
theorem zt5 {C:Addr} {m qual:Str} {st:Stmt} {N ps:List Str} {k:Nat} {sp:Sp} (c:Cls K C) (T:TopMeth K C m qual st) (S:FnScope N ps (zf0 st)) (hb:zo6 m qual st ps) (len:∀ vs H Q E,sp vs H Q E->vs.length=ps.length)
  (body:zl6 P w K mg base qual st N k sp):MethD P w K mg base C m (k+1) ps sp:=by
 obtain ⟨f,fd,a,i,F⟩:=T.ex
 exact ⟨f,fd,c,⟨a,i,F.kp⟩,F.ok S len (λ cdv A outer s H vs Q E hr h=>body f cdv A outer s H vs Q E hr h),F.binds hb⟩
theorem zeg {x qual:Str} {C:Addr} {st:Stmt} {N ps:List Str} {k:Nat} {sp:Sp} (M:Md K mg) (c:TopCls K x C) (T:TopMeth K C "__init__" qual st) (S:FnScope N ps (zf0 st)) (hb:zo6 "__init__" qual st ps)
  (len:∀ vs H Q E,sp vs H Q E->vs.length=ps.length) (body:zl6 P w K mg base qual st N k sp):MakeD P w K mg base x C (k+1) ps sp:=by
 obtain ⟨f,fd,a,i,F⟩:=T.ex
 exact ⟨f,fd,⟨c.mkk,a,i,c.kp⟩,F.ok S len (λ cdv A outer s H vs Q E hr h=>body f cdv A outer s H vs Q E hr h),F.binds hb,M.got c.at_⟩
theorem law_of {st:Stmt} {N:List Str} {k:Nat} {sp:Sp} {fa:Addr} (M:Md K mg) (T:TopDef K "law" st) (hfa:mg "law"=some (.ref fa)) (S:FnScope N ["script"] (zf0 st)) (hb:zo6 "law" "law" st ["script"]) (len:∀ vs H Q E,sp vs H Q E->vs.length=1)
  (body:∀ base:Heap,K.In base->base.Ns mainGlobals mg->zl6 P w K mg base "law" st N k sp) :
  ∃ fd:FuncData,(∀ (s:Shared) (v:Value),BindsTo s fd ⟨[v],[]⟩ [("script",v)])/\∀ base:Heap,K.In base->base.Ns mainGlobals mg->FnOk P w K mg base CX0 (k+1) fa fd ["script"] sp:=by
 obtain ⟨f,fd,a,F⟩:=T.ex
 have e:=hfa.symm.trans (M.got a)
 cases e
 obtain ⟨oc,od,kV,doc,pm,an,cdv,ct,osl,e1,lk,hcd⟩:=id F.ex
 refine ⟨fd,λ s v=>.of_eq ?_,λ base kb nb=>F.ok S len λ cdv A outer s H vs Q E hr h=>body base kb nb fa cdv A outer s H vs Q E hr h⟩
 rw [e1]
 exact hb kV doc pm an cdv ct [v] rfl
end
section
variable {K:Fg} {a D:Addr} {xs:List V} {Q:VK} {σ:St} {H:Hp} {n:Nat} {ix:List Nat} {g:TG} {tt:TT} {te:TE}
end
def keyish:PyData->Bool
|.int _=>true
|.str _=>true
|_=>false
mutual
inductive Is (K:Fg) (H:Hp):V->PyData->Prop
|non:Is K H .non .none
|bl (b:Bool):Is K H (.bl b) (.bool b)
|int (i:Int):Is K H (.int i) (.int i)
|str (x:Str):Is K H (.str x) (.str x)
|lst {a:Addr} {xs:List V} {ds:List PyData}:SqL K H a xs->IsAll K H xs ds->Is K H (.ref a) (.list ds)
|tup {a:Addr} {xs:List V} {ds:List PyData}:H a=some (.tup xs)->IsAll K H xs ds->Is K H (.ref a) (.tuple ds)
|tuc {a:Addr} {xs:List V} {ds:List PyData}:SqT K H a xs->IsAll K H xs ds->ds.all keyish=false->Is K H (.ref a) (.tuple ds)
inductive IsAll (K:Fg) (H:Hp):List V->List PyData->Prop
|nil:IsAll K H [] []
|cons {x:V} {d:PyData} {xs:List V} {ds:List PyData}:Is K H x d->IsAll K H xs ds->IsAll K H (x :: xs) (d :: ds)
end
mutual
theorem Is.mono {K:Fg} {H H':Hp} (s:Same H H'):∀ {v:V} {d:PyData},Is K H v d->Is K H' v d
|_,_,.non=>.non
|_,_,.bl b=>.bl b
|_,_,.int i=>.int i
|_,_,.str x=>.str x
|_,_,.lst h r=>.lst (s.seq h) (IsAll.mono s r)
|_,_,.tup h r=>.tup (s _ _ h) (IsAll.mono s r)
|_,_,.tuc h r n=>.tuc (sseqT s h) (IsAll.mono s r) n
theorem IsAll.mono {K:Fg} {H H':Hp} (s:Same H H'):∀ {v:List V} {d:List PyData},IsAll K H v d->IsAll K H' v d
|_,_,.nil=>.nil
|_,_,.cons h r=>.cons (Is.mono s h) (IsAll.mono s r)
end
section
variable {X:Cx} {pins:List (Addr×Obj)} {σ:St} {H:Hp} {s:Shared}
mutual
theorem zp6 (I:Inv X pins σ H s):∀ {v:V} {d:PyData} {u:Value},Is X.K H v d->RelV v u->∃ as,Reads s.heap u d as
|_,_,_,.non,r=>by cases r;exact ⟨_,.none⟩
|_,_,_,.bl b,r=>by cases r;exact ⟨_,.bool b⟩
|_,_,_,.int i,r=>by obtain ⟨t,rfl⟩:=r;exact ⟨_,.int i t⟩
|_,_,_,.str x,r=>by obtain ⟨t,rfl⟩:=r;exact ⟨_,.str x t⟩
|_,_,_,.lst h q,r=>by
  cases r
  obtain ⟨its,rv,p,_⟩:=I.list h
  obtain ⟨as,z⟩:=zg4 I q rv
  obtain ⟨o,ho,hc,n,hd⟩:=p.isList
  exact ⟨_,.list ho hc hd (by simpa using z)⟩
|_,_,_,.tup h q,r=>by
  cases r
  obtain ⟨its,rv,p,_⟩:=I.tuple (SqT.of h)
  obtain ⟨as,z⟩:=zg4 I q rv
  obtain ⟨o,ho,hc,n,hd⟩:=(show s.heap.IsTuple _ its.toArray from p)
  exact ⟨_,.tuple ho hc hd (by simpa using z)⟩
|_,_,_,.tuc h q _,r=>by
  cases r
  obtain ⟨its,rv,p,_⟩:=I.tuple h
  obtain ⟨as,z⟩:=zg4 I q rv
  obtain ⟨o,ho,hc,n,hd⟩:=(show s.heap.IsTuple _ its.toArray from p)
  exact ⟨_,.tuple ho hc hd (by simpa using z)⟩
theorem zg4 (I:Inv X pins σ H s):∀ {v:List V} {d:List PyData} {u:List Value},IsAll X.K H v d->Vals v u->∃ as,ReadsAll s.heap u d as
|_,_,_,.nil,r=>by cases r;exact ⟨_,.nil⟩
|_,_,_,.cons h q,r=>by
  cases r with
 |cons r1 r2 =>
   obtain ⟨as,z⟩:=zp6 I h r1
   obtain ⟨bs,y⟩:=zg4 I q r2
   exact ⟨_,.cons z y⟩
end
end
def rEqU (K:Fg):R2:=λ x y H Q=>rEq x y H Q \/ (∃ d e,Is K H x d/\Is K H y e/\SeqAt.shaped d=true/\SeqAt.shaped e=true/\Q (.bl (PyData.eqv d e)) H)
def rNeU (K:Fg):R2:=λ x y H Q=>rNe x y H Q \/ (∃ d e,Is K H x d/\Is K H y e/\SeqAt.shaped d=true/\SeqAt.shaped e=true/\Q (.bl (!PyData.eqv d e)) H)
section
variable {X:Cx}
theorem op_eqD {K:Fg} (h:X.K=K) (hu:X.A.units+64 < cLine):OpR X (compareOp .Eq) (rEqU K):=by
 subst h
 refine op_eq.or ?_
 intro pins s σ H x y v u Q I rx ry q
 obtain ⟨d,e,hd,he,sd,se,q⟩:=q
 obtain ⟨as,r1⟩:=zp6 I hd rx
 obtain ⟨bs,r2⟩:=zp6 I he ry
 exact eq_dataH r1 r2 sd se hu ⟨.bl _,H,I,rfl,q⟩
theorem op_neD {K:Fg} (h:X.K=K) (hu:X.A.units+64 < cLine):OpR X (compareOp .NotEq) (rNeU K):=by
 subst h
 refine op_ne.or ?_
 intro pins s σ H x y v u Q I rx ry q
 obtain ⟨d,e,hd,he,sd,se,q⟩:=q
 obtain ⟨as,r1⟩:=zp6 I hd rx
 obtain ⟨bs,r2⟩:=zp6 I he ry
 exact ne_dataH r1 r2 sd se hu ⟨.bl _,H,I,rfl,q⟩
structure MkO (K:Fg) (C:Addr):Prop where
 makes:PySem.W.makesIn K C=true
 init:PySem.W.findIn K (.ref C) "__init__"=some (some (.builtin "object.__init__"))
 kp:PySem.W.keepIn K (.ref C)=true
def tMethX (P:Program) (w:World) (K:Fg) (mg:Str->Option Value) (base:Heap) (m:Str) (k:Nat) (ta:TE) (t:TA):TE:=λ σ H Q=>ta σ H λ x H1=>∃ a C dx fs ps sp,x=.ref a/\H1 a=some (.ins C dx fs)/\fs.lookup m=none /\
 MethD P w K mg base C m k ps sp/\t σ H1 λ vs H2=>sp (x :: vs) H2 Q E0
theorem znj {P:Program} {w:World} {K:Fg} {mg:Str->Option Value} {base:Heap} {k:Nat} {m:Str} {pos apos:Pos} {e o:Expr} {es:List Expr} {ta:TE} {t:TA} {pl:Sem Bool} (hP:X.prog=P) (hw:X.w=w) (hK:X.K=K) (hmg:X.mg=mg) (hbs:X.base=base) (hr:Room k X.A) (he:PE X o ta) (ha:PA X (e :: es) t)
  (hst:starEach (e :: es) X.env=(false,eval e X.env) :: starEach es X.env:=by rfl) (hpl:(backTo pos (starEach es X.env)).any (·.1)=false:=by rfl)
  (ht:eval (.Call (.Attribute o m apos) (e :: es) [] pos) X.env=(do
   let ov <- eval o X.env
   standAt apos.atName
   let (f,first) <- holding [ov] (getMethod ov m pl)
   callWith pos f first (backTo pos (starEach (e :: es) X.env)) (backToKw pos (keywordEach [] X.env))):=by rfl) :
  PE X (.Call (.Attribute o m apos) (e :: es) [] pos) (tMethX P w K mg base m k ta t):=by
 subst hP hw hK hmg hbs
 intro pins s σ H Q I h
 refine PySem.W.methodCall_KW (pl:=pl) (thn (he pins s σ H _ I h) λ u s1 ⟨x,H1,I1,rx,a,C,dx,fs,ps,sp,ex,ea,l,d,q⟩=>?_) ht
 subst ex
 obtain rfl:u=Value.ref a:=rx
 obtain ⟨f,fd,c,hm,F,b⟩:=d
 refine zj3 I1 ea c hm l ?_
 refine PySem.W.callWith_K (first:=[.ref a]) (h₀:=X.base) I.ok.mod.kin hm.kp (thn (ha pos pins s1 σ H1 _ I1 q) λ us s2 ⟨vs,H2,I2,r,q2⟩=>⟨I2.kIn,?_⟩) hst hpl
 exact run_fn (us:=.ref a :: us) (vs:=.ref a :: vs) (dvs:=[]) (ds:=[]) F hr b .nil pass0 I2 (.cons rfl r) (by rw [List.append_nil];exact q2)
end
section
variable {K:Fg} {σ:St} {H:Hp} {Q:VK} {x y:V} {ta:TE} {tA:TA}
end
end L3
namespace L3
open PySem PySem.Builtin PySem.Builtin.Str PySem.StrLaws
end L3
namespace L3
open PySem PySem.Spec PyProof.Rows L2
section
variable {X:Cx}
abbrev TJ:=Str->St->Hp->(Str->Hp->Prop)->Prop
def PJ (X:Cx) (es:List Expr) (t:TJ):Prop :=
 ∀ (acc:Str) (pins:List (Addr×Obj)) (s:Shared) (σ:St) (H:Hp) (Q:Str->Hp->Prop),Inv X pins σ H s->t acc σ H Q ->
  wpAny (model X.prog X.w) X.A (joinParts acc (evalEach es X.env)) (λ v s'=>∃ z H' tk,v=.str z tk/\Inv X pins σ H' s'/\Q z H') X.xe s
def jNil:TJ:=λ acc _ H Q=>acc.length<=sizeLine/\Q acc H
def jText (y:Str) (t:TJ):TJ:=λ acc σ H Q=>(acc++y).length<=sizeLine/\t (acc++y) σ H Q
def kFmt (x:V) (H:Hp) (Q:Str->Hp->Prop):Prop:=(∃ z,x=.str z/\z.length<=sizeLine/\Q z H) \/ ∃ i:Int,x=.int i/\i.natAbs.log2 < 1920/\Q (Str.ofString (toString i)) H
theorem pj_nil:PJ X [] jNil:=λ acc pins s σ H Q I h=>joinParts_nil ⟨acc,H,_,rfl,I.tok _,h.2⟩ h.1
theorem zc8 {y:Str} {j:Nat} {pos:Pos} {es:List Expr} {t:TJ} (h:PJ X es t):PJ X (.Constant (.str y) j pos :: es) (jText y t):=by
 intro acc pins s σ H Q I q
 refine joinParts_cons (Calls.Constant_str ?_)
 exact ⟨q.1,h _ pins _ σ H Q (I.tok _) q.2⟩
def zsn (t:TJ):TE:=λ σ H Q=>t Str.empty σ H λ z H'=>Q (.str z) H'
theorem zw7 {v₁ v₂:Expr} {rest:List Expr} {pos:Pos} {t:TJ} (h:PJ X (v₁ :: v₂ :: rest) t):PE X (.JoinedStr (v₁ :: v₂ :: rest) pos) (zsn t):=by
 intro pins s σ H Q I q
 refine JoinedStr_many (thn (h Str.empty pins s σ H _ I q) λ v s1 ⟨z,H',tk,e,I1,q1⟩=>?_)
 subst e
 exact ⟨.str z,H',I1,⟨tk,rfl⟩,q1⟩
def rInt:List V->Hp->VK->Prop:=λ xs H Q=>((∃ i,xs=[.int i]/\Q (.int i) H) \/ ∃ k,xs=[.bl k]/\Q (.int (if k then 1 else 0)) H) \/ ∃ z n,xs=[.str z]/\PySem.intText? z=some n/\z.length<=640/\Q (.int n) H
theorem zcl:CallR X (.type "int") rInt:=by
 intro pins s σ H xs us Q I r h
 rcases h with h|⟨z,n,rfl,hn,hl,q⟩
 ·exact zsl pins s σ H xs us Q I r h
 ·obtain ⟨u,rfl,t,rfl⟩:=r.one
  exact PySem.W.KIN.call_text hn hl ⟨.int n,H,I.tok _,⟨_,rfl⟩,q⟩
def Its (z:Str):It:=⟨λ i _=>i < z.cps.size,λ i H x H'=>H'=H/\∃ c,z.cps[i]?=some c/\x=.str ⟨#[c]⟩,λ i _=>z.cps.size<=i⟩
theorem zqo {P:Program} {w:World} {K:Fg} {tg:Expr} (z:Str) (t:Tok) (it:Addr):Turn P w K tg (Its z) [it] it (λ i h=>h.IsStrIter it "str_ascii_iterator" z t i) where
 mem:=by simp
 obj:=λ i h st b hb=>by
  have e:b=it:=by simpa using hb
  subst e
  obtain ⟨o,e,c,d⟩:=st
  exact ⟨o,e,λ v z=>by rw [d] at z;cases z⟩
 keep:=λ i h h' st k=>by
  obtain ⟨o,e,c,d⟩:=st
  exact ⟨o,k it (by simp) o e,c,d⟩
 item:=by
  intro X hP hw hK hc i pins s σ H E I hf st hg
  subst hP hw hK
  have hg':i < z.cps.size:=hg
  obtain ⟨f0,f1,f2,f3,f4,f5⟩:=hf it (by simp)
  have hx:z.cps[i]?=some z.cps[i]:=by simp [hg']
  refine wpAny_pyNext_ascii_item st hx λ h' st' sb=>?_
  have I1:Inv X pins σ H { s with heap:=h',toks:=s.toks+1 }:=I.turned (t':=s.toks+1) (λ b o hb e=>(sb.2 b hb).trans e) f0 f1 f3 f4 f5
  obtain ⟨o,e,c,d⟩:=id st'
  exact ⟨_,rfl,go_of (s:={ s with heap:=h',toks:=s.toks+1 }) e c d (by decide) ⟨.str ⟨#[z.cps[i]]⟩,H,I1,⟨_,rfl⟩,⟨rfl,_,hx,rfl⟩,st',λ b hb=>(hf b hb).1⟩⟩
 done:=by
  intro X hP hw hK hc i pins s σ H E I hf st hg
  subst hP hw hK
  have hg':z.cps.size<=i:=hg
  obtain ⟨f0,f1,f2,f3,f4,f5⟩:=hf it (by simp)
  have hx:z.cps[i]?=none:=by simp [hg']
  exact wpAny_pyNext_ascii_end (I.ok.hd hc) st hx λ h' eb=>⟨rfl,I.turned (t':=s.toks) (λ b o hb e=>eb b o hb e) f0 f1 f3 f4 f5⟩
 self:=λ A i s Q E st h=>wpAny_pyIter_striter_ascii st h
end
theorem ze7 {P:Program} {w:World} {H:Hp} {h:Heap} {a:Addr} {o:HO} (x:ObjOk P w H h a o):∃ ob,h.get? a=some ob:=by
 cases o with
|lst xs=>obtain ⟨_,_,_,_,e⟩:=x;exact ⟨_,e⟩
|tup xs=>obtain ⟨_,_,_,o,e,_⟩:=x;exact ⟨o,e⟩
|dK kvs=>obtain ⟨_,_,_,_,o,_,_,e,_⟩:=x;exact ⟨o,e⟩
|dT kvs=>obtain ⟨_,_,_,_,o,_,_,e,_⟩:=x;exact ⟨o,e⟩
|set S n=>obtain ⟨o,_,_,_,e,_⟩:=x;exact ⟨o,e⟩
|ins C dx fs=>obtain ⟨_,_,_,e,_⟩:=x;exact ⟨_,e⟩
|own y=>exact x
|xd fs=>obtain ⟨_,⟨_,_,_,e,_⟩,_⟩:=x;exact ⟨_,e⟩
|rng lo hi=>obtain ⟨_,_,_,e⟩:=x;exact ⟨_,e⟩
|frz ob u=>obtain ⟨e,_⟩:=x;exact ⟨_,e⟩
|tbl ps=>exact ⟨_,(show h.get? a=some _ from x)⟩
|met f y=>exact ⟨_,(show h.get? a=some _ from x)⟩
|ext φ=>obtain ⟨_,e,_⟩:=x;exact e
theorem zqt {K:Fg} {mg:Str->Option Value} {base:Heap} (M:Mod K mg base) (p:Program):∃ loose mb,PySem.W.TopRead p loose mg mb base:=by
 obtain ⟨o,es,ep,ho,hd,hk,hf⟩:=id M.glob
 obtain ⟨mb,hb,hbb⟩:=M.blt
 refine ⟨es.toList.filterMap λ e=>match e.key with|.str n _=>some n|_=>none,mb,M.glob,hb,M.nolimit,hbb,λ x _ hx _ _ _=>?_⟩
 rw [<- hf x]
 cases q:nsFind es x with
|none=>rfl
|some v =>
  exfalso
  unfold nsFind findBy at q
  cases z:es.find? (λ e=>e.key.isStr x) with
 |none=>rw [z] at q;cases q
 |some e =>
   have h1:=Array.find?_some z
   have h2:=Array.mem_of_find?_eq_some z
   apply hx
   refine List.mem_filterMap.mpr ⟨e,by simpa using h2,?_⟩
   obtain ⟨n,t,hn⟩:=hk e h2
   have h1':e.key.isStr x=true:=h1
   rw [hn] at h1' ⊢
   have:n=x:=by simpa [Value.isStr] using h1'
   rw [this]
abbrev vbm:List Value:=[.type "ValueError",.type "Exception",.type "BaseException",.type "object"]
structure XCls (K:Fg) (x:Str) (C:Addr):Prop where
 at_:PySem.W.nsIn K mainGlobals x=some (some (.ref C))
 ok:PySem.W.excIn K C vbm "ValueError.__new__"=true
theorem own_at {K:Fg} {mg:Str->Option Value} {base:Heap} {x:Str} {C:Addr} (M:Mod K mg base) (c:XCls K x C):OwnCls x C vbm "ValueError.__new__" mg base:=by
 obtain ⟨loose,mb,T⟩:=zqt M ⟨⟨[],⟨.module,[],false,false,[]⟩,false, "",[]⟩,[],[],[],[],{ argv:=[],stdin:=[],environ:=none }⟩
 exact PySem.W.own_of_in M.kin T c.at_ c.ok
def zbi (X:Cx) (E:XK):Prop:=∀ (pins:List (Addr×Obj)) (σ:St) (H:Hp) (s:Shared) (h':Heap) (ea C:Addr) (vs:List Value),Inv X pins σ H s->Heap.MadeExcOf s.heap h' ea (.ref C) vs->E (.ref C) none H->X.xe (.ref ea) { s with heap:=h' }
def tRaise (C:Addr) (E:XK) (t:TA):TS:=λ _ σ H=>t σ H λ vs H1=>vs.length<=sizeLine/\E (.ref C) none H1
theorem zrb {X:Cx} {E:XK} {C:Addr} {x:Str} {np cpos pos:Pos} {e:Expr} {es:List Expr} {t:TA} (hx:zbi X E) (c:XCls X.K x C) (hc:X.calm=true) (hg:Gl X x) (ha:PA X (e :: es) t) (hdb:(x == ("__debug__":Str))=false:=by decide)
  (he:starEach (e :: es) X.env=(false,eval e X.env) :: starEach es X.env:=by rfl) (hpl:(backTo cpos (starEach es X.env)).any (·.1)=false:=by rfl):PS X (.Raise (some (.Call (.Name x np) (e :: es) [] cpos)) none pos) (tRaise C E t):=by
 intro pins s σ H D I h
 obtain ⟨bnd,tl,N,nm,q,bs,hdct,sn,sub,ab,col,dd,k0,k1,k2,k3,k5,mN,hC,hN,hni,T⟩:=own_at I.mod c
 refine wpAny_Raise_call_subT (C:=C) (nm:=nm) (q:=q) (N:=N) (bs:=bs) (bm:=tl) (hdct:=hdct) (sn:=sn) (sub:=sub) (ab:=ab) (col:=col) (dd:=dd) (k0:=k0) (k1:=k1) (k2:=k2) (k3:=k3) (k5:=k5)
  PySem.F.excBase_ValueError (mN:=mN) (T.hasType (by decide)) (I.ok.hd hc) (by rw [he];show (false || (backTo cpos (starEach es X.env)).any (·.1))=false;rw [hpl];rfl) hni (ztd I hg bnd ⟨rfl,?_⟩ hdb)
 have hA:=ha cpos pins s σ H _ I h
 rw [he] at hA ⊢
 refine Calls.evalArgs_plain (thn hA λ us s1 ⟨vs,H1,I1,r,hz,q1⟩=>⟨rfl,by rw [<- r.length];exact hz,I1.bk _ _ hC,hN.keeps I1.bk,T.keeps I1.bk,λ h' ea m=>?_⟩)
 exact hx pins σ H1 s1 h' ea C us I1 m q1
def CX1 (P:Program) (w:World):CXT:=λ outer H s E e s'=>∃ (ea C:Addr) (B:Heap) (a0:Value) (H':Hp),e=.ref ea/\Heap.FlyingW B outer ea (.ref C) a0 s'.heap/\s'.os=s.os/\AllBare s'.gens/\Un (frs outer) [] H H' s.heap s'.heap/\HOk P w H' s'.heap /\
 (∀ b o u,s'.heap.get? b=some o->H' b=some u->B.get? b=some o)/\(∀ b o,s.heap.get? b=some o->H b=none->b ∉ frs outer->B.get? b=some o)/\(∀ b o,s.heap.get? b=some o->b ∉ frs outer->∃ o',B.get? b=some o')/\E (.ref C) none H'
section
variable {P:Program} {w:World} {K:Fg} {mg:Str->Option Value} {base:Heap} {N:List Str} {qual:Str} {scope:Scope} {f:Addr} {cd:Value} {A:Around} {outer:List Env} {s:Shared} {H:Hp} {E:XK}
theorem zz5:zbi (cxOf (CX1 P w) P w K mg base N qual scope f cd A outer s H E) E:=by
 intro pins σ H1 s1 h' ea C vs I m hE
 show wpAny (model P w) (A.deeper (envOfC qual scope s.heap.objs.size f cd)) (leaving (envOfC qual scope s.heap.objs.size f cd) (.ref ea)) (λ _ s''=>CX1 P w outer H s E (.ref ea) s'') (λ e' s''=>CX1 P w outer H s E e' s'') { s1 with heap:=h' }
 obtain ⟨t,he,ht0,ht⟩:=m.there
 have stk:s1.heap.FunFrames base (envOfC qual scope s.heap.objs.size f cd :: outer):=I.stack
 have hin:∀ env∈(envOfC qual scope s.heap.objs.size f cd :: outer),∀ b,env.frame=some b->b∈frs (envOfC qual scope s.heap.objs.size f cd :: outer):=λ env he b hb=>List.mem_filterMap.mpr ⟨env,he,hb⟩
 have hen:(PySem.W.hideAll s1.heap (frs (envOfC qual scope s.heap.objs.size f cd :: outer))).get? ea=none:=by
  cases q:(PySem.W.hideAll s1.heap (frs (envOfC qual scope s.heap.objs.size f cd :: outer))).get? ea with
 |none=>rfl
 |some o=>have:=PySem.W.of_hideAll _ q;rw [m.new] at this;cases this
 refine wpAny_leaving_firstW (a0:=.ref t) (show (A.deeper (envOfC qual scope s.heap.objs.size f cd)).frames=some (envOfC qual scope s.heap.objs.size f cd :: outer) from I.ok.frames) ((PySem.W.funFrames_hide stk hin).of_keeps λ b o hb _=>⟨o,m.keeps b o hb,rfl⟩) (L:=s.heap.objs.size) rfl he
  (λ b o hb=>m.keeps b o (PySem.W.of_hideAll _ hb)) hen rfl rfl rfl λ h'' hL=>?_
 obtain ⟨k1,⟨_,_,k2⟩,k3,k4⟩:=hL
 have u:Un (frs outer) [] H H1 s.heap s1.heap:=I.base
 have nL:∀ b o,s.heap.get? b=some o->b ∉ frs outer->b ∉ frs (envOfC qual scope s.heap.objs.size f cd :: outer):=λ b o e hb z=>by
  have z':b=s.heap.objs.size \/ b∈frs outer:=by
   have:frs (envOfC qual scope s.heap.objs.size f cd :: outer)=s.heap.objs.size :: frs outer:=rfl
   rw [this] at z
   exact List.mem_cons.mp z
  rcases z' with z'|z'
  ·exact absurd (Heap.lt_size e) (by rw [z'];exact Nat.lt_irrefl _)
  ·exact hb z'
 have inB:∀ b o,s1.heap.get? b=some o->b ∉ frs (envOfC qual scope s.heap.objs.size f cd :: outer)->(PySem.W.hideAll s1.heap (frs (envOfC qual scope s.heap.objs.size f cd :: outer))).get? b=some o:=λ b o e n=>PySem.W.hideAll_get _ e n
 have trk:∀ b u,H1 b=some u->b ∉ frs (envOfC qual scope s.heap.objs.size f cd :: outer):=λ b u e z=>by
  have:=I.stkFree b z
  rw [e] at this;cases this
 have slotOf:∀ b,b∈frs (envOfC qual scope s.heap.objs.size f cd :: outer)->∀ o,s1.heap.get? b=some o->∃ sl,h''.get? b=some { o with slots:=sl }:=λ b hb o e=>by
  obtain ⟨_,o',e',hd⟩:=stk.mem hb
  rw [e] at e';cases e'
  exact k4 b o (m.keeps b o e) hd
 refine ⟨ea,C,_,.ref t,H1,rfl,⟨k1,hen,k2,k3⟩,I.os,I.bare,⟨λ b o e n hb hx=>?_,λ b o e n hb hx=>?_,u.free,λ b o e hx=>?_,u.tups,u.frzs,u.tbls⟩,λ b o e=>?_,λ b o v e1 e2=>?_,λ b o e n hb=>?_,λ b o e hb=>?_,hE⟩
 ·exact k1 b o (inB b o (u.keep b o e n hb hx) (nL b o e hb))
 ·obtain ⟨sl,q⟩:=u.slot b o e n hb hx
  obtain ⟨sl',q'⟩:=slotOf b (List.mem_cons_of_mem _ hb) _ q
  exact ⟨sl',q'⟩
 ·obtain ⟨o',q⟩:=u.there b o e hx
  by_cases hb:b∈frs (envOfC qual scope s.heap.objs.size f cd :: outer)
  ·obtain ⟨sl,q'⟩:=slotOf b hb o' q
   exact ⟨_,q'⟩
  ·exact ⟨o',k1 b o' (inB b o' q hb)⟩
 ·refine (I.hok b o e).stay (λ c v hc q=>k1 c v (inB c v q ?_)) (λ _ q=>q) λ _ _ q=>q
  rcases hc with z|z
  ·rw [z];exact trk b o e
  ·exact trk c _ z
 ·obtain ⟨o1,q1⟩:=ze7 (I.hok b v e2)
  have q2:=inB b o1 q1 (trk b v e2)
  have q3:=k1 b o1 q2
  rw [e1] at q3
  cases q3
  exact q2
 ·exact inB b o (u.keep b o e n hb (by simp)) (nL b o e hb)
 ·obtain ⟨o',q⟩:=u.there b o e (by simp)
  exact ⟨o',inB b o' q (nL b o e hb)⟩
theorem zbk:Passes (CX1 P w) (cxOf (CX1 P w) P w K mg base N qual scope f cd A outer s H E) E:=by
 intro pins σ H1 s1 e s2 I h
 obtain ⟨ea,C,B,a0,H2,rfl,hfl,hos,hbare,u2,hok,hB,hB2,hB3,hE⟩:=h
 show wpAny (model P w) (A.deeper (envOfC qual scope s.heap.objs.size f cd)) (leaving (envOfC qual scope s.heap.objs.size f cd) (.ref ea)) (λ _ s''=>CX1 P w outer H s E (.ref ea) s'') (λ e' s''=>CX1 P w outer H s E e' s'') s2
 have hfl':Heap.FlyingW B (envOfC qual scope s.heap.objs.size f cd :: outer) ea (.ref C) a0 s2.heap:=hfl
 refine wpAny_leaves_onW (show (A.deeper (envOfC qual scope s.heap.objs.size f cd)).frames=some (envOfC qual scope s.heap.objs.size f cd :: outer) from I.ok.frames) (L:=s.heap.objs.size) rfl hfl' λ h'' x1 x2=>?_
 have u1:Un (frs outer) [] H H1 s.heap s1.heap:=I.base
 have u2':Un (frs (envOfC qual scope s.heap.objs.size f cd :: outer)) [] H1 H2 s1.heap s2.heap:=u2
 have nL:∀ b o,s.heap.get? b=some o->b ∉ frs outer->b ∉ frs (envOfC qual scope s.heap.objs.size f cd :: outer):=λ b o e hb z=>by
  have z':b=s.heap.objs.size \/ b∈frs outer:=List.mem_cons.mp (show b∈s.heap.objs.size :: frs outer from z)
  rcases z' with z'|z'
  ·exact absurd (Heap.lt_size e) (by rw [z'];exact Nat.lt_irrefl _)
  ·exact hb z'
 have k1:=x1.1
 have toB:∀ b o,s.heap.get? b=some o->H b=none->b ∉ frs outer->B.get? b=some o:=λ b o e n hb=>hB2 b o (u1.keep b o e n hb (by simp)) (u1.free b o e n (by simp)) (nL b o e hb)
 have toB3:∀ b o,s.heap.get? b=some o->b ∉ frs outer->∃ o',B.get? b=some o':=λ b o e hb=>by
  obtain ⟨o1,q1⟩:=u1.there b o e (by simp)
  exact hB3 b o1 q1 (nL b o e hb)
 refine ⟨ea,C,B,a0,H2,rfl,x1,hos.trans I.os,hbare,⟨λ b o e n hb hx=>k1 b o (toB b o e n hb),λ b o e n hb hx=>?_,λ b o e n hx=>?_,λ b o e hx=>?_,λ b xs q=>u2'.tups b xs (u1.tups b xs q),λ b o v q=>u2'.frzs b o v (u1.frzs b o v q),λ b ps q=>?_⟩,λ b o e=>?_,λ b o v e1 e2=>?_,toB,toB3,hE⟩
 ·obtain ⟨sl,q⟩:=u1.slot b o e n hb (by simp)
  obtain ⟨sl',q'⟩:=u2'.slot b _ q (u1.free b o e n (by simp)) (List.mem_cons_of_mem _ hb) (by simp)
  have st:=I.stack.mem (b:=b) (List.mem_cons_of_mem _ hb)
  obtain ⟨_,o',e',hd⟩:=st
  rw [q] at e';cases e'
  obtain ⟨sl2,q2⟩:=x2 b _ q' hd
  exact ⟨sl2,q2⟩
 ·obtain ⟨o',q⟩:=u1.there b o e (by simp)
  exact u2'.free b o' q (u1.free b o e n (by simp)) (by simp)
 ·by_cases hb:b∈frs outer
  ·obtain ⟨o1,q1⟩:=u1.there b o e (by simp)
   have nb:H1 b=none:=I.stkFree b (List.mem_cons_of_mem _ hb)
   obtain ⟨sl',q'⟩:=u2'.slot b _ q1 nb (List.mem_cons_of_mem _ hb) (by simp)
   have st:=I.stack.mem (b:=b) (List.mem_cons_of_mem _ hb)
   obtain ⟨_,o',e',hd⟩:=st
   rw [q1] at e';cases e'
   obtain ⟨sl2,q2⟩:=x2 b _ q' hd
   exact ⟨_,q2⟩
  ·obtain ⟨o',q⟩:=toB3 b o e hb
   exact ⟨o',k1 b o' q⟩
 ·obtain ⟨m1,q1⟩:=u1.tbls b ps q
  obtain ⟨m2,q2⟩:=u2'.tbls b _ q1
  exact ⟨m1++m2,by rw [q2,Array.append_assoc]⟩
 ·refine (hok b o e).stay (λ c v hc q=>k1 c v ?_) (λ _ q=>q) λ _ _ q=>q
  rcases hc with z|z
  ·exact hB c v o (by rw [z] at q ⊢;exact q) (by rw [z];exact e)
  ·exact hB c v _ q z
 ·obtain ⟨o1,q1⟩:=ze7 (hok b v e2)
  have q2:=hB b o1 v q1 e2
  have q3:=k1 b o1 q2
  rw [e1] at q3
  cases q3
  exact q2
end
structure Come (X:Cx) (H:Hp) (s:Shared) (ea C:Addr) (B:Heap) (a0:Value) (H':Hp) (s':Shared):Prop where
 os:s'.os=s.os
 bare:AllBare s'.gens
 un:Un (frs X.stack) [] H H' s.heap s'.heap
 hok:HOk X.prog X.w H' s'.heap
 b1:∀ b o u,s'.heap.get? b=some o->H' b=some u->B.get? b=some o
 b2:∀ b o,s.heap.get? b=some o->H b=none->b ∉ frs X.stack->B.get? b=some o
 b3:∀ b o,s.heap.get? b=some o->b ∉ frs X.stack->∃ o',B.get? b=some o'
section
variable {X:Cx} {pins:List (Addr×Obj)} {σ:St} {H H':Hp} {s s':Shared} {ea C:Addr} {B:Heap} {a0:Value}
theorem zvj (I:Inv X pins σ H s) (c:Come X H s ea C B a0 H' s') {h:Heap} {tk:Nat} (k1:B.StaysIn h) (x2:s'.heap.UpToSlots h):Inv X pins σ H' { s' with heap:=h,toks:=tk }:=by
 refine I.call' (s':={ s' with heap:=h,toks:=tk }) (ch:=[]) c.os ⟨λ b o e n hb hx=>k1 b o (c.b2 b o e n hb),λ b o e n hb hx=>?_,c.un.free,λ b o e hx=>?_,c.un.tups,c.un.frzs,c.un.tbls⟩ (λ b o e=>?_) c.bare λ b z=>absurd z (by simp)
 ·obtain ⟨sl,q⟩:=c.un.slot b o e n hb hx
  obtain ⟨_,o',e',hd⟩:=I.stack.mem (b:=b) hb
  rw [e] at e';cases e'
  obtain ⟨sl2,q2⟩:=x2 b _ q hd
  exact ⟨sl2,q2⟩
 ·by_cases hb:b∈frs X.stack
  ·have nb:H b=none:=I.stkFree b hb
   obtain ⟨sl,q⟩:=c.un.slot b o e nb hb hx
   obtain ⟨_,o',e',hd⟩:=I.stack.mem (b:=b) hb
   rw [e] at e';cases e'
   obtain ⟨sl2,q2⟩:=x2 b _ q hd
   exact ⟨_,q2⟩
  ·obtain ⟨o',q⟩:=c.b3 b o e hb
   exact ⟨o',k1 b o' q⟩
 ·refine (c.hok b o e).stay (λ d v hc q=>k1 d v ?_) (λ _ q=>q) λ _ _ q=>q
  rcases hc with z|z
  ·exact c.b1 d v o q (by rw [z];exact e)
  ·exact c.b1 d v _ q z
def markX (X:Cx) (ea:Addr):Cx:={ X with A:=X.A.mark (some (.ref ea)),calm:=false,xe:=λ _ _=>False }
theorem zii (I:Inv X pins σ H s) (ea:Addr):Inv (markX X ea) pins σ H s :=
 ⟨⟨I.ok.mod,I.ok.kind,I.ok.glob,I.ok.blt,I.ok.above,I.ok.inj,I.ok.has,I.ok.cab,λ z=>Bool.noConfusion z,I.ok.frames,I.ok.stk,I.ok.exf,I.ok.bs,I.ok.bsz,I.ok.noex,I.ok.exfs,I.ok.funs,I.ok.frf⟩,I.os,I.bare,I.base,I.loc,I.cell,I.free,I.freeC,I.pin,I.hok,I.len⟩
end
inductive Hands (X:Cx):List ExceptHandler->List (Value×TS)->Prop
|nil:Hands X [] []
|cons {x:Str} {np pos:Pos} {b₀:Stmt} {suite:List Stmt} {c:Value} {t:TS} {hs:List ExceptHandler} {l:List (Value×TS)}:Gl X x->(X.mg x=some c \/ (X.mg x=none/\bootBuiltins x=some c/\x ≠ "__name__"))->(x == ("__debug__":Str))=false->(∀ ea,PSs (markX X ea) (b₀ :: suite) t)->Hands X hs l ->
   Hands X (.ExceptHandler (some (.Name x np)) none (b₀ :: suite) pos :: hs) ((c,t) :: l)
section
variable {X:Cx} {pins:List (Addr×Obj)} {σ:St} {H H':Hp} {s s':Shared} {ea C:Addr} {B:Heap} {a0:Value}
def zzb (CX:CXT) (X:Cx) (E:XK) (σ:St):Prop:=∀ (pins:List (Addr×Obj)) (H:Hp) (s:Shared) (e:Value) (s':Shared),Inv X pins σ H s->CX X.stack H s E e s'->X.xe e s'
def tryX (X:Cx) (D:Ends) (hs:List ExceptHandler):Value->Shared->Prop:=λ e s₁=>wpAny (model X.prog X.w) X.A (noteFrame e X.env) (λ _ s₂=>wpAny (model X.prog X.w) X.A (setFlight e none) (λ _ s₃=>wpAny (model X.prog X.w) X.A (handleBy e X.env hs) (SP X [] D) X.xe s₃) X.xe s₂) X.xe s₁
end
def withX (X:Cx) (pn:List (Addr×Obj)) (xe:Value->Shared->Prop):Cx:={ X with pn:=pn,xe:=xe }
section
variable {X:Cx} {pins:List (Addr×Obj)} {σ:St} {H:Hp} {s:Shared}
theorem zvs (ok:X.Ok) (pn:List (Addr×Obj)) (xe:Value->Shared->Prop):(withX X pn xe).Ok:=⟨ok.mod,ok.kind,ok.glob,ok.blt,ok.above,ok.inj,ok.has,ok.cab,ok.hd,ok.frames,ok.stk,ok.exf,ok.bs,ok.bsz,ok.noex,ok.exfs,ok.funs,ok.frf⟩
theorem zdp (I:Inv X pins σ H s) (xe:Value->Shared->Prop):Inv (withX X (X.pn++pins) xe) [] σ H s :=
 ⟨zvs I.ok _ _,I.os,I.bare,I.base,I.loc,I.cell,I.free,I.freeC,λ p hp=>I.pin p (by have hp':p∈(X.pn++pins)++[]:=hp;rw [List.append_nil] at hp';exact hp'),I.hok,I.len⟩
theorem zoj {pn:List (Addr×Obj)} {xe xe':Value->Shared->Prop} {ps:List (Addr×Obj)} (I:Inv (withX X pn xe) ps σ H s):Inv (withX X pn xe') [] σ H s :=
 ⟨⟨I.ok.mod,I.ok.kind,I.ok.glob,I.ok.blt,I.ok.above,I.ok.inj,I.ok.has,I.ok.cab,I.ok.hd,I.ok.frames,I.ok.stk,I.ok.exf,I.ok.bs,I.ok.bsz,I.ok.noex,I.ok.exfs,I.ok.funs,I.ok.frf⟩,I.os,I.bare,I.base,I.loc,I.cell,I.free,I.freeC,λ p hp=>I.pin p (List.mem_append_left _ (by have hp':p∈pn++[]:=hp;rw [List.append_nil] at hp';exact hp')),I.hok,I.len⟩
theorem ze4 (ok:X.Ok) {xe:Value->Shared->Prop} (I:Inv (withX X (X.pn++pins) xe) [] σ H s):Inv X pins σ H s :=
 ⟨ok,I.os,I.bare,I.base,I.loc,I.cell,I.free,I.freeC,λ p hp=>I.pin p (List.mem_append_left _ hp),I.hok,I.len⟩
theorem zc4 (ok:X.Ok) {xe:Value->Shared->Prop} {D:Ends} {f:Flow} (h:SP (withX X (X.pn++pins) xe) [] D f s):SP X pins D f s:=by
 cases f with
|next=>obtain ⟨σ',H',I,q⟩:=h;exact ⟨σ',H',ze4 ok I,q⟩
|brk=>obtain ⟨σ',H',I,q⟩:=h;exact ⟨σ',H',ze4 ok I,q⟩
|cont=>obtain ⟨σ',H',I,q⟩:=h;exact ⟨σ',H',ze4 ok I,q⟩
|ret u=>obtain ⟨v,σ',H',I,r,q⟩:=h;exact ⟨v,σ',H',ze4 ok I,r,q⟩
def tTry (tb:Ends->TS):TS:=λ D σ H=>tb D D σ H
end
def Meth1 (P:Program) (w:World) (K:Fg) (mg:Str->Option Value) (base:Heap) (C:Addr) (m:Str) (k:Nat) (ps:List Str) (sp:Sp):Prop :=
 ∃ f fd,Cls K C/\Meth K C m f/\FnOk P w K mg base (CX1 P w) k f fd ps sp/\Binds K fd ps []
section
variable {X:Cx} {k:Nat} {f C:Addr} {fd:FuncData} {ps:List Str} {sp:Sp} {x m:Str} {p pos apos:Pos} {e o:Expr} {es:List Expr} {ta:TE} {t:TA} {Eσ:St->XK}
theorem run_at {pins:List (Addr×Obj)} {σ:St} {H:Hp} {s:Shared} {Q:VK} {us:List Value} {vs:List V} (F:FnOk X.prog X.w X.K X.mg X.base (CX1 X.prog X.w) k f fd ps sp) (hr:Room k X.A) (hb:Binds X.K fd ps []) (hx:zzb (CX1 X.prog X.w) X (Eσ σ) σ)
  (I:Inv X pins σ H s) (r:Vals vs us) (h:sp vs H Q (Eσ σ)):wpAny (model X.prog X.w) X.A (call (.ref f) us) (EP X pins σ Q) X.xe s:=by
 have hl:us.length=ps.length:=by rw [<- r.length];exact F.len _ _ _ _ h
 have bt:=hb s us I.kIn (by rw [List.append_nil];exact hl)
 rw [List.append_nil] at bt
 refine wpAny_call (codeAny_mono (F.run X.A X.stack s H ⟨us,[]⟩ us vs Q (Eσ σ) hr I.env0 bt r h) λ res s2 hq=>?_)
 cases res with
|error z=>exact hx pins H s z s2 I hq
|ok fl =>
  cases fl with
 |ret u=>exact I.after hq
 |next=>exact False.elim hq
 |brk=>exact False.elim hq
 |cont=>exact False.elim hq
theorem zhf {P:Program} {w:World} {K:Fg} {mg:Str->Option Value} {base:Heap} {N:List Str} {qual:Str} {scope:Scope} {f:Addr} {cd:Value} {A:Around} {outer:List Env} {s:Shared} {H:Hp} {E:XK} (σ:St) :
  zzb (CX1 P w) (cxOf (CX1 P w) P w K mg base N qual scope f cd A outer s H E) E σ:=λ pins H1 s1 e s2 I c=>zbk pins σ H1 s1 e s2 I c
def tMethS (P:Program) (w:World) (K:Fg) (mg:Str->Option Value) (base:Heap) (m:Str) (k:Nat) (Eσ:St->XK) (ta:TE) (t:TA):TE:=λ σ H Q=>ta σ H λ x H1=>∃ a C dx fs ps sp,x=.ref a/\H1 a=some (.ins C dx fs)/\fs.lookup m=none /\
 Meth1 P w K mg base C m k ps sp/\t σ H1 λ vs H2=>sp (x :: vs) H2 Q (Eσ σ)
theorem zze {P:Program} {w:World} {K:Fg} {mg:Str->Option Value} {base:Heap} {pl:Sem Bool} (hP:X.prog=P) (hw:X.w=w) (hK:X.K=K) (hmg:X.mg=mg) (hbs:X.base=base) (hr:Room k X.A) (hx:∀ σ,zzb (CX1 X.prog X.w) X (Eσ σ) σ) (he:PE X o ta) (ha:PA X (e :: es) t)
  (hst:starEach (e :: es) X.env=(false,eval e X.env) :: starEach es X.env:=by rfl) (hpl:(backTo pos (starEach es X.env)).any (·.1)=false:=by rfl)
  (ht:eval (.Call (.Attribute o m apos) (e :: es) [] pos) X.env=(do
   let ov <- eval o X.env
   standAt apos.atName
   let (f,first) <- holding [ov] (getMethod ov m pl)
   callWith pos f first (backTo pos (starEach (e :: es) X.env)) (backToKw pos (keywordEach [] X.env))):=by rfl) :
  PE X (.Call (.Attribute o m apos) (e :: es) [] pos) (tMethS P w K mg base m k Eσ ta t):=by
 subst hP hw hK hmg hbs
 intro pins s σ H Q I h
 refine PySem.W.methodCall_KW (pl:=pl) (thn (he pins s σ H _ I h) λ u s1 ⟨x,H1,I1,rx,a,C,dx,fs,ps,sp,ex,ea,l,d,q⟩=>?_) ht
 subst ex
 obtain rfl:u=Value.ref a:=rx
 obtain ⟨f,fd,c,hm,F,b⟩:=d
 refine zj3 I1 ea c hm l ?_
 refine PySem.W.callWith_K (first:=[.ref a]) (h₀:=X.base) I.ok.mod.kin hm.kp (thn (ha pos pins s1 σ H1 _ I1 q) λ us s2 ⟨vs,H2,I2,r,q2⟩=>⟨I2.kIn,?_⟩) hst hpl
 exact run_at (us:=.ref a :: us) (vs:=.ref a :: vs) F hr b (hx σ) I2 (.cons rfl r) q2
end
section
variable {P:Program} {w:World} {K:Fg} {mg:Str->Option Value} {base:Heap}
abbrev zhc (P:Program) (w:World) (K:Fg) (mg:Str->Option Value) (base:Heap) (qual:Str) (st:Stmt) (N:List Str) (k:Nat) (sp:Sp):Prop :=
 ∀ (f:Addr) (cdv:Value) (A:Around) (outer:List Env) (s:Shared) (H:Hp) (vs:List V) (Q:VK) (E:XK),Room k (A.deeper (envOfC qual (zf0 st) s.heap.objs.size f cdv))->sp vs H Q E ->
   ∃ t,PSs (cxOf (CX1 P w) P w K mg base N qual (zf0 st) f cdv A outer s H E) (zr1 st) t/\t { nx:=λ _ H'=>Q .non H',rt:=Q } (start N vs) H
theorem zct {x qual:Str} {st:Stmt} {f:Addr} {fd:FuncData} {N ps:List Str} {k:Nat} {sp:Sp} (F:Fun K x qual st f fd) (S:FnScope N ps (zf0 st)) (len:∀ vs H Q E,sp vs H Q E->vs.length=ps.length)
  (body:zhc P w K mg base qual st N k sp):FnOk P w K mg base (CX1 P w) (k+1) f fd ps sp:=by
 obtain ⟨oc,od,kV,doc,pm,an,cdv,ct,osl,rfl,lk,hcd⟩:=F.ex
 exact fn_of lk hcd S len λ A outer s H vs Q E hr hsp=>body f cdv A outer s H vs Q E hr hsp
theorem zrj {C:Addr} {m qual:Str} {st:Stmt} {N ps:List Str} {k:Nat} {sp:Sp} (c:Cls K C) (T:TopMeth K C m qual st) (S:FnScope N ps (zf0 st)) (hb:zo6 m qual st ps) (len:∀ vs H Q E,sp vs H Q E->vs.length=ps.length)
  (body:zhc P w K mg base qual st N k sp):Meth1 P w K mg base C m (k+1) ps sp:=by
 obtain ⟨f,fd,a,i,F⟩:=T.ex
 exact ⟨f,fd,c,⟨a,i,F.kp⟩,zct F S len body,F.binds hb⟩
end
section
variable {X:Cx}
def repS (x:Str) (n:Nat):Str:=⟨(List.replicate n x.cps).foldl (·++·) #[]⟩
theorem zhq (c:List (Array Nat)):∀ a:Array Nat,c.foldl (·++·) a=a++(c.map Array.toList).flatten.toArray:=by
 induction c with
|nil=>intro a;simp
|cons y r ih=>intro a;rw [List.foldl_cons,ih,Array.append_assoc];congr 1;apply Array.toList_inj.mp;simp
theorem zwj (x:Str) (n:Nat):(repS x n).cps.toList=(List.replicate n x.cps.toList).flatten:=by
 unfold repS
 rw [zhq]
 simp
def rMulS:R2:=λ x y H Q=>∃ z n,x=.str z/\y=.int n/\0<=n/\z.length * n.toNat<=sizeLine/\n<=sizeLine/\Q (.str (repS z n.toNat)) H
theorem zpr:OpR X (binaryOp .Mult) rMulS:=by
 intro pins s σ H x y v u Q I rx ry h
 obtain ⟨z,n,rfl,rfl,h1,h2,h3,q⟩:=h
 obtain ⟨t,rfl⟩:=rx
 obtain ⟨t',rfl⟩:=ry
 have hl:sizeLine=16777216:=sizeLine_eq
 have hz:z.length=z.cps.size:=rfl
 by_cases n0:n=0
 ·subst n0
  refine P.mul_str (by rw [decide_eq_false (by lia),decide_eq_false (by lia)];rfl) (λ a b hc=>?_) (λ a b=>?_) ?_
  ·exact absurd a (by decide)
  ·exact decide_eq_false (by simp)
  ·rw [if_pos (by decide)]
   exact ⟨by decide,.str (repS z 0),H,I.tok _,⟨_,rfl⟩,q⟩
 have h1:0 < n:=by lia
 refine P.mul_str (by rw [decide_eq_false (by lia),decide_eq_false (by lia)];rfl) (λ _ _ hc=>?_) (λ _ _=>?_) ?_
 ·have h4:(2 ^ 63 - 1:Int) / n ≥ z.length:=by
   refine (Int.le_ediv_iff_mul_le h1).mpr ?_
   have h5:((z.length * n.toNat:Nat):Int)=(z.length:Int) * n:=by rw [Int.natCast_mul,Int.toNat_of_nonneg (by lia)]
   have h6:((z.length * n.toNat:Nat):Int)<=(sizeLine:Nat):=by exact_mod_cast h2
   lia
  lia
 ·exact decide_eq_false (by lia)
 ·rw [if_neg (by lia)]
  by_cases hc:(n == 1 || z.length == 0)=true
  ·rw [if_pos hc]
   refine ⟨.str (repS z n.toNat),H,I,⟨t,?_⟩,q⟩
   have:repS z n.toNat=z:=by
    have e:(repS z n.toNat).cps.toList=z.cps.toList:=by
     rw [zwj]
     rcases (Bool.or_eq_true _ _).mp hc with hc|hc
     ·have:n=1:=by simpa using hc
      subst this;simp
     ·have:z.cps.toList=[]:=by
       have:z.cps.size=0:=by simpa [hz] using hc
       simpa using this
      rw [this];simp
    cases z with|mk c =>
     show repS ⟨c⟩ n.toNat=⟨c⟩
     have e2:(repS ⟨c⟩ n.toNat).cps=c:=Array.toList_inj.mp e
     cases hq:repS ⟨c⟩ n.toNat with|mk d=>rw [hq] at e2;cases e2;rfl
   rw [this]
  ·rw [if_neg hc]
   exact ⟨fits_reps (decide_eq_false (by lia)),.str (repS z n.toNat),H,I.tok _,⟨_,rfl⟩,q⟩
end
section
variable {X:Cx}
end
section
variable {prog:Program} {w:World} {A:Around} {E:Value->Shared->Prop} {s:Shared}
theorem zm7 {it t:Addr} {i:Nat} {items} {x:Value} {Q:Value->Shared->Prop} (hit:s.heap.IsTupleIter it t i)
  (ht:s.heap.IsTuple t items) (hx:items[i]?=some x) (hQ:∀ h',h'.IsTupleIter it t (i+1)->Heap.SameBut it s.heap h'->Q x { s with heap:=h' }) :
  wpAny (model prog w) A (Builtin.SmallTypes.nextOf (.ref it)) Q E s:=by
 obtain ⟨o,ho,hc,hd⟩:=id hit
 obtain ⟨ol,hol,_,nl,hdl⟩:=ht
 unfold Builtin.SmallTypes.nextOf
 refine wpAny_bind (wpAny_callSpecial?_slot (name:=Str.ofString "__next__") hit.typeIs F.slot_tuple_iterator_next
  (wpAny_call_entry F.slot_tuple_iterator_next hit.typeIs F.entry_tuple_iterator_next ?_ (F.args_tuple_iterator_next_1 _)))
 show wpAny _ _ (field (.ref it) 0 >>= _) _ _ s
 refine wpAny_bind (wpAny_field ho hd (x:=.ref t) rfl ?_)
 show wpAny _ _ (if (Value.ref t == Value.none)=true then _ else _) _ _ s
 rw [if_neg (show ¬ ((Value.ref t == Value.none)=true) from Bool.false_ne_true)]
 show wpAny _ _ (field (.ref it) 1 >>= _) _ _ s
 refine wpAny_bind (wpAny_field ho hd (x:=.int i 0) rfl ?_)
 show wpAny _ _ (seqItems? (.ref t) >>= _) _ _ s
 refine wpAny_bind (wpAny_seqItems hol hdl ?_)
 simp only [Int.toNat_natCast,hx]
 refine wpAny_bind (wpAny_setField ho hd (by simp) (wpAny_pure ⟨x,rfl,wpAny_pure (hQ _ ?_ (Heap.SameBut.update ..))⟩))
 exact ⟨_,Heap.get?_update_self _ ho (Obj.isFreed_of_fields (Obj.data_mapFields hd _)),(Obj.cls_mapFields ..).trans hc,by
  rw [Obj.data_mapFields hd];simp [rawInt]⟩
theorem zj8 {it t:Addr} {i:Nat} {items} {Q:Value->Shared->Prop} (hh:A.handled=none)
  (hit:s.heap.IsTupleIter it t i) (ht:s.heap.IsTuple t items) (hx:items[i]?=none)
  (hE:∀ h' e,Heap.ExtBut it s.heap h'->(∃ o,h'.get? e=some o/\o.cls=.type "StopIteration")->E (.ref e) { s with heap:=h' }) :
  wpAny (model prog w) A (Builtin.SmallTypes.nextOf (.ref it)) Q E s:=by
 obtain ⟨o,ho,hc,hd⟩:=id hit
 obtain ⟨ol,hol,_,nl,hdl⟩:=ht
 unfold Builtin.SmallTypes.nextOf
 refine wpAny_bind (wpAny_callSpecial?_slot (name:=Str.ofString "__next__") hit.typeIs F.slot_tuple_iterator_next
  (wpAny_call_entry F.slot_tuple_iterator_next hit.typeIs F.entry_tuple_iterator_next ?_ (F.args_tuple_iterator_next_1 _)))
 show wpAny _ _ (field (.ref it) 0 >>= _) _ _ s
 refine wpAny_bind (wpAny_field ho hd (x:=.ref t) rfl ?_)
 show wpAny _ _ (if (Value.ref t == Value.none)=true then _ else _) _ _ s
 rw [if_neg (show ¬ ((Value.ref t == Value.none)=true) from Bool.false_ne_true)]
 show wpAny _ _ (field (.ref it) 1 >>= _) _ _ s
 refine wpAny_bind (wpAny_field ho hd (x:=.int i 0) rfl ?_)
 show wpAny _ _ (seqItems? (.ref t) >>= _) _ _ s
 refine wpAny_bind (wpAny_seqItems hol hdl ?_)
 simp only [Int.toNat_natCast,hx]
 refine wpAny_bind (wpAny_rule (wpAny_bind (wpAny_setField ho hd (by simp) ?_)))
 show wpAny _ _ (newExc (.type "StopIteration") [] >>= _) _ _ _
 refine wpAny_bind ?_
 simp only [newExc,newTuple]
 refine wpAny_bind (wpAny_newObj_type ?_ (by size_fits))
 refine wpAny_bind (m:=firstArgMember _ _) (wpAny_of_eq (a:=Value.none) (by first|rfl|(simp only [firstArgMember];rfl)) ?_)
 refine wpAny_newObj_type ?_ (by size_fits)
 simp only [raiseNew]
 refine wpAny_bind (wpAny_handled ?_)
 first|rw [show A.in1.handled=none from hh]|rw [hh]
 refine wpAny_bind (wpAny_pure (wpAny_throw ?_))
 exact hE _ _ (((Heap.SameBut.update ..).extBut.push _).push _) ⟨_,Heap.get?_push_size _ rfl,rfl⟩
end
structure Nx (P:Program) (w:World) (K:Fg) (J:It) (it:Addr) (st:Nat->Heap->Prop):Prop where
 obj:∀ i h,st i h->∃ o,h.get? it=some o/\∀ v,o.data≠.cell v
 keep:∀ i h h',st i h->(∀ o,h.get? it=some o->h'.get? it=some o)->st i h'
 item:∀ (X:Cx),X.prog=P->X.w=w->X.K=K->∀ (A:Around) (i:Nat) (pins:List (Addr×Obj)) (s:Shared) (σ:St) (H:Hp) (Q:Value->Shared->Prop) (E:Value->Shared->Prop),Inv X pins σ H s->st i s.heap->J.go i H ->
  (∀ u x h' tk,RelV x u->J.yld i H x H->st (i+1) h'->Heap.SameBut it s.heap h'->Q u { s with heap:=h',toks:=tk })->wpAny (model P w) A (Builtin.SmallTypes.nextOf (.ref it)) Q E s
 done:∀ (X:Cx),X.prog=P->X.w=w->X.K=K->∀ (A:Around) (i:Nat) (pins:List (Addr×Obj)) (s:Shared) (σ:St) (H:Hp) (Q:Value->Shared->Prop) (E:Value->Shared->Prop),A.handled=none->Inv X pins σ H s->st i s.heap->J.stop i H ->
  (∀ h' e,Heap.ExtBut it s.heap h'->(∃ o,h'.get? e=some o/\o.cls=.type "StopIteration")->E (.ref e) { s with heap:=h' })->wpAny (model P w) A (Builtin.SmallTypes.nextOf (.ref it)) Q E s
theorem zor {P:Program} {w:World} {K:Fg} (a it:Addr):Nx P w K (Itl K a) it (λ i h=>h.IsListIter it a i) where
 obj:=λ i h st=>by
  obtain ⟨o,e,c,d⟩:=st
  exact ⟨o,e,λ v z=>by rw [d] at z;cases z⟩
 keep:=λ i h h' st k=>st.at k
 item:=by
  intro X hP hw hK A i pins s σ H Q E I st hg hQ
  subst hP hw hK
  obtain ⟨xs,x,hq,hx⟩:=hg
  obtain ⟨its,rv,p,hz⟩:=I.list hq
  obtain ⟨u,hu,ru⟩:=rv.get hx
  exact wpAny_nextOf_list_item st p.isList (x:=u) (by simpa using hu) λ h' st' sb=>hQ u x h' s.toks ru ⟨rfl,λ ys hy=>by rw [I.list_inj hy hq];exact hx⟩ st' sb
 done:=by
  intro X hP hw hK A i pins s σ H Q E hh I st hg hE
  subst hP hw hK
  obtain ⟨xs,hq,hx⟩:=hg
  obtain ⟨its,rv,p,hz⟩:=I.list hq
  have hl:=rv.length
  exact wpAny_nextOf_list_end hh st p.isList (by simp;lia) hE
theorem nx_tup {P:Program} {w:World} {K:Fg} (a it:Addr):Nx P w K (Itt K a) it (λ i h=>h.IsTupleIter it a i) where
 obj:=λ i h st=>by
  obtain ⟨o,e,c,d⟩:=st
  exact ⟨o,e,λ v z=>by rw [d] at z;cases z⟩
 keep:=λ i h h' st k=>st.at k
 item:=by
  intro X hP hw hK A i pins s σ H Q E I st hg hQ
  subst hP hw hK
  obtain ⟨xs,x,hq,hx⟩:=hg
  obtain ⟨its,rv,p,hz⟩:=I.tuple hq
  obtain ⟨u,hu,ru⟩:=rv.get hx
  exact zm7 st (show s.heap.IsTuple a its.toArray from p) (x:=u) (by simpa using hu) λ h' st' sb=>hQ u x h' s.toks ru ⟨rfl,λ ys hy=>by rw [I.tuple_inj hy hq];exact hx⟩ st' sb
 done:=by
  intro X hP hw hK A i pins s σ H Q E hh I st hg hE
  subst hP hw hK
  obtain ⟨xs,hq,hx⟩:=hg
  obtain ⟨its,rv,p,hz⟩:=I.tuple hq
  have hl:=rv.length
  exact zj8 hh st (show s.heap.IsTuple a its.toArray from p) (by simp;lia) hE
theorem zg2 {X:Cx} {pins:List (Addr×Obj)} {σ:St} {H:Hp} {s:Shared} {b:Addr} {h':Heap} {tk:Nat} (I:Inv X pins σ H s) (f:FpOk X pins H b) (k:Heap.SameBut b s.heap h'):Inv X pins σ H { s with heap:=h',toks:=tk } :=
 let ⟨f0,f1,_,f3,f4,f5⟩:=f
 I.turned (λ c o hc e=>(k.2 c hc).trans e) f0 f1 f3 f4 f5
theorem fp_ext {X:Cx} {pins:List (Addr×Obj)} {σ:St} {H:Hp} {s:Shared} {b:Addr} {h':Heap} {tk:Nat} (I:Inv X pins σ H s) (f:FpOk X pins H b) (k:Heap.ExtBut b s.heap h'):Inv X pins σ H { s with heap:=h',toks:=tk } :=
 let ⟨f0,f1,_,f3,f4,f5⟩:=f
 I.turned (λ c o hc e=>k c o hc e) f0 f1 f3 f4 f5
structure ZAp (z TI TO i1 i2:Addr):Prop where
 TIz:TI≠z
 TOz:TO≠z
 i1z:i1≠z
 i2z:i2≠z
 TITO:TI≠TO
 TIi1:TI≠i1
 TIi2:TI≠i2
 TOi1:TO≠i1
 TOi2:TO≠i2
 i12:i1≠i2
structure ZSt (z TI TO i1 i2:Addr) (f0:Value) (st1 st2:Nat->Heap->Prop) (i:Nat) (h:Heap):Prop where
 z:IsZip h z TI TO f0
 TI:IsPair h TI (.ref i1) (.ref i2)
 TO:∃ a b,IsPair h TO a b
 s1:st1 i h
 s2:st2 i h
section
variable {X:Cx} {pins:List (Addr×Obj)} {σ:St} {H:Hp} {s:Shared} {J1 J2:It} {z TI TO i1 i2:Addr} {st1 st2:Nat->Heap->Prop} {i:Nat}
theorem zep {A:Around} {E:Value->Shared->Prop} {Q:Value->Shared->Prop} (N1:Nx X.prog X.w X.K J1 i1 st1) (N2:Nx X.prog X.w X.K J2 i2 st2) (D:ZAp z TI TO i1 i2) (I:Inv X pins σ H s)
  (fz:FpOk X pins H z) (fTO:FpOk X pins H TO) (f1:FpOk X pins H i1) (f2:FpOk X pins H i2) (S:ZSt z TI TO i1 i2 .none st1 st2 i s.heap) (g1:J1.go i H) (g2:J2.go i H)
  (hQ:∀ p x1 x2 s',H p=none->p≠z->p≠TI->p≠TO->p≠i1->p≠i2->J1.yld i H x1 H->J2.yld i H x2 H->Inv X pins σ (upd H p (.tup [x1,x2])) s'->ZSt z TI TO i1 i2 (rawInt p) st1 st2 (i+1) s'.heap->Q (.ref p) s') :
  wpAny (model X.prog X.w) A (Builtin.«zip.__next__» ⟨[.ref z],[]⟩) (λ fin s'=>∃ v,fin=.done (.ret v)/\Q v s') E s:=by
 obtain ⟨hz,hTI,⟨a,b,hTO⟩,h1,h2⟩:=S
 show wpAny _ _ (field (.ref z) 2 >>= _) _ _ _
 refine wpAny_bind (wpAny_field hz rfl (x:=.bool false) rfl ?_)
 show wpAny _ _ (field (.ref z) 3 >>= _) _ _ _
 refine wpAny_bind (wpAny_field hz rfl (x:=.ref TI) rfl ?_)
 refine wpAny_bind (wpAny_seqItems hTI rfl ?_)
 show wpAny _ _ (Builtin.SmallTypes.ownedTupleIsFree (.ref z) >>= _) _ _ _
 refine wpAny_bind ?_
 unfold Builtin.SmallTypes.ownedTupleIsFree
 refine wpAny_bind (wpAny_field hz rfl (x:=.none) rfl (wpAny_pure ?_))
 simp only [if_true]
 refine wpAny_bind (wpAny_rule ?_)
 refine wpAny_bind (wpAny_field hz rfl (x:=.ref TO) rfl ?_)
 refine wpAny_bind (wpAny_setField_rec hz (by simp) λ h₁ hz₁ hs₁=>?_)
 replace hz₁:IsZip h₁ z TI TO .ellipsis:=hz₁
 have I1:Inv X pins σ H { s with heap:=h₁ }:=zg2 (tk:=s.toks) I fz hs₁
 refine wpAny_bind ?_
 simp only [List.zipIdx_cons,List.zipIdx_nil,List.forIn_cons,List.forIn_nil]
 refine wpAny_bind (wpAny_bind (wpAny_onRaise ?_))
 show wpAny _ _ (Builtin.SmallTypes.nextOf (.ref i1) >>= _) _ _ _
 have a1:st1 i h₁:=N1.keep _ _ _ h1 λ o e=>hs₁.extBut _ _ D.i1z e
 refine wpAny_bind (N1.item X rfl rfl rfl _ i pins _ σ H _ _ I1 a1 g1 λ x x1 h₂ tk₂ r1 y1 b1 hs₂=>wpAny_pure ?_)
 replace hs₂:Heap.SameBut i1 h₁ h₂:=hs₂
 have I2:Inv X pins σ H { s with heap:=h₂,toks:=tk₂ }:=zg2 (s:={ s with heap:=h₁ }) (tk:=tk₂) I1 f1 hs₂
 have hTO₂:IsPair h₂ TO a b:=hs₂.extBut _ _ D.TOi1 (hs₁.extBut _ _ D.TOz hTO)
 refine wpAny_bind (wpAny_seqItems hTO₂ rfl ?_)
 refine wpAny_bind (wpAny_updateSeq_pair (s:={ s with heap:=h₂,toks:=tk₂ }) hTO₂ λ h₃ hTO₃ hs₃=>?_)
 replace hTO₃:IsPair h₃ TO x b:=hTO₃
 replace hs₃:Heap.SameBut TO h₂ h₃:=hs₃
 have I3:Inv X pins σ H { s with heap:=h₃,toks:=tk₂ }:=zg2 (s:={ s with heap:=h₂,toks:=tk₂ }) (tk:=tk₂) I2 fTO hs₃
 refine wpAny_bind (wpAny_letGo (wpAny_pure ?_))
 refine wpAny_bind (wpAny_bind (wpAny_onRaise ?_))
 show wpAny _ _ (Builtin.SmallTypes.nextOf (.ref i2) >>= _) _ _ _
 have a2:st2 i h₃:=N2.keep _ _ _ h2 λ o e=>hs₃.extBut _ _ D.TOi2.symm (hs₂.extBut _ _ D.i12.symm (hs₁.extBut _ _ D.i2z e))
 refine wpAny_bind (N2.item X rfl rfl rfl _ i pins _ σ H _ _ I3 a2 g2 λ y x2 h₄ tk₄ r2 y2 b2 hs₄=>wpAny_pure ?_)
 replace hs₄:Heap.SameBut i2 h₃ h₄:=hs₄
 have I4:Inv X pins σ H { s with heap:=h₄,toks:=tk₄ }:=zg2 (s:={ s with heap:=h₃,toks:=tk₂ }) (tk:=tk₄) I3 f2 hs₄
 have hTO₄:IsPair h₄ TO x b:=hs₄.extBut _ _ D.TOi2 hTO₃
 refine wpAny_bind (wpAny_seqItems hTO₄ rfl ?_)
 refine wpAny_bind (wpAny_updateSeq_pair (s:={ s with heap:=h₄,toks:=tk₄ }) hTO₄ λ h₅ hTO₅ hs₅=>?_)
 replace hTO₅:IsPair h₅ TO x y:=hTO₅
 replace hs₅:Heap.SameBut TO h₄ h₅:=hs₅
 have I5:Inv X pins σ H { s with heap:=h₅,toks:=tk₄ }:=zg2 (s:={ s with heap:=h₄,toks:=tk₄ }) (tk:=tk₄) I4 fTO hs₅
 refine wpAny_bind (wpAny_letGo (wpAny_pure (wpAny_pure ?_)))
 refine wpAny_bind (wpAny_seqItems hTO₅ rfl ?_)
 refine wpAny_bind (wpAny_newTuple ?_)
 have hz₅:IsZip h₅ z TI TO .ellipsis:=hs₅.extBut _ _ D.TOz.symm (hs₄.extBut _ _ D.i2z.symm (hs₃.extBut _ _ D.TOz.symm (hs₂.extBut _ _ D.i1z.symm hz₁)))
 have hTI₅:IsPair h₅ TI (.ref i1) (.ref i2):=hs₅.extBut _ _ D.TITO (hs₄.extBut _ _ D.TIi2 (hs₃.extBut _ _ D.TITO (hs₂.extBut _ _ D.TIi1 (hs₁.extBut _ _ D.TIz hTI))))
 have c1:st1 (i+1) h₅:=N1.keep _ _ _ b1 λ o e=>hs₅.extBut _ _ D.TOi1.symm (hs₄.extBut _ _ D.i12 (hs₃.extBut _ _ D.TOi1.symm e))
 have c2:st2 (i+1) h₅:=N2.keep _ _ _ b2 λ o e=>hs₅.extBut _ _ D.TOi2.symm e
 have hp:H h₅.objs.size=none:=I5.hok.fresh (Nat.le_refl _)
 have I6:Inv X pins σ (upd H h₅.objs.size (.tup [x1,x2])) { s with heap:=h₅.push { cls:=.type "tuple",data:=.seq #[x,y] },toks:=tk₄ }:=by
  refine I5.laid (t':=tk₄) (o:=.tup [x1,x2]) (λ b ob q=>Heap.get?_push_of_some _ q) (Nat.le_refl _) ?_
  exact ⟨by show 2<=sizeLine;rw [sizeLine_eq];decide,[x,y],.cons r1 (.cons r2 .nil),_,Heap.get?_push_size _ rfl,rfl,0,rfl⟩
 have lt:∀ {c:Addr} {o:Obj},h₅.get? c=some o->h₅.objs.size≠c:=λ e=>Nat.ne_of_gt (Heap.lt_size e)
 obtain ⟨o1,e1,_⟩:=N1.obj _ _ c1
 obtain ⟨o2,e2,_⟩:=N2.obj _ _ c2
 have fz':FpOk X pins (upd H h₅.objs.size (.tup [x1,x2])) z:=⟨by rw [upd_ne (lt hz₅).symm];exact fz.1,fz.2⟩
 show wpAny _ _ (Builtin.SmallTypes.ownedTupleHandOut (.ref z) (.ref h₅.objs.size) >>= _) _ _ _
 refine wpAny_bind ?_
 unfold Builtin.SmallTypes.ownedTupleHandOut
 have hz₆:IsZip (h₅.push { cls:=.type "tuple",data:=.seq #[x,y] }) z TI TO .ellipsis:=Heap.get?_push_of_some _ hz₅
 refine wpAny_bind (wpAny_setField_rec hz₆ (by simp) λ h₇ hz₇ hs₇=>?_)
 replace hz₇:IsZip h₇ z TI TO (rawInt h₅.objs.size):=hz₇
 have I7:Inv X pins σ (upd H h₅.objs.size (.tup [x1,x2])) { s with heap:=h₇,toks:=tk₄ }:=zg2 (s:={ s with heap:=h₅.push { cls:=.type "tuple",data:=.seq #[x,y] },toks:=tk₄ }) (tk:=tk₄) I6 fz' hs₇
 refine wpAny_setField_rec hz₇ (by simp) λ h₈ hz₈ hs₈=>?_
 replace hz₈:IsZip h₈ z TI TO (rawInt h₅.objs.size):=hz₈
 have I8:Inv X pins σ (upd H h₅.objs.size (.tup [x1,x2])) { s with heap:=h₈,toks:=tk₄ }:=zg2 (s:={ s with heap:=h₇,toks:=tk₄ }) (tk:=tk₄) I7 fz' hs₈
 have up:∀ c o,c≠z->h₅.get? c=some o->h₈.get? c=some o:=λ c o c1 e=>hs₈.extBut _ _ c1 (hs₇.extBut _ _ c1 (Heap.get?_push_of_some _ e))
 refine wpAny_pure ⟨_,rfl,?_⟩
 exact hQ h₅.objs.size x1 x2 _ hp (lt hz₅) (lt hTI₅) (lt hTO₅) (lt e1) (lt e2) y1 y2 I8 ⟨hz₈,up _ _ D.TIz hTI₅,⟨_,_,up _ _ D.TOz hTO₅⟩,N1.keep _ _ _ c1 λ o e=>up _ o D.i1z e,N2.keep _ _ _ c2 λ o e=>up _ o D.i2z e⟩
theorem zat {A:Around} {E:Value->Shared->Prop} {Q:Fin->Shared->Prop} (hh:A.handled=none) (N1:Nx X.prog X.w X.K J1 i1 st1) (N2:Nx X.prog X.w X.K J2 i2 st2) (D:ZAp z TI TO i1 i2) (I:Inv X pins σ H s)
  (fz:FpOk X pins H z) (fTO:FpOk X pins H TO) (f1:FpOk X pins H i1) (f2:FpOk X pins H i2) (S:ZSt z TI TO i1 i2 .none st1 st2 i s.heap) (g:J1.stop i H \/ (J1.go i H/\J2.stop i H))
  (hE:∀ h' e tk,Inv X pins σ H { s with heap:=h',toks:=tk }->(∃ o,h'.get? e=some o/\o.cls=.type "StopIteration")->E (.ref e) { s with heap:=h',toks:=tk }) :
  wpAny (model X.prog X.w) A (Builtin.«zip.__next__» ⟨[.ref z],[]⟩) Q E s:=by
 obtain ⟨hz,hTI,⟨a,b,hTO⟩,h1,h2⟩:=S
 show wpAny _ _ (field (.ref z) 2 >>= _) _ _ _
 refine wpAny_bind (wpAny_field hz rfl (x:=.bool false) rfl ?_)
 show wpAny _ _ (field (.ref z) 3 >>= _) _ _ _
 refine wpAny_bind (wpAny_field hz rfl (x:=.ref TI) rfl ?_)
 refine wpAny_bind (wpAny_seqItems hTI rfl ?_)
 show wpAny _ _ (Builtin.SmallTypes.ownedTupleIsFree (.ref z) >>= _) _ _ _
 refine wpAny_bind ?_
 unfold Builtin.SmallTypes.ownedTupleIsFree
 refine wpAny_bind (wpAny_field hz rfl (x:=.none) rfl (wpAny_pure ?_))
 simp only [if_true]
 refine wpAny_bind (wpAny_rule ?_)
 refine wpAny_bind (wpAny_field hz rfl (x:=.ref TO) rfl ?_)
 refine wpAny_bind (wpAny_setField_rec hz (by simp) λ h₁ hz₁ hs₁=>?_)
 replace hz₁:IsZip h₁ z TI TO .ellipsis:=hz₁
 have I1:Inv X pins σ H { s with heap:=h₁ }:=zg2 (tk:=s.toks) I fz hs₁
 refine wpAny_bind ?_
 simp only [List.zipIdx_cons,List.zipIdx_nil,List.forIn_cons,List.forIn_nil]
 refine wpAny_bind (wpAny_bind (wpAny_onRaise ?_))
 show wpAny _ _ (Builtin.SmallTypes.nextOf (.ref i1) >>= _) _ _ _
 have a1:st1 i h₁:=N1.keep _ _ _ h1 λ o e=>hs₁.extBut _ _ D.i1z e
 rcases g with g|⟨g1,g2⟩
 ·refine wpAny_bind (N1.done X rfl rfl rfl _ i pins _ σ H _ _ hh I1 a1 g λ h₂ e hs₂ he=>?_)
  replace hs₂:Heap.ExtBut i1 h₁ h₂:=hs₂
  have I2:Inv X pins σ H { s with heap:=h₂ }:=fp_ext (s:={ s with heap:=h₁ }) (tk:=s.toks) I1 f1 hs₂
  obtain ⟨oe,hoe,hce⟩:=he
  have hz₂:IsZip h₂ z TI TO .ellipsis:=hs₂ _ _ D.i1z.symm hz₁
  have hez:e≠z:=λ x=>by subst x;rw [hz₂] at hoe;cases hoe;simp at hce
  exact wpAny_setField_rec hz₂ (by simp) λ h₃ _ hs₃=>hE h₃ e s.toks (zg2 (s:={ s with heap:=h₂ }) (tk:=s.toks) I2 fz hs₃) ⟨oe,hs₃.extBut _ _ hez hoe,hce⟩
 ·refine wpAny_bind (N1.item X rfl rfl rfl _ i pins _ σ H _ _ I1 a1 g1 λ x x1 h₂ tk₂ r1 y1 b1 hs₂=>wpAny_pure ?_)
  replace hs₂:Heap.SameBut i1 h₁ h₂:=hs₂
  have I2:Inv X pins σ H { s with heap:=h₂,toks:=tk₂ }:=zg2 (s:={ s with heap:=h₁ }) (tk:=tk₂) I1 f1 hs₂
  have hTO₂:IsPair h₂ TO a b:=hs₂.extBut _ _ D.TOi1 (hs₁.extBut _ _ D.TOz hTO)
  refine wpAny_bind (wpAny_seqItems hTO₂ rfl ?_)
  refine wpAny_bind (wpAny_updateSeq_pair (s:={ s with heap:=h₂,toks:=tk₂ }) hTO₂ λ h₃ hTO₃ hs₃=>?_)
  replace hs₃:Heap.SameBut TO h₂ h₃:=hs₃
  have I3:Inv X pins σ H { s with heap:=h₃,toks:=tk₂ }:=zg2 (s:={ s with heap:=h₂,toks:=tk₂ }) (tk:=tk₂) I2 fTO hs₃
  refine wpAny_bind (wpAny_letGo (wpAny_pure ?_))
  refine wpAny_bind (wpAny_bind (wpAny_onRaise ?_))
  show wpAny _ _ (Builtin.SmallTypes.nextOf (.ref i2) >>= _) _ _ _
  have a2:st2 i h₃:=N2.keep _ _ _ h2 λ o e=>hs₃.extBut _ _ D.TOi2.symm (hs₂.extBut _ _ D.i12.symm (hs₁.extBut _ _ D.i2z e))
  refine wpAny_bind (N2.done X rfl rfl rfl _ i pins _ σ H _ _ hh I3 a2 g2 λ h₄ e hs₄ he=>?_)
  replace hs₄:Heap.ExtBut i2 h₃ h₄:=hs₄
  have I4:Inv X pins σ H { s with heap:=h₄,toks:=tk₂ }:=fp_ext (s:={ s with heap:=h₃,toks:=tk₂ }) (tk:=tk₂) I3 f2 hs₄
  obtain ⟨oe,hoe,hce⟩:=he
  have hz₄:IsZip h₄ z TI TO .ellipsis:=hs₄ _ _ D.i2z.symm (hs₃.extBut _ _ D.TOz.symm (hs₂.extBut _ _ D.i1z.symm hz₁))
  have hez:e≠z:=λ x=>by subst x;rw [hz₄] at hoe;cases hoe;simp at hce
  exact wpAny_setField_rec hz₄ (by simp) λ h₅ _ hs₅=>hE h₅ e tk₂ (zg2 (s:={ s with heap:=h₄,toks:=tk₂ }) (tk:=tk₂) I4 fz hs₅) ⟨oe,hs₅.extBut _ _ hez hoe,hce⟩
end
def Itz (J1 J2:It):It:=⟨λ i H=>J1.go i H/\J2.go i H,λ i H x H'=>∃ x1 x2 p,J1.yld i H x1 H/\J2.yld i H x2 H/\H p=none/\x=.ref p/\H'=upd H p (.tup [x1,x2]),λ i H=>J1.stop i H \/ (J1.go i H/\J2.stop i H)⟩
theorem zwp {P:Program} {w:World} {K:Fg} {elts:List Expr} {c:_} {pos:Pos} {J1 J2:It} {z TI TO i1 i2:Addr} {st1 st2:Nat->Heap->Prop} (N1:Nx P w K J1 i1 st1) (N2:Nx P w K J2 i2 st2) (D:ZAp z TI TO i1 i2) :
  Turn P w K (.Tuple elts c pos) (Itz J1 J2) [z,TI,TO,i1,i2] z (ZSt z TI TO i1 i2 .none st1 st2) where
 mem:=by simp
 obj:=λ i h S b hb=>by
  obtain ⟨hz,hTI,⟨a,b',hTO⟩,h1,h2⟩:=S
  simp at hb
  rcases hb with rfl|rfl|rfl|rfl|rfl
  ·exact ⟨_,hz,λ v q=>by cases q⟩
  ·exact ⟨_,hTI,λ v q=>by cases q⟩
  ·exact ⟨_,hTO,λ v q=>by cases q⟩
  ·exact N1.obj _ _ h1
  ·exact N2.obj _ _ h2
 keep:=λ i h h' S k=>by
  obtain ⟨hz,hTI,⟨a,b',hTO⟩,h1,h2⟩:=S
  exact ⟨k _ (by simp) _ hz,k _ (by simp) _ hTI,⟨a,b',k _ (by simp) _ hTO⟩,N1.keep _ _ _ h1 λ o e=>k _ (by simp) _ e,N2.keep _ _ _ h2 λ o e=>k _ (by simp) _ e⟩
 item:=by
  intro X hP hw hK hc i pins s σ H E I hf S hg
  subst hP hw hK
  have hT:s.TypeIs (.ref z) "zip":=⟨_,S.z,rfl⟩
  unfold pyNext
  refine wpAny_bind (wpAny_attempt (wpAny_callSpecial?_slot (name:=Str.ofString "__next__") hT F.slot_zip_next
   (wpAny_call_entry F.slot_zip_next hT F.entry_zip_next
    (zep N1 N2 D I (hf _ (by simp)) (hf _ (by simp)) (hf _ (by simp)) (hf _ (by simp)) S hg.1 hg.2 λ p x1 x2 s' hp n1 n2 n3 n4 n5 y1 y2 I' S'=>wpAny_pure ?_) (F.args_zip_next_1 _))))
  refine ⟨.ref p,rfl,wpAny_letOwnedTupleGo_zip S'.z λ h' hz' hs'=>?_⟩
  have nn:∀ b∈[z,TI,TO,i1,i2],b≠p:=λ b hb=>by
   simp at hb
   rcases hb with rfl|rfl|rfl|rfl|rfl
   ·exact n1.symm
   ·exact n2.symm
   ·exact n3.symm
   ·exact n4.symm
   ·exact n5.symm
  have fz:FpOk X pins (upd H p (.tup [x1,x2])) z:=⟨by rw [upd_ne n1.symm];exact (hf z (by simp)).1,(hf z (by simp)).2⟩
  obtain ⟨_,hTI,⟨a,b',hTO⟩,h1,h2⟩:=S'
  refine ⟨.ref p,_,zg2 (tk:=s'.toks) I' fz hs',rfl,⟨x1,x2,p,y1,y2,hp,rfl,rfl⟩,⟨hz',hs'.extBut _ _ D.TIz hTI,⟨a,b',hs'.extBut _ _ D.TOz hTO⟩,N1.keep _ _ _ h1 λ o e=>hs'.extBut _ _ D.i1z e,N2.keep _ _ _ h2 λ o e=>hs'.extBut _ _ D.i2z e⟩,λ b hb=>?_⟩
  rw [upd_ne (nn b hb)]
  exact (hf b hb).1
 done:=by
  intro X hP hw hK hc i pins s σ H E I hf S hg
  subst hP hw hK
  have hT:s.TypeIs (.ref z) "zip":=⟨_,S.z,rfl⟩
  unfold pyNext
  refine wpAny_bind (wpAny_attempt (wpAny_callSpecial?_slot (name:=Str.ofString "__next__") hT F.slot_zip_next
   (wpAny_call_entry F.slot_zip_next hT F.entry_zip_next (zat (I.ok.hd hc) N1 N2 D I (hf _ (by simp)) (hf _ (by simp)) (hf _ (by simp)) (hf _ (by simp)) S hg λ h' e tk I' he=>?_) (F.args_zip_next_1 _))))
  obtain ⟨o,ho,hc⟩:=he
  refine wpAny_bind (wpAny_isInstance (T := "StopIteration") (b:=true) ⟨o,ho,hc⟩ isSubtype_stop ?_)
  exact wpAny_pure ⟨rfl,I'⟩
 self:=λ _ _ _ _ _ S h=>wpAny_pyIter_zip S.z h
def Opens (h:Heap) (v:Value) (ob:Obj):Prop:=∀ (prog:Program) (w:World) (A:Around) (s:Shared) (Q E:Value->Shared->Prop),(∀ c o,h.get? c=some o->s.heap.get? c=some o)->Q (.ref s.heap.objs.size) { s with heap:=s.heap.push ob }->wpAny (model prog w) A (pyIter v) Q E s
def zipO (h:Heap) (o1 o2:Obj):Heap:=((((h.push o1).push o2).push { cls:=.type "tuple",data:=.seq #[.ref h.objs.size,.ref (h.push o1).objs.size] }).push { cls:=.type "tuple",data:=.seq #[.none,.none] }).push
 { cls:=.type "zip",data:=.fields #[.none,.bool false,.bool false,.ref ((h.push o1).push o2).objs.size,.ref (((h.push o1).push o2).push { cls:=.type "tuple",data:=.seq #[.ref h.objs.size,.ref (h.push o1).objs.size] }).objs.size] }
theorem ztk (v1 v2:Value) (o1 o2:Obj) :
  Meets (Builtin.«zip.__new__» ⟨[.type "zip",v1,v2],[]⟩) (λ _ R s=>Opens s.heap v1 o1/\Opens s.heap v2 o2 /\
   R (.ok (.ret (.ref ((((s.heap.push o1).push o2).push { cls:=.type "tuple",data:=.seq #[.ref s.heap.objs.size,.ref (s.heap.push o1).objs.size] }).push { cls:=.type "tuple",data:=.seq #[.none,.none] }).objs.size))) { s with heap:=zipO s.heap o1 o2 }) :=
 .of_wp λ prog w A R s h=>by
  obtain ⟨hp,g,d,tk,os⟩:=s;obtain ⟨q1,q2,h⟩:=h
  have hsub:=sub_zip
  have p1:∀ {A:Around} {Q E:Value->Shared->Prop},Q (.ref hp.objs.size) ⟨hp.push o1,g,d,tk,os⟩->wpAny (model prog w) A (pyIter v1) Q E ⟨hp,g,d,tk,os⟩:=λ {A Q E} z=>q1 prog w A ⟨hp,g,d,tk,os⟩ Q E (λ _ _ e=>e) z
  have p2:∀ {A:Around} {Q E:Value->Shared->Prop},Q (.ref (hp.push o1).objs.size) ⟨(hp.push o1).push o2,g,d,tk,os⟩->wpAny (model prog w) A (pyIter v2) Q E ⟨hp.push o1,g,d,tk,os⟩:=λ {A Q E} z=>q2 prog w A ⟨hp.push o1,g,d,tk,os⟩ Q E (λ _ _ e=>Heap.get?_push_of_some _ e) z
  wp_walk using p1,p2
  exact ⟨_,rfl,h⟩
theorem zjq {prog:Program} {w:World} {A:Around} {E:Value->Shared->Prop} {s:Shared} {v1 v2:Value} {o1 o2:Obj} {Q:Value->Shared->Prop} (h1:Opens s.heap v1 o1) (h2:Opens s.heap v2 o2)
  (h:∀ h',IsZip h' (s.heap.objs.size+4) (s.heap.objs.size+2) (s.heap.objs.size+3) .none->IsPair h' (s.heap.objs.size+2) (.ref s.heap.objs.size) (.ref (s.heap.objs.size+1)) ->
   IsPair h' (s.heap.objs.size+3) .none .none->h'.get? s.heap.objs.size=some o1->h'.get? (s.heap.objs.size+1)=some o2->(∀ c o,s.heap.get? c=some o->h'.get? c=some o)->Q (.ref (s.heap.objs.size+4)) { s with heap:=h' })
  (f1:o1.isFreed=false) (f2:o2.isFreed=false):wpAny (model prog w) A (call (.type "zip") [v1,v2]) Q E s:=by
 refine callType_new F.called_zip (by decide) (F.typeCall_zip_2 _ _) (F.newCall_zip_2 _ _) (λ obj=>F.args_object_init_3 obj _ _) F.entry_zip_new (ztk v1 v2 o1 o2) ⟨h1,h2,?_⟩
 have z1:(s.heap.push o1).objs.size=s.heap.objs.size+1:=Heap.size_push ..
 have z2:((s.heap.push o1).push o2).objs.size=s.heap.objs.size+2:=by rw [Heap.size_push,z1]
 have z3:(((s.heap.push o1).push o2).push { cls:=.type "tuple",data:=.seq #[.ref s.heap.objs.size,.ref (s.heap.push o1).objs.size] }).objs.size=s.heap.objs.size+3:=by rw [Heap.size_push,z2]
 have z4:((((s.heap.push o1).push o2).push { cls:=.type "tuple",data:=.seq #[.ref s.heap.objs.size,.ref (s.heap.push o1).objs.size] }).push { cls:=.type "tuple",data:=.seq #[.none,.none] }).objs.size=s.heap.objs.size+4:=by rw [Heap.size_push,z3]
 have g5:(zipO s.heap o1 o2).get? ((((s.heap.push o1).push o2).push { cls:=.type "tuple",data:=.seq #[.ref s.heap.objs.size,.ref (s.heap.push o1).objs.size] }).push { cls:=.type "tuple",data:=.seq #[.none,.none] }).objs.size=some _:=Heap.get?_push_size _ rfl
 have g4:(zipO s.heap o1 o2).get? (((s.heap.push o1).push o2).push { cls:=.type "tuple",data:=.seq #[.ref s.heap.objs.size,.ref (s.heap.push o1).objs.size] }).objs.size=some _:=Heap.get?_push_of_some _ (Heap.get?_push_size _ rfl)
 have g3:(zipO s.heap o1 o2).get? ((s.heap.push o1).push o2).objs.size=some _:=Heap.get?_push_of_some _ (Heap.get?_push_of_some _ (Heap.get?_push_size _ rfl))
 have g2:(zipO s.heap o1 o2).get? (s.heap.push o1).objs.size=some o2:=Heap.get?_push_of_some _ (Heap.get?_push_of_some _ (Heap.get?_push_of_some _ (Heap.get?_push_size _ f2)))
 have g1:(zipO s.heap o1 o2).get? s.heap.objs.size=some o1:=Heap.get?_push_of_some _ (Heap.get?_push_of_some _ (Heap.get?_push_of_some _ (Heap.get?_push_of_some _ (Heap.get?_push_size _ f1))))
 show _/\_
 rw [z2,z3,z4] at g5
 rw [z1,z2] at g3
 rw [z3] at g4
 rw [z1] at g2
 rw [z4]
 exact ⟨⟨_,g5,rfl⟩,h _ g5 g3 g4 g1 g2 λ c o x=>Heap.get?_push_of_some _ (Heap.get?_push_of_some _ (Heap.get?_push_of_some _ (Heap.get?_push_of_some _ (Heap.get?_push_of_some _ x))))⟩
def kSrc (K:Fg) (x:V) (H:Hp) (R:It->Prop):Prop:=(∃ a,x=.ref a/\(∃ xs,SqL K H a xs)/\R (Itl K a)) \/ (∃ a,x=.ref a/\(∃ xs,SqT K H a xs)/\R (Itt K a))
theorem zmj {X:Cx} {pins:List (Addr×Obj)} {σ:St} {H:Hp} {s:Shared} {x:V} {v:Value} {R:It->Prop} (I:Inv X pins σ H s) (r:RelV x v) (h:kSrc X.K x H R) :
  ∃ (J:It) (ob:Obj) (st:Addr->Nat->Heap->Prop),R J/\Opens s.heap v ob/\ob.isFreed=false/\(∀ it,Nx X.prog X.w X.K J it (st it))/\∀ it h,h.get? it=some ob->st it 0 h:=by
 rcases h with ⟨a,rfl,⟨xs,hq⟩,hR⟩|⟨a,rfl,⟨xs,hq⟩,hR⟩
 ·cases r
  obtain ⟨its,rv,p,hz⟩:=I.list hq
  refine ⟨_,{ cls:=.type "list_iterator",data:=.fields #[.ref a,.int 0 0] },λ it i h=>h.IsListIter it a i,hR,λ prog w A s1 Q E k q=>?_,rfl,λ it=>zor a it,λ it h e=>⟨_,e,rfl,rfl⟩⟩
  exact wpAny_pyIter_list (p.isList.at λ o e=>k a o e) q
 ·cases r
  obtain ⟨its,rv,p,hz⟩:=I.tuple hq
  refine ⟨_,{ cls:=.type "tuple_iterator",data:=.fields #[.ref a,.int 0 0] },λ it i h=>h.IsTupleIter it a i,hR,λ prog w A s1 Q E k q=>?_,rfl,λ it=>nx_tup a it,λ it h e=>⟨_,e,rfl,rfl⟩⟩
  obtain ⟨o,e,t⟩:=p
  exact wpAny_pyIter_tuple (show s1.heap.IsTuple a its.toArray from ⟨o,k a o e,t⟩) q
theorem zap (n:Nat):ZAp (n+4) (n+2) (n+3) n (n+1):=by
 constructor <;> (refine λ (h:(_:Nat)=_)=>?_;lia)
theorem five (n:Nat) (b:Nat) (h:b=n+4 \/ b=n+2 \/ b=n+3 \/ b=n \/ b=n+1):n<=b:=by lia
theorem bt_zip:bootBuiltins "zip"=some (.type "zip"):=by decide +kernel
section
variable {X:Cx} {elts:List Expr}
def kZip2 (K:Fg) (vs:List V) (H:Hp) (R:It->Hp->Prop):Prop:=∃ x1 x2,vs=[x1,x2]/\kSrc K x1 H λ J1=>kSrc K x2 H λ J2=>R (Itz J1 J2) H
def iZip (K:Fg) (ta:TA):TI:=λ σ H R=>ta σ H λ vs H1=>kZip2 K vs H1 R
theorem pi_zip {K:Fg} (hK:X.K=K) {c:_} {tpos:Pos} {a b:Expr} {ta:TA} {p pos:Pos} (hg:Gl X "zip") (hm:X.mg "zip"=none) (ha:PA X [a,b] ta) (hs:starEach [a,b] X.env=[(false,eval a X.env),(false,eval b X.env)]:=by rfl) (hs2:starEach [b] X.env=[(false,eval b X.env)]:=by rfl) :
  PI X (.Tuple elts c tpos) (.Call (.Name "zip" p) [a,b] [] pos) (iZip K ta):=by
 subst hK
 intro pins s σ H R I h
 refine Call_ (ld_blt I hg hm bt_zip (PyProof.Rows.callWith_type1 (thn (ha pos pins s σ H _ I h) λ us s1 ⟨vs,H1,I1,r1,q1⟩=>?_) (by rw [hs,hs2]) (by rw [hs2];rfl)))
 obtain ⟨x1,x2,e,q1⟩:=q1
 subst e
 obtain ⟨u1,u2,rfl,r1,r2⟩:=vals2 r1
 obtain ⟨J1,o1,st1,q2,op1,fr1,n1,z1⟩:=zmj I1 r1 q1
 obtain ⟨J2,o2,st2,q,op2,fr2,n2,z2⟩:=zmj I1 r2 q2
 refine zjq op1 op2 (λ h' hz hTI hTO g1 g2 kk=>wpAny_pyIter_zip hz ?_) fr1 fr2
 have I2:Inv X pins σ H1 { s1 with heap:=h' }:=I1.kept (t':=s1.toks) kk
 refine ⟨s1.heap.objs.size+4,[s1.heap.objs.size+4,s1.heap.objs.size+2,s1.heap.objs.size+3,s1.heap.objs.size,s1.heap.objs.size+1],_,_,H1,rfl,I2,
  zwp (n1 s1.heap.objs.size) (n2 (s1.heap.objs.size+1)) (zap _),⟨hz,hTI,⟨_,_,hTO⟩,z1 _ _ g1,z2 _ _ g2⟩,λ b hb=>?_,q⟩
 have hb':s1.heap.objs.size<=b:=by
  simp at hb
  exact five _ _ hb
 exact I1.fpOk hb' (I1.hok.fresh hb')
end
def entM (w:World) (e:Str×Tok×Value):DictEntry:=⟨PyData.keyHash w.params e.1,.str e.1 e.2.1,e.2.2⟩
structure KD (w:World) (K:Fg) (d:Addr) (kvs:List (Str×V)):Prop where
 ne:(d == sysModules)=false
 ex:∃ (l:List (Str×Tok×Value)) (n:Nat),K.lookup d=some { cls:=.type "dict",data:=.dict (l.map (entM w)).toArray n }/\Paired (λ (p:Str×V) (q:Str×Tok×Value)=>p.1=q.1/\RelV p.2 q.2.2) kvs l
theorem find_M {w:World} {k:Str}:∀ {kvs:List (Str×V)} {l:List (Str×Tok×Value)},Paired (λ (p:Str×V) (q:Str×Tok×Value)=>p.1=q.1/\RelV p.2 q.2.2) kvs l ->
  RelO (kvs.lookup k) (((l.map (entM w)).find? λ e=>Value.isStrOf k e.key).map (·.val))
|_,_,.nil=>trivial
|_,_,.cons (a:=p) (b:=q) h r=>by
  obtain ⟨x,v⟩:=p
  obtain ⟨y,t,u⟩:=q
  obtain ⟨e,rv⟩:=h
  cases e
  have ih:=find_M (w:=w) (k:=k) r
  show RelO (List.lookup k ((x,v) :: _)) (((entM w (x,t,u) :: _).find? λ e=>Value.isStrOf k e.key).map (·.val))
  rw [List.lookup_cons,List.find?_cons]
  by_cases hk:k=x
  ·subst hk
   have h1:(k == k)=true:=beq_self_eq_true k
   have h2:Value.isStrOf k (entM w (k,t,u)).key=true:=by simp [entM,Value.isStrOf]
   rw [h1,h2]
   exact rv
  ·have h1:(k == x)=false:=beq_eq_false_iff_ne.mpr hk
   have h2:Value.isStrOf k (entM w (x,t,u)).key=false:=by
    show (x == k)=false
    exact beq_eq_false_iff_ne.mpr λ e=>hk e.symm
   rw [h1,h2]
   exact ih
section
variable {X:Cx} {pins:List (Addr×Obj)} {σ:St} {H:Hp} {s:Shared} {d:Addr} {kvs:List (Str×V)}
theorem KD.map (D:KD X.w X.K d kvs) (I:Inv X pins σ H s):∃ f:Str->Option Value,s.heap.MapOf (PySem.strKind X.prog X.w) d f/\∀ k,RelO (kvs.lookup k) (f k):=by
 obtain ⟨l,n,e,r⟩:=D.ex
 refine ⟨λ k=>((l.map (entM X.w)).find? λ e=>Value.isStrOf k e.key).map (·.val),⟨_,(l.map (entM X.w)).toArray,n,I.kIn d _ e,⟨rfl,rfl,rfl⟩,rfl,λ e he=>?_,λ k=>?_⟩,λ k=>find_M r⟩
 ·obtain ⟨q,_,rfl⟩:=List.mem_map.mp (by simpa using he:e∈l.map (entM X.w))
  exact ⟨q.1,by simp [entM,PySem.strKind,Value.isStrOf],rfl⟩
 ·show findBy (PySem.strKind X.prog X.w).is _ k=_
  unfold findBy
  rw [List.find?_toArray]
  rfl
def rIxM (w:World) (K:Fg):R2:=λ x y H Q=>∃ d kvs z v,x=.ref d/\y=.str z/\KD w K d kvs/\kvs.lookup z=some v/\Q v H
theorem ix_M {w:World} {K:Fg} (hw:X.w=w) (hK:X.K=K):IxR X (rIxM w K):=by
 subst hw hK
 intro value slice pins s σ H x y v u Q I rx ry h hs
 obtain ⟨d,kvs,z,r0,rfl,rfl,D,e,q⟩:=h
 cases rx
 obtain ⟨t,rfl⟩:=ry
 obtain ⟨f,m,r⟩:=D.map I
 have rz:=r z
 rw [e] at rz
 obtain ⟨u,eu,ru⟩:=rz.some_of
 exact tail_any m.typeIs PySem.F.slot_dict_getitem.lookup (wpAny_getItem_of (k:=z) (PySem.strKind_is X.prog X.w z t) m eu ⟨r0,H,I.tok _,ru,q⟩) hs
end
def Walks (J:It) (H:Hp) (n:Nat) (Y:Nat->V->Hp->Prop):Prop:=∀ H',Same H H'->(∀ i,i < n->J.go i H')/\J.stop n H'/\∀ i x H2,i < n->J.yld i H' x H2->Same H' H2/\Y i x H2
section
variable {K:Fg} {H:Hp} {a:Addr} {xs:List V}
theorem Walks.mono {J:It} {n:Nat} {Y:Nat->V->Hp->Prop} {H':Hp} (w:Walks J H n Y) (s:Same H H'):Walks J H' n Y:=λ H2 s2=>w H2 (s.trans s2)
def SameX (D:Addr) (H H':Hp):Prop:=∀ b o,b≠D->H b=some o->H' b=some o
variable {Q:VK} {σ caps:St} {n:Nat} {ix:List Nat} {g:TG} {te:TE} {m:Nat} {J:It} {Y:Nat->V->Hp->Prop}
end
def rMulW:R2:=λ x y H Q=>rMulU x y H Q \/ rMulS x y H Q
def rIxW (w:World) (K:Fg):R2:=λ x y H Q=>rIx K x y H Q \/ rIxM w K x y H Q
def kIterW (K:Fg) (x:V) (H:Hp) (R:It->Hp->Prop):Prop:=kIter K x H R \/ ∃ z:Str,x=.str z/\z.cps.all (· < 128)=true/\R (Its z) H
def iW (K:Fg) (tl:TE):TI:=λ σ H R=>tl σ H λ x H1=>kIterW K x H1 R
section
variable {X:Cx} {w:World} {K:Fg} {tg:Expr}
theorem zmt:OpR X (binaryOp .Mult) rMulW:=zjs.or zpr
theorem ix_W (hw:X.w=w) (hK:X.K=K):IxR X (rIxW w K):=(ix_U hK).or (ix_M hw hK)
theorem pi_W (h:X.K=K) {l:Expr} {tl:TE} (hl:PE X l tl):PI X tg l (iW K tl):=by
 subst h
 intro pins s σ H R I h
 refine thn (hl pins s σ H _ I h) λ v s1 ⟨x,H1,I1,r1,q1⟩=>?_
 rcases q1 with (⟨a,e,⟨xs,hq⟩,q⟩|⟨a,e,⟨xs,hq⟩,q⟩)|⟨z,rfl,ha,q⟩
 ·subst e
  cases r1
  obtain ⟨its,rv,p,hz⟩:=I1.list hq
  refine wpAny_pyIter_list p.isList ?_
  refine ⟨s1.heap.objs.size,[s1.heap.objs.size],_,_,H1,rfl,I1.kept (t':=s1.toks) λ b o e=>Heap.get?_push_of_some _ e,zfl a _,⟨_,Heap.get?_push_size _ rfl,rfl,rfl⟩,λ b hb=>?_,q⟩
  have e:b=s1.heap.objs.size:=by simpa using hb
  subst e
  exact I1.fpOk (Nat.le_refl _) (I1.hok.fresh (Nat.le_refl _))
 ·subst e
  cases r1
  obtain ⟨its,rv,p,hz⟩:=I1.tuple hq
  refine wpAny_pyIter_tuple (show s1.heap.IsTuple a its.toArray from p) ?_
  refine ⟨s1.heap.objs.size,[s1.heap.objs.size],_,_,H1,rfl,I1.kept (t':=s1.toks) λ b o e=>Heap.get?_push_of_some _ e,zek a _,⟨_,Heap.get?_push_size _ rfl,rfl,rfl⟩,λ b hb=>?_,q⟩
  have e:b=s1.heap.objs.size:=by simpa using hb
  subst e
  exact I1.fpOk (Nat.le_refl _) (I1.hok.fresh (Nat.le_refl _))
 ·obtain ⟨t,rfl⟩:=r1
  refine wpAny_pyIter_ascii ha ?_
  refine ⟨s1.heap.objs.size,[s1.heap.objs.size],_,_,H1,rfl,I1.kept (t':=s1.toks) λ b o e=>Heap.get?_push_of_some _ e,zqo z t _,⟨_,Heap.get?_push_size _ rfl,rfl,rfl⟩,λ b hb=>?_,q⟩
  have e:b=s1.heap.objs.size:=by simpa using hb
  subst e
  exact I1.fpOk (Nat.le_refl _) (I1.hok.fresh (Nat.le_refl _))
def tDead:TS:=λ _ _ _=>False
theorem zzm {st:Stmt}:PS X st tDead:=λ _ _ _ _ _ _ h=>False.elim h
def rList (K:Fg):List V->Hp->VK->Prop:=λ xs H Q=>∃ p ys,xs=[.ref p]/\(SqL K H p ys \/ SqT K H p ys)/\∀ l,H l=none->Q (.ref l) (upd H l (.lst ys))
theorem zq2 (h:X.K=K):CallR X (.type "list") (rList K):=h ▸ zwe
end
section
variable {K:Fg} {w:World} {H:Hp} {Q:VK} {a b:Addr} {xs ys:List V} {i:Int} {v:V} {z:Str} {kvs:List (Str×V)} {d:Addr}
end
section
variable {K:Fg} {w:World} {H:Hp} {Q:VK} {a:Addr} {xs:List V} {i:Int} {v:V} {z:Str} {σ:St} {r r':R2} {ta tb tc:TE} {tA:TA} {D:Ends}
end
section
variable {K:Fg} {H:Hp} {a:Addr} {xs:List V} {σ:St} {ta:TA} {Q:VK}
end
theorem zbe {X:Cx} {pos:Pos} {K:Fg} {n:Nat} (hK:X.K=K) {es:List Expr} {k:Nat} {t:TGs} (hc:X.calm=true) (h:PGs X es t)
  (hn:(assignEach es X.env).length=n:=by rfl) (hst:(assignEach es X.env).findIdx? (·.1)=none:=by rfl):PG X (.Tuple es k pos) (gTup K n t):=by
 subst hK
 exact pg_tup hc h hn hst
def kBM (K:Fg) (T:String) (r:V->List V->Hp->VK->Prop) (t:TA) (σ:St) (x:V) (H:Hp) (Q:VK):Prop:=tyV K T x H/\t σ H λ xs H2=>r x xs H2 Q
def tBMU (K:Fg) (T:String) (r:V->List V->Hp->VK->Prop) (to:TE) (t:TA):TE:=λ σ H Q=>to σ H λ x H1=>kBM K T r t σ x H1 Q
theorem pe_bmU {X:Cx} {K:Fg} (hK:X.K=K) {o e:Expr} {es:List Expr} {to:TE} {t:TA} {name:Str} {apos cpos:Pos} {T id:String} {r:V->List V->Hp->VK->Prop} (pa:PlainAttrs T) (slot:Slot T name id) (hty:typeOf (.builtin id)=pure (.type "method_descriptor")) (hm:MtR X id r) (ho:PE X o to) (ha:PA X (e :: es) t)
  (hbase:attributeBase o name X.env (eval o X.env)=eval o X.env:=by rfl)
  (hfew:((backTo cpos (starEach (e :: es) X.env)).all (λ x=>!x.1) && (backToKw cpos (keywordEach [] X.env)).all (λ x=>x.1.isSome)
   && decide ((e :: es).length+([]:List Keyword).length+(if ([]:List Keyword).isEmpty then 0 else 1) < 30))=true:=by rfl)
  (hline:(apos.endLine == cpos.line)=true:=by rfl) (hs:starEach (e :: es) X.env=(false,eval e X.env) :: starEach es X.env:=by rfl) (hplain:(backTo cpos (starEach es X.env)).any (·.1)=false:=by rfl) :
  PE X (.Call (.Attribute o name apos) (e :: es) [] cpos) (tBMU K T r to t):=by
 subst hK
 exact pe_bm pa slot hty hm ho ha hbase hfew hline hs hplain
section
variable {K:Fg} {T:String} {r:V->List V->Hp->VK->Prop} {to:TE} {t:TA} {σ:St} {H:Hp} {Q:VK} {a:Addr} {xs:List V} {z:Str}
end
section
variable {t:TJ} {te:TE} {σ:L2.St} {H:Hp} {acc y z:Str} {i:Int}
end
def CDivW (_ j:Int):Prop:=0 < j/\j < 2 ^ 200
theorem zzo {j:Int} (h0:0 < j) (h1:j < 2 ^ 200):j.natAbs.log2 < 9000:=by
 have h:j.natAbs.log2 < 200:=(Nat.log2_lt (by lia)).mpr (by lia)
 lia
theorem za1 {X:Cx}:OpR X (binaryOp .FloorDiv) (rI CDivW λ i j=>.int (i / j)):=opI λ i j _ _ _ _ _ hc q=>by
 have h1:(0:Int) < j:=hc.1
 exact floordiv_int (by lia) (by rw [Int.fdiv_eq_ediv_of_nonneg i (by lia)];exact q) (.inl (PyProof.noPylong_of_log2 (zzo hc.1 hc.2)))
def pickG {α:Type} (xs:List α) (lo hi st:Option Int):List α:=(sliceRange (sliceBounds lo hi st xs.length).1 (sliceBounds lo hi st xs.length).2.1 (sliceBounds lo hi st xs.length).2.2).filterMap (xs[·]?)
theorem zkb {xs:List V} {vs:List Value} (h:Vals xs vs):∀ js:List Nat,Vals (js.filterMap (xs[·]?)) (js.filterMap (vs[·]?))
|[]=>.nil
|j :: js=>by
  have ih:=zkb h js
  cases hn:xs[j]? with
 |some n =>
   obtain ⟨u,hu,r⟩:=h.get hn
   simp only [List.filterMap_cons,hn,hu]
   exact .cons r ih
 |none =>
   have hv:=h.none_of hn
   simp only [List.filterMap_cons,hn,hv]
   exact ih
theorem zvk {xs:List V} {vs:List Value} (h:Vals xs vs) (lo hi st:Option Int):Vals (pickG xs lo hi st) (slicePick vs.toArray lo hi st).toList:=by
 have e:(slicePick vs.toArray lo hi st).toList=(sliceRange (sliceBounds lo hi st xs.length).1 (sliceBounds lo hi st xs.length).2.1 (sliceBounds lo hi st xs.length).2.2).filterMap (vs[·]?):=by
  simp [slicePick,h.length]
 rw [e]
 exact zkb h _
def rSl3 (K:Fg):V->Option Int->Option Int->Option Int->Hp->VK->Prop:=λ x lo hi st H Q=>∃ a xs,x=.ref a/\SqL K H a xs/\st≠some 0/\∀ p,H p=none->Q (.ref p) (upd H p (.lst (pickG xs lo hi st)))
def tSl3 (K:Fg) (te:TE) (tl th tk:TO):TE:=λ σ H Q=>te σ H λ x H1=>tl σ H1 λ l H2=>th σ H2 λ u H3=>tk σ H3 λ st H4=>rSl3 K x l u st H4 Q
theorem zkl {X:Cx} {K:Fg} (hK:X.K=K) {e:Expr} {te:TE} {lo hi:Option Expr} {st:Expr} {tl th tk:TO} {pos p2:Pos} (he:PE X e te) (hl:PO X lo tl) (hu:PO X hi th) (hs:PO X (some st) tk):PE X (.Subscript e (.Slice lo hi (some st) p2) pos) (tSl3 K te tl th tk):=by
 subst hK
 intro pins s σ H Q I h
 refine Subscript_ (thn (he pins s σ H _ I h) λ v s1 ⟨x,H1,I1,r1,q1⟩=>?_)
 refine wpAny_Slice (thn (hl pins s1 σ H1 _ I1 q1) λ vl s2 ⟨l,H2,I2,pl,q2⟩=>thn (hu pins s2 σ H2 _ I2 q2) λ vu s3 ⟨u,H3,I3,pu,q3⟩=>thn (hs pins s3 σ H3 _ I3 q3) λ vk s4 ⟨k,H4,I4,pk,q4⟩=>?_)
 obtain ⟨a,xs,rfl,hx,h0,q⟩:=q4
 cases r1
 have I5:Inv X pins σ H4 { s4 with heap:=s4.heap.push { cls:=.type "slice",data:=.fields #[vl,vu,vk] } }:=I4.kept (t':=s4.toks) λ b ob q=>Heap.get?_push_of_some _ q
 obtain ⟨its,r,ht,hz⟩:=I5.list hx
 have hlen:=r.length
 refine tail_any (T := "list") (ops:=[.ref a,.ref s4.heap.objs.size]) ht.isList.typeIs slot_list_getitem.lookup (wpAny_getItem_list_slice ht.isList (Heap.IsSliceOf.new ..) pl pu pk h0 ?_ (by rw [List.size_toArray] <;> lia)) (by with_unfolding_all rfl)
 have rv:=zvk r l u k
 refine ⟨.ref _,_,I5.laid (t':=s4.toks) (o:=.lst (pickG xs l u k)) (λ b ob q=>Heap.get?_push_of_some _ q) (Nat.le_refl _) ?_,rfl,q _ (I5.hok.fresh (Nat.le_refl _))⟩
 refine ⟨?_,_,0,rv,?_⟩
 ·have:=slicePick_size_le its.toArray l u k
  have e:=rv.length
  simp only [Array.length_toList,List.size_toArray] at this e
  lia
 ·rw [Array.toArray_toList]
  exact Heap.get?_push_size _ rfl
section
variable {K:Fg} {H:Hp} {Q:VK} {a:Addr} {xs:List V} {i j:Int} {σ:St}
end
theorem ztg:bootBuiltins "sorted"=some (.builtin "sorted"):=by decide +kernel
section
variable {K:Fg} {H H':Hp} {D a:Addr} {xs:List V}
theorem SameX.trans {H1 H2 H3:Hp} (s:SameX D H1 H2) (s':SameX D H2 H3):SameX D H1 H3:=λ b o hb e=>s' b o hb (s b o hb e)
theorem IsAll.length:∀ {xs:List V} {ds:List PyData},IsAll K H xs ds->xs.length=ds.length
|_,_,.nil=>rfl
|_,_,.cons _ r=>by simp [IsAll.length r]
theorem IsAll.get:∀ {xs:List V} {ds:List PyData},IsAll K H xs ds->∀ {i:Nat} {x:V},xs[i]?=some x->∃ d,ds[i]?=some d/\Is K H x d
|_,_,.nil,i,x,e=>by simp at e
|_,_,.cons h r,0,x,e=>by simp at e;subst e;exact ⟨_,rfl,h⟩
|_,_,.cons h r,i+1,x,e=>by
  obtain ⟨d,e2,q⟩:=IsAll.get r (i:=i) (by simpa using e)
  exact ⟨d,by simpa using e2,q⟩
end
def Fit (n:Nat) (d:PyData):Prop:=d.canLay0=true/\d.depth<=n
theorem zb5:∀ {ds:List PyData},(∀ d∈ds,d.canLay0=true)->PyData.canLayAll0 ds=true
|[],_=>rfl
|d :: ds,h=>by
  show (d.canLay0 && PyData.canLayAll0 ds)=true
  rw [h d (by simp),zb5 λ e he=>h e (List.mem_cons_of_mem _ he)];rfl
theorem zc6 {n:Nat}:∀ {ds:List PyData},(∀ d∈ds,d.depth<=n)->PyData.depthAll ds<=n
|[],_=>Nat.zero_le _
|d :: ds,h=>by
  show max d.depth (PyData.depthAll ds)<=n
  have:=h d (by simp)
  have:=zc6 λ e he=>h e (List.mem_cons_of_mem d he)
  lia
theorem Fit.tup {n:Nat} {ds:List PyData} (h:∀ d∈ds,Fit n d):Fit (n+1) (.tuple ds):=⟨by show PyData.canLayAll0 ds=true;exact zb5 λ d hd=>(h d hd).1,by show PyData.depthAll ds+1<=n+1;have:=zc6 λ d hd=>(h d hd).2;lia⟩
theorem Fit.lst {n:Nat} {ds:List PyData} (h:∀ d∈ds,Fit n d):Fit (n+1) (.list ds):=⟨by show PyData.canLayAll0 ds=true;exact zb5 λ d hd=>(h d hd).1,by show PyData.depthAll ds+1<=n+1;have:=zc6 λ d hd=>(h d hd).2;lia⟩
theorem Fit.int {n:Nat} (i:Int):Fit n (.int i):=⟨rfl,Nat.zero_le _⟩
theorem Fit.bl {n:Nat} (i:Bool):Fit n (.bool i):=⟨rfl,Nat.zero_le _⟩
theorem Fit.str {n:Nat} {x:Str} (h:x.cps.all (· < 0x110000)=true):Fit n (.str x):=⟨h,Nat.zero_le _⟩
theorem Fit.mono {n m:Nat} {d:PyData} (h:Fit n d) (hm:n<=m):Fit m d:=⟨h.1,Nat.le_trans h.2 hm⟩
theorem Fit.shaped {n:Nat} {d:PyData} (h:Fit n d) (hn:n<=64):SeqAt.shaped d=true:=by
 unfold SeqAt.shaped
 rw [h.1,decide_eq_true (Nat.le_trans h.2 hn)];rfl
theorem Fit.eqv {n:Nat} {d:PyData} (h:Fit n d):PyData.eqv d d=true:=SeqAt.eqv_refl d h.1
def spLaw (K:Fg):Sp:=λ vs H Q _=>∃ (a:Addr) (ns:List Int),vs=[.ref a]/\SqL K H a (ns.map V.int)/\ns.length<=63/\∀ H',Q (.bl true) H'
theorem law_walk {k:Nat} {l:PySem.W.OpenLaw} {q:Program} {loose:List Str} {XP:(Str->Option Value)->Heap->Prop} {YP:World->Heap->Prop} {d:DefRec} {K:Params->Fg} (hk:Room k callerA) (hn:l.most=some 63) (hdf:d.params.defaults=[])
  (hY:∀ (w:World) (h:Heap),YP w h->(K w.params).In h)
  (F:∀ (w:World) (mg:Str->Option Value) (fa:Addr) (h:Heap),(K w.params).In h->h.Ns mainGlobals mg->mg d.name=some (.ref fa) ->
   ∃ fd:FuncData,(∀ (s:Shared) (u:Value),BindsTo s fd ⟨[u],[]⟩ [("script",u)])/\∀ base:Heap,(K w.params).In base->base.Ns mainGlobals mg->FnOk l.prog w (K w.params) mg base CX0 k fa fd ["script"] (spLaw (K w.params))) :
  PySem.W.WalkO q loose XP YP l.row.toRowW d [] (λ f vs=>PySem.call f vs) :=
 L2.walk_of (n:=63) (k:=k) (x := "script") (CX:=λ _=>CX0) (sp:=λ w=>spLaw (K w.params)) hn (by decide) hdf hk hY F (λ _ _ a ns hl _ hS=>⟨a,ns,rfl,hS,hl,λ _=>rfl⟩) λ _ _ _ _ _ z=>z
section
variable {K:Fg} {H:Hp} {Q:VK} {σ:St} {i j:Int}
end
end L3
namespace L2
open PySem PySem.Spec PyProof.Rows
section
variable {κ:Type} [DecidableEq κ]
def valV (kvs:List (κ×V)) (k:κ):Option V:=(kvs.find? λ kv=>decide (kv.1=k)).map (·.2)
def putK (kvs:List (κ×V)) (k:κ) (v:V):List (κ×V) :=
 if (kvs.any λ kv=>decide (kv.1=k))=true then kvs.map (λ kv=>if kv.1=k then (kv.1,v) else kv) else kvs++[(k,v)]
def dropK (kvs:List (κ×V)) (k:κ):List (κ×V):=kvs.filter λ kv=>decide (kv.1≠k)
theorem zgf {p:κ×V} {r:List (κ×V)} {k:κ} (e:p.1=k):valV (p :: r) k=some p.2:=by simp [valV,List.find?_cons,e]
theorem zcf {p:κ×V} {r:List (κ×V)} {k:κ} (e:¬ p.1=k):valV (p :: r) k=valV r k:=by simp [valV,List.find?_cons,e]
theorem zzj (k:κ):∀ kvs:List (κ×V),(kvs.any λ kv=>decide (kv.1=k))=(valV kvs k).isSome
|[]=>rfl
|p :: r=>by
  rw [List.any_cons]
  by_cases e:p.1=k
  ·simp only [zgf e,decide_eq_true e,Bool.true_or,Option.isSome_some]
  ·rw [zcf e,decide_eq_false e,Bool.false_or];exact zzj k r
theorem zlb (kvs:List (κ×V)) (k:κ) (v:V):(putK kvs k v).length<=kvs.length+1:=by
 unfold putK
 split
 ·rw [List.length_map];lia
 ·rw [List.length_append,List.length_cons,List.length_nil];lia
theorem RelO.isSome_eq {o:Option V} {u:Option Value} (r:RelO o u):o.isSome=u.isSome:=by
 cases o with
|none=>cases u with
 |none=>rfl
 |some _=>exact (show False from r).elim
|some _=>cases u with
 |none=>exact (show False from r).elim
 |some _=>rfl
theorem RelO.getD {o:Option V} {u:Option Value} {d:V} {d':Value} (r:RelO o u) (rd:RelV d d'):RelV (o.getD d) (u.getD d'):=by
 cases o with
|none=>cases u with
 |none=>exact rd
 |some _=>exact (show False from r).elim
|some _=>cases u with
 |none=>exact (show False from r).elim
 |some _=>exact r
theorem KV.val {kvs:List (κ×V)} {vs:List (κ×Value)} (r:KV kvs vs) (k:κ):RelO (valV kvs k) (valueAt vs k):=by
 unfold KV at r
 induction r with
|nil=>exact True.intro
|@cons p q ps qs h t ih =>
  obtain ⟨h1,h2⟩:=h
  by_cases e:p.1=k
  ·have e':q.1=k:=h1.symm.trans e
   have b:valueAt (q :: qs) k=some q.2:=by simp [valueAt,List.find?_cons,e']
   rw [zgf e,b];exact h2
  ·have e':¬ q.1=k:=λ z=>e (h1.trans z)
   have b:valueAt (q :: qs) k=valueAt qs k:=by simp [valueAt,List.find?_cons,e']
   rw [zcf e,b];exact ih
theorem KV.any {kvs:List (κ×V)} {vs:List (κ×Value)} (r:KV kvs vs) (k:κ):(kvs.any λ kv=>decide (kv.1=k))=vs.any λ kv=>decide (kv.1=k):=by
 unfold KV at r
 induction r with
|nil=>rfl
|cons h t ih=>rw [List.any_cons,List.any_cons,ih,h.1]
theorem KV.repl {kvs:List (κ×V)} {vs:List (κ×Value)} (r:KV kvs vs) (k:κ) {y:V} {u:Value} (ry:RelV y u) :
  KV (kvs.map λ kv=>if kv.1=k then (kv.1,y) else kv) (vs.map λ kv=>if kv.1=k then (kv.1,u) else kv):=by
 unfold KV at r ⊢
 induction r with
|nil=>exact .nil
|@cons p q ps qs h t ih =>
  rw [List.map_cons,List.map_cons]
  refine .cons ?_ ih
  obtain ⟨h1,h2⟩:=h
  by_cases e:p.1=k
  ·rw [if_pos e,if_pos (h1.symm.trans e)];exact ⟨h1,ry⟩
  ·rw [if_neg e,if_neg (λ z=>e (h1.trans z))];exact ⟨h1,h2⟩
theorem KV.put {kvs:List (κ×V)} {vs:List (κ×Value)} (r:KV kvs vs) (k:κ) {y:V} {u:Value} (ry:RelV y u):KV (putK kvs k y) (stored vs k u):=by
 unfold putK stored
 rw [r.any k]
 by_cases e:(vs.any λ kv=>decide (kv.1=k))=true
 ·rw [if_pos e,if_pos e];exact r.repl k ry
 ·rw [if_neg e,if_neg e];exact Paired.snoc r ⟨rfl,ry⟩
theorem KV.length {kvs:List (κ×V)} {vs:List (κ×Value)} (r:KV kvs vs):kvs.length=vs.length:=Paired.length r
theorem zuo (kvs:List (κ×V)) (k:κ):(dropK kvs k).length<=kvs.length:=List.length_filter_le _ _
end
theorem kV_is {P:Program} {w:World} {k:Key} {u:Value} (r:RelV (kV k) u):(zn1 P w).is k u=true:=by
 cases k with
|inl i=>obtain ⟨t,e⟩:=(show ∃ t,u=Value.int i t from r);subst e;exact zoh P w i t
|inr x=>obtain ⟨t,e⟩:=(show ∃ t,u=Value.str x t from r);subst e;exact zqh P w x t
theorem zkg {P:Program} {w:World}:∀ {ks:List Key} {us:List Value},Vals (ks.map kV) us->ItemsAre (zn1 P w) ks us
|[],_,r=>by rw [List.map_nil] at r;cases r;exact .nil
|k :: ks,_,r=>by
  rw [List.map_cons] at r
  cases r with
 |cons h t=>exact .cons (kV_is h) (zkg t)
abbrev KT (H:Hp):List (List Key×V)->List (List Key×Addr×Value)->Prop:=Paired λ p q=>p.1=q.1/\H q.2.1=some (.tup (p.1.map kV))/\RelV p.2 q.2.2
theorem KT.val {H:Hp} {kvs:List (List Key×V)} {xs:List (List Key×Addr×Value)} (r:KT H kvs xs) (k:List Key):RelO (valV kvs k) ((atKey xs k).map (·.2)):=by
 induction r with
|nil=>exact True.intro
|@cons p q ps qs h t ih =>
  obtain ⟨h1,_,h2⟩:=h
  by_cases e:p.1=k
  ·have e':q.1=k:=h1.symm.trans e
   have b:atKey (q :: qs) k=some q.2:=by simp [atKey,List.find?_cons,e']
   rw [zgf e,b];exact h2
  ·have e':¬ q.1=k:=λ z=>e (h1.trans z)
   have b:atKey (q :: qs) k=atKey qs k:=by simp [atKey,List.find?_cons,e']
   rw [zcf e,b];exact ih
theorem KT.repl {H:Hp} {kvs:List (List Key×V)} {xs:List (List Key×Addr×Value)} (r:KT H kvs xs) (k:List Key) {y:V} {u:Value} (ry:RelV y u) :
  KT H (kvs.map λ kv=>if kv.1=k then (kv.1,y) else kv) (xs.map (putAt k u)):=by
 induction r with
|nil=>exact .nil
|@cons p q ps qs h t ih =>
  rw [List.map_cons,List.map_cons]
  refine .cons ?_ ih
  obtain ⟨h1,h2,h3⟩:=h
  unfold putAt
  by_cases e:p.1=k
  ·rw [if_pos e,if_pos (h1.symm.trans e)];exact ⟨h1,h2,ry⟩
  ·rw [if_neg e,if_neg (λ z=>e (h1.trans z))];exact ⟨h1,h2,h3⟩
theorem KT.put {H:Hp} {kvs:List (List Key×V)} {xs:List (List Key×Addr×Value)} (r:KT H kvs xs) (k:List Key) {b:Addr} {y:V} {u:Value} (hb:H b=some (.tup (k.map kV))) (ry:RelV y u) :
  KT H (putK kvs k y) (storedH xs k b u):=by
 have e:(kvs.any λ kv=>decide (kv.1=k))=(atKey xs k).isSome:=by
  rw [zzj,(r.val k).isSome_eq,Option.isSome_map]
 unfold putK storedH
 rw [e]
 by_cases q:(atKey xs k).isSome=true
 ·rw [if_pos q,if_pos q];exact r.repl k ry
 ·rw [if_neg q,if_neg q];exact Paired.snoc r ⟨rfl,hb,ry⟩
theorem KT.keeps {H H':Hp} {kvs:List (List Key×V)} {xs:List (List Key×Addr×Value)} (r:KT H kvs xs) (ht:∀ b ys,H b=some (.tup ys)->H' b=some (.tup ys)):KT H' kvs xs :=
 Paired.mapP r λ _ _ z=>⟨z.1,ht _ _ z.2.1,z.2.2⟩
section
variable {P:Program} {w:World} {H:Hp} {h:Heap} {a:Addr}
theorem rd_of {u:HO} (ok:HOk P w H h) (e:Rd H a u):ObjOk P w H h a u:=e.ok ok
theorem dk_rd {kvs:List (Key×V)} (ok:HOk P w H h) (e:Rd H a (.dK kvs)):kvs.length<=sizeLine/\(a == sysModules)=false/\∃ vs,KV kvs vs/\h.DictOf (zn1 P w) a vs :=
 show ObjOk P w H h a (.dK kvs) from rd_of ok e
theorem dk_of {kvs:List (Key×V)} (ok:HOk P w H h) (e:H a=some (.dK kvs)):kvs.length<=sizeLine/\(a == sysModules)=false/\∃ vs,KV kvs vs/\h.DictOf (zn1 P w) a vs:=dk_rd ok (.inl e)
theorem key_of {ks:List Key} (ok:HOk P w H h) (e:H a=some (.tup (ks.map kV))):(tupleKind (zn1 P w)).is h ks a:=by
 obtain ⟨_,its,r,o,h1,h2,n,h3⟩:=(show ObjOk P w H h a (.tup (ks.map kV)) from ok a _ e)
 exact ⟨o,its.toArray,n,h1,h2,h3,by simpa using zkg r⟩
theorem dt_rd {kvs:List (List Key×V)} (ok:HOk P w H h) (e:Rd H a (.dT kvs)):kvs.length<=sizeLine/\(a == sysModules)=false /\
  ∃ xs,KT H kvs xs/\h.DictOfH (tupleKind (zn1 P w)) a xs:=by
 obtain ⟨z,y,xs,r,o,es,ep,h1,h2,h3,h4,h5⟩:=(show ObjOk P w H h a (.dT kvs) from rd_of ok e)
 refine ⟨z,y,xs,r,o,es,ep,h1,h2,h3,h4,λ x hx=>?_,h5⟩
 have all:∀ {l:List (List Key×V)} {m:List (List Key×Addr×Value)},KT H l m->∀ x∈m,(tupleKind (zn1 P w)).is h x.1 x.2.1:=by
  intro l m q
  induction q with
 |nil=>intro x hx;exact nomatch hx
 |@cons p q ps qs hq t ih =>
   intro x hx
   rcases List.mem_cons.mp hx with e|hx
   ·subst e
    exact key_of ok (by rw [<- hq.1];exact hq.2.1)
   ·exact ih x hx
 exact all r x hx
theorem dt_of {kvs:List (List Key×V)} (ok:HOk P w H h) (e:H a=some (.dT kvs)):kvs.length<=sizeLine/\(a == sysModules)=false /\
  ∃ xs,KT H kvs xs/\h.DictOfH (tupleKind (zn1 P w)) a xs:=dt_rd ok (.inl e)
end
def DGet (H:Hp) (a:Addr) (y:V) (r:Option V):Prop :=
 (∃ kvs k,Rd H a (.dK kvs)/\y=kV k/\r=valV kvs k) \/ ∃ kvs k b,Rd H a (.dT kvs)/\y=.ref b/\H b=some (.tup (k.map kV))/\r=valV kvs k
def DPut (H:Hp) (a:Addr) (y v:V) (H':Hp):Prop :=
 (∃ kvs k,H a=some (.dK kvs)/\y=kV k/\kvs.length < sizeLine/\H'=upd H a (.dK (putK kvs k v))) \/
 ∃ kvs k b,H a=some (.dT kvs)/\y=.ref b/\H b=some (.tup (k.map kV))/\kvs.length < sizeLine/\H'=upd H a (.dT (putK kvs k v))
theorem DGet.k {H:Hp} {a:Addr} {kvs:List (Key×V)} {k:Key} (e:H a=some (.dK kvs)):DGet H a (kV k) (valV kvs k):=.inl ⟨kvs,k,.inl e,rfl,rfl⟩
theorem DGet.t {H:Hp} {a b:Addr} {kvs:List (List Key×V)} {k:List Key} (e:H a=some (.dT kvs)) (eb:H b=some (.tup (k.map kV))):DGet H a (.ref b) (valV kvs k):=.inr ⟨kvs,k,b,.inl e,rfl,eb,rfl⟩
theorem DPut.k {H:Hp} {a:Addr} {kvs:List (Key×V)} {k:Key} {v:V} (e:H a=some (.dK kvs)) (hl:kvs.length < sizeLine):DPut H a (kV k) v (upd H a (.dK (putK kvs k v))):=.inl ⟨kvs,k,e,rfl,hl,rfl⟩
theorem DPut.t {H:Hp} {a b:Addr} {kvs:List (List Key×V)} {k:List Key} {v:V} (e:H a=some (.dT kvs)) (eb:H b=some (.tup (k.map kV))) (hl:kvs.length < sizeLine) :
  DPut H a (.ref b) v (upd H a (.dT (putK kvs k v))):=.inr ⟨kvs,k,b,e,rfl,eb,hl,rfl⟩
section
variable {X:Cx} {pins:List (Addr×Obj)} {σ:St} {H:Hp} {s:Shared} {a:Addr} {y v:V} {u r:Value} {o:Option V} {A:Around} {E:Value->Shared->Prop}
theorem Inv.big (I:Inv X pins σ H s):sysModules < s.heap.objs.size:=by
 have h:mainGlobals < s.heap.objs.size:=(I.mod.glob.keeps I.bk).lt
 exact Nat.lt_trans (by decide) h
theorem zjg {Q:Value->Shared->Prop} (hu:A.units+1 < cLine) (I:Inv X pins σ H s) (g:DGet H a y (some v)) (ry:RelV y u) (h:∀ w' s',Inv X pins σ H s'->RelV v w'->Q w' s') :
  wpAny (model X.prog X.w) A (getItem (.ref a) u) Q E s:=by
 rcases g with ⟨kvs,k,e,ey,l⟩|⟨kvs,k,b,e,ey,eb,l⟩
 ·subst ey
  obtain ⟨z,hd,vs,rel,dd⟩:=dk_rd I.hok e
  obtain ⟨w',hw,rw'⟩:=RelO.some_of (v:=v) (o:=valueAt vs k) (by rw [l];exact rel.val k)
  exact wpAny_getItem_of (kV_is ry) dd.mapOf hw (h w' _ (I.tok _) rw')
 ·subst ey
  cases (show u=Value.ref b from ry)
  obtain ⟨z,hd,xs,rel,dd⟩:=dt_rd I.hok e
  obtain ⟨w',hw,rw'⟩:=RelO.some_of (v:=v) (o:=(atKey xs k).map (·.2)) (by rw [l];exact rel.val k)
  obtain ⟨p,hp,hp2⟩:=Option.map_eq_some_iff.mp hw
  refine wpAny_getItem_heap (tupleKind_room_in1 hu) (key_of I.hok eb) dd hp ?_
  rw [hp2]
  exact h w' _ (I.tok _) rw'
theorem d_in {Q:Value->Shared->Prop} (hu:A.units+1 < cLine) (I:Inv X pins σ H s) (g:DGet H a y o) (ry:RelV y u) (h:∀ s',Inv X pins σ H s'->Q (.bool o.isSome) s') :
  wpAny (model X.prog X.w) A (compareOp .In u (.ref a)) Q E s:=by
 rcases g with ⟨kvs,k,e,ey,l⟩|⟨kvs,k,b,e,ey,eb,l⟩
 ·subst ey
  obtain ⟨z,hd,vs,rel,dd⟩:=dk_rd I.hok e
  refine wpAny_in_of (kV_is ry) hd dd.mapOf ?_
  rw [<- (rel.val k).isSome_eq,<- l]
  exact h _ (I.tok _)
 ·subst ey
  cases (show u=Value.ref b from ry)
  obtain ⟨z,hd,xs,rel,dd⟩:=dt_rd I.hok e
  refine wpAny_in_heap (tupleKind_room_in1 hu) (key_of I.hok eb) hd dd ?_
  have q:=(rel.val k).isSome_eq
  rw [Option.isSome_map] at q
  rw [<- q,<- l]
  exact h _ (I.tok _)
theorem zpj {h':Heap} {t':Nat} {ob:HO} (I:Inv X pins σ H s) (mu:Mut (H a)) (hs:Heap.SameBut a s.heap h') (he:∃ q,h'.get? a=some q) (new:ObjOk X.prog X.w (upd H a ob) h' a ob) :
  Inv X pins σ (upd H a ob) { s with heap:=h',toks:=t' } :=
 I.write (x:=a) (e:=a) mu (.inl rfl) (λ b q hb z=>(hs.2 b hb).trans z) he new
theorem dk_new {P:Program} {w:World} {H':Hp} {h':Heap} {kvs:List (Key×V)} {vs:List (Key×Value)} (z:kvs.length<=sizeLine) (hd:(a == sysModules)=false) (rel:KV kvs vs) (dd:h'.DictOf (zn1 P w) a vs) :
  ObjOk P w H' h' a (.dK kvs):=⟨z,hd,vs,rel,dd⟩
theorem zxl {H':Hp} {Q:Unit->Shared->Prop} (hu:A.units+1 < cLine) (I:Inv X pins σ H s) (g:DPut H a y v H') (ry:RelV y u) (rv:RelV v r) (h:∀ s',Inv X pins σ H' s'->Q () s') :
  wpAny (model X.prog X.w) A (setItem (.ref a) u r) Q E s:=by
 rcases g with ⟨kvs,k,e,ey,l,eH⟩|⟨kvs,k,b,e,ey,eb,l,eH⟩
 ·subst ey eH
  obtain ⟨z,hd,vs,rel,dd⟩:=dk_of I.hok e
  have hz:vs.length<=sizeLine:=by rw [<- rel.length];exact z
  have hl:(putK kvs k v).length<=sizeLine:=by have:=zlb kvs k v;lia
  refine wpAny_setItem_pairs (hsz:=hz) (kV_is ry) dd λ h' dd' hs=>h _ ?_
  have he:∃ q,h'.get? a=some q:=let ⟨q,_,_,hq,_⟩:=dd';⟨q,hq⟩
  exact zpj I (by rw [e];exact True.intro) hs he (dk_new hl hd (rel.put k rv) dd')
 ·subst ey eH
  cases (show u=Value.ref b from ry)
  obtain ⟨z,hd,xs,rel,dd⟩:=dt_of I.hok e
  have hz:xs.length<=sizeLine:=by rw [<- Paired.length rel];exact z
  have hl:(putK kvs k v).length<=sizeLine:=by have:=zlb kvs k v;lia
  refine wpAny_setItem_heap (hsz:=hz) (tupleKind_room_in1 hu) (key_of I.hok eb) dd λ h' dd' hs=>h _ ?_
  obtain ⟨q,es,ep,hq,h2,h3,h4,_,h5⟩:=dd'
  refine zpj I (by rw [e];exact True.intro) hs ⟨q,hq⟩ ⟨hl,hd,_,(rel.put k eb rv).keeps λ c ys ec=>?_,q,es,ep,hq,h2,h3,h4,h5⟩
  rw [upd_ne (ne_of ec e (λ z=>nomatch z))]
  exact ec
end
section
variable {X:Cx} {pins:List (Addr×Obj)} {σ:St} {H:Hp} {s:Shared} {a:Addr} {kvs:List (Key×V)} {k:Key} {u:Value} {A:Around} {E:Value->Shared->Prop}
end
theorem zkh {X:Cx} {pins:List (Addr×Obj)} {σ:St} {H:Hp} {s:Shared} {a:Addr} {y:V} {o:Option V} (I:Inv X pins σ H s) (g:DGet H a y o):s.TypeIs (.ref a) "dict":=by
 rcases g with ⟨kvs,k,e,_,_⟩|⟨kvs,k,b,e,_,_,_⟩
 ·obtain ⟨_,_,vs,_,dd⟩:=dk_rd I.hok e
  exact dd.typeIs
 ·obtain ⟨_,_,xs,_,dd⟩:=dt_rd I.hok e
  exact dd.typeIs
section
variable {X:Cx} {o i e value:Expr} {pos pos' tpos:Pos} {td ty tv:TE}
end
theorem zco {P:Program} {w:World} {H:Hp} (h:Heap) (hb:sysModules < h.objs.size):ObjOk P w H (h.push { cls:=.type "dict",data:=.dict #[] }) h.objs.size (.dK []) :=
 ⟨Nat.zero_le _,beq_eq_false_iff_ne.mpr (Ne.symm (Nat.ne_of_lt hb)),[],.nil,Heap.DictOf.new h⟩
theorem zlp {P:Program} {w:World} {H:Hp} (h:Heap) (hb:sysModules < h.objs.size):ObjOk P w H (h.push { cls:=.type "dict",data:=.dict #[] }) h.objs.size (.dT []) :=
 ⟨Nat.zero_le _,beq_eq_false_iff_ne.mpr (Ne.symm (Nat.ne_of_lt hb)),[],.nil,_,#[],0,Heap.get?_push_size _ rfl,⟨rfl,rfl,rfl⟩,rfl,rfl,List.nodup_nil⟩
def tDNewK:TE:=λ _ H Q=>∀ p,H p=none->Q (.ref p) (upd H p (.dK []))
def tDNewT:TE:=λ _ H Q=>∀ p,H p=none->Q (.ref p) (upd H p (.dT []))
section
variable {X:Cx} {pos:Pos}
theorem zko:PE X (.Dict [] [] pos) tDNewK:=λ pins s σ H Q I h =>
 wpAny_Dict_empty ⟨.ref s.heap.objs.size,_,I.laid (a:=s.heap.objs.size) (o:=.dK []) (t':=s.toks) (λ _ _ q=>Heap.get?_push_of_some _ q) (Nat.le_refl _) (zco s.heap I.big),rfl,h _ (I.hok.fresh (Nat.le_refl _))⟩
theorem zfo:PE X (.Dict [] [] pos) tDNewT:=λ pins s σ H Q I h =>
 wpAny_Dict_empty ⟨.ref s.heap.objs.size,_,I.laid (a:=s.heap.objs.size) (o:=.dT []) (t':=s.toks) (λ _ _ q=>Heap.get?_push_of_some _ q) (Nat.le_refl _) (zlp s.heap I.big),rfl,h _ (I.hok.fresh (Nat.le_refl _))⟩
end
def IsD (H:Hp) (a:Addr):Prop:=(∃ kvs,Rd H a (.dK kvs)) \/ ∃ kvs,Rd H a (.dT kvs)
theorem isD_at {X:Cx} {pins:List (Addr×Obj)} {σ:St} {H:Hp} {s:Shared} {a:Addr} (I:Inv X pins σ H s) (d:IsD H a) :
  s.TypeIs (.ref a) "dict"/\(∀ b,Value.ref a=.ref b->∃ ob,s.heap.get? b=some ob/\ob.dict=none)/\(a == sysModules)=false:=by
 rcases d with ⟨kvs,e⟩|⟨kvs,e⟩
 ·obtain ⟨_,hd,vs,_,dd⟩:=dk_rd I.hok e
  refine ⟨dd.typeIs,λ b q=>?_,hd⟩
  cases q
  obtain ⟨ob,_,_,h1,h2,_⟩:=dd
  exact ⟨ob,h1,h2.2.1⟩
 ·obtain ⟨_,hd,xs,_,dd⟩:=dt_rd I.hok e
  refine ⟨dd.typeIs,λ b q=>?_,hd⟩
  cases q
  obtain ⟨ob,_,_,h1,h2,_⟩:=dd
  exact ⟨ob,h1,h2.2.1⟩
section
variable {X:Cx} {pins:List (Addr×Obj)} {σ:St} {H:Hp} {s:Shared} {a:Addr} {y d:V} {u r:Value} {o:Option V} {A:Around} {E:Value->Shared->Prop}
theorem d_get2 {Q:Value->Shared->Prop} (hu:A.units+1 < cLine) (I:Inv X pins σ H s) (g:DGet H a y o) (ry:RelV y u) (rd:RelV d r) (h:∀ w' s',Inv X pins σ H s'->RelV (o.getD d) w'->Q w' s') :
  wpAny (model X.prog X.w) A (call (.builtin "dict.get") [.ref a,u,r]) Q E s:=by
 rcases g with ⟨kvs,k,e,ey,l⟩|⟨kvs,k,b,e,ey,eb,l⟩
 ·subst ey
  obtain ⟨z,hd,vs,rel,dd⟩:=dk_rd I.hok e
  refine call_meetsIn PySem.F.slot_dict_get dd.typeIs PySem.F.entry_dict_get (PySem.F.args_dict_get_3 _ _ _) (meets_dict_get_default (zn1 X.prog X.w) a (kV_is ry) hd r) ⟨_,dd.mapOf,h _ _ (I.tok _) ?_⟩
  rw [l]
  exact (rel.val k).getD rd
 ·subst ey
  cases (show u=Value.ref b from ry)
  obtain ⟨z,hd,xs,rel,dd⟩:=dt_rd I.hok e
  refine call_meetsIn PySem.F.slot_dict_get dd.typeIs PySem.F.entry_dict_get (PySem.F.args_dict_get_3 _ _ _) (meetsH_dict_get_default (tupleKind (zn1 X.prog X.w)) a b hd r) ⟨tupleKind_room_in1 hu,k,xs,key_of I.hok eb,dd,h _ _ (I.tok _) ?_⟩
  rw [l]
  exact (rel.val k).getD rd
end
section
variable {X:Cx} {o e f:Expr} {apos cpos:Pos} {td ty tx:TE}
end
section
variable {X:Cx} {pins:List (Addr×Obj)} {σ:St} {H:Hp} {s:Shared} {a:Addr} {kvs:List (Key×V)} {A:Around} {E:Value->Shared->Prop}
end
section
variable {X:Cx} {pins:List (Addr×Obj)} {σ:St} {H:Hp} {s:Shared} {a:Addr} {y:V} {u:Value} {A:Around} {E:Value->Shared->Prop}
end
end L2
namespace L3
open PySem PySem.Spec PyProof.Rows L2
def rInD:R2:=λ x y H Q=>∃ a o,y=.ref a/\DGet H a x o/\Q (.bl o.isSome) H
def rIxD:R2:=λ x y H Q=>∃ a v,x=.ref a/\DGet H a y (some v)/\Q v H
def rSetD:V->V->V->Hp->(Hp->Prop)->Prop:=λ o i v H Q=>∃ a H',o=.ref a/\DPut H a i v H'/\Q H'
section
variable {X:Cx}
theorem op_inD (hu:X.A.units+64 < cLine):OpR X (compareOp .In) rInD:=by
 intro pins s σ H x y v u Q I rx ry h
 obtain ⟨a,o,rfl,g,q⟩:=h
 obtain rfl:u=Value.ref a:=ry
 exact d_in (by lia) I g rx λ s3 I3=>⟨.bl o.isSome,H,I3,rfl,q⟩
theorem ix_D (hu:X.A.units+64 < cLine):IxR X rIxD:=by
 intro value slice pins s σ H x y v u Q I rx ry h hs
 obtain ⟨a,v',rfl,g,q⟩:=h
 obtain rfl:v=Value.ref a:=rx
 exact tail_any (zkh I g) PySem.F.slot_dict_getitem.lookup (zjg (by lia) I g ry λ w' s3 I3 rw'=>⟨v',H,I3,rw',q⟩) hs
theorem set_D (hu:X.A.units+64 < cLine):PSet X rSetD:=by
 intro pins s σ H o i v ov iv u Q I ro ri rv h
 obtain ⟨a,H',rfl,g,q⟩:=h
 obtain rfl:ov=Value.ref a:=ro
 exact zxl (by lia) I g ri rv λ s4 I4=>⟨H',I4,q⟩
theorem get_D (hu:X.A.units+64 < cLine):PGet X rIxD:=by
 intro pins s σ H o i ov iv Q I ro ri h
 obtain ⟨a,v',rfl,g,q⟩:=h
 obtain rfl:ov=Value.ref a:=ro
 exact zjg (by lia) I g ri λ w' s3 I3 rw'=>⟨v',H,I3,rw',q⟩
def rGetL (K:Fg):R2:=λ x y H Q=>∃ a xs j v,x=.ref a/\y=.int j/\0<=j/\SqL K H a xs/\xs[j.toNat]?=some v/\Q v H
theorem get_L {K:Fg} (hK:X.K=K):PGet X (rGetL K):=by
 subst hK
 intro pins s σ H o i ov iv Q I ro ri h
 obtain ⟨a,xs,j,v,rfl,rfl,h0,hq,he,q⟩:=h
 obtain rfl:ov=Value.ref a:=ro
 obtain ⟨t,rfl⟩:=ri
 obtain ⟨its,r,pl,hz⟩:=I.list hq
 obtain ⟨u,eu,ru⟩:=r.get he
 have hl:=r.length
 have hn:=line63
 have hj:=(List.getElem?_eq_some_iff.mp he).1
 refine wpAny_getItem_list pl.isList h0 (by lia) (by simpa using eu) ⟨v,H,I,ru,q⟩
theorem PGet.or {r r':R2} (h:PGet X r) (h':PGet X r'):PGet X (λ x y H Q=>r x y H Q \/ r' x y H Q):=by
 intro pins s σ H o i ov iv Q I ro ri q
 rcases q with q|q
 ·exact h pins s σ H o i ov iv Q I ro ri q
 ·exact h' pins s σ H o i ov iv Q I ro ri q
theorem PSet.or {r r':TSet} (h:PSet X r) (h':PSet X r'):PSet X (λ o i v H Q=>r o i v H Q \/ r' o i v H Q):=by
 intro pins s σ H o i v ov iv u Q I ro ri rv q
 rcases q with q|q
 ·exact h pins s σ H o i v ov iv u Q I ro ri rv q
 ·exact h' pins s σ H o i v ov iv u Q I ro ri rv q
end
def rIxV (w:World) (K:Fg):R2:=λ x y H Q=>rIxW w K x y H Q \/ rIxD x y H Q
def rGetV (K:Fg):R2:=λ x y H Q=>rGetL K x y H Q \/ rIxD x y H Q
def rSetV:V->V->V->Hp->(Hp->Prop)->Prop:=λ o i v H Q=>rSetL o i v H Q \/ rSetD o i v H Q
section
variable {X:Cx} {w:World} {K:Fg}
theorem ix_V (hu:X.A.units+64 < cLine) (hw:X.w=w) (hK:X.K=K):IxR X (rIxV w K):=(ix_W hw hK).or (ix_D hu)
theorem get_V (hu:X.A.units+64 < cLine) (hK:X.K=K):PGet X (rGetV K):=PGet.or (get_L hK) (get_D hu)
theorem set_V (hu:X.A.units+64 < cLine):PSet X rSetV:=PSet.or zjo (set_D hu)
end
section
variable {w:World} {K:Fg} {H:Hp} {Q:VK} {a b:Addr} {x y v:V} {o:Option V} {xs:List V} {i:Int} {σ:St} {D:Ends}
end
section
variable {K:Fg} {H:Hp} {Q:VK} {σ caps:St} {n:Nat} {ix:List Nat} {g:TG} {tt:TT} {te:TE} {m:Nat} {J:It} {Y:Nat->V->Hp->Prop}
end
section
variable {K:Fg} {T:String} {r:V->List V->Hp->VK->Prop} {to:TE} {σ:L2.St} {H:Hp} {Q:VK} {a:Addr} {xs:List V} {w:World} {x y v:V}
end
theorem zon {X:Cx} {pins:List (Addr×Obj)} {σ:L2.St} {H:Hp} {s:Shared} {h':Heap} {t':Nat} {a c:Addr} (I:L2.Inv X pins σ H s) (k:∀ b o,b≠a->b≠c->s.heap.get? b=some o->h'.get? b=some o)
  (fa:FpOk X pins H a) (fc:FpOk X pins H c):L2.Inv X pins σ H { s with heap:=h',toks:=t' }:=by
 obtain ⟨a0,a1,_,a3,a4,a5⟩:=fa
 obtain ⟨c0,c1,_,c3,c4,c5⟩:=fc
 have na:∀ b u,H b=some u->b≠a:=λ b u e z=>by rw [z,a0] at e;cases e
 have nc:∀ b u,H b=some u->b≠c:=λ b u e z=>by rw [z,c0] at e;cases e
 refine I.step (g':=s.gens) (d':=s.drawn) (ch:=[a,c]) (λ b hb=>?_) (λ b o _ _ hc e _=>k b o (λ z=>hc (by simp [z])) (λ z=>hc (by simp [z])) e) (λ b o _ _ hc e _=>⟨o.slots,k b o (λ z=>hc (by simp [z])) (λ z=>hc (by simp [z])) e⟩) (λ _ _ _ _ n=>n)
  (λ b o hc e=>⟨o,k b o (λ z=>hc (by simp [z])) (λ z=>hc (by simp [z])) e⟩) (λ _ _ e=>e) (λ _ _ _ e=>e) (λ b ps e=>⟨#[],by rw [e];simp⟩) (λ m hm=>?_) (λ b u e=>?_) I.bare
 ·simp at hb
  rcases hb with e|e
  ·subst e;exact ⟨a3,a1,a4,a5⟩
  ·subst e;exact ⟨c3,c1,c4,c5⟩
 ·obtain ⟨o,es,ep,ho,r⟩:=hm
  exact ⟨o,es,ep,k _ o (Ne.symm a1) (Ne.symm c1) ho,r⟩
 ·refine (I.hok b u e).stay (λ d v hc q=>k d v ?_ ?_ q) (λ _ q=>q) λ _ _ q=>q
  ·rcases hc with z|z
   ·rw [z];exact na b u e
   ·exact na d _ z
  ·rcases hc with z|z
   ·rw [z];exact nc b u e
   ·exact nc d _ z
theorem zsm {h:Heap} {ob o:Obj} {b:Addr} (e:(h.push ob).get? b=some o) (n:b≠h.objs.size):h.get? b=some o:=by
 obtain ⟨e1,e2⟩:=Heap.get?_some_iff.mp e
 refine Heap.get?_some_iff.mpr ⟨?_,e2⟩
 cases h
 simpa [Heap.push,Array.getElem?_push,n] using e1
def Ite (K:Fg) (a:Addr):It:=⟨λ i H=>∃ xs x,SqL K H a xs/\xs[i]?=some x,λ i H x H'=>∃ y p,(∀ ys,SqL K H a ys->ys[i]?=some y)/\H p=none/\x=.ref p/\H'=upd H p (.tup [.int (i:Int),y]),λ i H=>∃ xs,SqL K H a xs/\xs.length<=i⟩
theorem zem {P:Program} {w:World} {K:Fg} {elts:List Expr} {c:_} {pos:Pos} {a e it:Addr} (hne:e≠it) :
  Turn P w K (.Tuple elts c pos) (Ite K a) [e,it] e (λ i h=>(∃ old,IsEnum h e it (i:Int) old)/\h.IsListIter it a i) where
 mem:=by simp
 obj:=λ i h S b hb=>by
  obtain ⟨⟨old,he⟩,hi⟩:=S
  simp at hb
  rcases hb with rfl|rfl
  ·exact ⟨_,he,λ v q=>by cases q⟩
  ·obtain ⟨o,e1,c1,d1⟩:=hi
   exact ⟨o,e1,λ v z=>by rw [d1] at z;cases z⟩
 keep:=λ i h h' S k=>by
  obtain ⟨⟨old,he⟩,hi⟩:=S
  exact ⟨⟨old,k _ (by simp) _ he⟩,hi.at λ o e1=>k it (by simp) o e1⟩
 item:=by
  intro X hP hw hK hc i pins s σ H E I hf S hg
  subst hP hw hK
  obtain ⟨⟨old,he⟩,hi⟩:=S
  obtain ⟨xs,x,hq,hx⟩:=hg
  obtain ⟨its,rv,p,hz⟩:=I.list hq
  obtain ⟨u,hu,ru⟩:=rv.get hx
  refine wpAny_pyNext_enum_item he hi p.isList (x:=u) (by simpa using hu) hne λ h' ho hi' ht hsz hk=>?_
  have eL:e < s.heap.objs.size:=Heap.lt_size he
  have iL:it < s.heap.objs.size:=by obtain ⟨o,e1,_⟩:=hi;exact Heap.lt_size e1
  have hfr:=I.hok.fresh (Nat.le_refl s.heap.objs.size)
  have I1:L2.Inv X pins σ (upd H s.heap.objs.size (.tup [.int (i:Int),x])) { s with heap:=s.heap.push { cls:=.type "tuple",data:=.seq #[.int i s.toks,u] },toks:=s.toks+1 } :=
   I.laid (t':=s.toks+1) (o:=.tup [.int (i:Int),x]) (λ b ob q=>Heap.get?_push_of_some _ q) (Nat.le_refl _) ⟨by show 2<=sizeLine;rw [sizeLine_eq];decide,[.int i s.toks,u],.cons ⟨_,rfl⟩ (.cons ru .nil),IsTup.new _ _⟩
  have fe:=hf e (by simp)
  have fi:=hf it (by simp)
  have fe1:FpOk X pins (upd H s.heap.objs.size (.tup [.int (i:Int),x])) e:=⟨by rw [upd_ne (Nat.ne_of_lt eL)];exact fe.1,fe.2⟩
  have fi1:FpOk X pins (upd H s.heap.objs.size (.tup [.int (i:Int),x])) it:=⟨by rw [upd_ne (Nat.ne_of_lt iL)];exact fi.1,fi.2⟩
  have I2:L2.Inv X pins σ (upd H s.heap.objs.size (.tup [.int (i:Int),x])) { s with heap:=h',toks:=s.toks+1 } :=
   zon (s:={ s with heap:=s.heap.push { cls:=.type "tuple",data:=.seq #[.int i s.toks,u] },toks:=s.toks+1 }) I1 (λ b o nb1 nb2 q=>by
    by_cases z:b=s.heap.objs.size
    ·subst z
     have q':(s.heap.push { cls:=.type "tuple",data:=.seq #[.int i s.toks,u] }).get? s.heap.objs.size=some o:=q
     rw [Heap.get?_push_size _ rfl] at q'
     cases q'
     exact ht
    ·exact hk b o nb1 nb2 (zsm q z)) fe1 fi1
  refine ⟨.ref s.heap.objs.size,rfl,wpAny_letOwnedTupleGo_enum ho λ h2 he2 hs2=>?_⟩
  refine ⟨.ref s.heap.objs.size,_,zg2 (tk:=s.toks+1) I2 fe1 hs2,rfl,⟨x,s.heap.objs.size,λ ys hy=>by rw [I.list_inj hy hq];exact hx,hfr,rfl,rfl⟩,⟨⟨u,by simpa using he2⟩,hi'.at λ o e1=>hs2.extBut _ _ (Ne.symm hne) e1⟩,λ b hb=>?_⟩
  simp at hb
  rcases hb with rfl|rfl
  ·exact fe1.1
  ·exact fi1.1
 done:=by
  intro X hP hw hK hc i pins s σ H E I hf S hg
  subst hP hw hK
  obtain ⟨⟨old,he⟩,hi⟩:=S
  obtain ⟨xs,hq,hx⟩:=hg
  obtain ⟨its,rv,p,hz⟩:=I.list hq
  have hl:=rv.length
  exact wpAny_pyNext_enum_end (I.ok.hd hc) he hi p.isList (by simp;lia) λ h' eb=>⟨rfl,fp_ext (tk:=s.toks) I (hf it (by simp)) eb⟩
 self:=λ _ _ _ _ _ S h=>wpAny_pyIter_enum S.1.choose_spec h
theorem zbg:bootBuiltins "enumerate"=some (.type "enumerate"):=by decide +kernel
section
variable {X:Cx} {elts:List Expr}
def kEnum (K:Fg) (vs:List V) (H:Hp) (R:It->Hp->Prop):Prop:=∃ a xs,vs=[.ref a]/\SqL K H a xs/\R (Ite K a) H
def iEnum (K:Fg) (ta:TA):TI:=λ σ H R=>ta σ H λ vs H1=>kEnum K vs H1 R
theorem zom {K:Fg} (hK:X.K=K) {c:_} {tpos:Pos} {a:Expr} {ta:TA} {p pos:Pos} (hg:Gl X "enumerate") (hm:X.mg "enumerate"=none) (ha:PA X [a] ta) (hs:starEach [a] X.env=[(false,eval a X.env)]:=by rfl) :
  PI X (.Tuple elts c tpos) (.Call (.Name "enumerate" p) [a] [] pos) (iEnum K ta):=by
 subst hK
 intro pins s σ H R I h
 refine Call_ (ld_blt I hg hm zbg (PyProof.Rows.callWith_type1 (thn (ha pos pins s σ H _ I h) λ us s1 ⟨vs,H1,I1,r1,q1⟩=>?_) (by rw [hs];rfl) (by rfl)))
 obtain ⟨l,xs,e,hq,q⟩:=q1
 subst e
 obtain ⟨u1,rfl,ru⟩:=vals1 r1
 obtain rfl:u1=Value.ref l:=ru
 obtain ⟨its,rv,pl,hz⟩:=I1.list hq
 refine call_enumerate_list pl.isList ?_
 intro h' he hi hsz kk
 refine wpAny_pyIter_enum he ?_
 have I2:L2.Inv X pins σ H1 { s1 with heap:=h' }:=I1.kept (t':=s1.toks) kk
 refine ⟨s1.heap.objs.size+1,[s1.heap.objs.size+1,s1.heap.objs.size],_,_,H1,rfl,I2,zem (Nat.succ_ne_self _),⟨⟨.none,he⟩,hi⟩,λ b hb=>?_,q⟩
 have hb':s1.heap.objs.size<=b:=by
  simp at hb
  rcases hb with z|z
  ·exact z ▸ Nat.le_succ _
  ·exact z ▸ Nat.le_refl _
 exact I1.fpOk hb' (I1.hok.fresh hb')
end
section
variable {K:Fg} {H:Hp} {a:Addr} {xs:List V} {σ:L2.St} {ta:TA}
end
def rMulV:R2:=λ x y H Q=>rMulW x y H Q \/ rRep x y H Q
theorem zm1 {X:Cx}:OpR X (binaryOp .Mult) rMulV:=zmt.or op_rep
def rDGet2:V->List V->Hp->VK->Prop:=λ x vs H Q=>∃ a k d o,x=.ref a/\vs=[k,d]/\DGet H a k o/\Q (o.getD d) H
theorem ztm {X:Cx} (hu:X.A.units+64 < cLine):MtR X "dict.get" rDGet2:=by
 intro pins s σ H x xs v us Q I rx rv h
 obtain ⟨a,k,d,o,rfl,rfl,g,q⟩:=h
 obtain ⟨u,r,rfl,ru,rr⟩:=vals2 rv
 obtain rfl:v=Value.ref a:=rx
 exact d_get2 (by lia) I g ru rr λ w' s3 I3 rw'=>⟨o.getD d,H,I3,rw',q⟩
section
variable {K:Fg} {r:V->List V->Hp->VK->Prop} {t:TA} {σ:L2.St} {H:Hp} {Q:VK} {a:Addr} {d k:V} {o:Option V}
end
section
variable {X:Cx}
def rCatS (K:Fg):R2:=λ x y H Q=>∃ l b xs zs,x=.ref l/\y=.ref b/\SqL K H l xs/\SqL K H b zs/\xs.length+zs.length<=sizeLine/\∀ p,H p=none->Q (.ref p) (upd H p (.lst (xs++zs)))
theorem zlt {K:Fg} (hK:X.K=K):OpR X (binaryOp .Add) (rCatS K):=by
 subst hK
 intro pins s σ H x y v u Q I rx ry h
 obtain ⟨l,b,xs,zs,rfl,rfl,hH,hB,hz,q⟩:=h
 cases rx
 cases ry
 obtain ⟨its,r,⟨⟨cls,dd,data,sl⟩,n,ho,hc,_,hd⟩,z1⟩:=I.list hH
 obtain ⟨its2,r2,⟨⟨cls2,dd2,data2,sl2⟩,n2,ho2,hc2,_,hd2⟩,z2⟩:=I.list hB
 simp only at hc hd hc2 hd2
 subst hc hd hc2 hd2
 have e1:=r.length
 have e2:=r2.length
 refine concat_meets ⟨_,ho,rfl⟩ ⟨_,ho2,rfl⟩ noFill_list_add seq_list_add PySem.F.slot_list_add PySem.F.entry_list_add (PySem.F.args_list_add_2 _ _) (list_addW l b its.toArray its2.toArray n n2 dd dd2 sl sl2 (by simp;lia)) ⟨ho,ho2,?_⟩
 have ea:its.toArray++its2.toArray=(its++its2).toArray:=by simp
 rw [ea]
 exact ⟨.ref _,_,I.lnew (t':=s.toks) (r.append r2) (by rw [List.length_append];lia),rfl,q _ I.fresh⟩
def rAddW (K:Fg):R2:=λ x y H Q=>rAddU K x y H Q \/ rCatS K x y H Q
theorem zo0 {K:Fg} (hK:X.K=K):OpR X (binaryOp .Add) (rAddW K):=(zcs hK).or (zlt hK)
def rIsS (K:Fg):List V->Hp->VK->Prop:=λ vs H Q=>∃ a cV c b,vs=[.ref a,cV]/\clsV cV=some c/\(((∃ xs,SqL K H a xs)/\PySem.W.kitOne K (.type "list") c=some b) \/ ((∃ xs,SqT K H a xs)/\PySem.W.kitOne K (.type "tuple") c=some b))/\Q (.bl b) H
theorem zxp {K:Fg} (h:X.K=K):CallR X (.builtin "isinstance") (rIsS K):=by
 subst h
 intro pins s σ H xs us Q I r h
 obtain ⟨a,cV,c,b,rfl,rc,hh,q⟩:=h
 obtain ⟨u,v,rfl,ru,rv⟩:=r.two
 obtain rfl:=zre rc rv
 cases (show u=Value.ref a from ru)
 rcases hh with ⟨⟨xs,hx⟩,e⟩|⟨⟨xs,hx⟩,e⟩
 ·obtain ⟨its,_,⟨o,n,ho,hc,_,hd⟩,_⟩:=I.list hx
  exact PySem.W.kia_one PySem.W.kitx_list I.kIn ⟨o,ho,hc⟩ e (λ z=>nomatch z) λ tk=>⟨.bl b,H,I.tok tk,rfl,q⟩
 ·obtain ⟨its,_,⟨o,h1,h2,_⟩,_⟩:=I.tuple hx
  exact PySem.W.kia_one PySem.W.kitx_tuple I.kIn ⟨o,h1,h2⟩ e (λ z=>nomatch z) λ tk=>⟨.bl b,H,I.tok tk,rfl,q⟩
def rIsW (K:Fg):List V->Hp->VK->Prop:=λ vs H Q=>rIsI K vs H Q \/ rIsS K vs H Q
theorem zq8 {K:Fg} (h:X.K=K):CallR X (.builtin "isinstance") (rIsW K):=(zlh h).or (zxp h)
end
theorem IsAll.dlen {K:Fg} {F:Hp}:∀ {xs:List V} {ds:List PyData},IsAll K F xs ds->xs.length=ds.length
|_,_,.nil=>rfl
|_,_,.cons _ r=>congrArg (·+1) (IsAll.dlen r)
theorem IsAll.dget {K:Fg} {F:Hp}:∀ {xs:List V} {ds:List PyData} {i:Nat} {d:PyData},IsAll K F xs ds->ds[i]?=some d->∃ x,xs[i]?=some x/\Is K F x d
|_,_,_,_,.nil,e=>by simp at e
|_,_,0,_,.cons h _,e=>by simp at e;subst e;exact ⟨_,rfl,h⟩
|_,_,i+1,d,.cons _ r,e=>by
  obtain ⟨x,h1,h2⟩:=IsAll.dget (i:=i) (d:=d) r (by simpa using e)
  exact ⟨x,by simpa using h1,h2⟩
theorem IsAll.dapp {K:Fg} {F:Hp}:∀ {xs ys:List V} {ds es:List PyData},IsAll K F xs ds->IsAll K F ys es->IsAll K F (xs++ys) (ds++es)
|_,_,_,_,.nil,s=>s
|_,_,_,_,.cons h r,s=>.cons h (IsAll.dapp r s)
theorem IsAll.dset {K:Fg} {F:Hp} {x:V} {d:PyData} (hx:Is K F x d):∀ (n:Nat) {xs:List V} {ds:List PyData},IsAll K F xs ds->IsAll K F (xs.set n x) (ds.set n d)
|_,_,_,.nil=>.nil
|0,_,_,.cons _ r=>.cons hx r
|n+1,_,_,.cons h r=>.cons h (IsAll.dset hx n r)
theorem Is.list_inv {K:Fg} {F:Hp} {v:V} {ds:List PyData} (h:Is K F v (.list ds)):∃ a xs,v=.ref a/\SqL K F a xs/\IsAll K F xs ds:=by
 cases h with
|lst h1 h2=>exact ⟨_,_,rfl,h1,h2⟩
theorem Is.tuple_inv {K:Fg} {F:Hp} {v:V} {ds:List PyData} (h:Is K F v (.tuple ds)):∃ a xs,v=.ref a/\SqT K F a xs/\IsAll K F xs ds:=by
 cases h with
|tup h1 h2=>exact ⟨_,_,rfl,SqT.of h1,h2⟩
|tuc h1 h2 _=>exact ⟨_,_,rfl,h1,h2⟩
theorem Is.int_inv {K:Fg} {F:Hp} {v:V} {i:Int} (h:Is K F v (.int i)):v=.int i:=by cases h;rfl
theorem Is.bl_inv {K:Fg} {F:Hp} {v:V} {b:Bool} (h:Is K F v (.bool b)):v=.bl b:=by cases h;rfl
theorem Is.str_inv {K:Fg} {F:Hp} {v:V} {b:Str} (h:Is K F v (.str b)):v=.str b:=by cases h;rfl
theorem Is.non_inv {K:Fg} {F:Hp} {v:V} (h:Is K F v .none):v=.non:=by cases h;rfl
end L3
namespace L4
open PySem PySem.Spec PyProof.Rows L2 L3
abbrev D:=PyData
structure Ext (F H F' H':Hp):Prop where
 h:Same H H'
 f:Same F F'
 fh:Same F' H'
 nw:∀ a,H a≠none->F a=none->F' a=none
theorem Ext.refl {F H:Hp} (s:Same F H):Ext F H F H:=⟨λ _ _ z=>z,λ _ _ z=>z,s,λ _ _ z=>z⟩
theorem Ext.trans {F H F1 H1 F2 H2:Hp} (a:Ext F H F1 H1) (b:Ext F1 H1 F2 H2):Ext F H F2 H2 :=
 ⟨a.h.trans b.h,a.f.trans b.f,b.fh,λ c hc fc=>b.nw c (λ z=>by
  cases e:H c with
 |none=>exact hc e
 |some o=>rw [a.h c o e] at z;cases z) (a.nw c hc fc)⟩
inductive T where
|fz (d:D)|li (ds:List D)|ls (ts:List T)|ob (C:Addr) (fs:List (Str×T))|dk (kvs:List (Key×D))|dt (kvs:List (List Key×D))
inductive KvIs (K:Fg) (F:Hp) {κ:Type}:List (κ×V)->List (κ×D)->Prop
|nil:KvIs K F [] []
|cons {k:κ} {v:V} {d:D} {r:List (κ×V)} {s:List (κ×D)}:Is K F v d->KvIs K F r s->KvIs K F ((k,v) :: r) ((k,d) :: s)
theorem KvIs.mono {K:Fg} {F F':Hp} {κ:Type} (s:Same F F'):∀ {r:List (κ×V)} {t:List (κ×D)},KvIs K F r t->KvIs K F' r t
|_,_,.nil=>.nil
|_,_,.cons h r=>.cons (h.mono s) (r.mono s)
mutual
inductive Rt (K:Fg) (F H:Hp):V->T->List Addr->Prop
|fz {v:V} {d:D}:Is K F v d->Rt K F H v (.fz d) []
|li {a:Addr} {xs:List V} {ds:List D}:H a=some (.lst xs)->F a=none->IsAll K F xs ds->Rt K F H (.ref a) (.li ds) [a]
|ls {a:Addr} {xs:List V} {ts:List T} {fp:List Addr}:H a=some (.lst xs)->F a=none->RtAll K F H xs ts fp->Rt K F H (.ref a) (.ls ts) (a :: fp)
|ob {a C dx:Addr} {fs:List (Str×V)} {ts:List (Str×T)} {fp:List Addr}:H a=some (.ins C dx fs)->H dx=some (.own a)->F a=none->F dx=none->RtFs K F H fs ts fp->Rt K F H (.ref a) (.ob C ts) (a :: dx :: fp)
|dk {a:Addr} {kvs:List (Key×V)} {ds:List (Key×D)}:H a=some (.dK kvs)->F a=none->KvIs K F kvs ds->Rt K F H (.ref a) (.dk ds) [a]
|dt {a:Addr} {kvs:List (List Key×V)} {ds:List (List Key×D)}:H a=some (.dT kvs)->F a=none->KvIs K F kvs ds->Rt K F H (.ref a) (.dt ds) [a]
inductive RtAll (K:Fg) (F H:Hp):List V->List T->List Addr->Prop
|nil:RtAll K F H [] [] []
|cons {x:V} {t:T} {xs:List V} {ts:List T} {fp fq:List Addr}:Rt K F H x t fp->RtAll K F H xs ts fq->RtAll K F H (x :: xs) (t :: ts) (fp++fq)
inductive RtFs (K:Fg) (F H:Hp):List (Str×V)->List (Str×T)->List Addr->Prop
|nil:RtFs K F H [] [] []
|cons {f:Str} {x:V} {t:T} {xs:List (Str×V)} {ts:List (Str×T)} {fp fq:List Addr}:Rt K F H x t fp->RtFs K F H xs ts fq->RtFs K F H ((f,x) :: xs) ((f,t) :: ts) (fp++fq)
end
section
variable {K:Fg} {F H F' H':Hp}
theorem Rt.ind {P : V → T → List Addr → Prop} {Q : List V → List T → List Addr → Prop} {R : List (Str × V) → List (Str × T) → List Addr → Prop}
    (c1 : ∀ {v : V} {d : D}, Is K F v d → P v (.fz d) [])
    (c2 : ∀ {a : Addr} {xs : List V} {ds : List D}, H a = some (.lst xs) → F a = none → IsAll K F xs ds → P (.ref a) (.li ds) [a])
    (c3 : ∀ {a : Addr} {xs : List V} {ts : List T} {fp : List Addr}, H a = some (.lst xs) → F a = none → Q xs ts fp → P (.ref a) (.ls ts) (a :: fp))
    (c4 : ∀ {a C dx : Addr} {fs : List (Str × V)} {ts : List (Str × T)} {fp : List Addr}, H a = some (.ins C dx fs) → H dx = some (.own a) → F a = none → F dx = none → R fs ts fp → P (.ref a) (.ob C ts) (a :: dx :: fp))
    (c5 : ∀ {a : Addr} {kvs : List (Key × V)} {ds : List (Key × D)}, H a = some (.dK kvs) → F a = none → KvIs K F kvs ds → P (.ref a) (.dk ds) [a])
    (c6 : ∀ {a : Addr} {kvs : List (List Key × V)} {ds : List (List Key × D)}, H a = some (.dT kvs) → F a = none → KvIs K F kvs ds → P (.ref a) (.dt ds) [a])
    (c7 : Q [] [] []) (c8 : ∀ {x : V} {t : T} {xs : List V} {ts : List T} {fp fq : List Addr}, P x t fp → Q xs ts fq → Q (x :: xs) (t :: ts) (fp ++ fq))
    (c9 : R [] [] []) (c0 : ∀ {f : Str} {x : V} {t : T} {xs : List (Str × V)} {ts : List (Str × T)} {fp fq : List Addr}, P x t fp → R xs ts fq → R ((f, x) :: xs) ((f, t) :: ts) (fp ++ fq)) :
    (∀ {v : V} {t : T} {fp : List Addr}, Rt K F H v t fp → P v t fp) ∧ (∀ {v : List V} {t : List T} {fp : List Addr}, RtAll K F H v t fp → Q v t fp) ∧ (∀ {v : List (Str × V)} {t : List (Str × T)} {fp : List Addr}, RtFs K F H v t fp → R v t fp) :=
  ⟨fun h => Rt.rec (motive_1 := fun v t fp _ => P v t fp) (motive_2 := fun v t fp _ => Q v t fp) (motive_3 := fun v t fp _ => R v t fp) c1 c2 (fun a b _ => c3 a b) (fun a b c d _ => c4 a b c d) c5 c6 c7 (fun _ _ => c8) c9 (fun _ _ => c0) h,
   fun h => RtAll.rec (motive_1 := fun v t fp _ => P v t fp) (motive_2 := fun v t fp _ => Q v t fp) (motive_3 := fun v t fp _ => R v t fp) c1 c2 (fun a b _ => c3 a b) (fun a b c d _ => c4 a b c d) c5 c6 c7 (fun _ _ => c8) c9 (fun _ _ => c0) h,
   fun h => RtFs.rec (motive_1 := fun v t fp _ => P v t fp) (motive_2 := fun v t fp _ => Q v t fp) (motive_3 := fun v t fp _ => R v t fp) c1 c2 (fun a b _ => c3 a b) (fun a b c d _ => c4 a b c d) c5 c6 c7 (fun _ _ => c8) c9 (fun _ _ => c0) h⟩
def Keep (F' H H':Hp) (fp:List Addr):Prop:=∀ a∈fp,H' a=H a/\F' a=none
theorem Keep.hd {a:Addr} {fp:List Addr} {o:HO} (k:Keep F' H H' (a :: fp)) (h:H a=some o):H' a=some o:=(k a List.mem_cons_self).1.trans h
theorem Keep.no {a:Addr} {fp:List Addr} (k:Keep F' H H' (a :: fp)):F' a=none:=(k a List.mem_cons_self).2
theorem Keep.tl {a:Addr} {fp:List Addr} (k:Keep F' H H' (a :: fp)):Keep F' H H' fp:=λ b hb=>k b (List.mem_cons_of_mem _ hb)
theorem Keep.l {fp fq:List Addr} (k:Keep F' H H' (fp++fq)):Keep F' H H' fp:=λ b hb=>k b (List.mem_append_left _ hb)
theorem Keep.r {fp fq:List Addr} (k:Keep F' H H' (fp++fq)):Keep F' H H' fq:=λ b hb=>k b (List.mem_append_right _ hb)
theorem zsf (s:Same F F'):(∀ {v:V} {t:T} {fp:List Addr},Rt K F H v t fp->Keep F' H H' fp->Rt K F' H' v t fp)/\(∀ {v:List V} {t:List T} {fp:List Addr},RtAll K F H v t fp->Keep F' H H' fp->RtAll K F' H' v t fp)/\(∀ {v:List (Str×V)} {t:List (Str×T)} {fp:List Addr},RtFs K F H v t fp->Keep F' H H' fp->RtFs K F' H' v t fp) :=
 Rt.ind (P:=λ v t fp=>Keep F' H H' fp->Rt K F' H' v t fp) (Q:=λ v t fp=>Keep F' H H' fp->RtAll K F' H' v t fp) (R:=λ v t fp=>Keep F' H H' fp->RtFs K F' H' v t fp)
  (λ h _=>.fz (h.mono s)) (λ h _ i k=>.li (k.hd h) k.no (i.mono s)) (λ h _ i k=>.ls (k.hd h) k.no (i k.tl)) (λ h h2 _ _ i k=>.ob (k.hd h) (k.tl.hd h2) k.no k.tl.no (i k.tl.tl))
  (λ h _ i k=>.dk (k.hd h) k.no (i.mono s)) (λ h _ i k=>.dt (k.hd h) k.no (i.mono s)) (λ _=>.nil) (λ a b k=>.cons (a k.l) (b k.r)) (λ _=>.nil) (λ a b k=>.cons (a k.l) (b k.r))
theorem Rt.frame (s:Same F F') {v:V} {t:T} {fp:List Addr} (h:Rt K F H v t fp) (k:∀ a∈fp,H' a=H a/\F' a=none):Rt K F' H' v t fp:=(zsf s).1 h k
theorem RtAll.frame (s:Same F F') {v:List V} {t:List T} {fp:List Addr} (h:RtAll K F H v t fp) (k:∀ a∈fp,H' a=H a/\F' a=none):RtAll K F' H' v t fp:=(zsf s).2.1 h k
theorem RtFs.frame (s:Same F F') {v:List (Str×V)} {t:List (Str×T)} {fp:List Addr} (h:RtFs K F H v t fp) (k:∀ a∈fp,H' a=H a/\F' a=none):RtFs K F' H' v t fp:=(zsf s).2.2 h k
def Dom (F H:Hp) (fp:List Addr):Prop:=∀ a∈fp,H a≠none/\F a=none
theorem Dom.nil:Dom F H []:=λ _ h=>nomatch h
theorem Dom.cons {a:Addr} {o:HO} {fp:List Addr} (h:H a=some o) (f:F a=none) (r:Dom F H fp):Dom F H (a :: fp):=λ b hb=>by
 rcases List.mem_cons.mp hb with e|e
 ·rw [e];exact ⟨λ z=>(by rw [h] at z;cases z),f⟩
 ·exact r b e
theorem Dom.app {fp fq:List Addr} (a:Dom F H fp) (b:Dom F H fq):Dom F H (fp++fq):=λ c hc=>(List.mem_append.mp hc).elim (a c) (b c)
theorem rt_dom:(∀ {v:V} {t:T} {fp:List Addr},Rt K F H v t fp->Dom F H fp)/\(∀ {v:List V} {t:List T} {fp:List Addr},RtAll K F H v t fp->Dom F H fp)/\(∀ {v:List (Str×V)} {t:List (Str×T)} {fp:List Addr},RtFs K F H v t fp->Dom F H fp) :=
 Rt.ind (P:=λ _ _ fp=>Dom F H fp) (Q:=λ _ _ fp=>Dom F H fp) (R:=λ _ _ fp=>Dom F H fp) (λ _=>.nil) (λ h f _=>.cons h f .nil) (λ h f r=>.cons h f r) (λ h h2 f f2 r=>.cons h f (.cons h2 f2 r))
  (λ h f _=>.cons h f .nil) (λ h f _=>.cons h f .nil) .nil .app .nil .app
theorem Rt.dom {v:V} {t:T} {fp:List Addr} (h:Rt K F H v t fp):∀ a∈fp,H a≠none/\F a=none:=rt_dom.1 h
theorem RtAll.dom {v:List V} {t:List T} {fp:List Addr} (h:RtAll K F H v t fp):∀ a∈fp,H a≠none/\F a=none:=rt_dom.2.1 h
theorem RtFs.dom {v:List (Str×V)} {t:List (Str×T)} {fp:List Addr} (h:RtFs K F H v t fp):∀ a∈fp,H a≠none/\F a=none:=rt_dom.2.2 h
end
theorem Rt.ext {K:Fg} {F H F' H':Hp} {v:V} {t:T} {fp:List Addr} (e:Ext F H F' H') (h:Rt K F H v t fp):Rt K F' H' v t fp :=
 h.frame e.f λ a ha=>by
  obtain ⟨h1,h2⟩:=h.dom a ha
  cases q:H a with
 |none=>exact absurd q h1
 |some o=>exact ⟨e.h a o q,e.nw a h1 h2⟩
inductive Sl where
|un|sh (d:D)|ow (t:T)|bo (t:T)|io (a:Addr) (t:T)
abbrev DSt:=List Sl
abbrev DE:=DSt->(D->Prop)->Prop
abbrev DF:=DSt->(List D->Prop)->Prop
abbrev DT:=DSt->(Bool->Prop)->Prop
def RSl (K:Fg) (F H:Hp) (v:Option V):Sl->Prop
|.un=>True
|.sh d=>∃ x,v=some x/\Is K F x d
|.ow t=>∃ x fp,v=some x/\Rt K F H x t fp/\fp.Nodup
|.bo t=>∃ x fp,v=some x/\Rt K F H x t fp/\fp.Nodup
|.io a t=>∃ fp,v=some (.ref a)/\Rt K F H (.ref a) t fp/\fp.Nodup
theorem RSl.ext {K:Fg} {F H F' H':Hp} {v:Option V} (e:Ext F H F' H'):∀ {s:Sl},RSl K F H v s->RSl K F' H' v s
|.un,_=>trivial
|.sh _,⟨x,a,b⟩=>⟨x,a,b.mono e.f⟩
|.ow _,⟨a,xs,h1,h2,h3⟩=>⟨a,xs,h1,h2.ext e,h3⟩
|.bo _,⟨a,xs,h1,h2,h3⟩=>⟨a,xs,h1,h2.ext e,h3⟩
|.io _ _,⟨xs,h1,h2,h3⟩=>⟨xs,h1,h2.ext e,h3⟩
structure RV (K:Fg) (F H:Hp) (σ:L2.St) (δ:DSt):Prop where
 len:σ.length=δ.length
 sl:∀ i s,δ[i]?=some s->RSl K F H (σ.getD i none) s
theorem RV.ext {K:Fg} {F H F' H':Hp} {σ:L2.St} {δ:DSt} (e:Ext F H F' H') (r:RV K F H σ δ):RV K F' H' σ δ:=⟨r.len,λ i s h=>(r.sl i s h).ext e⟩
def Vw (K:Fg) (F H:Hp) (v:V) (d:D):Prop:=Is K F v d \/ ∃ a xs ds,v=.ref a/\d=.list ds/\H a=some (.lst xs)/\IsAll K F xs ds
theorem Vw.ext {K:Fg} {F H F' H':Hp} {v:V} {d:D} (e:Ext F H F' H') (h:Vw K F H v d):Vw K F' H' v d:=by
 rcases h with h|⟨a,xs,ds,h1,h2,h3,h4⟩
 ·exact .inl (h.mono e.f)
 ·exact .inr ⟨a,xs,ds,h1,h2,e.h _ _ h3,h4.mono e.f⟩
theorem Vw.is {K:Fg} {F H:Hp} {v:V} {d:D} (s:Same F H) (h:Vw K F H v d):Is K H v d:=by
 rcases h with h|⟨a,xs,ds,rfl,rfl,h3,h4⟩
 ·exact h.mono s
 ·exact .lst (SqL.of h3) (h4.mono s)
theorem Vw.list {K:Fg} {F H:Hp} {v:V} {ds:List D} (s:Same F H) (h:Vw K F H v (.list ds)):∃ a xs,v=.ref a/\SqL K H a xs/\IsAll K F xs ds:=by
 rcases h with h|⟨a,xs,ds',rfl,e,h3,h4⟩
 ·cases h with
 |lst h1 h2=>exact ⟨_,_,rfl,s.seq h1,h2⟩
 ·cases e;exact ⟨a,xs,rfl,SqL.of h3,h4⟩
theorem Vw.tuple {K:Fg} {F H:Hp} {v:V} {ds:List D} (s:Same F H) (h:Vw K F H v (.tuple ds)):∃ a xs,v=.ref a/\SqT K H a xs/\SqT K F a xs/\IsAll K F xs ds:=by
 rcases h with h|⟨a,xs,ds',rfl,e,h3,h4⟩
 ·cases h with
 |tup h1 h2=>exact ⟨_,_,rfl,sseqT s (SqT.of h1),SqT.of h1,h2⟩
 |tuc h1 h2 _=>exact ⟨_,_,rfl,sseqT s h1,h1,h2⟩
 ·cases e
theorem Vw.int {K:Fg} {F H:Hp} {v:V} {i:Int} (h:Vw K F H v (.int i)):v=.int i:=by
 rcases h with h|⟨a,xs,ds',rfl,e,h3,h4⟩
 ·exact h.int_inv
 ·cases e
theorem Vw.str {K:Fg} {F H:Hp} {v:V} {i:Str} (h:Vw K F H v (.str i)):v=.str i:=by
 rcases h with h|⟨a,xs,ds',rfl,e,h3,h4⟩
 ·exact h.str_inv
 ·cases e
theorem Vw.bl {K:Fg} {F H:Hp} {v:V} {i:Bool} (h:Vw K F H v (.bool i)):v=.bl i:=by
 rcases h with h|⟨a,xs,ds',rfl,e,h3,h4⟩
 ·exact h.bl_inv
 ·cases e
section
variable (K:Fg)
def RfE (te:TE) (de:DE):Prop:=∀ {F H:Hp} {σ:L2.St} {δ:DSt} {Qd:D->Prop} {Q:VK},Same F H->RV K F H σ δ->de δ Qd->(∀ d,Qd d->∀ v F' H',Ext F H F' H'->Is K F' v d->Q v H')->te σ H Q
def RfV (te:TE) (de:DE):Prop:=∀ {F H:Hp} {σ:L2.St} {δ:DSt} {Qd:D->Prop} {Q:VK},Same F H->RV K F H σ δ->de δ Qd->(∀ d,Qd d->∀ v F' H',Ext F H F' H'->Vw K F' H' v d->Q v H')->te σ H Q
def RfF (te:TE) (df:DF):Prop:=∀ {F H:Hp} {σ:L2.St} {δ:DSt} {Qd:List D->Prop} {Q:VK},Same F H->RV K F H σ δ->df δ Qd->(∀ ds,Qd ds->∀ a xs F' H',Ext F H F' H'->H a=none->H' a=some (.lst xs)->F' a=none->IsAll K F' xs ds->Q (.ref a) H')->te σ H Q
def RfT (tt:TT) (dt:DT):Prop:=∀ {F H:Hp} {σ:L2.St} {δ:DSt} {Qd:Bool->Prop} {Q:Bool->Hp->Prop},Same F H->RV K F H σ δ->dt δ Qd->(∀ b,Qd b->∀ F' H',Ext F H F' H'->Q b H')->tt σ H Q
def RfA (ta:TA) (da:DF):Prop:=∀ {F H:Hp} {σ:L2.St} {δ:DSt} {Qd:List D->Prop} {Q:List V->Hp->Prop},Same F H->RV K F H σ δ->da δ Qd->(∀ ds,Qd ds->∀ vs F' H',Ext F H F' H'->IsAll K F' vs ds->Q vs H')->ta σ H Q
inductive VwAll (F H:Hp):List V->List D->Prop
|nil:VwAll F H [] []
|cons {v:V} {d:D} {vs:List V} {ds:List D}:Vw K F H v d->VwAll F H vs ds->VwAll F H (v :: vs) (d :: ds)
def RfAV (ta:TA) (da:DF):Prop:=∀ {F H:Hp} {σ:L2.St} {δ:DSt} {Qd:List D->Prop} {Q:List V->Hp->Prop},Same F H->RV K F H σ δ->da δ Qd->(∀ ds,Qd ds->∀ vs F' H',Ext F H F' H'->VwAll K F' H' vs ds->Q vs H')->ta σ H Q
def RfO (to:TO) (dO:DSt->(Option Int->Prop)->Prop):Prop:=∀ {F H:Hp} {σ:L2.St} {δ:DSt} {Qd:Option Int->Prop} {Q:Option Int->Hp->Prop},Same F H->RV K F H σ δ->dO δ Qd->(∀ o,Qd o->∀ F' H',Ext F H F' H'->Q o H')->to σ H Q
end
section
variable {K:Fg} {te ta tb tc:TE} {de da db dc:DE} {tt tu:TT} {dt du:DT} {tA:TA} {dA:DF}
theorem zmm {F H F' H':Hp} {a:Addr} {xs:List V} {ds:List D} (e:Ext F H F' H') (hn:H a=none) (h1:H' a=some (.lst xs)) (h2:F' a=none) (h3:IsAll K F' xs ds) :
  Ext F H (upd F' a (.lst xs)) H'/\Is K (upd F' a (.lst xs)) (.ref a) (.list ds):=by
 have s:Same F' (upd F' a (.lst xs)):=λ b o z=>by
  by_cases hb:b=a
  ·subst hb;rw [h2] at z;cases z
  ·rw [upd_ne hb];exact z
 refine ⟨⟨e.h,e.f.trans s,λ b o z=>?_,λ b hb fb=>?_⟩,.lst (SqL.of zg0) (h3.mono s)⟩
 ·by_cases hb:b=a
  ·subst hb;rw [zg0] at z;cases z;exact h1
  ·rw [upd_ne hb] at z;exact e.fh b o z
 ·have:b≠a:=λ z=>hb (by rw [z];exact hn)
  rw [upd_ne this];exact e.nw b hb fb
theorem zob {F H:Hp} {p:Addr} {xs:List V} {ds:List D} (s:Same F H) (hn:H p=none) (h3:IsAll K F xs ds) :
  Ext F H (upd F p (.tup xs)) (upd H p (.tup xs))/\Is K (upd F p (.tup xs)) (.ref p) (.tuple ds):=by
 have fn:F p=none:=by
  cases e:F p with
 |none=>rfl
 |some o=>rw [s p o e] at hn;cases hn
 have sF:Same F (upd F p (.tup xs)):=zt1 fn _
 refine ⟨⟨zt1 hn _,sF,λ b o z=>?_,λ b hb fb=>?_⟩,.tup zg0 (h3.mono sF)⟩
 ·by_cases hb:b=p
  ·subst hb;rw [zg0] at z ⊢;exact z
  ·rw [upd_ne hb] at z ⊢;exact s b o z
 ·have:b≠p:=λ z=>hb (by rw [z];exact hn)
  rw [upd_ne this];exact fb
theorem zm5 {F H:Hp} {p:Addr} {xs:List V} (s:Same F H) (hn:H p=none):Ext F H F (upd H p (.lst xs))/\F p=none:=by
 have fn:F p=none:=by
  cases e:F p with
 |none=>rfl
 |some o=>rw [s p o e] at hn;cases hn
 refine ⟨⟨zt1 hn _,λ _ _ z=>z,λ b o z=>?_,λ _ _ z=>z⟩,fn⟩
 exact zt1 hn _ b o (s b o z)
theorem RfE.v (h:RfE K te de):RfV K te de:=λ s r d k=>h s r d λ x q v F' H' e i=>k x q v F' H' e (.inl i)
def dF (df:DF):DE:=λ δ Q=>df δ λ ds=>Q (.list ds)
theorem RfF.e {df:DF} (h:RfF K te df):RfE K te (dF df):=λ s r d k=>h s r d λ ds q a xs F' H' e hn h1 h2 h3=>by
 obtain ⟨e2,i2⟩:=zmm e hn h1 h2 h3
 exact k _ q _ _ _ e2 i2
theorem RfF.v {df:DF} (h:RfF K te df):RfV K te (dF df):=RfE.v (RfF.e h)
def Sl.tree:Sl->Option T
|.ow t=>some t
|.bo t=>some t
|.io _ t=>some t
|.sh d=>some (.fz d)
|.un=>none
def fzT:T->(D->Prop)->Prop
|.fz d,Q=>Q d
|_,_=>False
def vwT:T->(D->Prop)->Prop
|.fz d,Q=>Q d
|.li ds,Q=>Q (.list ds)
|_,_=>False
def dVar (i:Nat):DE:=λ δ Q=>∃ s t,δ[i]?=some s/\s.tree=some t/\fzT t Q
def dVarV (i:Nat):DE:=λ δ Q=>∃ s t,δ[i]?=some s/\s.tree=some t/\vwT t Q
theorem zoe {F H:Hp} {σ:L2.St} {δ:DSt} {i:Nat} {x:V} (e:σ.getD i none=some x):σ[i]?=some (some x):=by
 rw [List.getD_eq_getElem?_getD] at e
 cases q:σ[i]? with
|none=>rw [q] at e;cases e
|some v=>rw [q] at e;exact congrArg some e
theorem RSl.rt {F H:Hp} {v:Option V}:∀ {s:Sl} {t:T},RSl K F H v s->s.tree=some t->∃ x fp,v=some x/\Rt K F H x t fp/\fp.Nodup
|.un,_,_,e=>by cases e
|.sh d,_,⟨x,h1,h2⟩,e=>by cases e;exact ⟨x,[],h1,.fz h2,.nil⟩
|.ow _,_,⟨x,fp,h1,h2⟩,e=>by cases e;exact ⟨x,fp,h1,h2⟩
|.bo _,_,⟨x,fp,h1,h2⟩,e=>by cases e;exact ⟨x,fp,h1,h2⟩
|.io a _,_,⟨fp,h1,h2⟩,e=>by cases e;exact ⟨_,fp,h1,h2⟩
theorem vw_rt {F H:Hp} {x:V} {t:T} {fp:List Addr} {Q:D->Prop} (h:Rt K F H x t fp) (q:vwT t Q):∃ d,Q d/\Vw K F H x d:=by
 cases h with
|fz i=>exact ⟨_,q,.inl i⟩
|li h1 h2 h3=>exact ⟨_,q,.inr ⟨_,_,_,rfl,rfl,h1,h3⟩⟩
|ls _ _ _=>exact q.elim
|ob _ _ _ _ _=>exact q.elim
|dk _ _ _=>exact q.elim
|dt _ _ _=>exact q.elim
theorem fz_rt {F H:Hp} {x:V} {t:T} {fp:List Addr} {Q:D->Prop} (h:Rt K F H x t fp) (q:fzT t Q):∃ d,Q d/\Is K F x d:=by
 cases h with
|fz i=>exact ⟨_,q,i⟩
|li _ _ _=>exact q.elim
|ls _ _ _=>exact q.elim
|ob _ _ _ _ _=>exact q.elim
|dk _ _ _=>exact q.elim
|dt _ _ _=>exact q.elim
theorem rf_var (i:Nat):RfE K (tVar i) (dVar i):=by
 intro F H σ δ Qd Q s r h k
 obtain ⟨sl,t,q,et,f⟩:=h
 obtain ⟨x,fp,e,hr,_⟩:=(r.sl i _ q).rt et
 obtain ⟨d,qd,hi⟩:=fz_rt hr f
 exact ⟨x,zoe (F:=F) (H:=H) (δ:=δ) e,k d qd x F H (Ext.refl s) hi⟩
theorem zb0 (i:Nat):RfV K (tVar i) (dVarV i):=by
 intro F H σ δ Qd Q s r h k
 obtain ⟨sl,t,q,et,f⟩:=h
 obtain ⟨x,fp,e,hr,_⟩:=(r.sl i _ q).rt et
 obtain ⟨d,qd,hi⟩:=vw_rt hr f
 exact ⟨x,zoe (F:=F) (H:=H) (δ:=δ) e,k d qd x F H (Ext.refl s) hi⟩
def dC (d:D):DE:=λ _ Q=>Q d
theorem rf_int {i:Int}:RfE K (tC (.int i)) (dC (.int i)):=λ s r h k=>k _ h _ _ _ (Ext.refl s) (.int i)
theorem rf_bl {b:Bool}:RfE K (tC (.bl b)) (dC (.bool b)):=λ s r h k=>k _ h _ _ _ (Ext.refl s) (.bl b)
theorem rf_str {x:Str}:RfE K (tC (.str x)) (dC (.str x)):=λ s r h k=>k _ h _ _ _ (Ext.refl s) (.str x)
def dOp (f:D->D->(D->Prop)->Prop) (da db:DE):DE:=λ δ Q=>da δ λ x=>db δ λ y=>f x y Q
def R2E (K:Fg) (r:R2) (f:D->D->(D->Prop)->Prop):Prop:=∀ {F H:Hp} {x y:V} {d e:D} {Qd:D->Prop} {Q:VK},Same F H->Vw K F H x d->Vw K F H y e->f d e Qd->(∀ z,Qd z->∀ v F' H',Ext F H F' H'->Is K F' v z->Q v H')->r x y H Q
def R2F (K:Fg) (r:R2) (f:D->D->(List D->Prop)->Prop):Prop:=∀ {F H:Hp} {x y:V} {d e:D} {Qd:List D->Prop} {Q:VK},Same F H->Vw K F H x d->Vw K F H y e->f d e Qd->(∀ ds,Qd ds->∀ a xs F' H',Ext F H F' H'->H a=none->H' a=some (.lst xs)->F' a=none->IsAll K F' xs ds->Q (.ref a) H')->r x y H Q
theorem rf_op {r:R2} {f:D->D->(D->Prop)->Prop} (hr:R2E K r f) (ha:RfV K ta da) (hb:RfV K tb db):RfE K (tOp r ta tb) (dOp f da db):=by
 intro F H σ δ Qd Q s rv h k
 refine ha s rv h λ x hx v F1 H1 e1 i1=>hb e1.fh (rv.ext e1) hx λ y hy u F2 H2 e2 i2=>?_
 exact hr e2.fh (i1.ext e2) i2 hy λ z hz w F3 H3 e3 i3=>k z hz w F3 H3 ((e1.trans e2).trans e3) i3
end
end L4
namespace L4
open PySem PySem.Spec PyProof.Rows L2 L3
section
variable {K:Fg} {te ta tb tc:TE} {de da db dc:DE} {tt tu:TT} {dt du:DT} {tA:TA} {dA:DF} {w:World}
def fAdd:D->D->(D->Prop)->Prop
|.int i,.int j,Q=>Q (.int (i+j))
|.str a,.str b,Q=>a.length+b.length<=sizeLine/\Q (.str (a++b))
|.list a,.list b,Q=>a.length+b.length<=sizeLine/\Q (.list (a++b))
|.tuple a,.tuple b,Q=>a≠[]/\b≠[]/\a.length+b.length<=sizeLine/\Q (.tuple (a++b))
|_,_,_=>False
def fCat:D->D->(List D->Prop)->Prop
|.list a,.list b,Q=>a.length+b.length<=sizeLine/\Q (a++b)
|_,_,_=>False
theorem r_cat:R2F K (rAddW K) fCat:=by
 intro F H x y d e Qd Q s hx hy h k
 unfold fCat at h
 split at h
 ·rename_i a b
  obtain ⟨p,xs,rfl,h1,i1⟩:=hx.list s
  obtain ⟨q,ys,rfl,h2,i2⟩:=hy.list s
  have e1:=i1.dlen
  have e2:=i2.dlen
  refine .inr ⟨p,q,xs,ys,rfl,rfl,h1,h2,by lia,λ l hl=>?_⟩
  obtain ⟨ex,fn⟩:=zm5 (xs:=xs++ys) s hl
  exact k _ h.2 l _ F _ ex hl zg0 fn (i1.dapp i2)
 ·exact h.elim
theorem r_add:R2E K (rAddW K) fAdd:=by
 intro F H x y d e Qd Q s hx hy h k
 unfold fAdd at h
 split at h
 ·cases hx.int;cases hy.int
  exact .inl (.inl ⟨_,_,rfl,rfl,k _ h _ F H (Ext.refl s) (.int _)⟩)
 ·cases hx.str;cases hy.str
  exact .inl (.inr (.inl ⟨_,_,rfl,rfl,h.1,k _ h.2 _ F H (Ext.refl s) (.str _)⟩))
 ·rename_i a b
  refine r_cat (Qd:=λ ds=>Qd (.list ds)) s hx hy h λ ds q l xs F' H' ex hn h1 h2 h3=>?_
  obtain ⟨e2,i2⟩:=zmm ex hn h1 h2 h3
  exact k _ q _ _ _ e2 i2
 ·rename_i a b
  obtain ⟨p,xs,rfl,h1,_,i1⟩:=hx.tuple s
  obtain ⟨q,ys,rfl,h2,_,i2⟩:=hy.tuple s
  have e1:=i1.dlen
  have e2:=i2.dlen
  have n1:xs≠[]:=λ z=>h.1 (List.length_eq_zero_iff.mp (by rw [<- e1,z];rfl))
  have n2:ys≠[]:=λ z=>h.2.1 (List.length_eq_zero_iff.mp (by rw [<- e2,z];rfl))
  refine .inl (.inr (.inr (.inr ⟨p,q,xs,ys,rfl,rfl,h1,h2,n1,by lia,λ z=>absurd z n2,λ _ l hl=>?_⟩)))
  obtain ⟨ex,ii⟩:=zob (K:=K) (ds:=a++b) s hl (i1.dapp i2)
  exact k _ h.2.2.2 _ _ _ ex ii
 ·exact h.elim
def fI (C:Int->Int->Prop) (g:Int->Int->D):D->D->(D->Prop)->Prop
|.int i,.int j,Q=>C i j/\Q (g i j)
|_,_,_=>False
def fI0 (g:Int->Int->D):D->D->(D->Prop)->Prop
|.int i,.int j,Q=>Q (g i j)
|_,_,_=>False
theorem r_I {C:Int->Int->Prop} {g:Int->Int->V} {g':Int->Int->D} (hg:∀ i j (F:Hp),Is K F (g i j) (g' i j)):R2E K (rI C g) (fI C g'):=by
 intro F H x y d e Qd Q s hx hy h k
 unfold fI at h
 split at h
 ·cases hx.int;cases hy.int
  exact ⟨_,_,rfl,rfl,h.1,k _ h.2 _ F H (Ext.refl s) (hg _ _ _)⟩
 ·exact h.elim
theorem r_I0 {g:Int->Int->V} {g':Int->Int->D} (hg:∀ i j (F:Hp),Is K F (g i j) (g' i j)):R2E K (rI0 g) (fI0 g'):=by
 intro F H x y d e Qd Q s hx hy h k
 unfold fI0 at h
 split at h
 ·cases hx.int;cases hy.int
  exact ⟨_,_,rfl,rfl,k _ h _ F H (Ext.refl s) (hg _ _ _)⟩
 ·exact h.elim
abbrev fSub:=fI0 λ i j=>.int (i - j)
abbrev fDiv:=fI CDivW λ i j=>.int (i / j)
abbrev fMod:=fI (λ _ j=>0 < j) λ i j=>.int (i % j)
abbrev fPow:=fI CPow λ i j=>.int (i ^ j.toNat)
abbrev fLt:=fI0 λ i j=>.bool (decide (i < j))
abbrev fLe:=fI0 λ i j=>.bool (decide (i<=j))
abbrev fGt:=fI0 λ i j=>.bool (decide (j < i))
abbrev fGe:=fI0 λ i j=>.bool (decide (j<=i))
theorem r_sub:R2E K (rI0 λ i j=>V.int (i - j)) fSub:=r_I0 λ _ _ _=>.int _
theorem r_div:R2E K (rI CDivW λ i j=>V.int (i / j)) fDiv:=r_I λ _ _ _=>.int _
theorem r_mod:R2E K (rI (λ _ j=>0 < j) λ i j=>V.int (i % j)) fMod:=r_I λ _ _ _=>.int _
theorem r_pow:R2E K (rI CPow λ i j=>V.int (i ^ j.toNat)) fPow:=r_I λ _ _ _=>.int _
theorem r_lt:R2E K (rI0 λ i j=>V.bl (decide (i < j))) fLt:=r_I0 λ _ _ _=>.bl _
theorem r_le:R2E K (rI0 λ i j=>V.bl (decide (i<=j))) fLe:=r_I0 λ _ _ _=>.bl _
theorem r_gt:R2E K (rI0 λ i j=>V.bl (decide (j < i))) fGt:=r_I0 λ _ _ _=>.bl _
theorem r_ge:R2E K (rI0 λ i j=>V.bl (decide (j<=i))) fGe:=r_I0 λ _ _ _=>.bl _
def fMul:D->D->(D->Prop)->Prop
|.int i,.int j,Q=>CMul i j/\Q (.int (i * j))
|.str z,.int n,Q=>0<=n/\z.length * n.toNat<=sizeLine/\n<=sizeLine/\Q (.str (repS z n.toNat))
|_,_,_=>False
theorem r_mul:R2E K rMulV fMul:=by
 intro F H x y d e Qd Q s hx hy h k
 unfold fMul at h
 split at h
 ·cases hx.int;cases hy.int
  exact .inl (.inl (.inl ⟨_,_,rfl,rfl,h.1,k _ h.2 _ F H (Ext.refl s) (.int _)⟩))
 ·cases hx.str;cases hy.int
  exact .inl (.inr ⟨_,_,rfl,rfl,h.1,h.2.1,h.2.2.1,k _ h.2.2.2 _ F H (Ext.refl s) (.str _)⟩)
 ·exact h.elim
def fRep:List D->D->(List D->Prop)->Prop
|ds,.int n,Q=>n < 2 ^ 62/\-(2 ^ 62)<=n/\ds.length * n.toNat<=sizeLine/\Q (List.replicate n.toNat ds).flatten
|_,_,_=>False
def dRep (df:DF) (db:DE):DF:=λ δ Q=>df δ λ ds=>db δ λ y=>fRep ds y Q
theorem zin {F:Hp} {xs:List V} {ds:List D} (h:IsAll K F xs ds):∀ n:Nat,IsAll K F (List.replicate n xs).flatten (List.replicate n ds).flatten
|0=>.nil
|n+1=>by rw [List.replicate_succ,List.replicate_succ,List.flatten_cons,List.flatten_cons];exact h.dapp (zin h n)
theorem rf_rep {df:DF} (ha:RfF K ta df) (hb:RfE K tb db):RfF K (tOp rMulV ta tb) (dRep df db):=by
 intro F H σ δ Qd Q s rv h k
 refine ha s rv h λ ds hx a xs F1 H1 e1 hn h1 h2 h3=>hb e1.fh (rv.ext e1) hx λ y hy u F2 H2 e2 i2=>?_
 unfold fRep at hy
 split at hy
 ·rename_i n
  cases i2.int_inv
  have el:=h3.dlen
  refine .inr ⟨a,n,xs,rfl,rfl,e2.h _ _ h1,by lia,by lia,by rw [el];exact hy.2.2.1,λ p hp=>?_⟩
  obtain ⟨ex,fn⟩:=zm5 (xs:=(List.replicate n.toNat xs).flatten) e2.fh hp
  refine k _ hy.2.2.2 p _ F2 _ ((e1.trans e2).trans ex) ?_ zg0 fn (zin (h3.mono e2.f) _)
  cases q:H p with
 |none=>rfl
 |some o=>rw [(e1.trans e2).h p o q] at hp;cases hp
 ·exact hy.elim
def fEq:D->D->(D->Prop)->Prop
|.int i,.int j,Q=>Q (.bool (decide (i=j)))
|.str i,.str j,Q=>Q (.bool (decide (i=j)))
|.bool i,.bool j,Q=>Q (.bool (decide (i=j)))
|d,e,Q=>SeqAt.shaped d=true/\SeqAt.shaped e=true/\Q (.bool (PyData.eqv d e))
def fNe:D->D->(D->Prop)->Prop
|.int i,.int j,Q=>Q (.bool (!decide (i=j)))
|.str i,.str j,Q=>Q (.bool (!decide (i=j)))
|.bool i,.bool j,Q=>Q (.bool (!decide (i=j)))
|d,e,Q=>SeqAt.shaped d=true/\SeqAt.shaped e=true/\Q (.bool (!PyData.eqv d e))
theorem zsd (i j:Int):decide (V.int i=V.int j)=decide (i=j):=by simp
theorem zud (i j:Str):decide (V.str i=V.str j)=decide (i=j):=by simp
theorem dec_bl (i j:Bool):decide (V.bl i=V.bl j)=decide (i=j):=by simp
def fIx:D->D->(D->Prop)->Prop
|.list ds,.int i,Q=>∃ d,atI ds i=some d/\Q d
|.tuple ds,.int i,Q=>∃ d,atI ds i=some d/\Q d
|.str z,.int i,Q=>z.length<=sizeLine/\∃ c,atI z.cps.toList i=some c/\Q (.str ⟨#[c]⟩)
|_,_,_=>False
theorem at_all {F:Hp} {xs:List V} {ds:List D} {i:Int} {d:D} (h:IsAll K F xs ds) (e:atI ds i=some d):∃ x,atI xs i=some x/\Is K F x d:=by
 unfold atI at e ⊢
 rw [h.dlen]
 cases q:ixN ds.length i with
|none=>rw [q] at e;cases e
|some j =>
  rw [q] at e
  obtain ⟨x,h1,h2⟩:=h.dget (show ds[j]?=some d from e)
  exact ⟨x,h1,h2⟩
theorem r_ix:R2E K (rIxV w K) fIx:=by
 intro F H x y d e Qd Q s hx hy h k
 unfold fIx at h
 split at h
 ·obtain ⟨z,ez,q⟩:=h
  obtain ⟨p,xs,rfl,h1,i1⟩:=hx.list s
  cases hy.int
  obtain ⟨v,ev,iv⟩:=at_all i1 ez
  exact .inl (.inl (.inl ⟨p,xs,_,v,rfl,rfl,h1,ev,k _ q _ F H (Ext.refl s) iv⟩))
 ·obtain ⟨z,ez,q⟩:=h
  obtain ⟨p,xs,rfl,h1,_,i1⟩:=hx.tuple s
  cases hy.int
  obtain ⟨v,ev,iv⟩:=at_all i1 ez
  exact .inl (.inl (.inr (.inl ⟨p,xs,_,v,rfl,rfl,h1,ev,k _ q _ F H (Ext.refl s) iv⟩)))
 ·obtain ⟨hz,c,ec,q⟩:=h
  cases hx.str;cases hy.int
  exact .inl (.inl (.inr (.inr ⟨_,_,c,rfl,rfl,hz,ec,k _ q _ F H (Ext.refl s) (.str _)⟩)))
 ·exact h.elim
def flatD:D->Bool
|.none=>true
|.bool _=>true
|.int _=>true
|.str _=>true
|_=>false
def dUn (f:D->(D->Prop)->Prop) (da:DE):DE:=λ δ Q=>da δ λ x=>f x Q
def fNeg:D->(D->Prop)->Prop
|.int i,Q=>Q (.int (-i))
|_,_=>False
theorem rf_neg (ha:RfE K ta da):RfE K (tUn (rU λ i=>V.int (-i)) ta) (dUn fNeg da):=by
 intro F H σ δ Qd Q s rv h k
 refine ha s rv h λ x hx v F1 H1 e1 i1=>?_
 unfold fNeg at hx
 split at hx
 ·cases i1.int_inv
  exact ⟨_,rfl,k _ hx _ F1 H1 e1 (.int _)⟩
 ·exact hx.elim
def fB (d:D) (Q:Bool->Prop):Prop:=match d with
|.bool b=>Q b
|_=>False
theorem fB_is {F:Hp} {v:V} {d:D} {Q:Bool->Prop} (i:Is K F v d) (h:fB d Q):∃ b,v=.bl b/\Q b:=by
 unfold fB at h
 split at h
 ·exact ⟨_,i.bl_inv,h⟩
 ·exact h.elim
def dNotV (da:DE):DE:=λ δ Q=>da δ λ x=>fB x λ b=>Q (.bool (!b))
theorem zti (ha:RfE K ta da):RfE K (tNotV ta) (dNotV da):=by
 intro F H σ δ Qd Q s rv h k
 refine ha s rv h λ x hx v F1 H1 e1 i1=>?_
 obtain ⟨b,rfl,q⟩:=fB_is i1 hx
 exact ⟨b,rfl,k _ q _ F1 H1 e1 (.bl _)⟩
def dAndV (da db:DE):DE:=λ δ Q=>da δ λ x=>fB x λ b=>if b=true then db δ Q else Q (.bool false)
theorem zhm (ha:RfE K ta da) (hb:RfE K tb db):RfE K (tAndV ta tb) (dAndV da db):=by
 intro F H σ δ Qd Q s rv h k
 refine ha s rv h λ x hx v F1 H1 e1 i1=>?_
 obtain ⟨b,rfl,q⟩:=fB_is i1 hx
 refine ⟨b,rfl,?_⟩
 cases b with
|true =>
  rw [if_pos rfl] at q ⊢
  exact hb e1.fh (rv.ext e1) q λ y hy u F2 H2 e2 i2=>k y hy u F2 H2 (e1.trans e2) i2
|false =>
  rw [if_neg Bool.false_ne_true] at q ⊢
  exact k _ q _ F1 H1 e1 (.bl _)
def dTest (de:DE):DT:=λ δ Q=>de δ λ d=>fB d Q
theorem zp0 (h:RfE K te de):RfT K (tTestU te) (dTest de):=by
 intro F H σ δ Qd Q s rv hd k
 refine h s rv hd λ x hx v F1 H1 e1 i1=>?_
 obtain ⟨b,rfl,q⟩:=fB_is i1 hx
 exact ⟨b,rfl,k b q F1 H1 e1⟩
def fTru:D->(Bool->Prop)->Prop
|.none,Q=>Q false
|.bool b,Q=>Q b
|.int i,Q=>Q (i != 0)
|.str z,Q=>z.length<=sizeLine/\Q ((z.length:Int) != 0)
|.list ds,Q=>Q (!ds.isEmpty)
|.tuple ds,Q=>Q (!ds.isEmpty)
|.dict _,_=>False
def dTru (de:DE):DT:=λ δ Q=>de δ λ d=>fTru d Q
theorem zsg {F:Hp} {xs:List V} {ds:List D} (h:IsAll K F xs ds):xs.isEmpty=ds.isEmpty:=by cases h <;> rfl
theorem rf_tru (h:RfV K te de):RfT K (tTruU K te) (dTru de):=by
 intro F H σ δ Qd Q s rv hd k
 refine h s rv hd λ x hx v F1 H1 e1 i1=>?_
 unfold fTru at hx
 split at hx
 ·cases i1.is e1.fh;exact ⟨false,rfl,k _ hx F1 H1 e1⟩
 ·cases i1.bl;exact ⟨_,rfl,k _ hx F1 H1 e1⟩
 ·cases i1.int;exact ⟨_,rfl,k _ hx F1 H1 e1⟩
 ·cases i1.str;exact ⟨_,⟨hx.1,rfl⟩,k _ hx.2 F1 H1 e1⟩
 ·obtain ⟨p,xs,rfl,h1,i2⟩:=i1.list e1.fh
  refine ⟨_,.inl ⟨xs,h1,rfl⟩,?_⟩
  rw [zsg i2];exact k _ hx F1 H1 e1
 ·obtain ⟨p,xs,rfl,h1,_,i2⟩:=i1.tuple e1.fh
  refine ⟨_,.inr (.inl ⟨xs,h1,rfl⟩),?_⟩
  rw [zsg i2];exact k _ hx F1 H1 e1
 ·exact hx.elim
def dAnd (dt du:DT):DT:=λ δ Q=>dt δ λ b=>if b=true then du δ Q else Q false
def dOr (dt du:DT):DT:=λ δ Q=>dt δ λ b=>if b=true then Q true else du δ Q
def dNot (dt:DT):DT:=λ δ Q=>dt δ λ b=>Q (!b)
theorem rf_and (ht:RfT K tt dt) (hu:RfT K tu du):RfT K (tAnd tt tu) (dAnd dt du):=by
 intro F H σ δ Qd Q s rv h k
 refine ht s rv h λ b hb F1 H1 e1=>?_
 cases b with
|true =>
  rw [if_pos rfl] at hb ⊢
  exact hu e1.fh (rv.ext e1) hb λ c hc F2 H2 e2=>k c hc F2 H2 (e1.trans e2)
|false =>
  rw [if_neg Bool.false_ne_true] at hb ⊢
  exact k _ hb F1 H1 e1
theorem rf_or (ht:RfT K tt dt) (hu:RfT K tu du):RfT K (tOr tt tu) (dOr dt du):=by
 intro F H σ δ Qd Q s rv h k
 refine ht s rv h λ b hb F1 H1 e1=>?_
 cases b with
|false =>
  rw [if_neg Bool.false_ne_true] at hb ⊢
  exact hu e1.fh (rv.ext e1) hb λ c hc F2 H2 e2=>k c hc F2 H2 (e1.trans e2)
|true =>
  rw [if_pos rfl] at hb ⊢
  exact k _ hb F1 H1 e1
theorem rf_not (ht:RfT K tt dt):RfT K (tNot tt) (dNot dt):=λ s rv h k=>ht s rv h λ b hb F1 H1 e1=>k _ hb F1 H1 e1
def dIfE (dt:DT) (da db:DE):DE:=λ δ Q=>dt δ λ b=>if b=true then da δ Q else db δ Q
theorem rf_ifE (ht:RfT K tt dt) (ha:RfE K ta da) (hb:RfE K tb db):RfE K (tIf tt ta tb) (dIfE dt da db):=by
 intro F H σ δ Qd Q s rv h k
 refine ht s rv h λ b hb' F1 H1 e1=>?_
 cases b with
|true =>
  rw [if_pos rfl] at hb' ⊢
  exact ha e1.fh (rv.ext e1) hb' λ y hy u F2 H2 e2 i2=>k y hy u F2 H2 (e1.trans e2) i2
|false =>
  rw [if_neg Bool.false_ne_true] at hb' ⊢
  exact hb e1.fh (rv.ext e1) hb' λ y hy u F2 H2 e2 i2=>k y hy u F2 H2 (e1.trans e2) i2
def dChain (f g:D->D->(D->Prop)->Prop) (da db dc:DE):DE:=λ δ Q=>da δ λ x=>db δ λ y=>f x y λ u=>fB u λ b=>if b=true then dc δ λ z=>g y z Q else Q (.bool false)
theorem zse {r r':R2} {f g:D->D->(D->Prop)->Prop} (hr:R2E K r f) (hr':R2E K r' g) (ha:RfE K ta da) (hb:RfE K tb db) (hc:RfE K tc dc):RfE K (tChain r r' ta tb tc) (dChain f g da db dc):=by
 intro F H σ δ Qd Q s rv h k
 refine ha s rv h λ x hx v F1 H1 e1 i1=>hb e1.fh (rv.ext e1) hx λ y hy u F2 H2 e2 i2=>?_
 refine hr e2.fh (.inl (i1.mono e2.f)) (.inl i2) hy λ z hz v3 F3 H3 e3 i3=>?_
 obtain ⟨b,rfl,q⟩:=fB_is i3 hz
 refine ⟨b,rfl,?_⟩
 cases b with
|true =>
  rw [if_pos rfl] at q ⊢
  refine hc e3.fh (rv.ext ((e1.trans e2).trans e3)) q λ z' hz' v4 F4 H4 e4 i4=>?_
  exact hr' e4.fh (.inl (i2.mono (e3.f.trans e4.f))) (.inl i4) hz' λ o ho v5 F5 H5 e5 i5=>k o ho v5 F5 H5 ((((e1.trans e2).trans e3).trans e4).trans e5) i5
|false =>
  rw [if_neg Bool.false_ne_true] at q ⊢
  exact k _ q _ F3 H3 ((e1.trans e2).trans e3) (.bl _)
def dNil:DF:=λ _ Q=>Q []
def dCons (da:DE) (dr:DF):DF:=λ δ Q=>da δ λ x=>dr δ λ xs=>Q (x :: xs)
theorem ra_nil:RfA K tNil dNil:=λ s rv h k=>k _ h _ _ _ (Ext.refl s) .nil
theorem zc0 (ha:RfE K ta da) (hr:RfA K tA dA):RfA K (tCons ta tA) (dCons da dA):=by
 intro F H σ δ Qd Q s rv h k
 refine ha s rv h λ x hx v F1 H1 e1 i1=>hr e1.fh (rv.ext e1) hx λ xs hxs vs F2 H2 e2 i2=>?_
 exact k _ hxs _ F2 H2 (e1.trans e2) (.cons (i1.mono e2.f) i2)
theorem rw_nil:RfAV K tNil dNil:=λ s rv h k=>k _ h _ _ _ (Ext.refl s) .nil
theorem zx0 (ha:RfV K ta da) (hr:RfAV K tA dA):RfAV K (tCons ta tA) (dCons da dA):=by
 intro F H σ δ Qd Q s rv h k
 refine ha s rv h λ x hx v F1 H1 e1 i1=>hr e1.fh (rv.ext e1) hx λ xs hxs vs F2 H2 e2 i2=>?_
 exact k _ hxs _ F2 H2 (e1.trans e2) (.cons (i1.ext e2) i2)
def dTup (dA:DF):DE:=λ δ Q=>dA δ λ xs=>xs.length<=sizeLine/\Q (.tuple xs)
theorem rf_tup (h:RfA K tA dA):RfE K (tTupU tA) (dTup dA):=by
 intro F H σ δ Qd Q s rv hd k
 refine h s rv hd λ xs hx vs F1 H1 e1 i1=>⟨by rw [i1.dlen];exact hx.1,λ p hp=>?_⟩
 obtain ⟨ex,ii⟩:=zob (K:=K) e1.fh hp i1
 exact k _ hx.2 _ _ _ (e1.trans ex) ii
def dLst (dA:DF):DF:=λ δ Q=>dA δ λ xs=>xs.length<=sizeLine/\Q xs
theorem rf_lst (h:RfA K tA dA):RfF K (tLstU tA) (dLst dA):=by
 intro F H σ δ Qd Q s rv hd k
 refine h s rv hd λ xs hx vs F1 H1 e1 i1=>⟨by rw [i1.dlen];exact hx.1,λ p hp=>?_⟩
 obtain ⟨ex,fn⟩:=zm5 (xs:=vs) e1.fh hp
 refine k _ hx.2 p vs F1 _ (e1.trans ex) ?_ zg0 fn i1
 cases q:H p with
|none=>rfl
|some o=>rw [e1.h p o q] at hp;cases hp
abbrev DSp:=List D->(D->Prop)->Prop
def spD (K:Fg) (p:DSp):Sp:=λ vs H Q _=>∃ F ds Qd,Same F H/\IsAll K F vs ds/\p ds Qd/\∀ d,Qd d->∀ v F' H',Ext F H F' H'->Is K F' v d->Q v H'
def dCall (p:DSp) (dA:DF):DE:=λ δ Q=>dA δ λ ds=>p ds Q
theorem zw0 {p:DSp} {E:XK} (h:RfA K tA dA):RfE K (tCall (spD K p) [] E tA) (dCall p dA):=by
 intro F H σ δ Qd Q s rv hd k
 refine h s rv hd λ ds hp vs F1 H1 e1 i1=>?_
 rw [List.append_nil]
 exact ⟨F1,ds,Qd,e1.fh,i1,hp,λ d q v F' H' e2 i2=>k d q v F' H' (e1.trans e2) i2⟩
def dCallB (p:DSp) (dA:DF):DE:=λ δ Q=>dA δ λ ds=>p ds λ d=>flatD d=true/\Q d
theorem zgq {F F':Hp} {v:V} {d:D} (f:flatD d=true) (h:Is K F v d):Is K F' v d:=by
 cases h with
|non=>exact .non
|bl b=>exact .bl b
|int i=>exact .int i
|str x=>exact .str x
|lst _ _=>exact absurd f (by simp [flatD])
|tup _ _=>exact absurd f (by simp [flatD])
|tuc _ _ _=>exact absurd f (by simp [flatD])
theorem lend {F H:Hp} (s:Same F H):∀ {vs:List V} {ds:List D},VwAll K F H vs ds->∃ F',Same F F'/\Same F' H/\IsAll K F' vs ds
|_,_,.nil=>⟨F,λ _ _ z=>z,s,.nil⟩
|_,_,.cons h r=>by
  obtain ⟨F1,a1,b1,c1⟩:=lend s r
  rcases h with h|⟨a,xs,ds,rfl,rfl,h3,h4⟩
  ·exact ⟨F1,a1,b1,.cons (h.mono a1) c1⟩
  ·have s2:Same F1 (upd F1 a (.lst xs)):=λ b o z=>by
    by_cases hb:b=a
    ·subst hb;have:=b1 _ _ z;rw [h3] at this;rw [zg0,this]
    ·rw [upd_ne hb];exact z
   refine ⟨upd F1 a (.lst xs),a1.trans s2,λ b o z=>?_,.cons (.lst (SqL.of zg0) (h4.mono (a1.trans s2))) (c1.mono s2)⟩
   by_cases hb:b=a
   ·subst hb;rw [zg0] at z;cases z;exact h3
   ·rw [upd_ne hb] at z;exact b1 b o z
theorem zue {p:DSp} {E:XK} (h:RfAV K tA dA):RfE K (tCall (spD K p) [] E tA) (dCallB p dA):=by
 intro F H σ δ Qd Q s rv hd k
 refine h s rv hd λ ds hp vs F1 H1 e1 i1=>?_
 rw [List.append_nil]
 obtain ⟨F2,a2,b2,c2⟩:=lend e1.fh i1
 refine ⟨F2,ds,_,b2,c2,hp,λ d q v F' H' e2 i2=>k d q.2 v F1 H' (e1.trans ⟨e2.h,λ _ _ z=>z,e1.fh.trans e2.h,λ _ _ z=>z⟩) (zgq q.1 i2)⟩
def CB (K:Fg) (r:List V->Hp->VK->Prop) (f:List D->(D->Prop)->Prop):Prop:=∀ {F H:Hp} {vs:List V} {ds:List D} {Qd:D->Prop} {Q:VK},Same F H->VwAll K F H vs ds->f ds Qd->(∀ z,Qd z->∀ v F' H',Ext F H F' H'->Is K F' v z->Q v H')->r vs H Q
def CF (K:Fg) (r:List V->Hp->VK->Prop) (f:List D->(List D->Prop)->Prop):Prop:=∀ {F H:Hp} {vs:List V} {ds:List D} {Qd:List D->Prop} {Q:VK},Same F H->VwAll K F H vs ds->f ds Qd->(∀ z,Qd z->∀ a xs F' H',Ext F H F' H'->H a=none->H' a=some (.lst xs)->F' a=none->IsAll K F' xs z->Q (.ref a) H')->r vs H Q
def dCB (f:List D->(D->Prop)->Prop) (dA:DF):DE:=λ δ Q=>dA δ λ ds=>f ds Q
def dCF (f:List D->(List D->Prop)->Prop) (dA:DF):DF:=λ δ Q=>dA δ λ ds=>f ds Q
theorem rf_cb {r:List V->Hp->VK->Prop} {f:List D->(D->Prop)->Prop} (hr:CB K r f) (h:RfAV K tA dA):RfE K (tCB r tA) (dCB f dA):=by
 intro F H σ δ Qd Q s rv hd k
 refine h s rv hd λ ds hp vs F1 H1 e1 i1=>hr e1.fh i1 hp λ z q v F' H' e2 i2=>k z q v F' H' (e1.trans e2) i2
theorem rf_cf {r:List V->Hp->VK->Prop} {f:List D->(List D->Prop)->Prop} (hr:CF K r f) (h:RfAV K tA dA):RfF K (tCB r tA) (dCF f dA):=by
 intro F H σ δ Qd Q s rv hd k
 refine h s rv hd λ ds hp vs F1 H1 e1 i1=>hr e1.fh i1 hp λ z q a xs F' H' e2 hn h1 h2 h3=>k z q a xs F' H' (e1.trans e2) ?_ h1 h2 h3
 cases z:H a with
|none=>rfl
|some o=>rw [e1.h a o z] at hn;cases hn
theorem vw1 {F H:Hp} {vs:List V} {d:D} (h:VwAll K F H vs [d]):∃ v,vs=[v]/\Vw K F H v d:=by
 cases h with
|cons h r=>cases r;exact ⟨_,rfl,h⟩
theorem vw2 {F H:Hp} {vs:List V} {d e:D} (h:VwAll K F H vs [d,e]):∃ v u,vs=[v,u]/\Vw K F H v d/\Vw K F H u e:=by
 cases h with
|cons h r=>obtain ⟨u,rfl,r2⟩:=vw1 r;exact ⟨_,u,rfl,h,r2⟩
def fLen:List D->(D->Prop)->Prop
|[.list ds],Q=>Q (.int (ds.length:Nat))
|[.tuple ds],Q=>Q (.int (ds.length:Nat))
|[.str z],Q=>z.length<=sizeLine/\Q (.int (z.length:Nat))
|_,_=>False
theorem c_len:CB K (rLen K) fLen:=by
 intro F H vs ds Qd Q s hv h k
 unfold fLen at h
 split at h
 ·obtain ⟨v,rfl,hw⟩:=vw1 hv
  obtain ⟨p,xs,rfl,h1,i1⟩:=hw.list s
  refine ⟨_,_,rfl,.inl ⟨xs,h1,rfl⟩,?_⟩
  rw [i1.dlen];exact k _ h _ F H (Ext.refl s) (.int _)
 ·obtain ⟨v,rfl,hw⟩:=vw1 hv
  obtain ⟨p,xs,rfl,h1,_,i1⟩:=hw.tuple s
  refine ⟨_,_,rfl,.inr ⟨xs,h1,rfl⟩,?_⟩
  rw [i1.dlen];exact k _ h _ F H (Ext.refl s) (.int _)
 ·obtain ⟨v,rfl,hw⟩:=vw1 hv
  cases hw.str
  exact ⟨_,_,rfl,⟨h.1,rfl⟩,k _ h.2 _ F H (Ext.refl s) (.int _)⟩
 ·exact h.elim
def fMax2:List D->(D->Prop)->Prop
|[.int i,.int j],Q=>Q (.int (if j > i then j else i))
|_,_=>False
theorem c_max2:CB K rMax2 fMax2:=by
 intro F H vs ds Qd Q s hv h k
 unfold fMax2 at h
 split at h
 ·obtain ⟨v,u,rfl,h1,h2⟩:=vw2 hv
  cases h1.int;cases h2.int
  exact ⟨_,_,rfl,k _ h _ F H (Ext.refl s) (.int _)⟩
 ·exact h.elim
def intsD:List D->Option (List Int)
|[]=>some []
|.int i :: r=>(intsD r).map (i :: ·)
|_ :: _=>none
theorem zdi {F:Hp}:∀ {xs:List V} {ds:List D} {ns:List Int},IsAll K F xs ds->intsD ds=some ns->xs=ns.map V.int
|_,_,_,.nil,e=>by cases e;rfl
|_,_,_,.cons h r,e=>by
  cases h with
 |int i =>
   unfold intsD at e
   obtain ⟨ms,e1,rfl⟩:=Option.map_eq_some_iff.mp e
   rw [zdi r e1];rfl
 |_=>cases e
theorem zdq (ns:List Int):intsD (ns.map PyData.int)=some ns:=by
 induction ns with
|nil=>rfl
|cons n r ih=>simp [intsD,ih]
def fList:List D->(List D->Prop)->Prop
|[.list ds],Q=>Q ds
|[.tuple ds],Q=>Q ds
|_,_=>False
theorem c_list:CF K (rList K) fList:=by
 intro F H vs ds Qd Q s hv h k
 unfold fList at h
 split at h
 ·obtain ⟨v,rfl,hw⟩:=vw1 hv
  obtain ⟨p,xs,rfl,h1,i1⟩:=hw.list s
  refine ⟨p,xs,rfl,.inl h1,λ l hl=>?_⟩
  obtain ⟨ex,fn⟩:=zm5 (xs:=xs) s hl
  exact k _ h l xs F _ ex hl zg0 fn i1
 ·obtain ⟨v,rfl,hw⟩:=vw1 hv
  obtain ⟨p,xs,rfl,h1,_,i1⟩:=hw.tuple s
  refine ⟨p,xs,rfl,.inr h1,λ l hl=>?_⟩
  obtain ⟨ex,fn⟩:=zm5 (xs:=xs) s hl
  exact k _ h l xs F _ ex hl zg0 fn i1
 ·exact h.elim
def fInt:List D->(D->Prop)->Prop
|[.int i],Q=>Q (.int i)
|[.bool b],Q=>Q (.int (if b then 1 else 0))
|[.str z],Q=>∃ n,PySem.intText? z=some n/\z.length<=640/\Q (.int n)
|_,_=>False
theorem c_int:CB K rInt fInt:=by
 intro F H vs ds Qd Q s hv h k
 unfold fInt at h
 split at h
 ·obtain ⟨v,rfl,hw⟩:=vw1 hv
  cases hw.int;exact .inl (.inl ⟨_,rfl,k _ h _ F H (Ext.refl s) (.int _)⟩)
 ·obtain ⟨v,rfl,hw⟩:=vw1 hv
  cases hw.bl;exact .inl (.inr ⟨_,rfl,k _ h _ F H (Ext.refl s) (.int _)⟩)
 ·obtain ⟨v,rfl,hw⟩:=vw1 hv
  obtain ⟨n,e,hz,q⟩:=h
  cases hw.str;exact .inr ⟨_,n,rfl,e,hz,k _ q _ F H (Ext.refl s) (.int _)⟩
 ·exact h.elim
def tyD:D->String
|.none => "NoneType"|.bool _ => "bool"|.int _ => "int"|.str _ => "str"|.list _ => "list"|.tuple _ => "tuple"|.dict _ => "dict"
def isT (T:String) (d:D):Bool:=tyD d == T || (T == "int" && tyD d == "bool")
structure Kit (K:Fg):Prop where
 ok:∀ t∈["NoneType", "bool", "int", "str", "list", "tuple"],∀ T∈["int", "bool", "list", "tuple", "str"],PySem.W.kitOne K (.type t) (.type T)=some (t == T || (T == "int" && t == "bool"))
def dIs (T:String) (da:DE):DE:=λ δ Q=>da δ λ d=>(∀ kvs,d≠.dict kvs)/\Q (.bool (isT T d))
theorem rf_is {T:String} (kt:Kit K) (hT:T∈["int", "bool", "list", "tuple", "str"]) (ha:RfV K ta da):RfE K (tCB (rIsW K) (tCons ta (tCons (tC (.ty T)) tNil))) (dIs T da):=by
 intro F H σ δ Qd Q s rv hd k
 refine ha s rv hd λ d hd v F1 H1 e1 i1=>?_
 have q:=k _ hd.2 (.bl (isT T d)) F1 H1 e1 (.bl _)
 have i2:=i1.is e1.fh
 show rIsW K [v,.ty T] H1 Q
 cases i2 with
|non=>exact .inl ⟨_,_,_,_,_,rfl,rfl,.non,kt.ok _ (by simp) T hT,q⟩
|bl b=>exact .inl ⟨_,_,_,_,_,rfl,rfl,.bl b,kt.ok _ (by simp) T hT,q⟩
|int b=>exact .inl ⟨_,_,_,_,_,rfl,rfl,.int b,kt.ok _ (by simp) T hT,q⟩
|str b=>exact .inl ⟨_,_,_,_,_,rfl,rfl,.str b,kt.ok _ (by simp) T hT,q⟩
|lst h1 h2=>exact .inr ⟨_,_,_,_,rfl,rfl,.inl ⟨⟨_,h1⟩,kt.ok _ (by simp) T hT⟩,q⟩
|tup h1 h2=>exact .inr ⟨_,_,_,_,rfl,rfl,.inr ⟨⟨_,SqT.of h1⟩,kt.ok _ (by simp) T hT⟩,q⟩
|tuc h1 h2 _=>exact .inr ⟨_,_,_,_,rfl,rfl,.inr ⟨⟨_,h1⟩,kt.ok _ (by simp) T hT⟩,q⟩
end
section
variable {K:Fg} {te ta tb tc:TE} {de da db dc:DE} {tt tu:TT} {dt du:DT} {tA:TA} {dA:DF} {w:World}
abbrev DO:=DSt->(Option Int->Prop)->Prop
def zji:DO:=λ _ Q=>Q none
def dPart (de:DE):DO:=λ δ Q=>de δ λ d=>match d with
|.int i=>Q (some i)
|_=>False
theorem zfs:RfO K zxn zji:=λ s rv h k=>k _ h _ _ (Ext.refl s)
theorem zkn (h:RfE K te de):RfO K (tPartU te) (dPart de):=by
 intro F H σ δ Qd Q s rv hd k
 refine h s rv hd λ d hx v F1 H1 e1 i1=>?_
 split at hx
 ·cases i1.int_inv;exact ⟨_,rfl,k _ hx F1 H1 e1⟩
 ·exact hx.elim
def cutD (xs:List D) (lo hi:Option Int):List D:=(xs.drop (HT.sIx xs.length 0 lo)).take (HT.sIx xs.length xs.length hi - HT.sIx xs.length 0 lo)
def fSlF (d:D) (lo hi:Option Int) (Q:List D->Prop):Prop:=match d with
|.list ds=>Q (cutD ds lo hi)
|_=>False
variable {tl th tk:TO} {dl dh dk:DO}
theorem zj1 {F H F' H':Hp} {p:Addr} (e:Ext F H F' H') (h:H' p=none):H p=none:=by
 cases q:H p with
|none=>rfl
|some o=>rw [e.h p o q] at h;cases h
theorem zge {F:Hp} {xs:List V} {ds:List D} (h:IsAll K F xs ds):∀ js:List Nat,IsAll K F (js.filterMap (xs[·]?)) (js.filterMap (ds[·]?))
|[]=>.nil
|j :: js=>by
  have ih:=zge h js
  cases hn:ds[j]? with
 |some n =>
   obtain ⟨u,hu,r⟩:=h.dget hn
   simp only [List.filterMap_cons,hn,hu]
   exact .cons r ih
 |none =>
   have hv:xs[j]?=none:=by
    rw [List.getElem?_eq_none_iff] at hn ⊢
    rw [h.dlen];exact hn
   simp only [List.filterMap_cons,hn,hv]
   exact ih
theorem zgo {F:Hp} {xs:List V} {ds:List D} (h:IsAll K F xs ds) (lo hi st:Option Int):IsAll K F (pickG xs lo hi st) (pickG ds lo hi st):=by
 unfold pickG
 rw [h.dlen]
 exact zge h _
def dSl3 (de:DE) (dl dh dk:DO):DF:=λ δ Q=>de δ λ d=>dl δ λ lo=>dh δ λ hi=>dk δ λ st=>match d with
|.list ds=>st≠some 0/\Q (pickG ds lo hi st)
|_=>False
theorem rf_sl3 (he:RfV K te de) (hl:RfO K tl dl) (hh:RfO K th dh) (hk:RfO K tk dk):RfF K (tSl3 K te tl th tk) (dSl3 de dl dh dk):=by
 intro F H σ δ Qd Q s rv h k
 refine he s rv h λ d hd v F1 H1 e1 i1=>hl e1.fh (rv.ext e1) hd λ lo hlo F2 H2 e2=>hh e2.fh (rv.ext (e1.trans e2)) hlo λ hi hhi F3 H3 e3=>hk e3.fh (rv.ext ((e1.trans e2).trans e3)) hhi λ st hst F4 H4 e4=>?_
 split at hst
 ·have e14:=((e1.trans e2).trans e3).trans e4
  obtain ⟨p,xs,rfl,h1,i2⟩:=(i1.ext ((e2.trans e3).trans e4)).list e4.fh
  refine ⟨p,xs,rfl,h1,hst.1,λ l hl=>?_⟩
  obtain ⟨ex,fn⟩:=zm5 (xs:=pickG xs lo hi st) e4.fh hl
  exact k _ hst.2 l _ F4 _ (e14.trans ex) (zj1 e14 hl) zg0 fn (zgo i2 lo hi st)
 ·exact hst.elim
def W0 (K:Fg) (J:It) (F H:Hp) (items:List D):Prop:=(∀ i,i < items.length->J.go i H)/\J.stop items.length H/\∀ i x H3 d,items[i]?=some d->J.yld i H x H3->H3=H/\Is K F x d
def W1 (K:Fg) (J:It) (F H:Hp) (items:List D):Prop:=(∀ i,i < items.length->J.go i H)/\J.stop items.length H/\∀ i x H3 d,items[i]?=some d->J.yld i H x H3->∃ F3,Ext F H F3 H3/\Is K F3 x d
def WD (K:Fg) (J:It) (F:Hp) (items:List D):Prop:=∀ F2 H2,Same F F2->Same F2 H2->W1 K J F2 H2 items
def WV (K:Fg) (J:It) (F H:Hp) (items:List D):Prop:=∀ F2 H2,Ext F H F2 H2->W1 K J F2 H2 items
theorem W0.w1 {J:It} {F H:Hp} {items:List D} (s:Same F H) (h:W0 K J F H items):W1 K J F H items:=⟨h.1,h.2.1,λ i x H3 d e y=>by
 obtain ⟨rfl,r⟩:=h.2.2 i x H3 d e y
 exact ⟨F,Ext.refl s,r⟩⟩
def RfI (K:Fg) (ti:TI) (di:DF):Prop:=∀ {F H:Hp} {σ:L2.St} {δ:DSt} {Qd:List D->Prop} {R:It->Hp->Prop},Same F H->RV K F H σ δ->di δ Qd->(∀ ds,Qd ds->∀ J F' H',Ext F H F' H'->WD K J F' ds->R J H')->ti σ H R
def RfJ (K:Fg) (ti:TI) (di:DF):Prop:=∀ {F H:Hp} {σ:L2.St} {δ:DSt} {Qd:List D->Prop} {R:It->Hp->Prop},Same F H->RV K F H σ δ->di δ Qd->(∀ ds,Qd ds->∀ J F' H',Ext F H F' H'->WV K J F' H' ds->R J H')->ti σ H R
theorem zu4 {F H:Hp} {a:Addr} {xs:List V} {ds:List D} (h:SqL K H a xs) (i:IsAll K F xs ds):W0 K (Itl K a) F H ds:=by
 have el:=i.dlen
 refine ⟨λ j hj=>⟨xs,xs[j]'(by lia),h,List.getElem?_eq_getElem _⟩,⟨xs,h,by lia⟩,λ j x H3 d e y=>?_⟩
 obtain ⟨e3,y⟩:=y
 obtain ⟨x',h1,h2⟩:=i.dget e
 have:=y xs h
 rw [h1] at this;cases this
 exact ⟨e3,h2⟩
theorem w0_tup {F H:Hp} {a:Addr} {xs:List V} {ds:List D} (h:SqT K H a xs) (i:IsAll K F xs ds):W0 K (Itt K a) F H ds:=by
 have el:=i.dlen
 refine ⟨λ j hj=>⟨xs,xs[j]'(by lia),h,List.getElem?_eq_getElem _⟩,⟨xs,h,by lia⟩,λ j x H3 d e y=>?_⟩
 obtain ⟨e3,y⟩:=y
 obtain ⟨x',h1,h2⟩:=i.dget e
 have:=y xs h
 rw [h1] at this;cases this
 exact ⟨e3,h2⟩
def fIter:D->(List D->Prop)->Prop
|.list ds,Q=>Q ds
|.tuple ds,Q=>Q ds
|.str z,Q=>z.cps.all (· < 128)=true/\Q (z.cps.toList.map λ c=>.str ⟨#[c]⟩)
|_,_=>False
def dIt (de:DE):DF:=λ δ Q=>de δ λ d=>fIter d Q
theorem w1_str {F H:Hp} (z:Str) (s:Same F H):W1 K (Its z) F H (z.cps.toList.map λ c=>.str ⟨#[c]⟩):=by
 have el:(z.cps.toList.map λ c=>(PyData.str ⟨#[c]⟩)).length=z.cps.size:=by simp
 refine ⟨λ j hj=>by rw [el] at hj;exact hj,by rw [el];exact Nat.le_refl _,λ j x H3 d e y=>?_⟩
 obtain ⟨e3,c,e1,e2⟩:=y
 subst e3
 rw [List.getElem?_map,Array.getElem?_toList,e1] at e
 simp at e
 subst e
 exact ⟨F,Ext.refl s,by rw [e2];exact .str _⟩
theorem rj_of (h:RfV K te de):RfJ K (iW K te) (dIt de):=by
 intro F H σ δ Qd R s rv hd k
 refine h s rv hd λ d hx v F1 H1 e1 i1=>?_
 unfold fIter at hx
 split at hx
 ·obtain ⟨p,xs,rfl,h1,i2⟩:=i1.list e1.fh
  exact .inl (.inl ⟨p,rfl,⟨xs,h1⟩,k _ hx _ F1 H1 e1 λ F2 H2 e2=>(zu4 (e2.h.seq h1) (i2.mono e2.f)).w1 e2.fh⟩)
 ·obtain ⟨p,xs,rfl,h1,_,i2⟩:=i1.tuple e1.fh
  exact .inl (.inr ⟨p,rfl,⟨xs,h1⟩,k _ hx _ F1 H1 e1 λ F2 H2 e2=>(w0_tup (sseqT e2.h h1) (i2.mono e2.f)).w1 e2.fh⟩)
 ·cases i1.str
  exact .inr ⟨_,rfl,hx.1,k _ hx.2 _ F1 H1 e1 λ F2 H2 e2=>w1_str _ e2.fh⟩
 ·exact hx.elim
theorem ri_of (h:RfE K te de):RfI K (iW K te) (dIt de):=by
 intro F H σ δ Qd R s rv hd k
 refine h s rv hd λ d hx v F1 H1 e1 i1=>?_
 unfold fIter at hx
 split at hx
 ·obtain ⟨p,xs,rfl,h1,i2⟩:=i1.list_inv
  exact .inl (.inl ⟨p,rfl,⟨xs,e1.fh.seq h1⟩,k _ hx _ F1 H1 e1 λ F2 H2 s2 t2=>(zu4 (t2.seq (s2.seq h1)) (i2.mono s2)).w1 t2⟩)
 ·obtain ⟨p,xs,rfl,h1,i2⟩:=i1.tuple_inv
  exact .inl (.inr ⟨p,rfl,⟨xs,sseqT e1.fh h1⟩,k _ hx _ F1 H1 e1 λ F2 H2 s2 t2=>(w0_tup (sseqT t2 (sseqT s2 h1)) (i2.mono s2)).w1 t2⟩)
 ·cases i1.str_inv
  exact .inr ⟨_,rfl,hx.1,k _ hx.2 _ F1 H1 e1 λ F2 H2 s2 t2=>w1_str _ t2⟩
 ·exact hx.elim
theorem RfI.j {ti:TI} {di:DF} (h:RfI K ti di):RfJ K ti di:=λ s rv hd k=>h s rv hd λ ds q J F' H' e w=>k ds q J F' H' e λ F2 H2 e2=>w F2 H2 e2.f e2.fh
def rngD (lo:Int) (n:Nat):List D:=(List.range n).map λ i=>.int (lo+(i:Nat))
theorem zei (lo:Int) (n:Nat):(rngD lo n).length=n:=by simp [rngD]
theorem zfp {lo:Int} {n i:Nat} {d:D} (e:(rngD lo n)[i]?=some d):i < n/\d=.int (lo+(i:Nat)):=by
 unfold rngD at e
 rw [List.getElem?_map] at e
 obtain ⟨j,hj,rfl⟩:=Option.map_eq_some_iff.mp e
 obtain ⟨h1,h2⟩:=List.getElem?_eq_some_iff.mp hj
 simp at h1 h2
 subst h2
 exact ⟨h1,rfl⟩
theorem w1_rng {F H:Hp} (lo:Int) (n:Nat) (s:Same F H):W1 K (Itr lo n) F H (rngD lo n):=by
 refine ⟨λ j hj=>by rw [zei] at hj;exact hj,by rw [zei];exact Nat.le_refl _,λ j x H3 d e y=>?_⟩
 obtain ⟨e3,y⟩:=y
 subst e3
 obtain ⟨_,rfl⟩:=zfp e
 exact ⟨F,Ext.refl s,by rw [y];exact .int _⟩
def dRng1 (dA:DF):DF:=λ δ Q=>dA δ λ ds=>match ds with
|[.int j]=>-(2 ^ 62)<=j/\j < 2 ^ 62/\Q (rngD 0 j.toNat)
|_=>False
theorem zd8 (h:RfA K tA dA):RfI K (iRng1 tA) (dRng1 dA):=by
 intro F H σ δ Qd R s rv hd k
 refine h s rv hd λ ds hx vs F1 H1 e1 i1=>?_
 split at hx
 ·cases i1 with
 |cons h1 r1 =>
   cases r1
   cases h1.int_inv
   exact ⟨_,rfl,hx.1,hx.2.1,k _ hx.2.2 _ F1 H1 e1 λ F2 H2 s2 t2=>w1_rng _ _ t2⟩
 ·exact hx.elim
def zipD (ds es:List D):List D:=List.zipWith (λ a b=>.tuple [a,b]) ds es
theorem w1_zip {F H:Hp} {J1 J2:It} {ds es:List D} (s:Same F H) (h1:W0 K J1 F H ds) (h2:W0 K J2 F H es):W1 K (Itz J1 J2) F H (zipD ds es):=by
 have el:(zipD ds es).length=min ds.length es.length:=by simp [zipD]
 refine ⟨λ j hj=>⟨h1.1 j (by lia),h2.1 j (by lia)⟩,?_,λ j x H3 d e y=>?_⟩
 ·rw [el]
  by_cases h:ds.length<=es.length
  ·rw [Nat.min_eq_left h];exact .inl h1.2.1
  ·rw [Nat.min_eq_right (by lia)];exact .inr ⟨h1.1 es.length (by lia),h2.2.1⟩
 ·obtain ⟨x1,x2,p,y1,y2,hp,e1,e2⟩:=y
  subst e2
  unfold zipD at e
  rw [List.getElem?_zipWith] at e
  cases q1:ds[j]? with
 |none=>rw [q1] at e;cases e
 |some d1 =>
   cases q2:es[j]? with
  |none=>rw [q1,q2] at e;cases e
  |some d2 =>
    rw [q1,q2] at e
    cases e
    obtain ⟨_,i1⟩:=h1.2.2 j x1 H d1 q1 y1
    obtain ⟨_,i2⟩:=h2.2.2 j x2 H d2 q2 y2
    obtain ⟨ex,ii⟩:=zob (K:=K) (ds:=[d1,d2]) s hp (.cons i1 (.cons i2 .nil))
    exact ⟨_,ex,by rw [e1];exact ii⟩
def fZip:List D->(List D->Prop)->Prop
|[.list a,.list b],Q=>Q (zipD a b)
|[.list a,.tuple b],Q=>Q (zipD a b)
|[.tuple a,.list b],Q=>Q (zipD a b)
|_,_=>False
def dZip (dA:DF):DF:=λ δ Q=>dA δ λ ds=>fZip ds Q
theorem rj_zip (h:RfAV K tA dA):RfJ K (iZip K tA) (dZip dA):=by
 intro F H σ δ Qd R s rv hd k
 refine h s rv hd λ ds hx vs F1 H1 e1 i1=>?_
 unfold fZip at hx
 split at hx
 ·obtain ⟨v,u,rfl,w1,w2⟩:=vw2 i1
  obtain ⟨p,xs,rfl,h1,j1⟩:=w1.list e1.fh
  obtain ⟨q,ys,rfl,h2,j2⟩:=w2.list e1.fh
  exact ⟨_,_,rfl,.inl ⟨p,rfl,⟨xs,h1⟩,.inl ⟨q,rfl,⟨ys,h2⟩,k _ hx _ F1 H1 e1 λ F2 H2 e2=>w1_zip e2.fh (zu4 (e2.h.seq h1) (j1.mono e2.f)) (zu4 (e2.h.seq h2) (j2.mono e2.f))⟩⟩⟩
 ·obtain ⟨v,u,rfl,w1,w2⟩:=vw2 i1
  obtain ⟨p,xs,rfl,h1,j1⟩:=w1.list e1.fh
  obtain ⟨q,ys,rfl,h2,_,j2⟩:=w2.tuple e1.fh
  exact ⟨_,_,rfl,.inl ⟨p,rfl,⟨xs,h1⟩,.inr ⟨q,rfl,⟨ys,h2⟩,k _ hx _ F1 H1 e1 λ F2 H2 e2=>w1_zip e2.fh (zu4 (e2.h.seq h1) (j1.mono e2.f)) (w0_tup (sseqT e2.h h2) (j2.mono e2.f))⟩⟩⟩
 ·obtain ⟨v,u,rfl,w1,w2⟩:=vw2 i1
  obtain ⟨p,xs,rfl,h1,_,j1⟩:=w1.tuple e1.fh
  obtain ⟨q,ys,rfl,h2,j2⟩:=w2.list e1.fh
  exact ⟨_,_,rfl,.inr ⟨p,rfl,⟨xs,h1⟩,.inl ⟨q,rfl,⟨ys,h2⟩,k _ hx _ F1 H1 e1 λ F2 H2 e2=>w1_zip e2.fh (w0_tup (sseqT e2.h h1) (j1.mono e2.f)) (zu4 (e2.h.seq h2) (j2.mono e2.f))⟩⟩⟩
 ·exact hx.elim
theorem all2 {F:Hp} {vs:List V} {d e:D} (h:IsAll K F vs [d,e]):∃ v u,vs=[v,u]/\Is K F v d/\Is K F u e:=by
 cases h with
|cons h r=>cases r with
 |cons h2 r2=>cases r2;exact ⟨_,_,rfl,h,h2⟩
theorem all1 {F:Hp} {vs:List V} {d:D} (h:IsAll K F vs [d]):∃ v,vs=[v]/\Is K F v d:=by
 cases h with
|cons h r=>cases r;exact ⟨_,rfl,h⟩
theorem ri_zip (h:RfA K tA dA):RfI K (iZip K tA) (dZip dA):=by
 intro F H σ δ Qd R s rv hd k
 refine h s rv hd λ ds hx vs F1 H1 e1 i1=>?_
 unfold fZip at hx
 split at hx
 ·obtain ⟨v,u,rfl,w1,w2⟩:=all2 i1
  obtain ⟨p,xs,rfl,h1,j1⟩:=w1.list_inv
  obtain ⟨q,ys,rfl,h2,j2⟩:=w2.list_inv
  exact ⟨_,_,rfl,.inl ⟨p,rfl,⟨xs,e1.fh.seq h1⟩,.inl ⟨q,rfl,⟨ys,e1.fh.seq h2⟩,k _ hx _ F1 H1 e1 λ F2 H2 s2 t2=>w1_zip t2 (zu4 (t2.seq (s2.seq h1)) (j1.mono s2)) (zu4 (t2.seq (s2.seq h2)) (j2.mono s2))⟩⟩⟩
 ·obtain ⟨v,u,rfl,w1,w2⟩:=all2 i1
  obtain ⟨p,xs,rfl,h1,j1⟩:=w1.list_inv
  obtain ⟨q,ys,rfl,h2,j2⟩:=w2.tuple_inv
  exact ⟨_,_,rfl,.inl ⟨p,rfl,⟨xs,e1.fh.seq h1⟩,.inr ⟨q,rfl,⟨ys,sseqT e1.fh h2⟩,k _ hx _ F1 H1 e1 λ F2 H2 s2 t2=>w1_zip t2 (zu4 (t2.seq (s2.seq h1)) (j1.mono s2)) (w0_tup (sseqT t2 (sseqT s2 h2)) (j2.mono s2))⟩⟩⟩
 ·obtain ⟨v,u,rfl,w1,w2⟩:=all2 i1
  obtain ⟨p,xs,rfl,h1,j1⟩:=w1.tuple_inv
  obtain ⟨q,ys,rfl,h2,j2⟩:=w2.list_inv
  exact ⟨_,_,rfl,.inr ⟨p,rfl,⟨xs,sseqT e1.fh h1⟩,.inl ⟨q,rfl,⟨ys,e1.fh.seq h2⟩,k _ hx _ F1 H1 e1 λ F2 H2 s2 t2=>w1_zip t2 (w0_tup (sseqT t2 (sseqT s2 h1)) (j1.mono s2)) (zu4 (t2.seq (s2.seq h2)) (j2.mono s2))⟩⟩⟩
 ·exact hx.elim
def enumD (ds:List D):List D:=ds.mapIdx λ i d=>.tuple [.int (i:Nat),d]
theorem zok (ds:List D):(enumD ds).length=ds.length:=by simp [enumD]
theorem zdl {ds:List D} {i:Nat} {d:D} (e:(enumD ds)[i]?=some d):∃ x,ds[i]?=some x/\d=.tuple [.int (i:Nat),x]:=by
 unfold enumD at e
 rw [List.getElem?_mapIdx] at e
 obtain ⟨x,h1,h2⟩:=Option.map_eq_some_iff.mp e
 exact ⟨x,h1,h2.symm⟩
theorem zqn {F H:Hp} {a:Addr} {xs:List V} {ds:List D} (s:Same F H) (h:SqL K H a xs) (i:IsAll K F xs ds):W1 K (Ite K a) F H (enumD ds):=by
 have el:=i.dlen
 have el2:=zok ds
 refine ⟨λ j hj=>⟨xs,xs[j]'(by lia),h,List.getElem?_eq_getElem _⟩,⟨xs,h,by lia⟩,λ j x H3 d e y=>?_⟩
 obtain ⟨v,p,y1,hp,e1,e2⟩:=y
 subst e2
 obtain ⟨x',hx',rfl⟩:=zdl e
 obtain ⟨u,hu,iu⟩:=i.dget hx'
 have:=y1 xs h
 rw [hu] at this;cases this
 obtain ⟨ex,ii⟩:=zob (K:=K) (ds:=[.int (j:Nat),x']) s hp (.cons (.int _) (.cons iu .nil))
 exact ⟨_,ex,by rw [e1];exact ii⟩
def dEnum (dA:DF):DF:=λ δ Q=>dA δ λ ds=>match ds with
|[.list a]=>Q (enumD a)
|_=>False
theorem zws (h:RfAV K tA dA):RfJ K (iEnum K tA) (dEnum dA):=by
 intro F H σ δ Qd R s rv hd k
 refine h s rv hd λ ds hx vs F1 H1 e1 i1=>?_
 split at hx
 ·obtain ⟨v,rfl,w1⟩:=vw1 i1
  obtain ⟨p,xs,rfl,h1,j1⟩:=w1.list e1.fh
  exact ⟨p,xs,rfl,h1,k _ hx _ F1 H1 e1 λ F2 H2 e2=>zqn e2.fh (e2.h.seq h1) (j1.mono e2.f)⟩
 ·exact hx.elim
theorem zgs (h:RfA K tA dA):RfI K (iEnum K tA) (dEnum dA):=by
 intro F H σ δ Qd R s rv hd k
 refine h s rv hd λ ds hx vs F1 H1 e1 i1=>?_
 split at hx
 ·obtain ⟨v,rfl,w1⟩:=all1 i1
  obtain ⟨p,xs,rfl,h1,j1⟩:=w1.list_inv
  exact ⟨p,xs,rfl,e1.fh.seq h1,k _ hx _ F1 H1 e1 λ F2 H2 s2 t2=>zqn t2 (t2.seq (s2.seq h1)) (j1.mono s2)⟩
 ·exact hx.elim
end
inductive Upd (K:Fg) (F:Hp) (n:Nat):L2.St->DSt->L2.St->DSt->Prop
|refl {σ:L2.St} {δ:DSt}:Upd K F n σ δ σ δ
|set {σ σ':L2.St} {δ δ':DSt} {i:Nat} {v:V} {d:D}:i < n->Is K F v d->Upd K F n (σ.set i (some v)) (δ.set i (.sh d)) σ' δ'->Upd K F n σ δ σ' δ'
theorem zv1 {σ:L2.St} {i j:Nat} {v:Option V}:(σ.set i v).getD j none=if i=j/\j < σ.length then v else σ.getD j none:=by
 rw [List.getD_eq_getElem?_getD,List.getD_eq_getElem?_getD,List.getElem?_set]
 by_cases h:i=j
 ·subst h
  by_cases h2:i < σ.length
  ·simp [h2]
  ·simp [h2]
 ·simp [h]
theorem RV.set {K:Fg} {F H:Hp} {σ:L2.St} {δ:DSt} {i:Nat} {v:V} {sl:Sl} (r:RV K F H σ δ) (h:RSl K F H (some v) sl):RV K F H (σ.set i (some v)) (δ.set i sl):=by
 refine ⟨by rw [List.length_set,List.length_set];exact r.len,λ j s e=>?_⟩
 rw [List.getElem?_set] at e
 rw [zv1,r.len]
 by_cases hij:i=j
 ·subst hij
  by_cases hl:i < δ.length
  ·simp [hl] at e ⊢;subst e;exact h
  ·simp [hl] at e
 ·simp [hij] at e ⊢;exact r.sl j s e
theorem Upd.rv {K:Fg} {F H:Hp} {n:Nat} {σ σ':L2.St} {δ δ':DSt} (u:Upd K F n σ δ σ' δ') (r:RV K F H σ δ):RV K F H σ' δ':=by
 induction u with
|refl=>exact r
|set hi hv _ ih=>exact ih (r.set ⟨_,rfl,hv⟩)
theorem Upd.keep {K:Fg} {F:Hp} {n:Nat} {σ σ':L2.St} {δ δ':DSt} (u:Upd K F n σ δ σ' δ'):σ'.length=σ.length/\∀ i,n<=i->σ'.getD i none=σ.getD i none:=by
 induction u with
|refl=>exact ⟨rfl,λ _ _=>rfl⟩
|set hi hv _ ih =>
  refine ⟨by rw [ih.1,List.length_set],λ j hj=>?_⟩
  rw [ih.2 j hj,zv1,if_neg (by lia)]
abbrev DG:=D->DSt->(DSt->Prop)->Prop
abbrev DGs:=List D->DSt->(DSt->Prop)->Prop
def RfG (K:Fg) (n:Nat) (g:TG) (dg:DG):Prop:=∀ {F H:Hp} {σ:L2.St} {δ:DSt} {v:V} {d:D} {Gd:DSt->Prop} {G:L2.St->Hp->Prop},Same F H->Is K F v d->dg d δ Gd->(∀ σ' δ',Gd δ'->Upd K F n σ δ σ' δ'->G σ' H)->g v σ H G
def RfGs (K:Fg) (n:Nat) (g:TGs) (dg:DGs):Prop:=∀ {F H:Hp} {σ:L2.St} {δ:DSt} {vs:List V} {ds:List D} {Gd:DSt->Prop} {G:L2.St->Hp->Prop},Same F H->IsAll K F vs ds->dg ds δ Gd->(∀ σ' δ',Gd δ'->Upd K F n σ δ σ' δ'->G σ' H)->g vs σ H G
def gN (i:Nat):DG:=λ d δ G=>G (δ.set i (.sh d))
def gsNil:DGs:=λ ds δ G=>match ds with
|[]=>G δ
|_=>False
def gsCons (g:DG) (gs:DGs):DGs:=λ ds δ G=>match ds with
|d :: r=>g d δ λ δ'=>gs r δ' G
|[]=>False
def gT (n:Nat) (gs:DGs):DG:=λ d δ G=>match d with
|.tuple ds=>ds.length=n/\gs ds δ G
|_=>False
section
variable {K:Fg} {n m:Nat}
theorem zj0 {i:Nat} (hi:i < n):RfG K n (gName i) (gN i):=λ s h hd k=>k _ _ hd (.set hi h .refl)
theorem zcg:RfGs K n gNil gsNil:=by
 intro F H σ δ vs ds Gd G s h hd k
 unfold gsNil at hd
 split at hd
 ·cases h;exact ⟨rfl,k _ _ hd .refl⟩
 ·exact hd.elim
theorem Upd.trans {F:Hp} {σ σ1 σ2:L2.St} {δ δ1 δ2:DSt} (a:Upd K F n σ δ σ1 δ1) (b:Upd K F n σ1 δ1 σ2 δ2):Upd K F n σ δ σ2 δ2:=by
 induction a with
|refl=>exact b
|set hi hv _ ih=>exact .set hi hv (ih b)
theorem zs3 {g:TG} {dg:DG} {gs:TGs} {dgs:DGs} (h1:RfG K n g dg) (h2:RfGs K n gs dgs):RfGs K n (gCons g gs) (gsCons dg dgs):=by
 intro F H σ δ vs ds Gd G s h hd k
 unfold gsCons at hd
 split at hd
 ·cases h with
 |cons hx hr =>
   refine ⟨_,_,rfl,h1 s hx hd λ σ1 δ1 hd1 u1=>h2 s hr hd1 λ σ2 δ2 hd2 u2=>k _ _ hd2 (u1.trans u2)⟩
 ·exact hd.elim
theorem rg_tup {gs:TGs} {dgs:DGs} (h:RfGs K n gs dgs):RfG K n (gTup K m gs) (gT m dgs):=by
 intro F H σ δ v d Gd G s hv hd k
 unfold gT at hd
 split at hd
 ·obtain ⟨a,xs,rfl,h1,h2⟩:=hv.tuple_inv
  exact ⟨a,xs,rfl,sseqT s h1,by rw [h2.dlen];exact hd.1,h s h2 hd.2 k⟩
 ·exact hd.elim
end
def cST (n:Nat) (ix:List Nat) (δ:DSt):DSt:=List.replicate n .un++ix.map λ i=>δ.getD i .un
theorem cST_rv {K:Fg} {F H:Hp} {σ:L2.St} {δ:DSt} (n:Nat) (ix:List Nat) (r:RV K F H σ δ):RV K F H (compσ n ix σ) (cST n ix δ):=by
 refine ⟨by simp [compσ,cST],λ i s e=>?_⟩
 unfold cST at e
 unfold compσ
 by_cases h:i < n
 ·rw [List.getElem?_append_left (by simpa using h)] at e
  simp [List.getElem?_replicate,h] at e
  subst e;trivial
 ·rw [List.getElem?_append_right (by simpa using h)] at e
  rw [List.getD_eq_getElem?_getD,List.getElem?_append_right (by simpa using h)]
  simp only [List.length_replicate,List.getElem?_map] at e ⊢
  obtain ⟨j,hj,rfl⟩:=Option.map_eq_some_iff.mp e
  rw [hj]
  show RSl K F H (σ.getD j none) _
  cases q:δ[j]? with
 |none=>rw [show δ.getD j .un=.un by rw [List.getD_eq_getElem?_getD,q];rfl];trivial
 |some t=>rw [show δ.getD j .un=t by rw [List.getD_eq_getElem?_getD,q];rfl];exact r.sl j t q
theorem RV.caps {K:Fg} {F H:Hp} {σ σ':L2.St} {n:Nat} {ix:List Nat} {δ:DSt} (r:RV K F H σ (cST n ix δ)) (hl:σ'.length=σ.length) (hk:∀ i,n<=i->σ'.getD i none=σ.getD i none):RV K F H σ' (cST n ix δ):=by
 refine ⟨by rw [hl];exact r.len,λ i s e=>?_⟩
 by_cases h:i < n
 ·unfold cST at e
  rw [List.getElem?_append_left (by simpa using h)] at e
  simp [List.getElem?_replicate,h] at e
  subst e;trivial
 ·rw [hk i (by lia)];exact r.sl i s e
def dComp (di:DF) (n:Nat) (ix:List Nat) (dg:DG) (dt:DT) (de:DE):DF:=λ δ Q=>di δ λ items=>items.length<=sizeLine/\∃ R:Nat->Option D->Prop,
 (∀ i d,items[i]?=some d->dg d (cST n ix δ) λ δ'=>dt δ' λ b=>if b=true then de δ' λ r=>R i (some r) else R i none) /\
 ∀ os:List (Option D),os.length=items.length->(∀ (j:Nat) o,os[j]?=some o->R j o)->Q (os.filterMap id)
def dTrue:DT:=λ _ Q=>Q true
section
variable {K:Fg} {wi:TI} {di:DF} {n:Nat} {ix:List Nat} {g:TG} {dg:DG} {tt:TT} {dt:DT} {te:TE} {de:DE}
theorem zb7:RfT K tTrue dTrue:=λ s rv h k=>k _ h _ _ (Ext.refl s)
theorem zs4 (hi:RfJ K wi di) (hg:RfG K n g dg) (ht:RfT K tt dt) (he:RfE K te de):RfF K (tComp wi n ix g tt te) (dComp di n ix dg dt de):=by
 intro F H σ δ Qd Q s rv hd k
 refine hi s rv hd λ items hx J F1 H1 e1 wj D hD=>?_
 obtain ⟨hz,R,hR,hQ⟩:=hx
 have rv1:=cST_rv n ix (rv.ext e1)
 have F1D:F1 D=none:=by
  cases q:F1 D with
 |none=>rfl
 |some o=>rw [e1.fh D o q] at hD;cases hD
 refine ⟨λ i m acc σ' H'=>m=items.length - i/\i<=items.length/\σ'.length=(compσ n ix σ).length/\(∀ j,n<=j->σ'.getD j none=(compσ n ix σ).getD j none)/\∃ (F':Hp) (os:List (Option PyData)),Ext F1 H1 F' H'/\F' D=none/\H' D=some (.lst acc)/\os.length=i/\(∀ (j:Nat) o,os[j]?=some o->R j o)/\IsAll K F' acc (os.filterMap id),⟨items.length,rfl,Nat.zero_le _,rfl,λ _ _=>rfl,F1,[],?_,F1D,zg0,rfl,λ j o e=>by simp at e,.nil⟩,?_⟩
 ·exact (zm5 (xs:=[]) e1.fh hD).1
 rintro i m acc σ' H' ⟨rfl,hi',hl,hk,F',os,ex,fD,hDD,hos,hRs,hall⟩
 obtain ⟨go,stop,yld⟩:=wj F' H' ex
 by_cases hlt:i < items.length
 ·refine .inr ⟨go i hlt,λ acc' σ2 H2=>i+1<=items.length/\σ2.length=(compσ n ix σ).length/\(∀ j,n<=j->σ2.getD j none=(compσ n ix σ).getD j none)/\∃ (F':Hp) (os:List (Option PyData)),Ext F1 H1 F' H2/\F' D=none/\H2 D=some (.lst acc')/\os.length=i+1/\(∀ (j:Nat) o,os[j]?=some o->R j o)/\IsAll K F' acc' (os.filterMap id),λ acc' σ2 H2 p=>⟨items.length - (i+1),by lia,rfl,p⟩,λ x H2 y=>?_⟩
  have hit:items[i]?=some items[i]:=List.getElem?_eq_getElem hlt
  obtain ⟨F2,ex2,ix2⟩:=yld i x H2 _ hit y
  have rv2:RV K F2 H2 σ' (cST n ix δ):=RV.caps (rv1.ext (ex.trans ex2)) hl hk
  have hRn:∀ o,R i o->∀ (j:Nat) o',(os++[o])[j]?=some o'->R j o':=λ o ho j o' e=>by
   rcases Nat.lt_trichotomy j os.length with h|h|h
   ·rw [List.getElem?_append_left h] at e;exact hRs j o' e
   ·subst h;rw [List.getElem?_append_right (Nat.le_refl _)] at e;simp at e;subst e;rw [hos];exact ho
   ·rw [List.getElem?_append_right (Nat.le_of_lt h)] at e
    cases q:j - os.length with
   |zero=>lia
   |succ z=>rw [q] at e;simp at e
  refine hg ex2.fh ix2 (hR i _ hit) λ σ2 δ2 hd2 u2=>?_
  have rv3:=u2.rv rv2
  have kp:=u2.keep
  have hl2:σ2.length=(compσ n ix σ).length:=by rw [kp.1,hl]
  have hk2:∀ j,n<=j->σ2.getD j none=(compσ n ix σ).getD j none:=λ j hj=>by rw [kp.2 j hj,hk j hj]
  refine ht ex2.fh rv3 hd2 λ b hb F4 H4 e4=>?_
  have e24:=ex2.trans e4
  have hD4:H4 D=some (.lst acc):=e24.h _ _ hDD
  have fD4:F4 D=none:=e24.nw D (by rw [hDD];simp) fD
  cases b with
 |true =>
   rw [if_pos rfl] at hb ⊢
   refine he e4.fh (rv3.ext e4) hb λ r hr v F5 H5 e5 i5=>?_
   have e25:=e24.trans e5
   have hD5:H5 D=some (.lst acc):=e25.h _ _ hDD
   have fD5:F5 D=none:=e25.nw D (by rw [hDD];simp) fD
   have hlen:acc.length<=i:=by
    rw [hall.dlen,<- hos];exact List.length_filterMap_le _ _
   have e15:=ex.trans e25
   refine ⟨hD5,by lia,hlt,hl2,hk2,F5,os++[some r],⟨λ b o hb=>?_,e15.f,λ b o hb=>?_,e15.nw⟩,fD5,zg0,by simp [hos],hRn _ hr,?_⟩
   ·have:b≠D:=λ z=>by subst z;rw [hD] at hb;cases hb
    rw [upd_ne this];exact e15.h b o hb
   ·have:b≠D:=λ z=>by subst z;rw [fD5] at hb;cases hb
    rw [upd_ne this];exact e15.fh b o hb
   ·rw [List.filterMap_append]
    exact (hall.mono e25.f).dapp (.cons i5 .nil)
 |false =>
   rw [if_neg Bool.false_ne_true] at hb ⊢
   refine ⟨hlt,hl2,hk2,F4,os++[none],ex.trans e24,fD4,hD4,by simp [hos],hRn _ hb,?_⟩
   rw [List.filterMap_append]
   have:List.filterMap id [(none:Option PyData)]=[]:=rfl
   rw [this,List.append_nil]
   exact hall.mono e24.f
 ·have e:i=items.length:=by lia
  refine .inl ⟨by rw [e];exact stop,k _ (hQ os (by lia) hRs) D acc F' H' (e1.trans ex) ?_ hDD fD hall⟩
  exact zj1 e1 hD
end
inductive Stp where
|ix (j:Nat)|fl (f:Str)
abbrev Pth:=List Stp
def putA (f:Str) (t:T):List (Str×T)->List (Str×T)
|[]=>[(f,t)]
|(g,x) :: r=>if g=f then (g,t) :: r else (g,x) :: putA f t r
def setP:T->Pth->T->T
|_,[],u=>u
|.ls ts,.ix j :: p,u=>match ts[j]? with
 |some t=>.ls (ts.set j (setP t p u))
 |none=>.ls ts
|.ob C fs,.fl f :: p,u=>match fs.lookup f with
 |some t=>.ob C (putA f (setP t p u) fs)
 |none=>.ob C fs
|t,_,_=>t
inductive At (H:Hp):V->T->Pth->V->T->Prop
|nil {v:V} {t:T}:At H v t [] v t
|ix {a:Addr} {xs:List V} {ts:List T} {j:Nat} {x v:V} {t u:T} {p:Pth}:H a=some (.lst xs)->xs[j]?=some x->ts[j]?=some t->At H x t p v u->At H (.ref a) (.ls ts) (.ix j :: p) v u
|fl {a C dx:Addr} {fs:List (Str×V)} {ts:List (Str×T)} {f:Str} {x v:V} {t u:T} {p:Pth}:H a=some (.ins C dx fs)->fs.lookup f=some x->ts.lookup f=some t->At H x t p v u->At H (.ref a) (.ob C ts) (.fl f :: p) v u
theorem At.mono {H H':Hp} (s:Same H H') {v v':V} {t t':T} {p:Pth} (h:At H v t p v' t'):At H' v t p v' t':=by
 induction h with
|nil=>exact .nil
|ix h1 h2 h3 _ ih=>exact .ix (s _ _ h1) h2 h3 ih
|fl h1 h2 h3 _ ih=>exact .fl (s _ _ h1) h2 h3 ih
theorem At.snoc_ix {H:Hp} {v x y:V} {t u:T} {ts:List T} {a:Addr} {xs:List V} {j:Nat} {p:Pth} (h:At H v t p (.ref a) (.ls ts)) (h1:H a=some (.lst xs)) (h2:xs[j]?=some x) (h3:ts[j]?=some u):At H v t (p++[.ix j]) x u:=by
 generalize e:V.ref a=w at h
 generalize e2:T.ls ts=z at h
 induction h with
|nil=>subst e e2;exact .ix h1 h2 h3 .nil
|ix g1 g2 g3 _ ih=>exact .ix g1 g2 g3 (ih e e2)
|fl g1 g2 g3 _ ih=>exact .fl g1 g2 g3 (ih e e2)
theorem At.snoc_fl {H:Hp} {v x:V} {t u:T} {ts:List (Str×T)} {a C dx:Addr} {fs:List (Str×V)} {f:Str} {p:Pth} (h:At H v t p (.ref a) (.ob C ts)) (h1:H a=some (.ins C dx fs)) (h2:fs.lookup f=some x) (h3:ts.lookup f=some u):At H v t (p++[.fl f]) x u:=by
 generalize e:V.ref a=w at h
 generalize e2:T.ob C ts=z at h
 induction h with
|nil=>subst e e2;exact .fl h1 h2 h3 .nil
|ix g1 g2 g3 _ ih=>exact .ix g1 g2 g3 (ih e e2)
|fl g1 g2 g3 _ ih=>exact .fl g1 g2 g3 (ih e e2)
section
variable {K:Fg}
theorem RtAll.len {F H:Hp}:∀ {xs:List V} {ts:List T} {fp:List Addr},RtAll K F H xs ts fp->xs.length=ts.length
|_,_,_,.nil=>rfl
|_,_,_,.cons _ r=>congrArg (·+1) (RtAll.len r)
theorem RtAll.split {F H:Hp}:∀ {xs:List V} {ts:List T} {fp:List Addr} {j:Nat} {x:V} {t:T},RtAll K F H xs ts fp->xs[j]?=some x->ts[j]?=some t ->
  ∃ fA fj fB,fp=fA++(fj++fB)/\Rt K F H x t fj/\∀ {F2 H2:Hp} {u:T} {fq:List Addr},Same F F2->(∀ b∈fA++fB,H2 b=H b/\F2 b=none)->Rt K F2 H2 x u fq->RtAll K F2 H2 xs (ts.set j u) (fA++(fq++fB))
|_,_,_,_,_,_,.nil,e,_=>by simp at e
|_,_,_,0,x,t,.cons (fp:=fp) (fq:=fq) h r,e1,e2=>by
  simp at e1 e2;subst e1 e2
  exact ⟨[],fp,fq,rfl,h,λ s k g=>(by have z:=RtAll.cons g (r.frame s λ b hb=>k b (by simp [hb]));exact z)⟩
|_,_,_,j+1,x,t,.cons (fp:=fp) (fq:=fq) h r,e1,e2=>by
  obtain ⟨fA,fj,fB,e,hr,g⟩:=RtAll.split (j:=j) r (by simpa using e1) (by simpa using e2)
  refine ⟨fp++fA,fj,fB,by rw [e,List.append_assoc],hr,λ s k hu=>?_⟩
  rw [List.append_assoc]
  exact .cons (h.frame s λ b hb=>k b (by simp [hb])) (g s (λ b hb=>k b (by rcases List.mem_append.mp hb with z|z <;> simp [z])) hu)
theorem RtFs.split {F H:Hp}:∀ {xs:List (Str×V)} {ts:List (Str×T)} {fp:List Addr} {f:Str} {x:V} {t:T},RtFs K F H xs ts fp->xs.lookup f=some x->ts.lookup f=some t ->
  ∃ fA fj fB,fp=fA++(fj++fB)/\Rt K F H x t fj/\(∀ {F2 H2:Hp} {u:T} {fq:List Addr},Same F F2->(∀ b∈fA++fB,H2 b=H b/\F2 b=none)->Rt K F2 H2 x u fq->RtFs K F2 H2 xs (putA f u ts) (fA++(fq++fB))) /\
   (∀ {F2 H2:Hp} {y:V} {u:T} {fq:List Addr},Same F F2->(∀ b∈fA++fB,H2 b=H b/\F2 b=none)->Rt K F2 H2 y u fq->RtFs K F2 H2 (putF f y xs) (putA f u ts) (fA++(fq++fB)))
|_,_,_,_,_,_,.nil,e,_=>by cases e
|_,_,_,f,x,t,.cons (f:=g) (x:=x') (t:=t') (fp:=fp) (fq:=fq) h r,e1,e2=>by
  by_cases hg:f=g
  ·subst hg
   simp [List.lookup] at e1 e2
   subst e1 e2
   refine ⟨[],fp,fq,rfl,h,λ s k u=>?_,λ s k u=>?_⟩
   ·show RtFs K _ _ _ (putA f _ ((f,_) :: _)) _
    rw [show putA f _ ((f,t') :: _)=(f,_) :: _ from if_pos rfl]
    have z:=RtFs.cons (f:=f) u (r.frame s λ b hb=>k b (by simp [hb]));exact z
   ·rw [show putA f _ ((f,t') :: _)=(f,_) :: _ from if_pos rfl,show putF f _ ((f,x') :: _)=(f,_) :: _ from if_pos rfl]
    have z:=RtFs.cons (f:=f) u (r.frame s λ b hb=>k b (by simp [hb]));exact z
  ·have hb:(f == g)=false:=beq_eq_false_iff_ne.mpr hg
   simp only [List.lookup,hb] at e1 e2
   obtain ⟨fA,fj,fB,e,hr,q1,q2⟩:=RtFs.split r e1 e2
   have hgf:¬g=f:=λ z=>hg z.symm
   refine ⟨fp++fA,fj,fB,by rw [e,List.append_assoc],hr,λ s k u=>?_,λ s k u=>?_⟩
   ·rw [show putA f _ ((g,t') :: _)=(g,t') :: putA f _ _ from if_neg hgf,List.append_assoc]
    exact .cons (h.frame s λ b hb=>k b (by simp [hb])) (q1 s (λ b hb=>k b (by rcases List.mem_append.mp hb with z|z <;> simp [z])) u)
   ·rw [show putA f _ ((g,t') :: _)=(g,t') :: putA f _ _ from if_neg hgf,show putF f _ ((g,x') :: _)=(g,x') :: putF f _ _ from if_neg hgf,List.append_assoc]
    exact .cons (h.frame s λ b hb=>k b (by simp [hb])) (q2 s (λ b hb=>k b (by rcases List.mem_append.mp hb with z|z <;> simp [z])) u)
theorem RtFs.add {F H F2 H2:Hp} {y:V} {u:T} {fq:List Addr} (s:Same F F2) (hu:Rt K F2 H2 y u fq):∀ {xs:List (Str×V)} {ts:List (Str×T)} {fp:List Addr} {f:Str},RtFs K F H xs ts fp->ts.lookup f=none->(∀ b∈fp,H2 b=H b/\F2 b=none)->RtFs K F2 H2 (putF f y xs) (putA f u ts) (fp++fq)
|_,_,_,f,.nil,_,_=>by
  show RtFs K F2 H2 [(f,y)] [(f,u)] fq
  have:=RtFs.cons (f:=f) hu (.nil (K:=K) (F:=F2) (H:=H2))
  rwa [List.append_nil] at this
|_,_,_,f,.cons (f:=g) (x:=x') (t:=t') (fp:=fp) (fq:=fq') h r,e,k=>by
  have hg:¬f=g:=λ z=>by subst z;simp [List.lookup] at e
  have hb:(f == g)=false:=beq_eq_false_iff_ne.mpr hg
  simp only [List.lookup,hb] at e
  have hgf:¬g=f:=λ z=>hg z.symm
  rw [show putA f u ((g,t') :: _)=(g,t') :: putA f u _ from if_neg hgf,show putF f y ((g,x') :: _)=(g,x') :: putF f y _ from if_neg hgf,List.append_assoc]
  exact .cons (h.frame s λ b hb=>k b (by simp [hb])) (RtFs.add s hu r e λ b hb=>k b (by simp [hb]))
theorem RtFs.keys {F H:Hp} {xs:List (Str×V)} {ts:List (Str×T)} {fp:List Addr} (f:Str) (h:RtFs K F H xs ts fp):(ts.lookup f=none->xs.lookup f=none)/\(∀ t,ts.lookup f=some t->∃ x,xs.lookup f=some x)/\xs.length=ts.length :=
 (Rt.ind (P:=λ _ _ _=>True) (Q:=λ _ _ _=>True) (R:=λ xs ts _=>(ts.lookup f=none->xs.lookup f=none)/\(∀ t,ts.lookup f=some t->∃ x,xs.lookup f=some x)/\xs.length=ts.length)
  (λ _=>trivial) (λ _ _ _=>trivial) (λ _ _ _=>trivial) (λ _ _ _ _ _=>trivial) (λ _ _ _=>trivial) (λ _ _ _=>trivial) trivial (λ _ _=>trivial) ⟨λ _=>rfl,(λ t e=>by cases e),rfl⟩
  λ {g x _ _ _ _ _} _ ⟨k1,k2,k3⟩=>by
   rw [List.length_cons,List.length_cons,k3,List.lookup_cons,List.lookup_cons]
   cases f == g with
  |true=>exact ⟨(λ e=>by cases e),λ _ _=>⟨x,rfl⟩,rfl⟩
  |false=>exact ⟨k1,k2,rfl⟩).2.2 h
theorem focus {F H:Hp} {x v:V} {t u:T} {p:Pth} (h:At H x t p v u):∀ {fp:List Addr},Rt K F H x t fp->fp.Nodup->∃ fn,Rt K F H v u fn/\(∀ a∈fn,a∈fp)/\fn.Nodup /\
  ∀ {F2 H2:Hp} {u2:T} {fq:List Addr},Same F F2->(∀ b∈fp,b ∉ fn->H2 b=H b/\F2 b=none)->Rt K F2 H2 v u2 fq->fq.Nodup->(∀ b∈fq,b∈fn \/ b ∉ fp)->∃ fp2,Rt K F2 H2 x (setP t p u2) fp2/\fp2.Nodup/\∀ b∈fp2,(b∈fp/\b ∉ fn) \/ b∈fq:=by
 induction h with
|nil =>
  intro fp hr nd
  refine ⟨fp,hr,λ a z=>z,nd,λ {F2 H2 u2 fq} _ _ h2 n2 _=>⟨fq,?_,n2,λ b hb=>.inr hb⟩⟩
  cases u2 <;> exact h2
|@ix a0 xs0 ts0 j0 x0 v0 t0 u0 p0 h1 h2 h3 _ ih =>
  intro fp hr nd
  cases hr with
 |ls g1 g2 g3 =>
   rw [h1] at g1;cases g1
   obtain ⟨fA,fj,fB,e,hj,rep⟩:=g3.split h2 h3
   subst e
   have ndR:=(List.nodup_cons.mp nd).2
   have nA:=(List.nodup_cons.mp nd).1
   obtain ⟨ndA,ndJB,djA⟩:=List.nodup_append.mp ndR
   obtain ⟨ndj,ndB,djB⟩:=List.nodup_append.mp ndJB
   obtain ⟨fn,hn,sub,ndn,back⟩:=ih hj ndj
   refine ⟨fn,hn,λ a ha=>by simp [sub a ha],ndn,λ {F2 H2 u2 fq} s k hu nq hq=>?_⟩
   obtain ⟨f2,r2,n2,m2⟩:=back s (λ b hb hnb=>k b (by simp [hb]) hnb) hu nq λ b hb=>by
    rcases hq b hb with z|z
    ·exact .inl z
    ·exact .inr λ y=>z (by simp [y])
   have notin:∀ b,b∈fA \/ b∈fB->b ∉ fn:=λ b hb hn'=>by
    have:=sub b hn'
    rcases hb with z|z
    ·exact djA b z b (by simp [this]) rfl
    ·exact djB b this b z rfl
   have rA:=rep s (λ b hb=>by
    have hb':=List.mem_append.mp hb
    refine k b (by rcases hb' with z|z <;> simp [z]) (notin b hb')) r2
   have hnotq:∀ b,(b∈fA \/ b∈fB \/ b=a0)->b ∉ fq:=λ b hb hbq=>by
    rcases hq b hbq with z|z
    ·rcases hb with y|y|y
     ·exact notin b (.inl y) z
     ·exact notin b (.inr y) z
     ·subst y;exact nA (by simp [sub _ z])
    ·apply z
     rcases hb with y|y|y
     ·simp [y]
     ·simp [y]
     ·simp [y]
   have ha2:=k _ (List.mem_cons_self) (λ z=>nA (by simp [sub _ z]))
   refine ⟨a0 :: (fA++(f2++fB)),?_,?_,?_⟩
   ·unfold setP
    rw [h3]
    exact .ls (by rw [ha2.1];exact h1) ha2.2 rA
   ·refine List.nodup_cons.mpr ⟨λ z=>?_,?_⟩
    ·rcases List.mem_append.mp z with y|y
     ·exact nA (by simp [y])
     ·rcases List.mem_append.mp y with y|y
      ·rcases m2 _ y with ⟨y1,_⟩|y1
       ·exact nA (by simp [y1])
       ·exact hnotq _ (.inr (.inr rfl)) y1
      ·exact nA (by simp [y])
    ·refine List.nodup_append.mpr ⟨ndA,List.nodup_append.mpr ⟨n2,ndB,λ a ha b hb=>?_⟩,λ a ha b hb=>?_⟩
     ·rcases m2 a ha with ⟨y,_⟩|y
      ·exact djB a y b hb
      ·intro z;subst z;exact hnotq a (.inr (.inl hb)) y
     ·rcases List.mem_append.mp hb with y|y
      ·rcases m2 b y with ⟨y,_⟩|y
       ·exact djA a ha b (by simp [y])
       ·intro z;subst z;exact hnotq a (.inl ha) y
      ·exact djA a ha b (by simp [y])
   ·intro b hb
    rcases List.mem_cons.mp hb with y|y
    ·subst y;exact .inl ⟨by simp,λ z=>nA (by simp [sub _ z])⟩
    ·rcases List.mem_append.mp y with y|y
     ·exact .inl ⟨by simp [y],notin b (.inl y)⟩
     ·rcases List.mem_append.mp y with y|y
      ·rcases m2 b y with ⟨y1,y2⟩|y1
       ·exact .inl ⟨by simp [y1],y2⟩
       ·exact .inr y1
      ·exact .inl ⟨by simp [y],notin b (.inr y)⟩
|@fl a0 C0 dx0 fs0 ts0 f0 x0 v0 t0 u0 p0 h1 h2 h3 _ ih =>
  intro fp hr nd
  cases hr with
 |ob g1 g2 g3 g4 g5 =>
   rw [h1] at g1;cases g1
   obtain ⟨fA,fj,fB,e,hj,rep,_⟩:=g5.split h2 h3
   subst e
   have nd1:=List.nodup_cons.mp nd
   have nd2:=List.nodup_cons.mp nd1.2
   have ndR:=nd2.2
   have nA:_ ∉ fA++(fj++fB):=λ z=>nd1.1 (List.mem_cons_of_mem _ z)
   have nX:=nd2.1
   obtain ⟨ndA,ndJB,djA⟩:=List.nodup_append.mp ndR
   obtain ⟨ndj,ndB,djB⟩:=List.nodup_append.mp ndJB
   obtain ⟨fn,hn,sub,ndn,back⟩:=ih hj ndj
   refine ⟨fn,hn,λ a ha=>by simp [sub a ha],ndn,λ {F2 H2 u2 fq} s k hu nq hq=>?_⟩
   obtain ⟨f2,r2,n2,m2⟩:=back s (λ b hb hnb=>k b (by simp [hb]) hnb) hu nq λ b hb=>by
    rcases hq b hb with z|z
    ·exact .inl z
    ·exact .inr λ y=>z (by simp [y])
   have notin:∀ b,b∈fA \/ b∈fB->b ∉ fn:=λ b hb hn'=>by
    have:=sub b hn'
    rcases hb with z|z
    ·exact djA b z b (by simp [this]) rfl
    ·exact djB b this b z rfl
   have rA:=rep s (λ b hb=>by
    have hb':=List.mem_append.mp hb
    refine k b (by rcases hb' with z|z <;> simp [z]) (notin b hb')) r2
   have hnotq:∀ b,(b∈fA \/ b∈fB)->b ∉ fq:=λ b hb hbq=>by
    rcases hq b hbq with z|z
    ·exact notin b hb z
    ·apply z
     rcases hb with y|y <;> simp [y]
   have hnq2:∀ b,b∈fn->b∈fA++(fj++fB):=λ b hb=>by simp [sub _ hb]
   have ha2:=k _ (List.mem_cons_self) (λ z=>nA (hnq2 _ z))
   have hx2:=k _ (List.mem_cons_of_mem _ List.mem_cons_self) (λ z=>nX (hnq2 _ z))
   have hf2:∀ b∈f2,b∈fj \/ b∈fq:=λ b hb=>by
    rcases m2 b hb with ⟨y,_⟩|y
    ·exact .inl y
    ·exact .inr y
   refine ⟨a0 :: dx0 :: (fA++(f2++fB)),?_,?_,?_⟩
   ·unfold setP
    rw [h3]
    exact .ob (by rw [ha2.1];exact h1) (by rw [hx2.1];exact g2) ha2.2 hx2.2 rA
   ·have inR:∀ b,b∈fA++(f2++fB)->b∈fA++(fj++fB) \/ b∈fq:=λ b hb=>by
     rcases List.mem_append.mp hb with y|y
     ·exact .inl (by simp [y])
     ·rcases List.mem_append.mp y with y|y
      ·rcases hf2 b y with y|y
       ·exact .inl (by simp [y])
       ·exact .inr y
      ·exact .inl (by simp [y])
    refine List.nodup_cons.mpr ⟨λ z=>?_,List.nodup_cons.mpr ⟨λ z=>?_,?_⟩⟩
    ·rcases List.mem_cons.mp z with y|y
     ·exact nd1.1 (by rw [y];simp)
     ·rcases inR _ y with y|y
      ·exact nA y
      ·rcases hq _ y with w|w
       ·exact nA (hnq2 _ w)
       ·exact w (by simp)
    ·rcases inR _ z with y|y
     ·exact nX y
     ·rcases hq _ y with w|w
      ·exact nX (hnq2 _ w)
      ·exact w (by simp)
    ·refine List.nodup_append.mpr ⟨ndA,List.nodup_append.mpr ⟨n2,ndB,λ a ha b hb=>?_⟩,λ a ha b hb=>?_⟩
     ·rcases m2 a ha with ⟨y,_⟩|y
      ·exact djB a y b hb
      ·intro z;subst z;exact hnotq a (.inr hb) y
     ·rcases List.mem_append.mp hb with y|y
      ·rcases m2 b y with ⟨y,_⟩|y
       ·exact djA a ha b (by simp [y])
       ·intro z;subst z;exact hnotq a (.inl ha) y
      ·exact djA a ha b (by simp [y])
   ·intro b hb
    rcases List.mem_cons.mp hb with y|y
    ·subst y;exact .inl ⟨by simp,λ z=>nA (hnq2 _ z)⟩
    ·rcases List.mem_cons.mp y with y|y
     ·subst y;exact .inl ⟨by simp,λ z=>nX (hnq2 _ z)⟩
     ·rcases List.mem_append.mp y with y|y
      ·exact .inl ⟨by simp [y],notin b (.inl y)⟩
      ·rcases List.mem_append.mp y with y|y
       ·rcases m2 b y with ⟨y1,y2⟩|y1
        ·exact .inl ⟨by simp [y1],y2⟩
        ·exact .inr y1
       ·exact .inl ⟨by simp [y],notin b (.inr y)⟩
end
def AtS (H:Hp) (σ:L2.St) (δ:DSt) (i:Nat) (p:Pth) (v:V) (u:T):Prop:=∃ s t x,δ[i]?=some s/\s.tree=some t/\σ.getD i none=some x/\At H x t p v u
abbrev DP:=DSt->(Nat->Pth->T->Prop)->Prop
def RfP (K:Fg) (te:TE) (dp:DP):Prop:=∀ {F H:Hp} {σ:L2.St} {δ:DSt} {Qd:Nat->Pth->T->Prop} {Q:VK},Same F H->RV K F H σ δ->dp δ Qd->(∀ i p u,Qd i p u->∀ v F' H',Ext F H F' H'->AtS H' σ δ i p v u->Q v H')->te σ H Q
section
variable {K:Fg} {te ti:TE} {dp:DP} {di:DE}
theorem at_rt {F H:Hp} {x v:V} {t u:T} {p:Pth} (h:At H x t p v u):∀ {fp:List Addr},Rt K F H x t fp->∃ fn,Rt K F H v u fn:=by
 induction h with
|nil=>intro fp hr;exact ⟨fp,hr⟩
|ix h1 h2 h3 _ ih =>
  intro fp hr
  cases hr with
 |ls g1 g2 g3 =>
   rw [h1] at g1;cases g1
   obtain ⟨fA,fj,fB,e,hj,_⟩:=g3.split h2 h3
   exact ih hj
|fl h1 h2 h3 _ ih =>
  intro fp hr
  cases hr with
 |ob g1 g2 g3 g4 g5 =>
   rw [h1] at g1;cases g1
   obtain ⟨fA,fj,fB,e,hj,_⟩:=g5.split h2 h3
   exact ih hj
theorem AtS.rt {F H:Hp} {σ:L2.St} {δ:DSt} {i:Nat} {p:Pth} {v:V} {u:T} (h:AtS H σ δ i p v u) (r:RV K F H σ δ):∃ fn,Rt K F H v u fn:=by
 obtain ⟨s,t,x,h1,h2,h3,h4⟩:=h
 obtain ⟨y,fp,e,hr,_⟩:=(r.sl i s h1).rt h2
 rw [h3] at e;cases e
 exact at_rt h4 hr
theorem AtS.mono {H H':Hp} {σ:L2.St} {δ:DSt} {i:Nat} {p:Pth} {v:V} {u:T} (s:Same H H') (h:AtS H σ δ i p v u):AtS H' σ δ i p v u:=by
 obtain ⟨s',t,x,h1,h2,h3,h4⟩:=h
 exact ⟨s',t,x,h1,h2,h3,h4.mono s⟩
def pVar (i:Nat):DP:=λ δ Q=>∃ s t,δ[i]?=some s/\s.tree=some t/\Q i [] t
theorem rp_var (i:Nat):RfP K (tVar i) (pVar i):=by
 intro F H σ δ Qd Q s r h k
 obtain ⟨sl,t,q,et,f⟩:=h
 obtain ⟨x,fp,e,hr,_⟩:=(r.sl i _ q).rt et
 exact ⟨x,zoe (F:=F) (H:=H) (δ:=δ) e,k i [] t f x F H (Ext.refl s) ⟨sl,t,x,q,et,e,.nil⟩⟩
def nFld (f:Str) (u:T) (Q:T->Prop):Prop:=match u with
|.ob _ fs=>∃ t,fs.lookup f=some t/\Q t
|_=>False
def nCls (C:Addr) (u:T):Prop:=match u with
|.ob C' _=>C'=C
|_=>False
def pFld (C:Addr) (f:Str) (dp:DP):DP:=λ δ Q=>dp δ λ i p u=>nCls C u/\nFld f u λ t=>Q i (p++[.fl f]) t
theorem rp_fld {C:Addr} {f:Str} (c:Cls K C) (na:NoAttr K C f) (h:RfP K te dp):RfP K (tFldU K te f) (pFld C f dp):=by
 intro F H σ δ Qd Q s r hd k
 refine h s r hd λ i p u hu v F1 H1 e1 at1=>?_
 obtain ⟨hc,hf⟩:=hu
 obtain ⟨fn,hr⟩:=at1.rt (r.ext e1)
 cases hr with
|ob g1 g2 g3 g4 g5 =>
  cases (show _=C from hc)
  obtain ⟨t,et,q⟩:=hf
  obtain ⟨y,ey⟩:=(g5.keys f).2.1 t et
  refine ⟨_,_,_,_,y,rfl,g1,c,na,ey,k i _ t q y F1 H1 e1 ?_⟩
  obtain ⟨sl,t0,x,a1,a2,a3,a4⟩:=at1
  exact ⟨sl,t0,x,a1,a2,a3,a4.snoc_fl g1 ey et⟩
|fz _=>exact hc.elim
|li _ _ _=>exact hc.elim
|ls _ _ _=>exact hc.elim
|dk _ _ _=>exact hc.elim
|dt _ _ _=>exact hc.elim
def nIx (u:T) (k:D) (Q:Nat->T->Prop):Prop:=match u,k with
|.ls ts,.int z=>∃ j t,ixN ts.length z=some j/\ts[j]?=some t/\Q j t
|_,_=>False
def pIx (dp:DP) (di:DE):DP:=λ δ Q=>dp δ λ i p u=>di δ λ k=>nIx u k λ j t=>Q i (p++[.ix j]) t
theorem rp_ix {w:World} (h:RfP K te dp) (hi:RfE K ti di):RfP K (tOp (rIxV w K) te ti) (pIx dp di):=by
 intro F H σ δ Qd Q s r hd k
 refine h s r hd λ i p u hu v F1 H1 e1 at1=>hi e1.fh (r.ext e1) hu λ kd hk kv F2 H2 e2 i2=>?_
 have e12:=e1.trans e2
 have at2:=at1.mono e2.h
 obtain ⟨fn,hr⟩:=at2.rt (r.ext e12)
 unfold nIx at hk
 split at hk
 ·rename_i ts z
  obtain ⟨j,t,ej,et,q⟩:=hk
  cases i2.int_inv
  cases hr with
 |ls g1 g2 g3 =>
   have el:=g3.len
   have hj:j < ts.length:=by
    rcases Nat.lt_or_ge j ts.length with y|y
    ·exact y
    ·rw [List.getElem?_eq_none y] at et;cases et
   rename_i a xs fp
   obtain ⟨y,hx⟩:∃ y,xs[j]?=some y:=⟨xs[j]'(by lia),List.getElem?_eq_getElem _⟩
   refine .inl (.inl (.inl ⟨a,xs,z,y,rfl,rfl,SqL.of g1,?_,k i _ t q _ F2 H2 e12 ?_⟩))
   ·unfold atI
    rw [el,ej]
    exact hx
   ·obtain ⟨sl,t0,x,a1,a2,a3,a4⟩:=at2
    exact ⟨sl,t0,x,a1,a2,a3,a4.snoc_ix (y:=x) g1 hx et⟩
 ·exact hk.elim
def dPV (dp:DP):DE:=λ δ Q=>dp δ λ _ _ u=>vwT u Q
def dPE (dp:DP):DE:=λ δ Q=>dp δ λ _ _ u=>fzT u Q
theorem RfP.v (h:RfP K te dp):RfV K te (dPV dp):=λ s r d k=>h s r d λ i p u hu v F1 H1 e1 at1=>by
 obtain ⟨fn,hr⟩:=at1.rt (r.ext e1)
 obtain ⟨d,qd,vw⟩:=vw_rt hr hu
 exact k d qd v F1 H1 e1 vw
theorem RfP.e (h:RfP K te dp):RfE K te (dPE dp):=λ s r d k=>h s r d λ i p u hu v F1 H1 e1 at1=>by
 obtain ⟨fn,hr⟩:=at1.rt (r.ext e1)
 obtain ⟨d,qd,vw⟩:=fz_rt hr hu
 exact k d qd v F1 H1 e1 vw
end
structure Bs where
 F0:Hp
 H0:Hp
 G:List Addr
def Sl.own:Sl->Bool
|.ow _=>true
|.io _ _=>true
|_=>false
def Sl.has:Sl->Bool
|.ow _=>true
|.io _ _=>true
|.bo _=>true
|_=>false
def Sl.wth:Sl->T->Sl
|.ow _,u=>.ow u
|.io a _,u=>.io a u
|s,_=>s
structure RS (K:Fg) (B:Bs) (F H:Hp) (σ:L2.St) (δ:DSt) (fps:Nat->List Addr):Prop where
 hh:∀ b o,b ∉ B.G->B.H0 b=some o->H b=some o
 ff:Same B.F0 F
 fh:Same F H
 nw:∀ b,B.H0 b≠none->B.F0 b=none->F b=none
 al:∀ b,B.H0 b≠none->H b≠none
 len:σ.length=δ.length
 sh:∀ (i:Nat) d,δ[i]?=some (.sh d)->∃ x,σ.getD i none=some x/\Is K F x d
 rt:∀ (i:Nat) s,δ[i]?=some s->s.has=true->∃ x t,σ.getD i none=some x/\s.tree=some t/\Rt K F H x t (fps i)/\(∀ a u,s=.io a u->x=.ref a)/\(fps i).Nodup
 fr:∀ (i:Nat) s,δ[i]?=some s->s.own=true->∀ a∈fps i,B.H0 a=none \/ (a∈B.G/\∀ t,s≠.ow t)
 dj:∀ (i j:Nat) s s',i≠j->δ[i]?=some s->δ[j]?=some s'->s.own=true->s'.has=true->∀ a∈fps i,a ∉ fps j
section
variable {K:Fg} {B:Bs} {F H F' H':Hp} {σ:L2.St} {δ:DSt} {fps:Nat->List Addr}
theorem zm4:∀ {s:Sl},s.own=true->s.has=true
|.ow _,_=>rfl
|.io _ _,_=>rfl
|.un,e=>by cases e
|.sh _,e=>by cases e
|.bo _,e=>by cases e
theorem RS.rv (r:RS K B F H σ δ fps):RV K F H σ δ:=⟨r.len,λ i s e=>by
 cases s with
|un=>trivial
|sh d=>exact r.sh i d e
|ow t =>
  obtain ⟨x,t',h1,h2,h3,h4,h5⟩:=r.rt i _ e rfl
  cases h2;exact ⟨x,_,h1,h3,h5⟩
|bo t =>
  obtain ⟨x,t',h1,h2,h3,h4,h5⟩:=r.rt i _ e rfl
  cases h2;exact ⟨x,_,h1,h3,h5⟩
|io a t =>
  obtain ⟨x,t',h1,h2,h3,h4,h5⟩:=r.rt i _ e rfl
  cases h2
  cases h4 a t rfl
  exact ⟨_,h1,h3,h5⟩⟩
theorem RS.grow (r:RS K B F H σ δ fps) (e:Ext F H F' H'):RS K B F' H' σ δ fps where
 hh:=λ b o hb ho=>e.h b o (r.hh b o hb ho)
 ff:=r.ff.trans e.f
 fh:=e.fh
 nw:=λ b hb fb=>e.nw b (r.al b hb) (r.nw b hb fb)
 al:=λ b hb z=>by
  cases q:H b with
 |none=>exact r.al b hb q
 |some o=>rw [e.h b o q] at z;cases z
 len:=r.len
 sh:=λ i d h=>by obtain ⟨x,h1,h2⟩:=r.sh i d h;exact ⟨x,h1,h2.mono e.f⟩
 rt:=λ i s h1 h2=>by obtain ⟨x,t,a1,a2,a3,a4,a5⟩:=r.rt i s h1 h2;exact ⟨x,t,a1,a2,a3.ext e,a4,a5⟩
 fr:=r.fr
 dj:=r.dj
theorem RS.setS (r:RS K B F H σ δ fps) {i:Nat} {v:V} {d:D} (h:Is K F v d):RS K B F H (σ.set i (some v)) (δ.set i (.sh d)) fps:=by
 have key:∀ (j:Nat) s,(δ.set i (.sh d))[j]?=some s->(j=i/\s=.sh d/\(σ.set i (some v)).getD j none=some v) \/ (j≠i/\δ[j]?=some s/\(σ.set i (some v)).getD j none=σ.getD j none):=λ j s e=>by
  rw [List.getElem?_set] at e
  by_cases hij:i=j
  ·subst hij
   by_cases hl:i < δ.length
   ·simp [hl] at e;exact .inl ⟨rfl,e.symm,by rw [zv1,r.len,if_pos ⟨rfl,hl⟩]⟩
   ·simp [hl] at e
  ·simp [hij] at e
   exact .inr ⟨λ z=>hij z.symm,e,by rw [zv1,if_neg (by lia)]⟩
 refine ⟨r.hh,r.ff,r.fh,r.nw,r.al,by rw [List.length_set,List.length_set];exact r.len,λ j d' e=>?_,λ j s e hs=>?_,λ j s e hs=>?_,λ j k s s' hjk e1 e2 o1 o2=>?_⟩
 ·rcases key j _ e with ⟨_,e2,e3⟩|⟨_,e2,e3⟩
  ·cases e2;exact ⟨v,e3,h⟩
  ·obtain ⟨x,h1,h2⟩:=r.sh j d' e2;exact ⟨x,by rw [e3];exact h1,h2⟩
 ·rcases key j _ e with ⟨_,e2,e3⟩|⟨_,e2,e3⟩
  ·rw [e2] at hs;cases hs
  ·rw [e3];exact r.rt j s e2 hs
 ·rcases key j _ e with ⟨_,e2,e3⟩|⟨_,e2,e3⟩
  ·rw [e2] at hs;cases hs
  ·exact r.fr j s e2 hs
 ·rcases key j _ e1 with ⟨_,z,_⟩|⟨_,z1,_⟩
  ·rw [z] at o1;cases o1
  ·rcases key k _ e2 with ⟨_,z,_⟩|⟨_,z2,_⟩
   ·rw [z] at o2;cases o2
   ·exact r.dj j k s s' hjk z1 z2 o1 o2
theorem RS.byUpd {n:Nat} {σ':L2.St} {δ':DSt} (u:Upd K F n σ δ σ' δ') (r:RS K B F H σ δ fps):RS K B F H σ' δ' fps:=by
 induction u with
|refl=>exact r
|set hi hv _ ih=>exact ih (r.setS hv)
def NewOk (B:Bs) (δ:DSt) (fps:Nat->List Addr) (b:Addr):Prop:=B.H0 b=none/\∀ (j:Nat) s,δ[j]?=some s->s.has=true->b ∉ fps j
theorem RS.newOk (r:RS K B F H σ δ fps) {b:Addr} (h:H b=none):NewOk B δ fps b:=by
 refine ⟨?_,λ j s ej hs hb=>?_⟩
 ·by_cases z:B.H0 b=none
  ·exact z
  ·exact absurd h (r.al b z)
 ·obtain ⟨x,t,a1,a2,a3,a4,a5⟩:=r.rt j s ej hs
  exact (a3.dom b hb).1 h
theorem RS.upd2 (r:RS K B F H σ δ fps) {i:Nat} {s:Sl} {x:V} {t2:T} {fp2:List Addr} {F2 H2:Hp} (hi:δ[i]?=some s) (ho:s.own=true) (hx:σ.getD i none=some x)
  (c1:∀ b o,b ∉ fps i->H b=some o->H2 b=some o) (c2:Same F F2) (c3:Same F2 H2) (c4:∀ b,H b≠none->F b=none->b ∉ fps i->F2 b=none) (c5:∀ b,H b≠none->H2 b≠none)
  (h2:Rt K F2 H2 x t2 fp2) (n2:fp2.Nodup) (m2:∀ b∈fp2,b∈fps i \/ NewOk B δ fps b) (c6:∀ b∈fps i,F2 b≠none->B.H0 b=none) :
  RS K B F2 H2 σ (δ.set i (s.wth t2)) (λ j=>if j=i then fp2 else fps j):=by
 have hlt:i < δ.length:=by
  rcases Nat.lt_or_ge i δ.length with z|z
  ·exact z
  ·rw [List.getElem?_eq_none z] at hi;cases hi
 have hs:=zm4 ho
 have wo:(s.wth t2).own=true/\(s.wth t2).has=true/\(s.wth t2).tree=some t2:=by
  cases s with
 |ow _=>exact ⟨rfl,rfl,rfl⟩
 |io _ _=>exact ⟨rfl,rfl,rfl⟩
 |un=>cases ho
 |sh _=>cases ho
 |bo _=>cases ho
 have key:∀ (j:Nat) s',(δ.set i (s.wth t2))[j]?=some s'->(j=i/\s'=s.wth t2) \/ (j≠i/\δ[j]?=some s'):=λ j s' e=>by
  rw [List.getElem?_set] at e
  by_cases hij:i=j
  ·subst hij;simp [hlt] at e;exact .inl ⟨rfl,e.symm⟩
  ·simp [hij] at e;exact .inr ⟨λ z=>hij z.symm,e⟩
 have old:∀ b∈fps i,H b≠none/\F b=none:=by
  obtain ⟨x',t',a1,a2,a3,a4,a5⟩:=r.rt i s hi hs
  exact a3.dom
 have own0:=r.fr i s hi ho
 refine ⟨λ b o hb h0=>?_,r.ff.trans c2,c3,λ b hb fb=>?_,λ b hb=>c5 b (r.al b hb),by rw [List.length_set];exact r.len,λ j d e=>?_,λ j s' e hs'=>?_,λ j s' e ho' a ha=>?_,λ j k s1 s2 hjk e1 e2 o1 o2 a ha=>?_⟩
 ·refine c1 b o (λ z=>?_) (r.hh b o hb h0)
  rcases own0 b z with y|y
  ·rw [y] at h0;cases h0
  ·exact hb y.1
 ·by_cases hbi:b∈fps i
  ·cases z:F2 b with
  |none=>rfl
  |some o=>exact absurd (c6 b hbi (by rw [z];simp)) hb
  ·exact c4 b (r.al b hb) (r.nw b hb fb) hbi
 ·rcases key j _ e with ⟨_,z⟩|⟨_,z⟩
  ·rw [<- z] at wo;cases wo.1
  ·obtain ⟨y,h1,h2⟩:=r.sh j d z;exact ⟨y,h1,h2.mono c2⟩
 ·rcases key j _ e with ⟨zj,z⟩|⟨zj,z⟩
  ·subst zj
   rw [if_pos rfl]
   refine ⟨x,t2,hx,by rw [z];exact wo.2.2,h2,λ a u e'=>?_,n2⟩
   obtain ⟨x',t',a1,a2,a3,a4,a5⟩:=r.rt j s hi hs
   rw [hx] at a1;cases a1
   cases s with
  |ow _=>rw [z] at e';cases e'
  |io a' u'=>rw [z] at e';cases e';exact a4 _ _ rfl
  |un=>cases ho
  |sh _=>cases ho
  |bo _=>cases ho
  ·rw [if_neg zj]
   obtain ⟨y,t',a1,a2,a3,a4,a5⟩:=r.rt j s' z hs'
   refine ⟨y,t',a1,a2,a3.frame c2 λ a ha=>?_,a4,a5⟩
   obtain ⟨d1,d2⟩:=a3.dom a ha
   have na:a ∉ fps i:=λ w=>r.dj i j s s' (λ q=>zj q.symm) hi z ho hs' a w ha
   cases q:H a with
  |none=>exact absurd q d1
  |some o=>exact ⟨c1 a o na q,c4 a d1 d2 na⟩
 ·rcases key j _ e with ⟨zj,z⟩|⟨zj,z⟩
  ·rw [if_pos zj] at ha
   rcases m2 a ha with y|y
   ·rcases own0 a y with w|⟨w1,w2⟩
    ·exact .inl w
    ·refine .inr ⟨w1,λ t et=>?_⟩
     rw [z] at et
     cases s with
    |ow t'=>exact w2 t' rfl
    |io _ _=>cases et
    |un=>cases ho
    |sh _=>cases ho
    |bo _=>cases ho
   ·exact .inl y.1
  ·rw [if_neg zj] at ha;exact r.fr j s' z ho' a ha
 ·rcases key j _ e1 with ⟨zj,z1⟩|⟨zj,z1⟩ <;> rcases key k _ e2 with ⟨zk,z2⟩|⟨zk,z2⟩
  ·exact absurd (zj.trans zk.symm) hjk
  ·rw [if_pos zj] at ha;rw [if_neg zk]
   subst zj
   rcases m2 a ha with y|y
   ·exact r.dj j k s s2 hjk hi z2 ho o2 a y
   ·exact y.2 k s2 z2 o2
  ·rw [if_neg zj] at ha;rw [if_pos zk]
   subst zk
   intro w
   rcases m2 a w with y|y
   ·exact r.dj j k s1 s hjk z1 hi o1 hs a ha y
   ·exact y.2 j s1 z1 (zm4 o1) ha
  ·rw [if_neg zj] at ha;rw [if_neg zk]
   exact r.dj j k s1 s2 hjk z1 z2 o1 o2 a ha
theorem RS.setT (r:RS K B F H σ δ fps) {i:Nat} {v:V} {t:T} {fp:List Addr} (h:Rt K F H v t fp) (nd:fp.Nodup) (hf:∀ a∈fp,B.H0 a=none) (hd:∀ (j:Nat) s,δ[j]?=some s->s.has=true->∀ a∈fps j,a ∉ fp) :
  RS K B F H (σ.set i (some v)) (δ.set i (.ow t)) (λ j=>if j=i then fp else fps j):=by
 have key:∀ (j:Nat) s,(δ.set i (.ow t))[j]?=some s->(j=i/\s=.ow t/\(σ.set i (some v)).getD j none=some v) \/ (j≠i/\δ[j]?=some s/\(σ.set i (some v)).getD j none=σ.getD j none):=λ j s e=>by
  rw [List.getElem?_set] at e
  by_cases hij:i=j
  ·subst hij
   by_cases hl:i < δ.length
   ·simp [hl] at e;exact .inl ⟨rfl,e.symm,by rw [zv1,r.len,if_pos ⟨rfl,hl⟩]⟩
   ·simp [hl] at e
  ·simp [hij] at e
   exact .inr ⟨λ z=>hij z.symm,e,by rw [zv1,if_neg (by lia)]⟩
 refine ⟨r.hh,r.ff,r.fh,r.nw,r.al,by rw [List.length_set,List.length_set];exact r.len,λ j d' e=>?_,λ j s e hs=>?_,λ j s e hs a ha=>?_,λ j k s s' hjk e1 e2 o1 o2 a ha=>?_⟩
 ·rcases key j _ e with ⟨_,e2,e3⟩|⟨_,e2,e3⟩
  ·cases e2
  ·obtain ⟨x,h1,h2⟩:=r.sh j d' e2;exact ⟨x,by rw [e3];exact h1,h2⟩
 ·rcases key j _ e with ⟨zj,e2,e3⟩|⟨zj,e2,e3⟩
  ·rw [if_pos zj,e3,e2];exact ⟨v,t,rfl,rfl,h,λ a u z=>(by cases z),nd⟩
  ·rw [if_neg zj,e3];exact r.rt j s e2 hs
 ·rcases key j _ e with ⟨zj,e2,e3⟩|⟨zj,e2,e3⟩
  ·rw [if_pos zj] at ha;exact .inl (hf a ha)
  ·rw [if_neg zj] at ha;exact r.fr j s e2 hs a ha
 ·rcases key j _ e1 with ⟨zj,z1,_⟩|⟨zj,z1,_⟩ <;> rcases key k _ e2 with ⟨zk,z2,_⟩|⟨zk,z2,_⟩
  ·exact absurd (zj.trans zk.symm) hjk
  ·rw [if_pos zj] at ha;rw [if_neg zk]
   exact λ w=>hd k s' z2 o2 a w ha
  ·rw [if_neg zj] at ha;rw [if_pos zk]
   exact hd j s z1 (zm4 o1) a ha
  ·rw [if_neg zj] at ha;rw [if_neg zk]
   exact r.dj j k s s' hjk z1 z2 o1 o2 a ha
theorem RS.put (r:RS K B F H σ δ fps) {i:Nat} {s:Sl} {p:Pth} {v:V} {u:T} (hi:δ[i]?=some s) (ho:s.own=true) (ha:AtS H σ δ i p v u) :
  ∃ fn t,s.tree=some t/\Rt K F H v u fn/\fn.Nodup/\(∀ a∈fn,a∈fps i)/\∀ {F2 H2:Hp} {u2:T} {fq:List Addr},
   (∀ b o,b ∉ fn->H b=some o->H2 b=some o)->Same F F2->Same F2 H2->(∀ b,H b≠none->F b=none->b ∉ fn->F2 b=none)->(∀ b,H b≠none->H2 b≠none)->(∀ b∈fn,F2 b≠none->B.H0 b=none) ->
   Rt K F2 H2 v u2 fq->fq.Nodup->(∀ b∈fq,b∈fn \/ NewOk B δ fps b)->∃ fps2,RS K B F2 H2 σ (δ.set i (s.wth (setP t p u2))) fps2/\(∀ j,j≠i->fps2 j=fps j)/\∀ b∈fps2 i,b∈fps i \/ b∈fq:=by
 obtain ⟨s',t,x,h1,h2,h3,h4⟩:=ha
 rw [hi] at h1;cases h1
 obtain ⟨x',t',a1,a2,a3,a4,a5⟩:=r.rt i s hi (zm4 ho)
 rw [h3] at a1;cases a1
 rw [h2] at a2;cases a2
 obtain ⟨fn,hn,sub,ndn,back⟩:=focus h4 a3 a5
 refine ⟨fn,t,h2,hn,ndn,sub,λ {F2 H2 u2 fq} c1 c2 c3 c4 c5 c6 hu nq mq=>?_⟩
 obtain ⟨fp2,r2,n2,m2⟩:=back c2 (λ b hb hnb=>by
  obtain ⟨d1,d2⟩:=a3.dom b hb
  cases q:H b with
 |none=>exact absurd q d1
 |some o=>exact ⟨c1 b o hnb q,c4 b d1 d2 hnb⟩) hu nq λ b hb=>by
   rcases mq b hb with z|z
   ·exact .inl z
   ·exact .inr (z.2 i s hi (zm4 ho))
 refine ⟨_,r.upd2 hi ho h3 (λ b o hb=>c1 b o λ z=>hb (sub b z)) c2 c3 (λ b hb fb hbi=>c4 b hb fb λ z=>hbi (sub b z)) c5 r2 n2 (λ b hb=>?_) (λ b hb f2=>?_),λ j hj=>if_neg hj,λ b hb=>?_⟩
 ·rcases m2 b hb with ⟨y,_⟩|y
  ·exact .inl y
  ·rcases mq b y with z|z
   ·exact .inl (sub b z)
   ·exact .inr z
 ·by_cases z:b∈fn
  ·exact c6 b z f2
  ·obtain ⟨d1,d2⟩:=a3.dom b hb
   exact absurd (c4 b d1 d2 z) f2
 ·rw [if_pos rfl] at hb
  rcases m2 b hb with ⟨y,_⟩|y
  ·exact .inl y
  ·exact .inr y
end
structure Res (K:Fg) (B:Bs) (F H:Hp) (σ:L2.St) (δ:DSt) (fps:Nat->List Addr) (v:V) (r:T) (fpr:List Addr):Prop where
 rs:RS K B F H σ δ fps
 rt:Rt K F H v r fpr
 nd:fpr.Nodup
 fr:∀ a∈fpr,B.H0 a=none
 dj:∀ (j:Nat) s,δ[j]?=some s->s.has=true->∀ a∈fps j,a ∉ fpr
abbrev DC:=DSt->(T->DSt->Prop)->Prop
def RfC (K:Fg) (te:TE) (dc:DC):Prop:=∀ {B:Bs} {F H:Hp} {σ:L2.St} {δ:DSt} {fps:Nat->List Addr} {Qd:T->DSt->Prop} {Q:VK},RS K B F H σ δ fps->dc δ Qd->(∀ r δ',Qd r δ'->∀ v F' H' fps' fpr,Res K B F' H' σ δ' fps' v r fpr->Q v H')->te σ H Q
structure DEnds where
 nx:DSt->Prop
 rt:T->DSt->Prop
 bk:DSt->Prop:=λ _=>False
 ct:DSt->Prop:=λ _=>False
abbrev DS:=DEnds->DSt->Prop
structure En (K:Fg) (B:Bs) (E:DEnds) (Z:Ends):Prop where
 nx:∀ {F H:Hp} {σ:L2.St} {δ:DSt} {fps:Nat->List Addr},RS K B F H σ δ fps->E.nx δ->Z.nx σ H
 bk:∀ {F H:Hp} {σ:L2.St} {δ:DSt} {fps:Nat->List Addr},RS K B F H σ δ fps->E.bk δ->Z.bk σ H
 ct:∀ {F H:Hp} {σ:L2.St} {δ:DSt} {fps:Nat->List Addr},RS K B F H σ δ fps->E.ct δ->Z.ct σ H
 rt:∀ {F H:Hp} {σ:L2.St} {δ:DSt} {fps:Nat->List Addr} {v:V} {r:T} {fpr:List Addr},Res K B F H σ δ fps v r fpr->E.rt r δ->Z.rt v H
def RfS (K:Fg) (ts:TS) (ds:DS):Prop:=∀ {B:Bs} {F H:Hp} {σ:L2.St} {δ:DSt} {fps:Nat->List Addr} {E:DEnds} {Z:Ends},RS K B F H σ δ fps->ds E δ->En K B E Z->ts Z σ H
section
variable {K:Fg} {te ta ti:TE} {de da di:DE} {dc:DC} {tt:TT} {dt:DT} {t u tb:TS} {d e db:DS} {tA:TA} {dA:DF} {g:TG} {dg:DG} {n:Nat} {dp:DP}
def cE (de:DE):DC:=λ δ Q=>de δ λ d=>Q (.fz d) δ
theorem RfE.c (h:RfE K te de):RfC K te (cE de):=by
 intro B F H σ δ fps Qd Q r hd k
 exact h r.fh r.rv hd λ d q v F1 H1 e1 i1=>k _ _ q v F1 H1 fps [] ⟨r.grow e1,.fz i1,.nil,λ a ha=>by simp at ha,λ _ _ _ _ a _ ha=>by simp at ha⟩
def cF (df:DF):DC:=λ δ Q=>df δ λ ds=>Q (.li ds) δ
theorem RfF.c {df:DF} (h:RfF K te df):RfC K te (cF df):=by
 intro B F H σ δ fps Qd Q r hd k
 refine h r.fh r.rv hd λ ds q a xs F1 H1 e1 hn h1 h2 h3=>k _ _ q (.ref a) F1 H1 fps [a] ⟨r.grow e1,.li h1 h2 h3,by simp,λ b hb=>?_,λ j s ej hs b hb hb2=>?_⟩
 ·simp at hb;subst hb
  by_cases z:B.H0 b=none
  ·exact z
  ·exact absurd hn (r.al b z)
 ·simp at hb2;subst hb2
  obtain ⟨x,t,a1,a2,a3,a4,a5⟩:=r.rt j s ej hs
  exact (a3.dom b hb).1 hn
def slot:T->Sl
|.fz d=>.sh d
|t=>.ow t
theorem Res.set {B:Bs} {F H:Hp} {σ:L2.St} {δ:DSt} {fps:Nat->List Addr} {v:V} {r:T} {fpr:List Addr} (h:Res K B F H σ δ fps v r fpr) (i:Nat):∃ fps',RS K B F H (σ.set i (some v)) (δ.set i (slot r)) fps':=by
 cases r with
|fz d=>cases h.rt with
 |fz hi=>exact ⟨_,h.rs.setS hi⟩
|li ds=>exact ⟨_,h.rs.setT h.rt h.nd h.fr h.dj⟩
|ls ds=>exact ⟨_,h.rs.setT h.rt h.nd h.fr h.dj⟩
|ob C ds=>exact ⟨_,h.rs.setT h.rt h.nd h.fr h.dj⟩
|dk ds=>exact ⟨_,h.rs.setT h.rt h.nd h.fr h.dj⟩
|dt ds=>exact ⟨_,h.rs.setT h.rt h.nd h.fr h.dj⟩
def dNext:DS:=λ E δ=>E.nx δ
theorem zr0:RfS K tNext dNext:=λ r h k=>k.nx r h
def dSeq (a b:DS):DS:=λ E δ=>∃ J:DSt->Prop,a { E with nx:=J } δ/\∀ δ',J δ'->b E δ'
theorem rs_seq (h1:RfS K t d) (h2:RfS K u e):RfS K (tSeq t u) (dSeq d e):=by
 intro B F H σ δ fps E Z r h k
 obtain ⟨J,ha,hb⟩:=h
 exact h1 r ha ⟨λ r' q=>h2 r' (hb _ q) k,k.bk,k.ct,k.rt⟩
def dAsg (de:DE) (dg:DG):DS:=λ E δ=>de δ λ d=>dg d δ E.nx
theorem rs_asg (he:RfE K te de) (hg:RfG K n g dg):RfS K (tAsg te g) (dAsg de dg):=by
 intro B F H σ δ fps E Z r h k
 exact he r.fh r.rv h λ d hd v F1 H1 e1 i1=>hg e1.fh i1 hd λ σ' δ' q u=>k.nx ((r.grow e1).byUpd u) q
def dSet (i:Nat) (dc:DC):DS:=λ E δ=>dc δ λ r δ'=>E.nx (δ'.set i (slot r))
theorem rs_set {i:Nat} (hc:RfC K te dc):RfS K (tAsg te (gName i)) (dSet i dc):=by
 intro B F H σ δ fps E Z r h k
 refine hc r h λ r2 δ' q v F1 H1 fps1 fpr res=>?_
 obtain ⟨fps2,r3⟩:=res.set i
 exact k.nx r3 q
def dDrop (dc:DC):DS:=λ E δ=>dc δ λ _ δ'=>E.nx δ'
theorem zrm (hc:RfC K te dc):RfS K (tDrop te) (dDrop dc):=by
 intro B F H σ δ fps E Z r h k
 exact hc r h λ r2 δ' q v F1 H1 fps1 fpr res=>k.nx res.rs q
def dRet (dc:DC):DS:=λ E δ=>dc δ E.rt
theorem rs_ret (hc:RfC K te dc):RfS K (tRet te) (dRet dc):=by
 intro B F H σ δ fps E Z r h k
 exact hc r h λ r2 δ' q v F1 H1 fps1 fpr res=>k.rt res q
def dRetO (i:Nat):DS:=λ E δ=>match δ[i]? with
|some (.ow t)=>E.rt t (δ.set i .un)
|some (.sh d)=>E.rt (.fz d) δ
|_=>False
def dDead:DS:=λ _ _=>False
theorem zhn:RfS K t dDead:=λ _ h _=>h.elim
def dIf (dt:DT) (d e:DS):DS:=λ E δ=>dt δ λ b=>if b=true then d E δ else e E δ
theorem rs_if (ht:RfT K tt dt) (h1:RfS K t d) (h2:RfS K u e):RfS K (tIfS tt t u) (dIf dt d e):=by
 intro B F H σ δ fps E Z r h k
 refine ht r.fh r.rv h λ b hb F1 H1 e1=>?_
 cases b with
|true=>rw [if_pos rfl] at hb ⊢;exact h1 (r.grow e1) hb k
|false=>rw [if_neg Bool.false_ne_true] at hb ⊢;exact h2 (r.grow e1) hb k
def dFor (di:DF) (dg:DG) (db:DS):DS:=λ E δ=>di δ λ items=>∃ W:Nat->DSt->Prop,W 0 δ /\
 (∀ i d δ',items[i]?=some d->W i δ'->dg d δ' λ δ2=>db { E with nx:=W (i+1),ct:=W (i+1),bk:=E.nx } δ2)/\∀ δ',W items.length δ'->E.nx δ'
def Bs.rem (B:Bs) (F1:Hp):Bs:=⟨F1,B.H0,B.G⟩
theorem RS.rem {B:Bs} {F H F1:Hp} {σ:L2.St} {δ:DSt} {fps:Nat->List Addr} (r:RS K B F H σ δ fps) (s0:Same B.F0 F1) (s:Same F1 F):RS K (B.rem F1) F H σ δ fps :=
 ⟨r.hh,s,r.fh,λ b hb fb=>r.nw b hb (by
  cases q:B.F0 b with
 |none=>rfl
 |some o=>rw [show (B.rem F1).F0 b=F1 b from rfl,s0 b o q] at fb;cases fb),r.al,r.len,r.sh,r.rt,r.fr,r.dj⟩
theorem RS.unrem {B:Bs} {F H F1:Hp} {σ:L2.St} {δ:DSt} {fps:Nat->List Addr} (r:RS K (B.rem F1) F H σ δ fps) (s0:Same B.F0 F1) (n0:∀ b,B.H0 b≠none->B.F0 b=none->F1 b=none):RS K B F H σ δ fps :=
 ⟨r.hh,s0.trans r.ff,r.fh,λ b hb fb=>r.nw b hb (n0 b hb fb),r.al,r.len,r.sh,r.rt,r.fr,r.dj⟩
theorem rs_for {wi:TI} {di:DF} (hi:RfI K wi di) (hg:RfG K n g dg) (hb:RfS K tb db):RfS K (tFor wi g tb) (dFor di dg db):=by
 intro B F H σ δ fps E Z r h k
 refine hi r.fh r.rv h λ items hx J F1 H1 e1 wj=>?_
 obtain ⟨W,w0,ws,we⟩:=hx
 have r1:=r.grow e1
 have s0:=r1.ff
 have n0:=r1.nw
 refine ⟨λ i m σ' H'=>m=items.length - i/\i<=items.length/\∃ F' δ' fps',RS K (B.rem F1) F' H' σ' δ' fps'/\W i δ',⟨items.length,rfl,Nat.zero_le _,F1,δ,fps,r1.rem s0 (λ _ _ z=>z),w0⟩,?_⟩
 rintro i m σ' H' ⟨rfl,hi',F',δ',fps',r',w'⟩
 obtain ⟨go,stop,yld⟩:=wj F' H' r'.ff r'.fh
 by_cases hlt:i < items.length
 ·refine .inr ⟨go i hlt,λ σ2 H2=>i+1<=items.length/\∃ F2 δ2 fps2,RS K (B.rem F1) F2 H2 σ2 δ2 fps2/\W (i+1) δ2,λ σ2 H2 p=>⟨_,by lia,rfl,p⟩,λ x H2 y=>?_⟩
  have hit:items[i]?=some items[i]:=List.getElem?_eq_getElem hlt
  obtain ⟨F2,ex2,ix2⟩:=yld i x H2 _ hit y
  refine hg ex2.fh ix2 (ws i _ δ' hit w') λ σ2 δ2 hd2 u2=>?_
  refine hb ((r'.grow ex2).byUpd u2) hd2 ⟨λ r3 q=>⟨hlt,_,_,_,r3,q⟩,λ r3 q=>k.nx (r3.unrem s0 n0) q,λ r3 q=>⟨hlt,_,_,_,r3,q⟩,λ res q=>k.rt ⟨res.rs.unrem s0 n0,res.rt,res.nd,res.fr,res.dj⟩ q⟩
 ·have e:i=items.length:=by lia
  subst e
  exact .inl ⟨stop,k.nx (r'.unrem s0 n0) (we _ w')⟩
def mutS (δ:DSt) (i:Nat) (p:Pth) (u:T) (N:DSt->Prop):Prop:=match δ[i]? with
|some (.ow t)=>N (δ.set i (.ow (setP t p u)))
|some (.io a t)=>N (δ.set i (.io a (setP t p u)))
|_=>False
theorem RS.mut {B:Bs} {F H:Hp} {σ:L2.St} {δ:DSt} {fps:Nat->List Addr} {i:Nat} {p:Pth} {v:V} {u u2:T} {N:DSt->Prop} (r:RS K B F H σ δ fps) (ha:AtS H σ δ i p v u) (hm:mutS δ i p u2 N) :
  ∃ fn,Rt K F H v u fn/\fn.Nodup/\(∀ a∈fn,a∈fps i)/\∀ {F2 H2:Hp} {fq:List Addr},
   (∀ b o,b ∉ fn->H b=some o->H2 b=some o)->Same F F2->Same F2 H2->(∀ b,H b≠none->F b=none->b ∉ fn->F2 b=none)->(∀ b,H b≠none->H2 b≠none)->(∀ b∈fn,F2 b≠none->B.H0 b=none) ->
   Rt K F2 H2 v u2 fq->fq.Nodup->(∀ b∈fq,b∈fn \/ NewOk B δ fps b)->∃ δ2 fps2,RS K B F2 H2 σ δ2 fps2/\N δ2/\(∀ j,j≠i->fps2 j=fps j/\δ2[j]?=δ[j]?)/\(∀ b∈fps2 i,b∈fps i \/ b∈fq)/\(∃ s,δ[i]?=some s/\s.own=true):=by
 obtain ⟨s,hi,ho,hN⟩:∃ s,δ[i]?=some s/\s.own=true/\∀ t,s.tree=some t->N (δ.set i (s.wth (setP t p u2))):=by
  unfold mutS at hm
  split at hm
  ·rename_i t q
   exact ⟨_,q,rfl,λ t' e=>by cases e;exact hm⟩
  ·rename_i a t q
   exact ⟨_,q,rfl,λ t' e=>by cases e;exact hm⟩
  ·exact hm.elim
 obtain ⟨fn,t,h1,h2,h3,h4,h5⟩:=r.put hi ho ha
 refine ⟨fn,h2,h3,h4,λ {F2 H2 fq} c1 c2 c3 c4 c5 c6 hu nq mq=>?_⟩
 obtain ⟨fps2,r2,e2⟩:=h5 c1 c2 c3 c4 c5 c6 hu nq mq
 refine ⟨_,fps2,r2,hN t h1,λ j hj=>⟨e2.1 j hj,?_⟩,e2.2,s,hi,ho⟩
 rw [List.getElem?_set_ne (λ z=>hj z.symm)]
theorem RS.one {B:Bs} {F H:Hp} {σ:L2.St} {δ:DSt} {fps:Nat->List Addr} {i:Nat} {p:Pth} {a:Addr} {u u2:T} {o o2:HO} {N:DSt->Prop} (r:RS K B F H σ δ fps) (ha:AtS H σ δ i p (.ref a) u) (hm:mutS δ i p u2 N) (ho:H a=some o)
  (hu:∀ fn,Rt K F H (.ref a) u fn->fn=[a]) (h2:F a=none->Rt K F (upd H a o2) (.ref a) u2 [a]):∃ δ2 fps2,RS K B F (upd H a o2) σ δ2 fps2/\N δ2/\(∀ j,j≠i->fps2 j=fps j/\δ2[j]?=δ[j]?):=by
 obtain ⟨fn,hr,nd,sub,back⟩:=r.mut ha hm
 have e:=hu fn hr
 subst e
 have fa:F a=none:=(hr.dom a (by simp)).2
 obtain ⟨δ2,fps2,g1,g2,g3,_⟩:=back (F2:=F) (H2:=upd H a o2) (fq:=[a]) (λ b o' hb ho'=>by rw [upd_ne (λ z=>hb (by simp [z]))];exact ho') (λ _ _ z=>z) (λ b o' z=>by
   have:b≠a:=λ w=>by subst w;rw [fa] at z;cases z
   rw [upd_ne this];exact r.fh b o' z) (λ b _ fb _=>fb) (λ b hb=>by
   by_cases z:b=a
   ·rw [z,zg0];simp
   ·rw [upd_ne z];exact hb) (λ b hb f=>by simp at hb;subst hb;exact absurd fa f) (h2 fa) (by simp) (λ b hb=>.inl hb)
 exact ⟨δ2,fps2,g1,g2,g3⟩
abbrev FM:=T->List D->(T->D->Prop)->Prop
def MO (K:Fg) (r:V->List V->Hp->VK->Prop) (f:FM):Prop:=∀ {F H:Hp} {v:V} {u:T} {fn:List Addr} {vs:List V} {ds:List D} {Kd:T->D->Prop} {Q:VK},Same F H->Rt K F H v u fn->IsAll K F vs ds->f u ds Kd ->
 ∃ u2 d y o o2 a,Kd u2 d/\v=.ref a/\fn=[a]/\H a=some o/\Is K F y d/\Rt K F (upd H a o2) (.ref a) u2 [a]/\(Q y (upd H a o2)->r v vs H Q)
def tyN (T:String):L4.T->Prop
|.li _=>T = "list"
|.ls _=>T = "list"
|.dk _=>T = "dict"
|.dt _=>T = "dict"
|_=>False
theorem ty_of {F H:Hp} {T:String} {v:V} {u:L4.T} {fn:List Addr} (h:Rt K F H v u fn) (k:tyN T u):tyV K T v H:=by
 cases h with
|fz _=>exact k.elim
|li h1 _ _=>exact .inl ⟨k,_,SqL.of h1⟩
|ls h1 _ _=>exact .inl ⟨k,_,SqL.of h1⟩
|ob _ _ _ _ _=>exact k.elim
|dk h1 _ _=>exact .inr (.inr (.inl ⟨k,.inl ⟨_,h1⟩⟩))
|dt h1 _ _=>exact .inr (.inr (.inl ⟨k,.inr ⟨_,h1⟩⟩))
theorem node1 {F H:Hp} {v:V} {u:T} {fn:List Addr} {r:V->List V->Hp->VK->Prop} {f:FM} (hm:MO K r f) {vs:List V} {ds:List D} {Kd:T->D->Prop} {B:Bs} {σ:L2.St} {δ:DSt} {fps:Nat->List Addr} {i:Nat} {p:Pth} {Qd:T->DSt->Prop} {Q:VK}
  (rs:RS K B F H σ δ fps) (ha:AtS H σ δ i p v u) (hv:IsAll K F vs ds) (hf:f u ds λ u2 d=>mutS δ i p u2 λ δ'=>Qd (.fz d) δ')
  (k:∀ r δ',Qd r δ'->∀ v F' H' fps' fpr,Res K B F' H' σ δ' fps' v r fpr->Q v H'):r v vs H Q:=by
 obtain ⟨fn,hr⟩:=ha.rt rs.rv
 obtain ⟨u2,d,y,o,o2,a,kd,rfl,e2,h3,h4,h5,h6⟩:=hm (Q:=Q) rs.fh hr hv hf
 refine h6 ?_
 obtain ⟨δ2,fps2,r2,q2,_⟩:=rs.one ha kd h3 (λ fn' hr'=>by
  obtain ⟨_,_,_,_,_,a',_,e1,e2',_⟩:=hm (Q:=Q) rs.fh hr' hv hf
  cases e1;exact e2') (λ _=>h5)
 exact k _ _ q2 _ _ _ fps2 [] ⟨r2,.fz h4,.nil,λ a ha=>by simp at ha,λ _ _ _ _ a _ ha=>by simp at ha⟩
def cBM (ty:String) (f:FM) (dp:DP) (dA:DF):DC:=λ δ Q=>dp δ λ i p u=>tyN ty u/\dA δ λ ds=>f u ds λ u2 d=>mutS δ i p u2 λ δ'=>Q (.fz d) δ'
theorem rc_bm {T:String} {r:V->List V->Hp->VK->Prop} {f:FM} (hm:MO K r f) (hp:RfP K te dp) (hA:RfA K tA dA):RfC K (tBMU K T r te tA) (cBM T f dp dA):=by
 intro B F H σ δ fps Qd Q rs hd k
 refine hp rs.fh rs.rv hd λ i p u hu v F1 H1 e1 at1=>?_
 have r1:=rs.grow e1
 obtain ⟨fn,hr⟩:=at1.rt r1.rv
 refine ⟨ty_of hr hu.1,hA e1.fh r1.rv hu.2 λ ds hds vs F2 H2 e2 i2=>?_⟩
 exact node1 hm (fn:=fn) (Kd:=λ _ _=>True) (r1.grow e2) (at1.mono e2.h) i2 hds k
def mApp:FM:=λ u ds N=>match u,ds with
|.li xs,[d]=>xs.length < sizeLine/\N (.li (xs++[d])) .none
|_,_=>False
theorem mo_app:MO K zpn mApp:=by
 intro F H v u fn vs ds Kd Q s hr hv hf
 unfold mApp at hf
 split at hf
 ·obtain ⟨y,rfl,iy⟩:=all1 hv
  cases hr with
 |li h1 h2 h3 =>
   have el:=h3.dlen
   exact ⟨_,_,.non,_,.lst (_++[y]),_,hf.2,rfl,rfl,h1,.non,.li zg0 h2 (h3.dapp (.cons iy .nil)),λ q=>⟨_,_,y,rfl,rfl,h1,by lia,q⟩⟩
 ·exact hf.elim
end
section
variable {K:Fg} {te ta ti tv:TE} {de da di dk:DE} {dc:DC} {tt:TT} {dt:DT} {t u tb:TS} {d e db:DS} {tA:TA} {dA:DF} {g:TG} {dg:DG} {n:Nat} {dp:DP} {w:World}
def keyD:D->Option Key
|.int i=>some (.inl i)
|.str x=>some (.inr x)
|_=>none
theorem key_is {F:Hp} {v:V} {d:D} {k:Key} (h:Is K F v d) (e:keyD d=some k):v=kV k:=by
 cases h <;> simp [keyD] at e <;> subst e <;> rfl
def keysOf:List D->Option (List Key)
|[]=>some []
|d :: ds=>match keyD d,keysOf ds with
 |some k,some ks=>some (k :: ks)
 |_,_=>none
def keyT:D->Option (List Key)
|.tuple ds=>keysOf ds
|_=>none
theorem zp9 {F:Hp}:∀ {xs:List V} {ds:List D} {k:List Key},IsAll K F xs ds->keysOf ds=some k->xs=k.map kV/\ds.all keyish=true
|_,_,_,.nil,e=>by simp [keysOf] at e;subst e;exact ⟨rfl,rfl⟩
|_,_,_,.cons (d:=d) h r,e=>by
  unfold keysOf at e
  split at e
  ·rename_i k ks h1 h2
   cases e
   obtain ⟨e1,e2⟩:=zp9 r h2
   have:=key_is h h1
   rw [List.map_cons,this,e1,List.all_cons,e2]
   refine ⟨rfl,?_⟩
   cases d <;> simp [keyD] at h1 <;> rfl
  ·cases e
theorem zah {F:Hp} {v:V} {d:D} {k:List Key} (h:Is K F v d) (e:keyT d=some k):∃ b,v=.ref b/\F b=some (.tup (k.map kV)):=by
 cases h with
|tup h1 h2 =>
  obtain ⟨e1,_⟩:=zp9 h2 e
  subst e1
  exact ⟨_,rfl,h1⟩
|tuc h1 h2 h3 =>
  obtain ⟨_,e2⟩:=zp9 h2 e
  rw [e2] at h3;cases h3
|_=>simp [keyT] at e
def getA {κ:Type} [DecidableEq κ] (kvs:List (κ×D)) (k:κ):Option D:=(kvs.find? λ kv=>decide (kv.1=k)).map (·.2)
def putD {κ:Type} [DecidableEq κ] (kvs:List (κ×D)) (k:κ) (d:D):List (κ×D) :=
 if (kvs.any λ kv=>decide (kv.1=k))=true then kvs.map (λ kv=>if kv.1=k then (kv.1,d) else kv) else kvs++[(k,d)]
theorem KvIs.len {F:Hp} {κ:Type}:∀ {r:List (κ×V)} {s:List (κ×D)},KvIs K F r s->r.length=s.length
|_,_,.nil=>rfl
|_,_,.cons _ r=>congrArg (·+1) (KvIs.len r)
theorem KvIs.get {F:Hp} {κ:Type} [DecidableEq κ] {k:κ}:∀ {r:List (κ×V)} {s:List (κ×D)},KvIs K F r s->(getA s k=none/\valV r k=none) \/ ∃ d v,getA s k=some d/\valV r k=some v/\Is K F v d
|_,_,.nil=>.inl ⟨rfl,rfl⟩
|_,_,.cons (k:=k') (v:=v) (d:=d) h r=>by
  by_cases e:k'=k
  ·exact .inr ⟨d,v,by simp [getA,e],by simp [valV,e],h⟩
  ·rcases KvIs.get (k:=k) r with ⟨h1,h2⟩|⟨d',v',h1,h2,h3⟩
   ·exact .inl ⟨by simp [getA,e];simpa [getA] using h1,by simp [valV,e];simpa [valV] using h2⟩
   ·refine .inr ⟨d',v',?_,?_,h3⟩
    ·simp [getA,e];simpa [getA] using h1
    ·simp [valV,e];simpa [valV] using h2
theorem KvIs.any {F:Hp} {κ:Type} [DecidableEq κ] {k:κ}:∀ {r:List (κ×V)} {s:List (κ×D)},KvIs K F r s->(r.any λ kv=>decide (kv.1=k))=(s.any λ kv=>decide (kv.1=k))
|_,_,.nil=>rfl
|_,_,.cons _ r=>by rw [List.any_cons,List.any_cons,KvIs.any r]
theorem KvIs.app {F:Hp} {κ:Type}:∀ {r r':List (κ×V)} {s s':List (κ×D)},KvIs K F r s->KvIs K F r' s'->KvIs K F (r++r') (s++s')
|_,_,_,_,.nil,h=>h
|_,_,_,_,.cons h r,h'=>.cons h (r.app h')
theorem KvIs.map {F:Hp} {κ:Type} [DecidableEq κ] {k:κ} {v:V} {d:D} (hv:Is K F v d):∀ {r:List (κ×V)} {s:List (κ×D)},KvIs K F r s->KvIs K F (r.map λ kv=>if kv.1=k then (kv.1,v) else kv) (s.map λ kv=>if kv.1=k then (kv.1,d) else kv)
|_,_,.nil=>.nil
|_,_,.cons (k:=k') h r=>by
  by_cases e:k'=k
  ·simp only [List.map_cons,e,if_true];exact .cons hv (r.map hv)
  ·simp only [List.map_cons,e,if_false];exact .cons h (r.map hv)
theorem KvIs.put {F:Hp} {κ:Type} [DecidableEq κ] {k:κ} {v:V} {d:D} (hv:Is K F v d) {r:List (κ×V)} {s:List (κ×D)} (h:KvIs K F r s):KvIs K F (putK r k v) (putD s k d):=by
 unfold putK putD
 rw [h.any]
 split
 ·exact h.map hv
 ·exact h.app (.cons hv .nil)
def fPut (u:T) (k d:D) (N:T->Prop):Prop:=match u with
|.li ds=>match k with
 |.int z=>∃ j,ixN ds.length z=some j/\N (.li (ds.set j d))
 |_=>False
|.dk kvs=>∃ key,keyD k=some key/\kvs.length < sizeLine/\N (.dk (putD kvs key d))
|.dt kvs=>∃ key,keyT k=some key/\kvs.length < sizeLine/\N (.dt (putD kvs key d))
|_=>False
theorem put_ok {B:Bs} {F H:Hp} {σ:L2.St} {δ:DSt} {fps:Nat->List Addr} {i:Nat} {p:Pth} {v kv y:V} {u:T} {k d:D} {N:DSt->Prop} {Q:Hp->Prop} (rs:RS K B F H σ δ fps) (ha:AtS H σ δ i p v u) (hk:Is K F kv k) (hy:Is K F y d)
  (hf:fPut u k d λ u2=>mutS δ i p u2 N) (q:∀ δ2 fps2 H2,RS K B F H2 σ δ2 fps2->N δ2->Q H2):rSetV v kv y H Q:=by
 obtain ⟨fn,hr⟩:=ha.rt rs.rv
 cases hr with
|li h1 h2 h3 =>
  simp only [fPut] at hf
  split at hf
  ·rename_i z
   obtain ⟨j,ej,hm⟩:=hf
   cases hk.int_inv
   have el:=h3.dlen
   obtain ⟨δ2,fps2,r2,n2,_⟩:=rs.one (o2:=.lst (_)) ha hm h1 (λ fn' hr'=>by cases hr';rfl) (λ fa=>.li zg0 fa (h3.dset hy j))
   exact .inl ⟨_,_,z,j,rfl,rfl,h1,by rw [el];exact ej,q _ _ _ r2 n2⟩
  ·exact hf.elim
|dk h1 h2 h3 =>
  simp only [fPut] at hf
  obtain ⟨key,ek,hl,hm⟩:=hf
  have:=key_is hk ek
  subst this
  have el:=h3.len
  obtain ⟨δ2,fps2,r2,n2,_⟩:=rs.one (o2:=.dK _) ha hm h1 (λ fn' hr'=>by cases hr';rfl) (λ fa=>.dk zg0 fa (h3.put (k:=key) hy))
  exact .inr ⟨_,_,rfl,DPut.k h1 (by lia),q _ _ _ r2 n2⟩
|fz _=>exact hf.elim
|ls _ _ _=>exact hf.elim
|ob _ _ _ _ _=>exact hf.elim
|dt h1 h2 h3 =>
  simp only [fPut] at hf
  obtain ⟨key,ek,hl,hm⟩:=hf
  obtain ⟨kb,rfl,hb⟩:=zah hk ek
  have el:=h3.len
  obtain ⟨δ2,fps2,r2,n2,_⟩:=rs.one (o2:=.dT _) ha hm h1 (λ fn' hr'=>by cases hr';rfl) (λ fa=>.dt zg0 fa (h3.put (k:=key) hy))
  exact .inr ⟨_,_,rfl,DPut.t h1 (rs.fh _ _ hb) (by lia),q _ _ _ r2 n2⟩
def dPut (dp:DP) (dk de:DE):DS:=λ E δ=>de δ λ d=>dp δ λ i p u=>dk δ λ k=>fPut u k d λ u2=>mutS δ i p u2 E.nx
theorem rs_put (he:RfE K te de) (hp:RfP K ta dp) (hk:RfE K ti dk):RfS K (tAsg te (gSub ta ti rSetV)) (dPut dp dk de):=by
 intro B F H σ δ fps E Z r h k
 refine he r.fh r.rv h λ d hd y F1 H1 e1 i1=>?_
 have r1:=r.grow e1
 refine hp r1.fh r1.rv hd λ i p u hu v F2 H2 e2 at2=>?_
 have r2:=r1.grow e2
 refine hk r2.fh r2.rv hu λ kd hkd kv F3 H3 e3 i3=>?_
 exact put_ok (r2.grow e3) (at2.mono e3.h) i3 (i1.mono (e2.f.trans e3.f)) hkd λ δ2 fps2 H4 r4 n4=>k.nx r4 n4
def fGet (u:T) (k:D) (Q:D->Prop):Prop:=match u with
|.li ds=>match k with
 |.int z=>0<=z/\∃ d,ds[z.toNat]?=some d/\Q d
 |_=>False
|.dk kvs=>∃ key d,keyD k=some key/\getA kvs key=some d/\Q d
|.dt kvs=>∃ key d,keyT k=some key/\getA kvs key=some d/\Q d
|_=>False
theorem get_ok {F H:Hp} {v kv:V} {u:T} {fn:List Addr} {k:D} {Qd:D->Prop} {Q:VK} (s:Same F H) (hr:Rt K F H v u fn) (hk:Is K F kv k) (hf:fGet u k Qd) (q:∀ d y,Qd d->Is K F y d->Q y H):rGetV K v kv H Q:=by
 cases hr with
|li h1 h2 h3 =>
  simp only [fGet] at hf
  split at hf
  ·rename_i z
   obtain ⟨z0,d,ed,qd⟩:=hf
   cases hk.int_inv
   obtain ⟨y,hy,iy⟩:=h3.dget ed
   exact .inl ⟨_,_,z,y,rfl,rfl,z0,SqL.of h1,hy,q d y qd iy⟩
  ·exact hf.elim
|dk h1 h2 h3 =>
  simp only [fGet] at hf
  obtain ⟨key,d,ek,ed,qd⟩:=hf
  have:=key_is hk ek
  subst this
  rcases h3.get (k:=key) with ⟨g1,_⟩|⟨d',y,g1,g2,g3⟩
  ·rw [g1] at ed;cases ed
  ·rw [g1] at ed;cases ed
   exact .inr ⟨_,y,rfl,by rw [<- g2];exact DGet.k h1,q d y qd g3⟩
|fz _=>exact hf.elim
|ls _ _ _=>exact hf.elim
|ob _ _ _ _ _=>exact hf.elim
|dt h1 h2 h3 =>
  simp only [fGet] at hf
  obtain ⟨key,d,ek,ed,qd⟩:=hf
  obtain ⟨kb,rfl,hb⟩:=zah hk ek
  rcases h3.get (k:=key) with ⟨g1,_⟩|⟨d',y,g1,g2,g3⟩
  ·rw [g1] at ed;cases ed
  ·rw [g1] at ed;cases ed
   exact .inr ⟨_,y,rfl,by rw [<- g2];exact DGet.t h1 (s _ _ hb),q d y qd g3⟩
def fII (f:Int->Int->Int) (x y:D) (Q:D->Prop):Prop:=match x,y with
|.int i,.int j=>Q (.int (f i j))
|_,_=>False
def dAugS (f:Int->Int->Int) (dp:DP) (dk de:DE):DS:=λ E δ=>dp δ λ i p u=>dk δ λ k=>fGet u k λ x=>de δ λ y=>fII f x y λ z=>fPut u k z λ u2=>mutS δ i p u2 E.nx
theorem zyn {f:Int->Int->Int} (hp:RfP K ta dp) (hk:RfE K ti dk) (he:RfE K te de):RfS K (tAugS ta ti te (rGetV K) (ipI f) rSetV) (dAugS f dp dk de):=by
 intro B F H σ δ fps E Z r h k
 refine hp r.fh r.rv h λ i p u hu v F1 H1 e1 at1=>?_
 have r1:=r.grow e1
 refine hk r1.fh r1.rv hu λ kd hkd kv F2 H2 e2 i2=>?_
 have r2:=r1.grow e2
 have at2:=at1.mono e2.h
 obtain ⟨fn,hr⟩:=at2.rt r2.rv
 refine get_ok r2.fh hr i2 hkd λ x xv hx ix=>he r2.fh r2.rv hx λ y hy yv F3 H3 e3 i3=>?_
 unfold fII at hy
 split at hy
 ·cases ix.int_inv
  cases i3.int_inv
  refine ⟨_,_,rfl,rfl,?_⟩
  exact put_ok (r2.grow e3) (at2.mono e3.h) (i2.mono e3.f) (.int _) hy λ δ2 fps2 H4 r4 n4=>k.nx r4 n4
 ·exact hy.elim
end
section
variable {K:Fg} {te ta ti tv:TE} {de da di dk:DE} {dc:DC} {tt:TT} {dt:DT} {t u tb:TS} {d e db:DS} {tA:TA} {dA:DF} {g:TG} {dg:DG} {n:Nat} {dp:DP} {w:World}
theorem zxm {F H:Hp} {p:Addr} {o:HO} (s:Same F H) (hn:H p=none):Ext F H F (upd H p o) :=
 ⟨zt1 hn _,λ _ _ z=>z,λ b o z=>zt1 hn _ b o (s b o z),λ _ _ z=>z⟩
def cDK:DC:=λ δ Q=>Q (.dk []) δ
theorem rc_dk:RfC K tDNewK cDK:=by
 intro B F H σ δ fps Qd Q r hd k
 intro p hp
 have fn:F p=none:=by
  cases e:F p with
 |none=>rfl
 |some o=>rw [r.fh p o e] at hp;cases hp
 refine k _ _ hd (.ref p) F _ fps [p] ⟨r.grow (zxm r.fh hp),.dk zg0 fn .nil,by simp,λ b hb=>?_,λ j s ej hs b hb hb2=>?_⟩
 ·simp at hb;subst hb
  by_cases z:B.H0 b=none
  ·exact z
  ·exact absurd hp (r.al b z)
 ·simp at hb2;subst hb2
  obtain ⟨x,t,a1,a2,a3,a4,a5⟩:=r.rt j s ej hs
  exact (a3.dom b hb).1 hp
def cDT:DC:=λ δ Q=>Q (.dt []) δ
theorem rc_dt:RfC K tDNewT cDT:=by
 intro B F H σ δ fps Qd Q r hd k
 intro p hp
 have fn:F p=none:=by
  cases e:F p with
 |none=>rfl
 |some o=>rw [r.fh p o e] at hp;cases hp
 refine k _ _ hd (.ref p) F _ fps [p] ⟨r.grow (zxm r.fh hp),.dt zg0 fn .nil,by simp,λ b hb=>?_,λ j s ej hs b hb hb2=>?_⟩
 ·simp at hb;subst hb
  by_cases z:B.H0 b=none
  ·exact z
  ·exact absurd hp (r.al b z)
 ·simp at hb2;subst hb2
  obtain ⟨x,t,a1,a2,a3,a4,a5⟩:=r.rt j s ej hs
  exact (a3.dom b hb).1 hp
abbrev DN:=DSt->(T->Prop)->Prop
def RfN (K:Fg) (te:TE) (dn:DN):Prop:=∀ {F H:Hp} {σ:L2.St} {δ:DSt} {Qd:T->Prop} {Q:VK},Same F H->RV K F H σ δ->dn δ Qd->(∀ r,Qd r->∀ v F' H' fp,Ext F H F' H'->Rt K F' H' v r fp->fp.Nodup->(∀ a∈fp,H a=none)->Q v H')->te σ H Q
def cN (dn:DN):DC:=λ δ Q=>dn δ λ r=>Q r δ
theorem RfN.c {dn:DN} (h:RfN K te dn):RfC K te (cN dn):=by
 intro B F H σ δ fps Qd Q r hd k
 refine h r.fh r.rv hd λ r2 q v F1 H1 fp e1 hr nd fr=>k _ _ q v F1 H1 fps fp ⟨r.grow e1,hr,nd,λ a ha=>?_,λ j s ej hs b hb hb2=>?_⟩
 ·by_cases z:B.H0 a=none
  ·exact z
  ·exact absurd (fr a ha) (r.al a z)
 ·obtain ⟨x,t,a1,a2,a3,a4,a5⟩:=r.rt j s ej hs
  exact (a3.dom b hb).1 (fr b hb2)
theorem RtAll.app {F H:Hp}:∀ {xs ys:List V} {ts us:List T} {fp fq:List Addr},RtAll K F H xs ts fp->RtAll K F H ys us fq->RtAll K F H (xs++ys) (ts++us) (fp++fq)
|_,_,_,_,_,_,.nil,h=>h
|_,_,_,_,_,_,.cons h r,h'=>by rw [List.append_assoc];exact .cons h (r.app h')
def nComp (di:DF) (n:Nat) (ix:List Nat) (dg:DG) (dn:DN):DN:=λ δ Q=>di δ λ items=>items.length<=sizeLine/\∃ R:Nat->T->Prop,
 (∀ i d,items[i]?=some d->dg d (cST n ix δ) λ δ'=>dn δ' λ r=>R i r)/\∀ rs:List T,rs.length=items.length->(∀ (j:Nat) r,rs[j]?=some r->R j r)->Q (.ls rs)
theorem zir {wi:TI} {di:DF} {ix:List Nat} {dn:DN} (hi:RfJ K wi di) (hg:RfG K n g dg) (he:RfN K te dn):RfN K (tComp wi n ix g tTrue te) (nComp di n ix dg dn):=by
 intro F H σ δ Qd Q s rv hd k
 refine hi s rv hd λ items hx J F1 H1 e1 wj D hD=>?_
 obtain ⟨hz,R,hR,hQ⟩:=hx
 have rv1:=cST_rv n ix (rv.ext e1)
 have F1D:F1 D=none:=by
  cases q:F1 D with
 |none=>rfl
 |some o=>rw [e1.fh D o q] at hD;cases hD
 refine ⟨λ i m acc σ' H'=>m=items.length - i/\i<=items.length/\σ'.length=(compσ n ix σ).length/\(∀ j,n<=j->σ'.getD j none=(compσ n ix σ).getD j none)/\∃ (F':Hp) (rs:List T) (fpA:List Addr),Ext F1 H1 F' H'/\F' D=none/\H' D=some (.lst acc)/\rs.length=i/\(∀ (j:Nat) r,rs[j]?=some r->R j r)/\RtAll K F' H' acc rs fpA/\fpA.Nodup/\(∀ a∈fpA,H1 a=none/\a≠D),
  ⟨items.length,rfl,Nat.zero_le _,rfl,λ _ _=>rfl,F1,[],[],?_,F1D,zg0,rfl,λ j o e=>by simp at e,.nil,.nil,λ a ha=>by simp at ha⟩,?_⟩
 ·exact (zm5 (xs:=[]) e1.fh hD).1
 rintro i m acc σ' H' ⟨rfl,hi',hl,hk,F',rs,fpA,ex,fD,hDD,hrs,hRs,hall,ndA,frA⟩
 obtain ⟨go,stop,yld⟩:=wj F' H' ex
 by_cases hlt:i < items.length
 ·refine .inr ⟨go i hlt,λ acc' σ2 H2=>i+1<=items.length/\σ2.length=(compσ n ix σ).length/\(∀ j,n<=j->σ2.getD j none=(compσ n ix σ).getD j none)/\∃ (F':Hp) (rs:List T) (fpA:List Addr),Ext F1 H1 F' H2/\F' D=none/\H2 D=some (.lst acc')/\rs.length=i+1/\(∀ (j:Nat) r,rs[j]?=some r->R j r)/\RtAll K F' H2 acc' rs fpA/\fpA.Nodup/\(∀ a∈fpA,H1 a=none/\a≠D),λ acc' σ2 H2 p=>⟨items.length - (i+1),by lia,rfl,p⟩,λ x H2 y=>?_⟩
  have hit:items[i]?=some items[i]:=List.getElem?_eq_getElem hlt
  obtain ⟨F2,ex2,ix2⟩:=yld i x H2 _ hit y
  have rv2:RV K F2 H2 σ' (cST n ix δ):=RV.caps (rv1.ext (ex.trans ex2)) hl hk
  refine hg ex2.fh ix2 (hR i _ hit) λ σ2 δ2 hd2 u2=>?_
  have rv3:=u2.rv rv2
  have kp:=u2.keep
  have hl2:σ2.length=(compσ n ix σ).length:=by rw [kp.1,hl]
  have hk2:∀ j,n<=j->σ2.getD j none=(compσ n ix σ).getD j none:=λ j hj=>by rw [kp.2 j hj,hk j hj]
  show te σ2 H2 _
  refine he ex2.fh rv3 hd2 λ r hr v F5 H5 fp e5 i5 nd5 fr5=>?_
  have e25:=ex2.trans e5
  have hD2:H2 D=some (.lst acc):=ex2.h _ _ hDD
  have hD5:H5 D=some (.lst acc):=e25.h _ _ hDD
  have fD5:F5 D=none:=e25.nw D (by rw [hDD];simp) fD
  have hlen:acc.length<=i:=by rw [hall.len,hrs];exact Nat.le_refl _
  have e15:=ex.trans e25
  have hall5:RtAll K F5 H5 acc rs fpA:=hall.frame e25.f λ a ha=>by
   obtain ⟨d1,d2⟩:=hall.dom a ha
   cases q:H' a with
  |none=>exact absurd q d1
  |some o=>exact ⟨e25.h a o q,e25.nw a d1 d2⟩
  have frN:∀ a∈fp,H1 a=none/\a≠D:=λ a ha=>⟨zj1 (ex.trans ex2) (fr5 a ha),λ z=>by subst z;rw [fr5 a ha] at hD2;cases hD2⟩
  refine ⟨hD5,by lia,hlt,hl2,hk2,F5,rs++[r],fpA++fp,⟨λ b o hb=>?_,e15.f,λ b o hb=>?_,e15.nw⟩,fD5,zg0,by simp [hrs],λ j r' e=>?_,?_,?_,λ a ha=>?_⟩
  ·have:b≠D:=λ z=>by subst z;rw [hD] at hb;cases hb
   rw [upd_ne this];exact e15.h b o hb
  ·have:b≠D:=λ z=>by subst z;rw [fD5] at hb;cases hb
   rw [upd_ne this];exact e15.fh b o hb
  ·rcases Nat.lt_trichotomy j rs.length with h|h|h
   ·rw [List.getElem?_append_left h] at e;exact hRs j r' e
   ·subst h;rw [List.getElem?_append_right (Nat.le_refl _)] at e;simp at e;subst e;rw [hrs];exact hr
   ·rw [List.getElem?_append_right (Nat.le_of_lt h)] at e
    cases q:j - rs.length with
   |zero=>lia
   |succ z=>rw [q] at e;simp at e
  ·have z1:RtAll K F5 (upd H5 D (.lst (acc++[v]))) acc rs fpA:=hall5.frame (λ _ _ z=>z) λ a ha=>⟨upd_ne (frA a ha).2,(hall5.dom a ha).2⟩
   have z2:Rt K F5 (upd H5 D (.lst (acc++[v]))) v r fp:=i5.frame (λ _ _ z=>z) λ a ha=>⟨upd_ne (frN a ha).2,(i5.dom a ha).2⟩
   have:=z1.app (RtAll.cons z2 .nil)
   rwa [List.append_nil] at this
  ·refine List.nodup_append.mpr ⟨ndA,nd5,λ a ha b hb z=>?_⟩
   subst z
   have:=(hall.dom a ha).1
   exact this (zj1 ex2 (fr5 a hb))
  ·rcases List.mem_append.mp ha with z|z
   ·exact frA a z
   ·exact frN a z
 ·have e:i=items.length:=by lia
  refine .inl ⟨by rw [e];exact stop,k _ (hQ rs (by lia) hRs) (.ref D) F' H' (D :: fpA) (e1.trans ex) (.ls hDD fD hall) (List.nodup_cons.mpr ⟨λ z=>(frA D z).2 rfl,ndA⟩) λ a ha=>?_⟩
  rcases List.mem_cons.mp ha with z|z
  ·rw [z];exact zj1 e1 hD
  ·exact zj1 e1 (frA a z).1
end
section
variable {K:Fg} {te ta ti tv:TE} {de da di dk:DE} {dc:DC} {tt:TT} {dt:DT} {t u tb:TS} {d e db:DS} {tA:TA} {dA:DF} {g:TG} {dg:DG} {n:Nat} {dp:DP} {w:World}
def nSet (f:Str) (u r:T) (N:T->Prop):Prop:=match u with
|.ob C fs=>fs.length < 1000/\N (.ob C (putA f r fs))
|_=>False
theorem Res.grow {B:Bs} {F H F' H':Hp} {σ:L2.St} {δ:DSt} {fps:Nat->List Addr} {v:V} {r:T} {fpr:List Addr} (h:Res K B F H σ δ fps v r fpr) (e:Ext F H F' H'):Res K B F' H' σ δ fps v r fpr :=
 ⟨h.rs.grow e,h.rt.ext e,h.nd,h.fr,h.dj⟩
theorem fld_ok {B:Bs} {F H:Hp} {σ:L2.St} {δ:DSt} {fps:Nat->List Addr} {y:V} {r:T} {fpr:List Addr} {i:Nat} {p:Pth} {a C dx:Addr} {fs:List (Str×V)} {ts:List (Str×T)} {f:Str} {N:DSt->Prop}
  (res:Res K B F H σ δ fps y r fpr) (ha:AtS H σ δ i p (.ref a) (.ob C ts)) (hH:H a=some (.ins C dx fs)) (hm:mutS δ i p (.ob C (putA f r ts)) N):∃ δ2 fps2,RS K B F (upd H a (.ins C dx (putF f y fs))) σ δ2 fps2/\N δ2:=by
 obtain ⟨fn,hr,nd,sub,back⟩:=res.rs.mut ha hm
 obtain ⟨s,hs,ho⟩:∃ s,δ[i]?=some s/\s.own=true:=by
  unfold mutS at hm
  split at hm
  ·rename_i t q;exact ⟨_,q,rfl⟩
  ·rename_i a t q;exact ⟨_,q,rfl⟩
  ·exact hm.elim
 have dis:∀ b∈fn,b ∉ fpr:=λ b hb=>res.dj i s hs (zm4 ho) b (sub b hb)
 cases hr with
|ob g1 g2 g3 g4 g5 =>
  rename_i dx' fs' fp
  rw [hH] at g1;cases g1
  have nd1:=List.nodup_cons.mp nd
  have nd2:=List.nodup_cons.mp nd1.2
  have na:a ∉ fp:=λ z=>nd1.1 (List.mem_cons_of_mem _ z)
  have nx:dx≠a:=λ z=>nd1.1 (by rw [z];simp)
  have nxf:dx ∉ fp:=nd2.1
  have dp':∀ b∈fp,b ∉ fpr:=λ b hb=>dis b (by simp [hb])
  have ra:a ∉ fpr:=dis a (by simp)
  have rx:dx ∉ fpr:=dis dx (by simp)
  have hy:Rt K F (upd H a (.ins C dx (putF f y fs))) y r fpr:=res.rt.frame (λ _ _ z=>z) λ b hb=>⟨upd_ne λ z=>by subst z;exact ra hb,(res.rt.dom b hb).2⟩
  have fr0:∀ b∈fp,upd H a (.ins C dx (putF f y fs)) b=H b/\F b=none:=λ b hb=>⟨upd_ne λ z=>by subst z;exact na hb,(g5.dom b hb).2⟩
  obtain ⟨fq,hq,ndq,mq⟩:∃ fq,RtFs K F (upd H a (.ins C dx (putF f y fs))) (putF f y fs) (putA f r ts) fq/\fq.Nodup/\∀ b∈fq,b∈fp \/ b∈fpr:=by
   cases q:ts.lookup f with
  |none =>
    refine ⟨fp++fpr,RtFs.add (λ _ _ z=>z) hy g5 q fr0,List.nodup_append.mpr ⟨nd2.2,res.nd,λ b hb c hc z=>?_⟩,λ b hb=>List.mem_append.mp hb⟩
    subst z;exact dp' b hb hc
  |some t0 =>
    obtain ⟨x0,ex⟩:=(g5.keys f).2.1 t0 q
    obtain ⟨fA,fj,fB,e,hj,_,rep⟩:=g5.split ex q
    subst e
    obtain ⟨ndA,ndJB,djA⟩:=List.nodup_append.mp nd2.2
    obtain ⟨ndj,ndB,djB⟩:=List.nodup_append.mp ndJB
    refine ⟨fA++(fpr++fB),rep (λ _ _ z=>z) (λ b hb=>fr0 b (by rcases List.mem_append.mp hb with z|z <;> simp [z])) hy,List.nodup_append.mpr ⟨ndA,List.nodup_append.mpr ⟨res.nd,ndB,λ b hb c hc z=>?_⟩,λ b hb c hc z=>?_⟩,λ b hb=>?_⟩
    ·subst z;exact dp' b (by simp [hc]) hb
    ·subst z
     rcases List.mem_append.mp hc with z|z
     ·exact dp' b (by simp [hb]) z
     ·exact djA b hb b (by simp [z]) rfl
    ·rcases List.mem_append.mp hb with z|z
     ·exact .inl (by simp [z])
     ·rcases List.mem_append.mp z with z|z
      ·exact .inr z
      ·exact .inl (by simp [z])
  obtain ⟨δ2,fps2,r2,n2,_⟩:=back (F2:=F) (H2:=upd H a (.ins C dx (putF f y fs))) (fq:=a :: dx :: fq) (λ b o hb hbo=>by rw [upd_ne (λ z=>hb (by simp [z]))];exact hbo) (λ _ _ z=>z) (λ b o z=>by
    have:b≠a:=λ q=>by subst q;rw [g3] at z;cases z
    rw [upd_ne this];exact res.rs.fh b o z) (λ b _ fb _=>fb) (λ b hb=>by
    by_cases z:b=a
    ·rw [z,zg0];simp
    ·rw [upd_ne z];exact hb) (λ b hb hf=>by
    have:F b=none:=by
     rcases List.mem_cons.mp hb with z|z
     ·rw [z];exact g3
     ·rcases List.mem_cons.mp z with z|z
      ·rw [z];exact g4
      ·exact (g5.dom b z).2
    exact absurd this hf) (.ob zg0 (by rw [upd_ne nx];exact g2) g3 g4 hq) (List.nodup_cons.mpr ⟨λ z=>by
    rcases List.mem_cons.mp z with y|y
    ·exact nx y.symm
    ·rcases mq a y with y|y
     ·exact na y
     ·exact ra y,List.nodup_cons.mpr ⟨λ z=>by
    rcases mq dx z with y|y
    ·exact nxf y
    ·exact rx y,ndq⟩⟩) (λ b hb=>by
    rcases List.mem_cons.mp hb with z|z
    ·exact .inl (by simp [z])
    ·rcases List.mem_cons.mp z with z|z
     ·exact .inl (by simp [z])
     ·rcases mq b z with z|z
      ·exact .inl (by simp [z])
      ·exact .inr ⟨res.fr b z,λ j s' ej hs' hbj=>res.dj j s' ej hs' b hbj z⟩)
  exact ⟨δ2,fps2,r2,n2⟩
def dFld (C:Addr) (f:Str) (dc:DC) (dp:DP):DS:=λ E δ=>dc δ λ r δ1=>dp δ1 λ i p u=>nCls C u/\nSet f u r λ u2=>mutS δ1 i p u2 E.nx
theorem rs_fld {C:Addr} {f:Str} (c:Cls K C) (na:NoAttr K C f) (hc:RfC K tv dc) (hp:RfP K ta dp):RfS K (sFld K ta tv f) (dFld C f dc dp):=by
 intro B F H σ δ fps E Z r h k
 refine hc r h λ r2 δ1 q y F1 H1 fps1 fpr res=>hp res.rs.fh res.rs.rv q λ i p u hu v F2 H2 e2 at2=>?_
 have res2:=res.grow e2
 obtain ⟨fn,hr⟩:=at2.rt res2.rs.rv
 cases hr with
|ob g1 g2 g3 g4 g5 =>
  obtain ⟨hcl,hl,hm⟩:=hu
  cases (show _=C from hcl)
  have len:=(g5.keys f).2.2
  obtain ⟨δ2,fps2,r3,n3⟩:=fld_ok res2 at2 g1 hm
  exact ⟨_,_,_,_,rfl,g1,c,na,by lia,k.nx r3 n3⟩
|fz _=>exact hu.1.elim
|li _ _ _=>exact hu.1.elim
|ls _ _ _=>exact hu.1.elim
|dk _ _ _=>exact hu.1.elim
|dt _ _ _=>exact hu.1.elim
def nFII (f:Str) (fn:Int->Int->Int) (x:D) (u:T) (y:D) (N:T->Prop):Prop:=match u with
|.ob C fs=>fs.length < 1000/\fII fn x y λ z=>N (.ob C (putA f (.fz z) fs))
|_=>False
def zpi (C:Addr) (f:Str) (fn:Int->Int->Int) (dp:DP) (de:DE):DS:=λ E δ=>dp δ λ i p u=>nCls C u/\nFld f u λ t=>fzT t λ x=>de δ λ y=>nFII f fn x u y λ u2=>mutS δ i p u2 E.nx
theorem zll {C:Addr} {f:Str} {fn:Int->Int->Int} (c:Cls K C) (na:NoAttr K C f) (hp:RfP K ta dp) (he:RfE K tv de):RfS K (zqm K ta tv (λ x y H Q=>∃ i j,x=.int i/\y=.int j/\Q (.int (fn i j)) H) f) (zpi C f fn dp de):=by
 intro B F H σ δ fps E Z r h k
 refine hp r.fh r.rv h λ i p u hu v F1 H1 e1 at1=>?_
 have r1:=r.grow e1
 obtain ⟨fq,hr⟩:=at1.rt r1.rv
 cases hr with
|ob g1 g2 g3 g4 g5 =>
  obtain ⟨hcl,t0,et,hd⟩:=hu
  cases (show _=C from hcl)
  obtain ⟨x0,ex⟩:=(g5.keys f).2.1 t0 et
  obtain ⟨fA,fj,fB,_,hj,_⟩:=g5.split ex et
  obtain ⟨x,hx,ix⟩:=fz_rt hj hd
  refine ⟨_,_,_,_,x0,rfl,g1,c,na,ex,he r1.fh r1.rv hx λ y hy yv F2 H2 e2 i2=>?_⟩
  have g1':=e2.h _ _ g1
  obtain ⟨hl,hf⟩:=hy
  unfold fII at hf
  split at hf
  ·cases ix.int_inv
   cases i2.int_inv
   have r2:=r1.grow e2
   have len:=(g5.keys f).2.2
   obtain ⟨δ2,fps2,r3,n3⟩:=fld_ok (y:=.int _) (r:=.fz (.int _)) (fpr:=[]) ⟨r2,.fz (.int _),.nil,λ a ha=>by simp at ha,λ _ _ _ _ a _ ha=>by simp at ha⟩ (at1.mono e2.h) g1' hf
   exact ⟨_,_,rfl,rfl,_,_,g1',by lia,k.nx r3 n3⟩
  ·exact hf.elim
|fz _=>exact hu.1.elim
|li _ _ _=>exact hu.1.elim
|ls _ _ _=>exact hu.1.elim
|dk _ _ _=>exact hu.1.elim
|dt _ _ _=>exact hu.1.elim
def allLi:List T->Option (List (List D))
|[]=>some []
|.li ds :: r=>(allLi r).map (ds :: ·)
|_ :: _=>none
def toD:T->Option D
|.fz d=>some d
|.li ds=>some (.list ds)
|.ls ts=>(allLi ts).map λ dss=>.list (dss.map PyData.list)
|_=>none
theorem zym {F H:Hp} (s:Same F H):∀ {xs:List V} {ts:List T} {fp:List Addr} {dss:List (List D)},RtAll K F H xs ts fp->allLi ts=some dss->fp.Nodup->∃ F2,Same F F2/\Same F2 H/\(∀ b,b ∉ fp->F2 b=F b)/\IsAll K F2 xs (dss.map PyData.list)
|_,_,_,_,.nil,e,_=>by cases e;exact ⟨F,λ _ _ z=>z,s,λ _ _=>rfl,.nil⟩
|_,_,_,_,.cons (fp:=fp) (fq:=fq) h r,e,nd=>by
  cases h with
 |li h1 h2 h3 =>
   rename_i a xs0 ds0
   unfold allLi at e
   obtain ⟨dss',e1,rfl⟩:=Option.map_eq_some_iff.mp e
   have nd':=List.nodup_cons.mp nd
   obtain ⟨F1,s1,s2,s3,s4⟩:=zym s r e1 nd'.2
   have fa:F1 a=none:=by rw [s3 a nd'.1];exact h2
   have sn:Same F1 (upd F1 a (.lst xs0)):=zt1 fa _
   refine ⟨upd F1 a (.lst xs0),s1.trans sn,λ b o z=>?_,λ b hb=>?_,.cons (.lst (SqL.of zg0) (h3.mono (s1.trans sn))) (s4.mono sn)⟩
   ·by_cases q:b=a
    ·subst q;rw [zg0] at z;cases z;exact h1
    ·rw [upd_ne q] at z;exact s2 b o z
   ·have hb1:b≠a:=λ z=>hb (by simp [z])
    rw [upd_ne hb1];exact s3 b λ z=>hb (by simp [z])
 |_=>cases e
theorem frz_t {F H:Hp} (s:Same F H) {v:V} {t:T} {fp:List Addr} {d:D} (h:Rt K F H v t fp) (e:toD t=some d) (nd:fp.Nodup):∃ F2,Same F F2/\Same F2 H/\(∀ b,b ∉ fp->F2 b=F b)/\Is K F2 v d:=by
 cases h with
|fz i=>cases e;exact ⟨F,λ _ _ z=>z,s,λ _ _=>rfl,i⟩
|li h1 h2 h3 =>
  cases e
  rename_i a xs ds
  have sn:=zt1 (H:=F) h2 (.lst xs)
  refine ⟨_,sn,λ b o z=>?_,λ b hb=>upd_ne λ q=>hb (by simp [q]),.lst (SqL.of zg0) (h3.mono sn)⟩
  by_cases q:b=a
  ·subst q;rw [zg0] at z;cases z;exact h1
  ·rw [upd_ne q] at z;exact s b o z
|ls h1 h2 h3 =>
  rename_i a xs ts fp
  unfold toD at e
  obtain ⟨dss,e1,rfl⟩:=Option.map_eq_some_iff.mp e
  have nd':=List.nodup_cons.mp nd
  obtain ⟨F1,s1,s2,s3,s4⟩:=zym s h3 e1 nd'.2
  have fa:F1 a=none:=by rw [s3 a nd'.1];exact h2
  have sn:Same F1 (upd F1 a (.lst xs)):=zt1 fa _
  refine ⟨upd F1 a (.lst xs),s1.trans sn,λ b o z=>?_,λ b hb=>?_,.lst (SqL.of zg0) (s4.mono sn)⟩
  ·by_cases q:b=a
   ·subst q;rw [zg0] at z;cases z;exact h1
   ·rw [upd_ne q] at z;exact s2 b o z
  ·have hb1:b≠a:=λ z=>hb (by simp [z])
   rw [upd_ne hb1];exact s3 b λ z=>hb (by simp [z])
|ob _ _ _ _ _=>cases e
|dk _ _ _=>cases e
|dt _ _ _=>cases e
def getP:T->Pth->Option T
|t,[]=>some t
|.ls ts,.ix j :: p=>(ts[j]?).bind λ t=>getP t p
|.ob _ fs,.fl f :: p=>(fs.lookup f).bind λ t=>getP t p
|_,_=>none
theorem at_get {F H:Hp} {p:Pth}:∀ {x:V} {t u:T} {fp:List Addr},Rt K F H x t fp->getP t p=some u->∃ v,At H x t p v u:=by
 induction p with
|nil=>intro x t u fp _ e;unfold getP at e;cases e;exact ⟨x,.nil⟩
|cons q p ih =>
  intro x t u fp h e
  cases h with
 |ls h1 h2 h3 =>
   cases q with
  |ix j =>
    unfold getP at e
    obtain ⟨t1,e1,e2⟩:=Option.bind_eq_some_iff.mp e
    rename_i xs ts fp'
    have el:=h3.len
    have hj:j < ts.length:=by
     rcases Nat.lt_or_ge j ts.length with y|y
     ·exact y
     ·rw [List.getElem?_eq_none y] at e1;cases e1
    obtain ⟨y,hy⟩:∃ y,xs[j]?=some y:=⟨xs[j]'(by lia),List.getElem?_eq_getElem _⟩
    obtain ⟨fA,fj,fB,_,hr,_⟩:=h3.split hy e1
    obtain ⟨v,hv⟩:=ih hr e2
    exact ⟨v,.ix h1 hy e1 hv⟩
  |fl f=>cases e
 |ob h1 h2 h3 h4 h5 =>
   cases q with
  |fl f =>
    unfold getP at e
    obtain ⟨t1,e1,e2⟩:=Option.bind_eq_some_iff.mp e
    obtain ⟨y,hy⟩:=(h5.keys f).2.1 t1 e1
    obtain ⟨fA,fj,fB,_,hr,_⟩:=h5.split hy e1
    obtain ⟨v,hv⟩:=ih hr e2
    exact ⟨v,.fl h1 hy e1 hv⟩
  |ix j=>cases e
 |fz _=>cases q <;> cases e
 |li _ _ _=>cases q <;> cases e
 |dk _ _ _=>cases q <;> cases e
 |dt _ _ _=>cases q <;> cases e
def fzS (δ:DSt) (i:Nat) (p:Pth) (N:DSt->Prop):Prop:=match δ[i]? with
|some (.ow t)=>∃ u d,getP t p=some u/\toD u=some d/\N (δ.set i (slot (setP t p (.fz d))))
|_=>False
def dFrz (i:Nat) (p:Pth) (d:DS):DS:=λ E δ=>fzS δ i p λ δ'=>d E δ'
theorem RS.frz {B:Bs} {F H:Hp} {σ:L2.St} {δ:DSt} {fps:Nat->List Addr} {i:Nat} {p:Pth} {N:DSt->Prop} (r:RS K B F H σ δ fps) (h:fzS δ i p N):∃ F2 δ2 fps2,RS K B F2 H σ δ2 fps2/\N δ2:=by
 unfold fzS at h
 split at h
 ·rename_i t q
  obtain ⟨u,d,eg,ed,hN⟩:=h
  obtain ⟨x,t',a1,a2,a3,a4,a5⟩:=r.rt i _ q rfl
  cases a2
  obtain ⟨v,hv⟩:=at_get a3 eg
  obtain ⟨fn,t1,h1,h2,h3,h4,back⟩:=r.put q rfl ⟨_,_,x,q,rfl,a1,hv⟩
  cases h1
  obtain ⟨F2,s1,s2,s3,s4⟩:=frz_t r.fh h2 ed h3
  obtain ⟨fps2,r2,_⟩:=back (F2:=F2) (H2:=H) (fq:=[]) (λ _ _ _ z=>z) s1 s2 (λ b _ fb hb=>by rw [s3 b hb];exact fb) (λ _ z=>z) (λ b hb _=>(r.fr i _ q rfl b (h4 b hb)).elim id λ z=>absurd rfl (z.2 t)) (.fz s4) .nil (λ b hb=>by simp at hb)
  have hw:(Sl.ow t).wth (setP t p (.fz d))=.ow (setP t p (.fz d)):=rfl
  rw [hw] at r2
  -- a slot whose whole is frozen becomes a plain one
  cases hs:setP t p (.fz d) with
 |fz d' =>
   rw [hs] at r2 hN
   obtain ⟨x',t'',b1,b2,b3,b4,b5⟩:=r2.rt i _ (List.getElem?_set_self (by
    rcases Nat.lt_or_ge i δ.length with z|z
    ·exact z
    ·rw [List.getElem?_eq_none z] at q;cases q)) rfl
   cases b2
   obtain ⟨d2,hd2,hi⟩:=fz_rt (Q:=λ z=>z=d') b3 rfl
   subst hd2
   ·have r3:=r2.setS (i:=i) hi
    rw [List.set_set] at r3
    have eσ:σ.set i (some x')=σ:=by
     apply List.ext_getElem?
     intro j
     rw [List.getElem?_set]
     by_cases hij:i=j
     ·subst hij
      have hlt:i < σ.length:=by
       rw [r.len]
       rcases Nat.lt_or_ge i δ.length with z|z
       ·exact z
       ·rw [List.getElem?_eq_none z] at q;cases q
      simp [hlt]
      have:=zoe (F:=F) (H:=H) (δ:=δ) b1
      rw [List.getElem?_eq_getElem hlt] at this
      exact (Option.some.inj this).symm
     ·simp [hij]
    rw [eσ] at r3
    exact ⟨F2,_,fps2,r3,hN⟩
 |li _=>rw [hs] at r2 hN;exact ⟨F2,_,fps2,r2,hN⟩
 |ls _=>rw [hs] at r2 hN;exact ⟨F2,_,fps2,r2,hN⟩
 |ob _ _=>rw [hs] at r2 hN;exact ⟨F2,_,fps2,r2,hN⟩
 |dk _=>rw [hs] at r2 hN;exact ⟨F2,_,fps2,r2,hN⟩
 |dt _=>rw [hs] at r2 hN;exact ⟨F2,_,fps2,r2,hN⟩
 ·exact h.elim
theorem rs_frz (i:Nat) (p:Pth) (h:RfS K t d):RfS K t (dFrz i p d):=by
 intro B F H σ δ fps E Z r hd k
 obtain ⟨F2,δ2,fps2,r2,h2⟩:=r.frz hd
 exact h r2 h2 k
end
inductive Arg where
|d (d:D)|b (t:T)|o (t:T)
inductive ArgP where
|d (d:D)|b (i:Nat) (p:Pth) (t:T)|o (i:Nat) (p:Pth) (t:T)
def ArgP.arg:ArgP->Arg
|.d x=>.d x
|.b _ _ x=>.b x
|.o _ _ x=>.o x
inductive ArgsR (K:Fg) (F H:Hp):List V->List Arg->List Addr->Option (Addr×List Addr)->Prop
|nil:ArgsR K F H [] [] [] none
|d {v:V} {d:D} {vs:List V} {as:List Arg} {bf:List Addr} {oo:Option (Addr×List Addr)}:Is K F v d->ArgsR K F H vs as bf oo->ArgsR K F H (v :: vs) (.d d :: as) bf oo
|b {v:V} {t:T} {fp:List Addr} {vs:List V} {as:List Arg} {bf:List Addr} {oo:Option (Addr×List Addr)}:Rt K F H v t fp->fp.Nodup->ArgsR K F H vs as bf oo->ArgsR K F H (v :: vs) (.b t :: as) (fp++bf) oo
|o {a:Addr} {t:T} {fp:List Addr} {vs:List V} {as:List Arg} {bf:List Addr}:Rt K F H (.ref a) t fp->fp.Nodup->ArgsR K F H vs as bf none->ArgsR K F H (.ref a :: vs) (.o t :: as) bf (some (a,fp))
def ofp:Option (Addr×List Addr)->List Addr
|none=>[]
|some x=>x.2
structure Post (K:Fg) (F H:Hp) (oo:Option (Addr×List Addr)) (F' H':Hp) (v:V) (r:T) (fpr:List Addr) (t':T) (fpo:List Addr):Prop where
 hh:∀ b o,b ∉ ofp oo->H b=some o->H' b=some o
 ff:Same F F'
 fh:Same F' H'
 nw:∀ b,H b≠none->F b=none->F' b=none
 al:∀ b,H b≠none->H' b≠none
 rt:Rt K F' H' v r fpr
 nd:fpr.Nodup
 fr:∀ a∈fpr,H a=none
 io:∀ a fp,oo=some (a,fp)->Rt K F' H' (.ref a) t' fpo/\fpo.Nodup/\(∀ b∈fpo,b∈fp \/ H b=none)/\∀ b∈fpo,b ∉ fpr
abbrev DSpT:=List Arg->(T->T->Prop)->Prop
def spT (K:Fg) (p:DSpT):Sp:=λ vs H Q _=>∃ F as bf oo Qd,Same F H/\ArgsR K F H vs as bf oo/\(∀ b∈ofp oo,b ∉ bf)/\p as Qd/\∀ r t',Qd r t'->∀ v F' H' fpr fpo,Post K F H oo F' H' v r fpr t' fpo->Q v H'
section
variable {K:Fg} {te ta ti tv:TE} {de da di dk:DE} {dc:DC} {tt:TT} {dt:DT} {t u tb:TS} {d e db:DS} {tA:TA} {dA:DF} {g:TG} {dg:DG} {n:Nat} {dp:DP} {w:World}
inductive ArgsP (K:Fg) (F H:Hp) (σ:L2.St) (δ:DSt):List V->List ArgP->Prop
|nil:ArgsP K F H σ δ [] []
|d {v:V} {d:D} {vs:List V} {as:List ArgP}:Is K F v d->ArgsP K F H σ δ vs as->ArgsP K F H σ δ (v :: vs) (.d d :: as)
|b {v:V} {i:Nat} {p:Pth} {t:T} {vs:List V} {as:List ArgP}:AtS H σ δ i p v t->ArgsP K F H σ δ vs as->ArgsP K F H σ δ (v :: vs) (.b i p t :: as)
|o {v:V} {i:Nat} {p:Pth} {t:T} {vs:List V} {as:List ArgP}:AtS H σ δ i p v t->ArgsP K F H σ δ vs as->ArgsP K F H σ δ (v :: vs) (.o i p t :: as)
abbrev DAT:=DSt->(List ArgP->Prop)->Prop
def RfAT (K:Fg) (ta:TA) (da:DAT):Prop:=∀ {F H:Hp} {σ:L2.St} {δ:DSt} {Qd:List ArgP->Prop} {Q:List V->Hp->Prop},Same F H->RV K F H σ δ->da δ Qd->(∀ as,Qd as->∀ vs F' H',Ext F H F' H'->ArgsP K F' H' σ δ vs as->Q vs H')->ta σ H Q
variable {dA':DAT}
def aNil:DAT:=λ _ Q=>Q []
def aD (de:DE) (dr:DAT):DAT:=λ δ Q=>de δ λ x=>dr δ λ as=>Q (.d x :: as)
def aB (dp:DP) (dr:DAT):DAT:=λ δ Q=>dp δ λ i p t=>dr δ λ as=>Q (.b i p t :: as)
def aO (dp:DP) (dr:DAT):DAT:=λ δ Q=>dp δ λ i p t=>dr δ λ as=>Q (.o i p t :: as)
theorem at_nil:RfAT K tNil aNil:=λ s rv h k=>k _ h _ _ _ (Ext.refl s) .nil
theorem at_d (ha:RfE K ta da) (hr:RfAT K tA dA'):RfAT K (tCons ta tA) (aD da dA'):=by
 intro F H σ δ Qd Q s rv h k
 refine ha s rv h λ x hx v F1 H1 e1 i1=>hr e1.fh (rv.ext e1) hx λ as has vs F2 H2 e2 i2=>?_
 exact k _ has _ F2 H2 (e1.trans e2) (.d (i1.mono e2.f) i2)
theorem at_b (ha:RfP K ta dp) (hr:RfAT K tA dA'):RfAT K (tCons ta tA) (aB dp dA'):=by
 intro F H σ δ Qd Q s rv h k
 refine ha s rv h λ i p t hx v F1 H1 e1 i1=>hr e1.fh (rv.ext e1) hx λ as has vs F2 H2 e2 i2=>?_
 exact k _ has _ F2 H2 (e1.trans e2) (.b (i1.mono e2.h) i2)
theorem at_o (ha:RfP K ta dp) (hr:RfAT K tA dA'):RfAT K (tCons ta tA) (aO dp dA'):=by
 intro F H σ δ Qd Q s rv h k
 refine ha s rv h λ i p t hx v F1 H1 e1 i1=>hr e1.fh (rv.ext e1) hx λ as has vs F2 H2 e2 i2=>?_
 exact k _ has _ F2 H2 (e1.trans e2) (.o (i1.mono e2.h) i2)
def noO:List ArgP->Prop
|[]=>True
|.o _ _ _ :: _=>False
|.d _ :: r=>noO r
|.b _ _ _ :: r=>noO r
def noS (i:Nat):List ArgP->Prop
|[]=>True
|.b j _ _ :: r=>j≠i/\noS i r
|.d _ :: r=>noS i r
|.o _ _ _ :: r=>noS i r
def oSlot:List ArgP->Option (Nat×Pth×T)
|[]=>none
|.o i p t :: _=>some (i,p,t)
|.d _ :: r=>oSlot r
|.b _ _ _ :: r=>oSlot r
def oneO (i:Nat):List ArgP->Prop
|[]=>False
|.o _ _ _ :: r=>noO r/\noS i r
|.d _ :: r=>oneO i r
|.b j _ _ :: r=>j≠i/\oneO i r
def isOwn (δ:DSt) (i:Nat):Prop:=match δ[i]? with
|some (.ow _)=>True
|some (.io _ _)=>True
|_=>False
def notFz:T->Prop
|.fz _=>False
|_=>True
theorem zvd {F H:Hp} {σ:L2.St} {δ:DSt} {fps:Nat->List Addr} (rt:∀ {i:Nat} {p:Pth} {v:V} {u:T},AtS H σ δ i p v u->∃ fn,Rt K F H v u fn/\fn.Nodup/\∀ a∈fn,a∈fps i/\∃ s,δ[i]?=some s/\s.has=true):∀ {vs:List V} {as:List ArgP},ArgsP K F H σ δ vs as->noO as->∃ bf,ArgsR K F H vs (as.map ArgP.arg) bf none/\∀ i,noS i as->∀ b∈bf,∃ j,j≠i/\b∈fps j/\∃ s,δ[j]?=some s/\s.has=true
|_,_,.nil,_=>⟨[],.nil,λ i _ b hb=>by simp at hb⟩
|_,_,.d h r,hn=>by
  obtain ⟨bf,h1,h2⟩:=zvd rt r hn
  exact ⟨bf,.d h h1,h2⟩
|_,_,.b (i:=i') h r,hn=>by
  obtain ⟨bf,h1,h2⟩:=zvd rt r hn
  obtain ⟨fn,g1,g2,g3⟩:=rt h
  refine ⟨fn++bf,.b g1 g2 h1,λ i hi b hb=>?_⟩
  rcases List.mem_append.mp hb with z|z
  ·exact ⟨i',hi.1,(g3 b z).1,(g3 b z).2⟩
  ·exact h2 i hi.2 b z
|_,_,.o h r,hn=>hn.elim
theorem zdc {F H:Hp} {σ:L2.St} {δ:DSt} {fps:Nat->List Addr} (rt:∀ {i:Nat} {p:Pth} {v:V} {u:T},AtS H σ δ i p v u->∃ fn,Rt K F H v u fn/\fn.Nodup/\∀ a∈fn,a∈fps i/\∃ s,δ[i]?=some s/\s.has=true) {i:Nat} {p:Pth} {u:T}:∀ {vs:List V} {as:List ArgP},ArgsP K F H σ δ vs as->oSlot as=some (i,p,u)->oneO i as->notFz u ->
  ∃ a,AtS H σ δ i p (.ref a) u/\∀ fn,Rt K F H (.ref a) u fn->fn.Nodup->∃ bf,ArgsR K F H vs (as.map ArgP.arg) bf (some (a,fn))/\∀ b∈bf,∃ j,j≠i/\b∈fps j/\∃ s,δ[j]?=some s/\s.has=true
|_,_,.nil,e,_,_=>by cases e
|_,_,.d h r,e,hn,hf=>by
  obtain ⟨a,h1,h2⟩:=zdc rt r e hn hf
  refine ⟨a,h1,λ fn g1 g2=>?_⟩
  obtain ⟨bf,k1,k2⟩:=h2 fn g1 g2
  exact ⟨bf,.d h k1,k2⟩
|_,_,.b (i:=i') h r,e,hn,hf=>by
  obtain ⟨a,h1,h2⟩:=zdc rt r e hn.2 hf
  obtain ⟨fb,g1,g2,g3⟩:=rt h
  refine ⟨a,h1,λ fn k1 k2=>?_⟩
  obtain ⟨bf,m1,m2⟩:=h2 fn k1 k2
  refine ⟨fb++bf,.b g1 g2 m1,λ b hb=>?_⟩
  rcases List.mem_append.mp hb with z|z
  ·exact ⟨i',hn.1,(g3 b z).1,(g3 b z).2⟩
  ·exact m2 b z
|_,_,.o h r,e,hn,hf=>by
  cases e
  obtain ⟨bf,m1,m2⟩:=zvd rt r hn.1
  obtain ⟨fn0,g1,_,_⟩:=rt h
  cases g1 with
 |fz _=>exact hf.elim
 |li _ _ _=>exact ⟨_,h,λ fn k1 k2=>⟨bf,.o k1 k2 m1,m2 i hn.2⟩⟩
 |ls _ _ _=>exact ⟨_,h,λ fn k1 k2=>⟨bf,.o k1 k2 m1,m2 i hn.2⟩⟩
 |ob _ _ _ _ _=>exact ⟨_,h,λ fn k1 k2=>⟨bf,.o k1 k2 m1,m2 i hn.2⟩⟩
 |dk _ _ _=>exact ⟨_,h,λ fn k1 k2=>⟨bf,.o k1 k2 m1,m2 i hn.2⟩⟩
 |dt _ _ _=>exact ⟨_,h,λ fn k1 k2=>⟨bf,.o k1 k2 m1,m2 i hn.2⟩⟩
theorem RS.rtS {B:Bs} {F H:Hp} {σ:L2.St} {δ:DSt} {fps:Nat->List Addr} (r:RS K B F H σ δ fps) {i:Nat} {p:Pth} {v:V} {u:T} (h:AtS H σ δ i p v u):∃ fn,Rt K F H v u fn/\fn.Nodup/\∀ a∈fn,a∈fps i/\∃ s,δ[i]?=some s/\s.has=true:=by
 obtain ⟨s,t,x,h1,h2,h3,h4⟩:=h
 by_cases hs:s.has=true
 ·obtain ⟨x',t',a1,a2,a3,a4,a5⟩:=r.rt i s h1 hs
  rw [h3] at a1;cases a1
  rw [h2] at a2;cases a2
  obtain ⟨fn,g1,g2,g3,_⟩:=focus h4 a3 a5
  exact ⟨fn,g1,g3,λ a ha=>⟨g2 a ha,s,h1,hs⟩⟩
 ·cases s with
 |sh d =>
   cases h2
   obtain ⟨y,b1,b2⟩:=r.sh i d h1
   rw [h3] at b1;cases b1
   cases h4
   exact ⟨[],.fz b2,.nil,λ a ha=>by simp at ha⟩
 |un=>cases h2
 |ow _=>exact absurd rfl hs
 |bo _=>exact absurd rfl hs
 |io _ _=>exact absurd rfl hs
theorem zxf {δ:DSt} {i:Nat} {p:Pth} {u t0:T} {s:Sl} {N:DSt->Prop} (hi:δ[i]?=some s) (ho:s.own=true) (ht:s.tree=some t0) (h:mutS δ i p u N):N (δ.set i (s.wth (setP t0 p u))):=by
 unfold mutS at h
 rw [hi] at h
 cases s with
|ow t=>cases ht;exact h
|io a t=>cases ht;exact h
|un=>cases ho
|sh _=>cases ho
|bo _=>cases ho
def cCore (p:DSpT) (δ:DSt) (as:List ArgP) (Q:T->DSt->Prop):Prop:=match oSlot as with
|some (i,q,t)=>isOwn δ i/\oneO i as/\notFz t/\p (as.map ArgP.arg) λ r t2=>mutS δ i q t2 λ δ'=>Q r δ'
|none=>noO as/\p (as.map ArgP.arg) λ r _=>Q r δ
theorem zsi {B:Bs} {F H:Hp} {σ:L2.St} {δ:DSt} {fps:Nat->List Addr} {p:DSpT} {vs:List V} {as:List ArgP} {Qd:T->DSt->Prop} {Q:VK} {E:XK} (r:RS K B F H σ δ fps) (ha:ArgsP K F H σ δ vs as) (hc:cCore p δ as Qd)
  (k:∀ r δ',Qd r δ'->∀ v F' H' fps' fpr,Res K B F' H' σ δ' fps' v r fpr->Q v H'):spT K p vs H Q E:=by
 unfold cCore at hc
 split at hc
 ·rename_i i q t0 eo
  obtain ⟨ho,h1,hf,hp⟩:=hc
  obtain ⟨s,hs,hso⟩:∃ s,δ[i]?=some s/\s.own=true:=by
   unfold isOwn at ho
   split at ho
   ·rename_i q;exact ⟨_,q,rfl⟩
   ·rename_i q;exact ⟨_,q,rfl⟩
   ·exact ho.elim
  obtain ⟨a,hat,hargs⟩:=zdc (λ h=>r.rtS h) ha eo h1 hf
  obtain ⟨fn,t1,g1,g2,g3,g4,back⟩:=r.put hs hso hat
  obtain ⟨bf,m1,m2⟩:=hargs fn g2 g3
  refine ⟨F,_,bf,some (a,fn),_,r.fh,m1,λ b hb hbf=>?_,hp,λ r2 t2 q2 v F' H' fpr fpo post=>?_⟩
  ·obtain ⟨j,hj,hbj,sj,e1,hh⟩:=m2 b hbf
   exact r.dj i j s sj (λ z=>hj z.symm) hs e1 hso hh b (g4 b hb) hbj
  ·obtain ⟨io1,io2,io3,io4⟩:=post.io a fn rfl
   obtain ⟨fps2,r2',e2,e3⟩:=back (F2:=F') (H2:=H') (u2:=t2) (fq:=fpo) post.hh post.ff post.fh (λ b hb fb _=>post.nw b hb fb) post.al (λ b hb f=>absurd (post.nw b (g2.dom b hb).1 (g2.dom b hb).2) f) io1 io2 (λ b hb=>(io3 b hb).elim .inl λ z=>.inr (r.newOk z))
   have qd:=zxf hs hso g1 q2
   refine k _ _ qd v F' H' fps2 fpr ⟨r2',post.rt,post.nd,λ b hb=>(r.newOk (post.fr b hb)).1,λ j s' ej hs' b hb hbr=>?_⟩
   have fresh:=post.fr b hbr
   by_cases hji:j=i
   ·subst hji
    rcases e3 b hb with z|z
    ·obtain ⟨x',t',a1,a2,a3,a4,a5⟩:=r.rt j s hs (zm4 hso)
     exact (a3.dom b z).1 fresh
    ·exact io4 b z hbr
   ·rw [e2 j hji] at hb
    rw [List.getElem?_set_ne (λ z=>hji z.symm)] at ej
    exact (r.newOk fresh).2 j s' ej hs' hb
 ·rename_i eo
  obtain ⟨hn,hp⟩:=hc
  obtain ⟨bf,m1,_⟩:=zvd (λ h=>r.rtS h) ha hn
  refine ⟨F,_,bf,none,_,r.fh,m1,λ b hb=>by simp [ofp] at hb,hp,λ r2 t2 q2 v F' H' fpr fpo post=>?_⟩
  have ex:Ext F H F' H':=⟨λ b o hb=>post.hh b o (by simp [ofp]) hb,post.ff,post.fh,post.nw⟩
  exact k _ _ q2 v F' H' fps fpr ⟨r.grow ex,post.rt,post.nd,λ b hb=>(r.newOk (post.fr b hb)).1,λ j s' ej hs' b hb hbr=>(r.newOk (post.fr b hbr)).2 j s' ej hs' hb⟩
def cCall (p:DSpT) (da:DAT):DC:=λ δ Q=>da δ λ as=>cCore p δ as Q
theorem zni {p:DSpT} {E:XK} (h:RfAT K tA dA'):RfC K (tCall (spT K p) [] E tA) (cCall p dA'):=by
 intro B F H σ δ fps Qd Q r hd k
 refine h r.fh r.rv hd λ as has vs F1 H1 e1 i1=>?_
 rw [List.append_nil]
 exact zsi (r.grow e1) i1 has k
def noM (m:Str) (u:T):Prop:=match u with
|.ob _ fs=>fs.lookup m=none
|_=>False
def cMeth (o:Bool) (C:Addr) (m:Str) (p:DSpT) (dp:DP) (da:DAT):DC:=λ δ Q=>dp δ λ i q u=>nCls C u/\noM m u/\da δ λ as=>cCore p δ ((if o then .o i q u else .b i q u) :: as) Q
theorem zlc {F H:Hp} {v:V} {u:T} {fn:List Addr} {C:Addr} {m:Str} (hr:Rt K F H v u fn) (hc:nCls C u) (hm:noM m u):∃ a dx fs,v=.ref a/\H a=some (.ins C dx fs)/\fs.lookup m=none:=by
 cases hr with
|ob g1 g2 g3 g4 g5 =>
  cases (show _=C from hc)
  exact ⟨_,_,_,rfl,g1,(g5.keys m).1 hm⟩
|fz _=>exact hc.elim
|li _ _ _=>exact hc.elim
|ls _ _ _=>exact hc.elim
|dk _ _ _=>exact hc.elim
|dt _ _ _=>exact hc.elim
theorem zgn {p:DSpT} {E:XK} {C:Addr} {m:Str} (o:Bool) (hp:RfP K ta dp) (h:RfAT K tA dA'):RfC K (tMeth C m (spT K p) [] E ta tA) (cMeth o C m p dp dA'):=by
 intro B F H σ δ fps Qd Q r hd k
 refine hp r.fh r.rv hd λ i q u hu v F1 H1 e1 at1=>?_
 have r1:=r.grow e1
 obtain ⟨fn,hr⟩:=at1.rt r1.rv
 obtain ⟨a,dx,fs,rfl,h1,h2⟩:=zlc hr hu.1 hu.2.1
 refine ⟨a,dx,fs,rfl,h1,h2,h r1.fh r1.rv hu.2.2 λ as has vs F2 H2 e2 i2=>?_⟩
 rw [List.append_nil]
 have at2:=at1.mono e2.h
 cases o with
|true=>exact zsi (r1.grow e2) (.o at2 i2) has k
|false=>exact zsi (r1.grow e2) (.b at2 i2) has k
def nCore (p:DSpT) (as:List ArgP) (Q:T->Prop):Prop:=noO as/\p (as.map ArgP.arg) λ r _=>Q r
theorem AtS.rtV {F H:Hp} {σ:L2.St} {δ:DSt} (r:RV K F H σ δ) {i:Nat} {p:Pth} {v:V} {u:T} (h:AtS H σ δ i p v u):∃ fn,Rt K F H v u fn/\fn.Nodup:=by
 obtain ⟨s,t,x,h1,h2,h3,h4⟩:=h
 obtain ⟨y,fp,e,hr,nd⟩:=(r.sl i s h1).rt h2
 rw [h3] at e;cases e
 obtain ⟨fn,g1,_,g3,_⟩:=focus h4 hr nd
 exact ⟨fn,g1,g3⟩
theorem zig {F H:Hp} {σ:L2.St} {δ:DSt} (r:RV K F H σ δ):∀ {vs:List V} {as:List ArgP},ArgsP K F H σ δ vs as->noO as->∃ bf,ArgsR K F H vs (as.map ArgP.arg) bf none
|_,_,.nil,_=>⟨[],.nil⟩
|_,_,.d h q,hn=>by
  obtain ⟨bf,h1⟩:=zig r q hn
  exact ⟨bf,.d h h1⟩
|_,_,.b h q,hn=>by
  obtain ⟨bf,h1⟩:=zig r q hn
  obtain ⟨fn,g1,g2⟩:=h.rtV r
  exact ⟨fn++bf,.b g1 g2 h1⟩
|_,_,.o h r,hn=>hn.elim
theorem zoi {F H:Hp} {σ:L2.St} {δ:DSt} {p:DSpT} {vs:List V} {as:List ArgP} {Qd:T->Prop} {Q:VK} {E:XK} (s:Same F H) (r:RV K F H σ δ) (ha:ArgsP K F H σ δ vs as) (hc:nCore p as Qd)
  (k:∀ r,Qd r->∀ v F' H' fp,Ext F H F' H'->Rt K F' H' v r fp->fp.Nodup->(∀ a∈fp,H a=none)->Q v H'):spT K p vs H Q E:=by
 obtain ⟨bf,m1⟩:=zig r ha hc.1
 refine ⟨F,_,bf,none,_,s,m1,λ b hb=>by simp [ofp] at hb,hc.2,λ r2 t2 q2 v F' H' fpr fpo post=>?_⟩
 exact k _ q2 v F' H' fpr ⟨λ b o hb=>post.hh b o (by simp [ofp]) hb,post.ff,post.fh,post.nw⟩ post.rt post.nd post.fr
def nCall (p:DSpT) (da:DAT):DN:=λ δ Q=>da δ λ as=>nCore p as Q
def nMeth (C:Addr) (m:Str) (p:DSpT) (dp:DP) (da:DAT):DN:=λ δ Q=>dp δ λ i q u=>nCls C u/\noM m u/\da δ λ as=>nCore p (.b i q u :: as) Q
theorem zvi {p:DSpT} {E:XK} (h:RfAT K tA dA'):RfN K (tCall (spT K p) [] E tA) (nCall p dA'):=by
 intro F H σ δ Qd Q s rv hd k
 refine h s rv hd λ as has vs F1 H1 e1 i1=>?_
 rw [List.append_nil]
 exact zoi e1.fh (rv.ext e1) i1 has λ r q v F' H' fp e2 h1 h2 h3=>k r q v F' H' fp (e1.trans e2) h1 h2 λ a ha=>zj1 e1 (h3 a ha)
theorem zjh {p:DSpT} {E:XK} {C:Addr} {m:Str} (hp:RfP K ta dp) (h:RfAT K tA dA'):RfN K (tMeth C m (spT K p) [] E ta tA) (nMeth C m p dp dA'):=by
 intro F H σ δ Qd Q s rv hd k
 refine hp s rv hd λ i q u hu v F1 H1 e1 at1=>?_
 have rv1:=rv.ext e1
 obtain ⟨fn,hr⟩:=at1.rt rv1
 obtain ⟨a,dx,fs,rfl,h1,h2⟩:=zlc hr hu.1 hu.2.1
 refine ⟨a,dx,fs,rfl,h1,h2,h e1.fh rv1 hu.2.2 λ as has vs F2 H2 e2 i2=>?_⟩
 rw [List.append_nil]
 have e12:=e1.trans e2
 exact zoi e2.fh (rv.ext e12) (.b (at1.mono e2.h) i2) has λ r q v F' H' fp e3 h1 h2 h3=>k r q v F' H' fp (e12.trans e3) h1 h2 λ a ha=>zj1 e12 (h3 a ha)
def eN (dn:DN):DE:=λ δ Q=>dn δ λ r=>fzT r Q
theorem RfN.ex {dn:DN} (h:RfN K te dn):RfE K te (eN dn):=λ s rv hd k=>h s rv hd λ r q v F' H' fp e1 h1 h2 h3=>by
 obtain ⟨d,qd,i⟩:=fz_rt h1 q
 exact k d qd v F' H' e1 i
def nMake (C:Addr) (p:DSpT) (da:DAT):DN:=λ δ Q=>da δ λ as=>noO as/\p (.o (.ob C []) :: as.map ArgP.arg) λ r t2=>(match r with|.fz .none=>True|_=>False)/\Q t2
theorem zyg {p:DSpT} {E:XK} {C:Addr} (h:RfAT K tA dA'):RfN K (tMake C (spT K p) [] E tA) (nMake C p dA'):=by
 intro F H σ δ Qd Q s rv hd k
 refine h s rv hd λ as has vs F1 H1 e1 i1=>?_
 intro x dx hx hdx hne
 obtain ⟨bf,m1⟩:=zig (rv.ext e1) i1 has.1
 have hH:∀ b,b≠x->b≠dx->upd (upd H1 dx (.own x)) x (.ins C dx []) b=H1 b:=λ b h1 h2=>by rw [upd_ne h1,upd_ne h2]
 have s2:Same H1 (upd (upd H1 dx (.own x)) x (.ins C dx [])):=λ b o z=>by
  rw [hH b (λ q=>by subst q;rw [hx] at z;cases z) (λ q=>by subst q;rw [hdx] at z;cases z)];exact z
 have fx:F1 x=none:=by
  cases q:F1 x with
 |none=>rfl
 |some o=>rw [e1.fh x o q] at hx;cases hx
 have fdx:F1 dx=none:=by
  cases q:F1 dx with
 |none=>rfl
 |some o=>rw [e1.fh dx o q] at hdx;cases hdx
 have m2:ArgsR K F1 (upd (upd H1 dx (.own x)) x (.ins C dx [])) vs (as.map ArgP.arg) bf none/\∀ b∈bf,H1 b≠none:=by
  have key:∀ {vs:List V} {as:List Arg} {bf:List Addr} {oo:Option (Addr×List Addr)},ArgsR K F1 H1 vs as bf oo->oo=none->ArgsR K F1 (upd (upd H1 dx (.own x)) x (.ins C dx [])) vs as bf none/\∀ b∈bf,H1 b≠none:=λ {vs as bf oo} hh=>by
   induction hh with
  |nil=>intro _;exact ⟨.nil,λ b hb=>by simp at hb⟩
  |d h1 _ ih=>intro e;exact ⟨.d h1 (ih e).1,(ih e).2⟩
  |b h1 h2 _ ih =>
    intro e
    refine ⟨.b (h1.frame (λ _ _ z=>z) λ b hb=>⟨?_,(h1.dom b hb).2⟩) h2 (ih e).1,λ b hb=>?_⟩
    ·exact hH b (λ q=>by subst q;exact (h1.dom b hb).1 hx) (λ q=>by subst q;exact (h1.dom b hb).1 hdx)
    ·rcases List.mem_append.mp hb with z|z
     ·exact (h1.dom b z).1
     ·exact (ih e).2 b z
  |o _ _ _ _=>intro e;cases e
  exact key m1 rfl
 refine ⟨F1,_,bf,some (x,[x,dx]),_,e1.fh.trans s2,.o (.ob zg0 (by rw [upd_ne hne,zg0]) fx fdx .nil) (by simp [Ne.symm hne]) (by rw [List.append_nil];exact m2.1),λ b hb hbf=>?_,has.2,λ r t2 q2 v F' H' fpr fpo post=>?_⟩
 ·have:=m2.2 b hbf
  simp [ofp] at hb
  rcases hb with z|z
  ·exact this (by rw [z];exact hx)
  ·exact this (by rw [z];exact hdx)
 ·obtain ⟨q0,q1⟩:=q2
  obtain ⟨io1,io2,io3,io4⟩:=post.io x [x,dx] rfl
  refine ⟨?_,k _ q1 (.ref x) F' H' fpo (e1.trans ⟨λ b o z=>?_,post.ff,post.fh,λ b hb fb=>post.nw b (λ z=>?_) fb⟩) io1 io2 λ b hb=>zj1 e1 ?_⟩
  ·split at q0
   ·cases post.rt with
   |fz i=>exact i.non_inv
   ·exact q0.elim
  ·refine post.hh b o (λ w=>?_) (s2 b o z)
   simp [ofp] at w
   rcases w with w|w
   ·rw [w,hx] at z;cases z
   ·rw [w,hdx] at z;cases z
  ·cases q:H1 b with
  |none=>exact hb q
  |some o=>rw [s2 b o q] at z;cases z
  ·rcases io3 b hb with z|z
   ·simp at z
    rcases z with z|z
    ·rw [z];exact hx
    ·rw [z];exact hdx
   ·cases q:H1 b with
   |none=>rfl
   |some o=>rw [s2 b o q] at z;cases z
end
section
variable {P:Program} {w:World} {K:Fg} {mg:Str->Option Value} {base:Heap}
def slotA (a:Addr):Arg->Sl
|.d x=>.sh x
|.b x=>.bo x
|.o x=>.io a x
def tStart (N:List Str) (a:Addr) (as:List Arg):DSt:=as.map (slotA a)++List.replicate (N.length - as.length) .un
def oIx:List Arg->Option Nat
|[]=>none
|.o _ :: _=>some 0
|.d _ :: r=>(oIx r).map (·+1)
|.b _ :: r=>(oIx r).map (·+1)
def exA (as:List Arg) (a:Addr) (Qd:T->T->Prop) (r:T) (δ:DSt):Prop:=match oIx as with
|none=>Qd r (.fz .none)
|some k=>∃ t',δ[k]?=some (.io a t')/\Qd r t'
def tEnds (as:List Arg) (a:Addr) (Qd:T->T->Prop):DEnds:={ nx:=exA as a Qd (.fz .none),rt:=exA as a Qd }
theorem zza {F H:Hp}:∀ {vs:List V} {as:List Arg} {bf:List Addr} {oo:Option (Addr×List Addr)},ArgsR K F H vs as bf oo->vs.length=as.length/\∃ fl:Nat->List Addr,
  (∀ (k:Nat) x,as[k]?=some (.d x)->∃ v,vs[k]?=some v/\Is K F v x) /\
  (∀ (k:Nat) x,as[k]?=some (.b x)->∃ v,vs[k]?=some v/\Rt K F H v x (fl k)/\(fl k).Nodup/\∀ b∈fl k,b∈bf) /\
  (∀ (k:Nat) x,as[k]?=some (.o x)->∃ a,vs[k]?=some (.ref a)/\oo=some (a,fl k)/\Rt K F H (.ref a) x (fl k)/\(fl k).Nodup/\oIx as=some k)/\(oo=none->oIx as=none)/\(∀ a fp,oo=some (a,fp)->∃ k x,as[k]?=some (.o x)/\fl k=fp/\oIx as=some k)
|_,_,_,_,.nil=>⟨rfl,λ _=>[],λ k x e=>by simp at e,λ k x e=>by simp at e,λ k x e=>by simp at e,λ _=>rfl,λ a fp e=>by cases e⟩
|_,_,_,_,.d h r=>by
  obtain ⟨hl,fl,h1,h2,h3,h4,h5⟩:=zza r
  refine ⟨by simp [hl],λ k=>fl (k - 1),λ k x e=>?_,λ k x e=>?_,λ k x e=>?_,λ e=>?_,λ a fp e=>?_⟩
  ·cases k with
  |zero=>simp at e;subst e;exact ⟨_,rfl,h⟩
  |succ k=>obtain ⟨v,g1,g2⟩:=h1 k x (by simpa using e);exact ⟨v,by simpa using g1,g2⟩
  ·cases k with
  |zero=>simp at e
  |succ k=>obtain ⟨v,g1,g2⟩:=h2 k x (by simpa using e);exact ⟨v,by simpa using g1,g2⟩
  ·cases k with
  |zero=>simp at e
  |succ k=>obtain ⟨v,g1,g2,g3,g4,g5⟩:=h3 k x (by simpa using e);exact ⟨v,by simpa using g1,g2,g3,g4,by simp [oIx,g5]⟩
  ·simp [oIx,h4 e]
  ·obtain ⟨k,x,g1,g2,g3⟩:=h5 a fp e
   exact ⟨k+1,x,by simpa using g1,g2,by simp [oIx,g3]⟩
|_,_,_,_,.b (fp:=fp) (bf:=bf) h nd r=>by
  obtain ⟨hl,fl,h1,h2,h3,h4,h5⟩:=zza r
  refine ⟨by simp [hl],λ k=>if k=0 then fp else fl (k - 1),λ k x e=>?_,λ k x e=>?_,λ k x e=>?_,λ e=>?_,λ a fp' e=>?_⟩
  ·cases k with
  |zero=>simp at e
  |succ k=>obtain ⟨v,g1,g2⟩:=h1 k x (by simpa using e);exact ⟨v,by simpa using g1,g2⟩
  ·cases k with
  |zero=>simp at e;subst e;exact ⟨_,rfl,h,nd,λ b hb=>by simp at hb ⊢;exact .inl hb⟩
  |succ k=>obtain ⟨v,g1,g2,g3,g4⟩:=h2 k x (by simpa using e);exact ⟨v,by simpa using g1,g2,g3,λ b hb=>by have:=g4 b (by simpa using hb);simp [this]⟩
  ·cases k with
  |zero=>simp at e
  |succ k=>obtain ⟨v,g1,g2,g3,g4,g5⟩:=h3 k x (by simpa using e);exact ⟨v,by simpa using g1,g2,g3,g4,by simp [oIx,g5]⟩
  ·simp [oIx,h4 e]
  ·obtain ⟨k,x,g1,g2,g3⟩:=h5 a fp' e
   exact ⟨k+1,x,by simpa using g1,by simpa using g2,by simp [oIx,g3]⟩
|_,_,_,_,.o (a:=a) (fp:=fp) h nd r=>by
  obtain ⟨hl,fl,h1,h2,h3,h4,h5⟩:=zza r
  refine ⟨by simp [hl],λ k=>if k=0 then fp else fl (k - 1),λ k x e=>?_,λ k x e=>?_,λ k x e=>?_,λ e=>(by cases e),λ a' fp' e=>?_⟩
  ·cases k with
  |zero=>simp at e
  |succ k=>obtain ⟨v,g1,g2⟩:=h1 k x (by simpa using e);exact ⟨v,by simpa using g1,g2⟩
  ·cases k with
  |zero=>simp at e
  |succ k=>obtain ⟨v,g1,g2,g3,g4⟩:=h2 k x (by simpa using e);exact ⟨v,by simpa using g1,g2,g3,λ b hb=>g4 b (by simpa using hb)⟩
  ·cases k with
  |zero=>simp at e;subst e;exact ⟨a,rfl,rfl,h,nd,rfl⟩
  |succ k =>
    obtain ⟨v,g1,g2,g3,g4,g5⟩:=h3 k x (by simpa using e)
    cases g2
  ·cases e
   exact ⟨0,_,rfl,rfl,rfl⟩
theorem body_T {qual:Str} {st:Stmt} {N:List Str} {k:Nat} {p:DSpT}
  (body:∀ (f:Addr) (cdv:Value) (A:Around) (outer:List Env) (s:Shared) (H:Hp) (E:XK),Room k (A.deeper (envOfC qual (zf0 st) s.heap.objs.size f cdv))->∃ t d,PSs (cxOf CX0 P w K mg base N qual (zf0 st) f cdv A outer s H E).nox (zr1 st) t/\RfS K t d/\∀ as Qd a,p as Qd->d (tEnds as a Qd) (tStart N a as)) :
  zl6 P w K mg base qual st N k (spT K p):=by
 intro f cdv A outer s H vs Q E hr h
 obtain ⟨F,as,bf,oo,Qd,sf,ha,hd,hp,hq⟩:=h
 obtain ⟨t,d,h1,h2,h3⟩:=body f cdv A outer s H E hr
 obtain ⟨hl,fl,a1,a2,a3,a4,a5⟩:=zza ha
 obtain ⟨a,haa⟩:∃ a:Addr,∀ a' fp,oo=some (a',fp)->a'=a:=by
  cases oo with
 |none=>exact ⟨0,λ a' fp e=>by cases e⟩
 |some x=>exact ⟨x.1,λ a' fp e=>by cases e;rfl⟩
 have slot:∀ (i:Nat) sl,(tStart N a as)[i]?=some sl->(sl=.un/\as.length<=i) \/ ∃ g,as[i]?=some g/\sl=slotA a g:=λ i sl e=>by
  unfold tStart at e
  by_cases hi:i < as.length
  ·rw [List.getElem?_append_left (by simpa using hi),List.getElem?_map] at e
   obtain ⟨g,h1,h2⟩:=Option.map_eq_some_iff.mp e
   exact .inr ⟨g,h1,h2.symm⟩
  ·rw [List.getElem?_append_right (by simpa using hi),List.getElem?_replicate] at e
   split at e
   ·cases e;exact .inl ⟨rfl,by lia⟩
   ·cases e
 have val:∀ (i:Nat) v,vs[i]?=some v->(L2.start N vs).getD i none=some v:=λ i v e=>by
  have hi:i < vs.length:=by
   rcases Nat.lt_or_ge i vs.length with z|z
   ·exact z
   ·rw [List.getElem?_eq_none z] at e;cases e
  unfold L2.start
  rw [List.getD_eq_getElem?_getD,List.getElem?_append_left (by simpa using hi),List.getElem?_map,e]
  rfl
 have rs:RS K ⟨F,H,ofp oo⟩ F H (L2.start N vs) (tStart N a as) fl:=by
  refine ⟨λ b o _ z=>z,λ _ _ z=>z,sf,λ b _ z=>z,λ b z=>z,by simp [L2.start,tStart,hl],λ i x e=>?_,λ i sl e hs=>?_,λ i sl e ho b hb=>?_,λ i j sl sl' hij e1 e2 o1 o2 b hb hb2=>?_⟩
  ·rcases slot i _ e with ⟨z,_⟩|⟨g,e1,e2⟩
   ·cases z
   ·cases g with
   |d x'=>cases e2;obtain ⟨v,g1,g2⟩:=a1 i x e1;exact ⟨v,val i v g1,g2⟩
   |b _=>cases e2
   |o _=>cases e2
  ·rcases slot i _ e with ⟨z,_⟩|⟨g,e1,e2⟩
   ·rw [z] at hs;cases hs
   ·cases g with
   |d x'=>rw [e2] at hs;cases hs
   |b x' =>
     obtain ⟨v,g1,g2,g3,g4⟩:=a2 i x' e1
     rw [e2]
     exact ⟨v,x',val i v g1,rfl,g2,λ a u z=>(by cases z),g3⟩
   |o x' =>
     obtain ⟨a',g1,g2,g3,g4,g5⟩:=a3 i x' e1
     have:=haa a' _ g2
     subst this
     rw [e2]
     exact ⟨_,x',val i _ g1,rfl,g3,λ a u z=>(by cases z;rfl),g4⟩
  ·rcases slot i _ e with ⟨z,_⟩|⟨g,e1,e2⟩
   ·rw [z] at ho;cases ho
   ·cases g with
   |d x'=>rw [e2] at ho;cases ho
   |b x'=>rw [e2] at ho;cases ho
   |o x' =>
     obtain ⟨a',g1,g2,g3,g4,g5⟩:=a3 i x' e1
     refine .inr ⟨?_,λ t z=>?_⟩
     ·show b∈ofp oo
      rw [g2];exact hb
     ·rw [e2] at z;cases z
  ·rcases slot i _ e1 with ⟨z,_⟩|⟨g,f1,f2⟩
   ·rw [z] at o1;cases o1
   ·cases g with
   |d x'=>rw [f2] at o1;cases o1
   |b x'=>rw [f2] at o1;cases o1
   |o x' =>
     obtain ⟨a',g1,g2,g3,g4,g5⟩:=a3 i x' f1
     rcases slot j _ e2 with ⟨z,_⟩|⟨g',f1',f2'⟩
     ·rw [z] at o2;cases o2
     ·cases g' with
     |d x''=>rw [f2'] at o2;cases o2
     |b x'' =>
       obtain ⟨v,k1,k2,k3,k4⟩:=a2 j x'' f1'
       exact hd b (by rw [g2];exact hb) (k4 b hb2)
     |o x'' =>
       obtain ⟨a'',k1,k2,k3,k4,k5⟩:=a3 j x'' f1'
       rw [g5] at k5
       exact hij (Option.some.inj k5)
 have fin:∀ {F' H':Hp} {σ':L2.St} {δ':DSt} {fps':Nat->List Addr} {v:V} {r:T} {fpr:List Addr},Res K ⟨F,H,ofp oo⟩ F' H' σ' δ' fps' v r fpr->exA as a Qd r δ'->Q v H':=λ {F' H' σ' δ' fps' v r fpr} res ex=>by
  unfold exA at ex
  split at ex
  ·rename_i eo
   refine hq r (.fz .none) ex v F' H' fpr [] ⟨res.rs.hh,res.rs.ff,res.rs.fh,res.rs.nw,res.rs.al,res.rt,res.nd,res.fr,λ a' fp e=>?_⟩
   obtain ⟨k,x,g1,g2,g3⟩:=a5 a' fp e
   rw [eo] at g3;cases g3
  ·rename_i ko eo
   obtain ⟨t',et,qd⟩:=ex
   obtain ⟨x',t'',b1,b2,b3,b4,b5⟩:=res.rs.rt ko _ et rfl
   cases b2
   have:=b4 a t' rfl
   subst this
   refine hq r t' qd v F' H' fpr (fps' ko) ⟨res.rs.hh,res.rs.ff,res.rs.fh,res.rs.nw,res.rs.al,res.rt,res.nd,res.fr,λ a' fp e=>?_⟩
   have ea:=haa a' fp e
   subst ea
   refine ⟨b3,b5,λ b hb=>?_,λ b hb=>res.dj ko _ et rfl b hb⟩
   rcases res.rs.fr ko _ et rfl b hb with z|⟨z,_⟩
   ·exact .inr z
   ·have:b∈ofp oo:=z
    rw [e] at this
    exact .inl this
 refine ⟨t,h1,h2 rs (h3 as Qd a hp) ⟨λ r q=>fin ⟨r,.fz .non,.nil,λ a ha=>by simp at ha,λ _ _ _ _ a _ ha=>by simp at ha⟩ q,λ _ z=>z.elim,λ _ z=>z.elim,λ res q=>fin res q⟩⟩
theorem zxh {F H:Hp} {vs:List V} {as:List Arg} {bf:List Addr} {oo:Option (Addr×List Addr)} (h:ArgsR K F H vs as bf oo):vs.length=as.length:=(zza h).1
theorem len_T {p:DSpT} {ps:List Str} (h:∀ as Qd,p as Qd->as.length=ps.length):∀ vs H Q E,spT K p vs H Q E->vs.length=ps.length:=λ vs H Q E z=>by
 obtain ⟨F,as,bf,oo,Qd,_,ha,_,hp,_⟩:=z
 rw [zxh ha];exact h as Qd hp
def dStart (N:List Str) (ds:List D):DSt:=ds.map Sl.sh++List.replicate (N.length - ds.length) .un
def rD (Qd:D->Prop) (r:T) (_:DSt):Prop:=match r with
|.fz d=>Qd d
|.li ds=>Qd (.list ds)
|.ls ts=>∃ d,toD (.ls ts)=some d/\Qd d
|_=>False
theorem rD_toD {Qd:D->Prop} {r:T} {δ:DSt} (h:rD Qd r δ):∃ d,toD r=some d/\Qd d:=by
 cases r with
|fz d=>exact ⟨d,rfl,h⟩
|li ds=>exact ⟨_,rfl,h⟩
|ls ts=>exact h
|ob _ _=>exact h.elim
|dk _=>exact h.elim
|dt _=>exact h.elim
theorem zij {F H:Hp} {N:List Str} {vs:List V} {ds:List D} (s:Same F H) (h:IsAll K F vs ds):RS K ⟨F,H,[]⟩ F H (L2.start N vs) (dStart N ds) (λ _=>[]):=by
 have el:=h.dlen
 have no:∀ (i:Nat) sl,(dStart N ds)[i]?=some sl->sl.has=true->False:=λ i sl e hs=>by
  unfold dStart at e
  by_cases hi:i < ds.length
  ·rw [List.getElem?_append_left (by simpa using hi),List.getElem?_map] at e
   obtain ⟨x,_,z⟩:=Option.map_eq_some_iff.mp e
   subst z;cases hs
  ·rw [List.getElem?_append_right (by simpa using hi),List.getElem?_replicate] at e
   split at e
   ·cases e;cases hs
   ·cases e
 refine ⟨λ b o _ z=>z,λ _ _ z=>z,s,λ b _ z=>z,λ b z=>z,by simp [L2.start,dStart,el],λ i x e=>?_,λ i sl e hs=>(no i sl e hs).elim,λ i sl e ho=>(no i sl e (zm4 ho)).elim,λ i j sl sl' _ e _ o _=>(no i sl e (zm4 o)).elim⟩
 unfold dStart at e
 unfold L2.start
 by_cases hi:i < ds.length
 ·rw [List.getElem?_append_left (by simpa using hi),List.getElem?_map] at e
  obtain ⟨y,hx,z⟩:=Option.map_eq_some_iff.mp e
  cases z
  obtain ⟨v,hv,iv⟩:=h.dget hx
  refine ⟨v,?_,iv⟩
  rw [List.getD_eq_getElem?_getD,List.getElem?_append_left (by simp;lia),List.getElem?_map,hv]
  rfl
 ·rw [List.getElem?_append_right (by simpa using hi),List.getElem?_replicate] at e
  split at e <;> cases e
theorem res_D {F0 H0 F H:Hp} {σ:L2.St} {δ:DSt} {fps:Nat->List Addr} {v:V} {r:T} {fpr:List Addr} {d:D} (res:Res K ⟨F0,H0,[]⟩ F H σ δ fps v r fpr) (e:toD r=some d):∃ F',Ext F0 H0 F' H/\Is K F' v d:=by
 obtain ⟨F2,s1,s2,s3,s4⟩:=frz_t res.rs.fh res.rt e res.nd
 refine ⟨F2,⟨λ b o z=>res.rs.hh b o (by simp) z,res.rs.ff.trans s1,s2,λ b hb fb=>?_⟩,s4⟩
 have:b ∉ fpr:=λ z=>hb (res.fr b z)
 rw [s3 b this]
 exact res.rs.nw b hb fb
theorem body_D {qual:Str} {st:Stmt} {N:List Str} {k:Nat} {p:DSp}
  (body:∀ (f:Addr) (cdv:Value) (A:Around) (outer:List Env) (s:Shared) (H:Hp) (E:XK),Room k (A.deeper (envOfC qual (zf0 st) s.heap.objs.size f cdv))->∃ t d,PSs (cxOf CX0 P w K mg base N qual (zf0 st) f cdv A outer s H E).nox (zr1 st) t/\RfS K t d/\∀ ds Qd,p ds Qd->d { nx:=λ _=>Qd .none,rt:=rD Qd } (dStart N ds)) :
  zl6 P w K mg base qual st N k (spD K p):=by
 intro f cdv A outer s H vs Q E hr h
 obtain ⟨F,ds,Qd,sf,i,hp,hq⟩:=h
 obtain ⟨t,d,h1,h2,h3⟩:=body f cdv A outer s H E hr
 refine ⟨t,h1,h2 (zij sf i) (h3 ds Qd hp) ⟨λ r q=>hq _ q _ _ _ ⟨λ b o z=>r.hh b o (by simp) z,r.ff,r.fh,r.nw⟩ .non,λ _ z=>z.elim,λ _ z=>z.elim,λ res q=>?_⟩⟩
 obtain ⟨d',e1,e2⟩:=rD_toD (δ:=[]) q
 obtain ⟨F',ex,is⟩:=res_D res e1
 exact hq _ e2 _ _ _ ex is
theorem znr {F:Hp} {vs:List V} {ds:List D} (h:IsAll K F vs ds):vs.length=ds.length:=h.dlen
theorem len_D {p:DSp} {ps:List Str} (h:∀ ds Qd,p ds Qd->ds.length=ps.length):∀ vs H Q E,spD K p vs H Q E->vs.length=ps.length:=λ vs H Q E z=>by
 obtain ⟨F,ds,Qd,_,i,hp,_⟩:=z
 rw [znr i];exact h ds Qd hp
theorem zim {F:Hp}:∀ ns:List Int,IsAll K F (ns.map V.int) (ns.map PyData.int)
|[]=>.nil
|n :: r=>.cons (.int n) (zim r)
theorem law_D {st:Stmt} {N:List Str} {k:Nat} {fa:Addr} (M:Md K mg) (T:TopDef K "law" st) (hfa:mg "law"=some (.ref fa)) (S:FnScope N ["script"] (zf0 st)) (hb:zo6 "law" "law" st ["script"])
  (body:∀ base:Heap,K.In base->base.Ns mainGlobals mg->∀ (f:Addr) (cdv:Value) (A:Around) (outer:List Env) (s:Shared) (H:Hp) (E:XK),Room k (A.deeper (envOfC "law" (zf0 st) s.heap.objs.size f cdv)) ->
   ∃ t d,PSs (cxOf CX0 P w K mg base N "law" (zf0 st) f cdv A outer s H E).nox (zr1 st) t/\RfS K t d/\∀ (ns:List Int) (Qd:D->Prop),ns.length<=63->Qd (.bool true)->d { nx:=λ _=>Qd .none,rt:=rD Qd } (dStart N [.list (ns.map .int)])) :
  ∃ fd:FuncData,(∀ (s:Shared) (v:Value),BindsTo s fd ⟨[v],[]⟩ [("script",v)])/\∀ base:Heap,K.In base->base.Ns mainGlobals mg->FnOk P w K mg base CX0 (k+1) fa fd ["script"] (spLaw K):=by
 refine law_of M T hfa S hb (λ vs H Q E h=>by obtain ⟨a,ns,rfl,_⟩:=h;rfl) λ base kb nb=>?_
 intro f cdv A outer s H vs Q E hr h
 obtain ⟨a,ns,rfl,hS,hl,hq⟩:=h
 obtain ⟨t,d,h1,h2,h3⟩:=body base kb nb f cdv A outer s H E hr
 refine ⟨t,h1,h2 (zij (F:=H) (λ _ _ z=>z) (.cons (.lst hS (zim ns)) .nil)) (h3 ns (λ d=>d=.bool true) hl rfl) ⟨λ r q=>(by cases q),λ _ z=>z.elim,λ _ z=>z.elim,λ res q=>?_⟩⟩
 obtain ⟨d',e1,e2⟩:=rD_toD (δ:=[]) q
 obtain ⟨F',ex,is⟩:=res_D res e1
 subst e2
 cases is
 exact hq _
end
end L4
namespace L3
open PySem PySem.Spec PyProof.Rows L2
section
variable {X:Cx} {tg:Expr}
end
end L3
namespace L4
open PySem PySem.Spec PyProof.Rows L2 L3
section
variable {K:Fg} {tA:TA} {dA:DF}
def rngD3 (lo st:Int) (n:Nat):List D:=(List.range n).map λ i=>.int (lo+(i:Nat) * st)
def dRng3 (dA:DF):DF:=λ δ Q=>dA δ λ ds=>match ds with
|[.int i,.int j,.int c]=>c≠0/\(-(2 ^ 40)<=i/\i < 2 ^ 40/\-(2 ^ 40)<=j/\j < 2 ^ 40/\-(2 ^ 20)<=c/\c < 2 ^ 20)/\∃ n:Nat,Builtin.Range.rangeSize i j c=(n:Int)/\n < 2 ^ 41/\Q (rngD3 i c n)
|_=>False
def fMin2:List D->(D->Prop)->Prop
|[.int i,.int j],Q=>Q (.int (if j < i then j else i))
|_,_=>False
theorem c_min2:CB K (λ xs H Q=>∃ i j,xs=[V.int i,V.int j]/\Q (V.int (if j < i then j else i)) H) fMin2:=by
 intro F H vs ds Qd Q s hv h k
 unfold fMin2 at h
 split at h
 ·obtain ⟨v,u,rfl,h1,h2⟩:=vw2 hv
  cases h1.int;cases h2.int
  exact ⟨_,_,rfl,k _ h _ F H (Ext.refl s) (.int _)⟩
 ·exact h.elim
end
theorem e_dF (df:DF) (δ:DSt) (Q:D->Prop):dF df δ Q=( df δ λ ds=>Q (.list ds)):=rfl
theorem e_dC (d:D) (x_0:DSt) (Q:D->Prop):dC d x_0 Q=( Q d):=rfl
theorem e_dOp (f:D->D->(D->Prop)->Prop) (da db:DE) (δ:DSt) (Q:D->Prop):dOp f da db δ Q=( da δ λ x=>db δ λ y=>f x y Q):=rfl
theorem e_dRep (df:DF) (db:DE) (δ:DSt) (Q:List D->Prop):dRep df db δ Q=( df δ λ ds=>db δ λ y=>fRep ds y Q):=rfl
theorem e_dUn (f:D->(D->Prop)->Prop) (da:DE) (δ:DSt) (Q:D->Prop):dUn f da δ Q=( da δ λ x=>f x Q):=rfl
theorem zqs (da:DE) (δ:DSt) (Q:D->Prop):dNotV da δ Q=( da δ λ x=>fB x λ b=>Q (.bool (!b))):=rfl
theorem zas (da db:DE) (δ:DSt) (Q:D->Prop):dAndV da db δ Q=( da δ λ x=>fB x λ b=>if b=true then db δ Q else Q (.bool false)):=rfl
theorem zet (de:DE) (δ:DSt) (Q:Bool->Prop):dTest de δ Q=( de δ λ d=>fB d Q):=rfl
theorem e_dTru (de:DE) (δ:DSt) (Q:Bool->Prop):dTru de δ Q=( de δ λ d=>fTru d Q):=rfl
theorem e_dAnd (dt du:DT) (δ:DSt) (Q:Bool->Prop):dAnd dt du δ Q=( dt δ λ b=>if b=true then du δ Q else Q false):=rfl
theorem e_dOr (dt du:DT) (δ:DSt) (Q:Bool->Prop):dOr dt du δ Q=( dt δ λ b=>if b=true then Q true else du δ Q):=rfl
theorem e_dNot (dt:DT) (δ:DSt) (Q:Bool->Prop):dNot dt δ Q=( dt δ λ b=>Q (!b)):=rfl
theorem e_dIfE (dt:DT) (da db:DE) (δ:DSt) (Q:D->Prop):dIfE dt da db δ Q=( dt δ λ b=>if b=true then da δ Q else db δ Q):=rfl
theorem ziq (f g:D->D->(D->Prop)->Prop) (da db dc:DE) (δ:DSt) (Q:D->Prop):dChain f g da db dc δ Q=( da δ λ x=>db δ λ y=>f x y λ u=>fB u λ b=>if b=true then dc δ λ z=>g y z Q else Q (.bool false)):=rfl
theorem e_dNil (x_0:DSt) (Q:List D->Prop):dNil x_0 Q=( Q []):=rfl
theorem zfr (da:DE) (dr:DF) (δ:DSt) (Q:List D->Prop):dCons da dr δ Q=( da δ λ x=>dr δ λ xs=>Q (x :: xs)):=rfl
theorem e_dTup (dA:DF) (δ:DSt) (Q:D->Prop):dTup dA δ Q=( dA δ λ xs=>xs.length<=sizeLine/\Q (.tuple xs)):=rfl
theorem e_dLst (dA:DF) (δ:DSt) (Q:List D->Prop):dLst dA δ Q=( dA δ λ xs=>xs.length<=sizeLine/\Q xs):=rfl
theorem zhr (p:DSp) (dA:DF) (δ:DSt) (Q:D->Prop):dCall p dA δ Q=( dA δ λ ds=>p ds Q):=rfl
theorem zyp (p:DSp) (dA:DF) (δ:DSt) (Q:D->Prop):dCallB p dA δ Q=( dA δ λ ds=>p ds λ d=>flatD d=true/\Q d):=rfl
theorem e_dCB (f:List D->(D->Prop)->Prop) (dA:DF) (δ:DSt) (Q:D->Prop):dCB f dA δ Q=( dA δ λ ds=>f ds Q):=rfl
theorem e_dCF (f:List D->(List D->Prop)->Prop) (dA:DF) (δ:DSt) (Q:List D->Prop):dCF f dA δ Q=( dA δ λ ds=>f ds Q):=rfl
theorem e_dIs (T:String) (da:DE) (δ:DSt) (Q:D->Prop):dIs T da δ Q=( da δ λ d=>(∀ kvs,d≠.dict kvs)/\Q (.bool (isT T d))):=rfl
theorem zxk (x_0:DSt) (Q:Option Int->Prop):zji x_0 Q=( Q none):=rfl
theorem zvr (de:DE) (δ:DSt) (Q:Option Int->Prop):dPart de δ Q=( de δ λ d=>match d with
|.int i=>Q (some i)
|_=>False):=rfl
theorem e_dSl3 (de:DE) (dl dh dk:DO) (δ:DSt) (Q:List D->Prop):dSl3 de dl dh dk δ Q=( de δ λ d=>dl δ λ lo=>dh δ λ hi=>dk δ λ st=>match d with
|.list ds=>st≠some 0/\Q (pickG ds lo hi st)
|_=>False):=rfl
theorem e_dIt (de:DE) (δ:DSt) (Q:List D->Prop):dIt de δ Q=( de δ λ d=>fIter d Q):=rfl
theorem zxs (dA:DF) (δ:DSt) (Q:List D->Prop):dRng1 dA δ Q=( dA δ λ ds=>match ds with
|[.int j]=>-(2 ^ 62)<=j/\j < 2 ^ 62/\Q (rngD 0 j.toNat)
|_=>False):=rfl
theorem e_dZip (dA:DF) (δ:DSt) (Q:List D->Prop):dZip dA δ Q=( dA δ λ ds=>fZip ds Q):=rfl
theorem zjt (dA:DF) (δ:DSt) (Q:List D->Prop):dEnum dA δ Q=( dA δ λ ds=>match ds with
|[.list a]=>Q (enumD a)
|_=>False):=rfl
theorem e_gN (i:Nat) (d:D) (δ:DSt) (G:DSt->Prop):gN i d δ G=( G (δ.set i (.sh d))):=rfl
theorem zrq (ds:List D) (δ:DSt) (G:DSt->Prop):gsNil ds δ G=( match ds with
|[]=>G δ
|_=>False):=rfl
theorem zeq (g:DG) (gs:DGs) (ds:List D) (δ:DSt) (G:DSt->Prop):gsCons g gs ds δ G=( match ds with
|d :: r=>g d δ λ δ'=>gs r δ' G
|[]=>False):=rfl
theorem e_gT (n:Nat) (gs:DGs) (d:D) (δ:DSt) (G:DSt->Prop):gT n gs d δ G=( match d with
|.tuple ds=>ds.length=n/\gs ds δ G
|_=>False):=rfl
theorem zos (x_0:DSt) (Q:Bool->Prop):dTrue x_0 Q=( Q true):=rfl
theorem e_pFld (C:Addr) (f:Str) (dp:DP) (δ:DSt) (Q:Nat->Pth->T->Prop):pFld C f dp δ Q=( dp δ λ i p u=>nCls C u/\nFld f u λ t=>Q i (p++[.fl f]) t):=rfl
theorem e_pIx (dp:DP) (di:DE) (δ:DSt) (Q:Nat->Pth->T->Prop):pIx dp di δ Q=( dp δ λ i p u=>di δ λ k=>nIx u k λ j t=>Q i (p++[.ix j]) t):=rfl
theorem e_dPV (dp:DP) (δ:DSt) (Q:D->Prop):dPV dp δ Q=( dp δ λ _ _ u=>vwT u Q):=rfl
theorem e_dPE (dp:DP) (δ:DSt) (Q:D->Prop):dPE dp δ Q=( dp δ λ _ _ u=>fzT u Q):=rfl
theorem e_cE (de:DE) (δ:DSt) (Q:T->DSt->Prop):cE de δ Q=( de δ λ d=>Q (.fz d) δ):=rfl
theorem e_cF (df:DF) (δ:DSt) (Q:T->DSt->Prop):cF df δ Q=( df δ λ ds=>Q (.li ds) δ):=rfl
theorem zcr (E:DEnds) (δ:DSt):dNext E δ=( E.nx δ):=rfl
theorem e_dAsg (de:DE) (dg:DG) (E:DEnds) (δ:DSt):dAsg de dg E δ=( de δ λ d=>dg d δ E.nx):=rfl
theorem e_dSet (i:Nat) (dc:DC) (E:DEnds) (δ:DSt):dSet i dc E δ=( dc δ λ r δ'=>E.nx (δ'.set i (slot r))):=rfl
theorem zjr (dc:DC) (E:DEnds) (δ:DSt):dDrop dc E δ=( dc δ λ _ δ'=>E.nx δ'):=rfl
theorem e_dRet (dc:DC) (E:DEnds) (δ:DSt):dRet dc E δ=( dc δ E.rt):=rfl
theorem zft (i:Nat) (E:DEnds) (δ:DSt):dRetO i E δ=( match δ[i]? with
|some (.ow t)=>E.rt t (δ.set i .un)
|some (.sh d)=>E.rt (.fz d) δ
|_=>False):=rfl
theorem zqr (x_0:DEnds) (x_1:DSt):dDead x_0 x_1=( False):=rfl
theorem e_dIf (dt:DT) (d e:DS) (E:DEnds) (δ:DSt):dIf dt d e E δ=( dt δ λ b=>if b=true then d E δ else e E δ):=rfl
theorem e_cBM (ty:String) (f:FM) (dp:DP) (dA:DF) (δ:DSt) (Q:T->DSt->Prop):cBM ty f dp dA δ Q=( dp δ λ i p u=>tyN ty u/\dA δ λ ds=>f u ds λ u2 d=>mutS δ i p u2 λ δ'=>Q (.fz d) δ'):=rfl
theorem e_dPut (dp:DP) (dk de:DE) (E:DEnds) (δ:DSt):dPut dp dk de E δ=( de δ λ d=>dp δ λ i p u=>dk δ λ k=>fPut u k d λ u2=>mutS δ i p u2 E.nx):=rfl
theorem zmr (f:Int->Int->Int) (dp:DP) (dk de:DE) (E:DEnds) (δ:DSt):dAugS f dp dk de E δ=( dp δ λ i p u=>dk δ λ k=>fGet u k λ x=>de δ λ y=>fII f x y λ z=>fPut u k z λ u2=>mutS δ i p u2 E.nx):=rfl
theorem e_cDK (δ:DSt) (Q:T->DSt->Prop):cDK δ Q=( Q (.dk []) δ):=rfl
theorem e_cDT (δ:DSt) (Q:T->DSt->Prop):cDT δ Q=( Q (.dt []) δ):=rfl
theorem e_cN (dn:DN) (δ:DSt) (Q:T->DSt->Prop):cN dn δ Q=( dn δ λ r=>Q r δ):=rfl
theorem e_dFld (C:Addr) (f:Str) (dc:DC) (dp:DP) (E:DEnds) (δ:DSt):dFld C f dc dp E δ=( dc δ λ r δ1=>dp δ1 λ i p u=>nCls C u/\nSet f u r λ u2=>mutS δ1 i p u2 E.nx):=rfl
theorem zrl (C:Addr) (f:Str) (fn:Int->Int->Int) (dp:DP) (de:DE) (E:DEnds) (δ:DSt):zpi C f fn dp de E δ=( dp δ λ i p u=>nCls C u/\nFld f u λ t=>fzT t λ x=>de δ λ y=>nFII f fn x u y λ u2=>mutS δ i p u2 E.nx):=rfl
theorem e_dFrz (i:Nat) (p:Pth) (d:DS) (E:DEnds) (δ:DSt):dFrz i p d E δ=( fzS δ i p λ δ'=>d E δ'):=rfl
theorem e_aNil (x_0:DSt) (Q:List ArgP->Prop):aNil x_0 Q=( Q []):=rfl
theorem e_aD (de:DE) (dr:DAT) (δ:DSt) (Q:List ArgP->Prop):aD de dr δ Q=( de δ λ x=>dr δ λ as=>Q (.d x :: as)):=rfl
theorem e_aB (dp:DP) (dr:DAT) (δ:DSt) (Q:List ArgP->Prop):aB dp dr δ Q=( dp δ λ i p t=>dr δ λ as=>Q (.b i p t :: as)):=rfl
theorem e_aO (dp:DP) (dr:DAT) (δ:DSt) (Q:List ArgP->Prop):aO dp dr δ Q=( dp δ λ i p t=>dr δ λ as=>Q (.o i p t :: as)):=rfl
theorem zzs (p:DSpT) (da:DAT) (δ:DSt) (Q:T->DSt->Prop):cCall p da δ Q=( da δ λ as=>cCore p δ as Q):=rfl
theorem zlr (o:Bool) (C:Addr) (m:Str) (p:DSpT) (dp:DP) (da:DAT) (δ:DSt) (Q:T->DSt->Prop):cMeth o C m p dp da δ Q=( dp δ λ i q u=>nCls C u/\noM m u/\da δ λ as=>cCore p δ ((if o then .o i q u else .b i q u) :: as) Q):=rfl
theorem zyr (p:DSpT) (da:DAT) (δ:DSt) (Q:T->Prop):nCall p da δ Q=( da δ λ as=>nCore p as Q):=rfl
theorem znt (C:Addr) (m:Str) (p:DSpT) (dp:DP) (da:DAT) (δ:DSt) (Q:T->Prop):nMeth C m p dp da δ Q=( dp δ λ i q u=>nCls C u/\noM m u/\da δ λ as=>nCore p (.b i q u :: as) Q):=rfl
theorem e_eN (dn:DN) (δ:DSt) (Q:D->Prop):eN dn δ Q=( dn δ λ r=>fzT r Q):=rfl
theorem zit (C:Addr) (p:DSpT) (da:DAT) (δ:DSt) (Q:T->Prop):nMake C p da δ Q=( da δ λ as=>noO as/\p (.o (.ob C []) :: as.map ArgP.arg) λ r t2=>(match r with|.fz .none=>True|_=>False)/\Q t2):=rfl
theorem zus (dA:DF) (δ:DSt) (Q:List D->Prop):dRng3 dA δ Q=(dA δ λ ds=>match ds with
|[.int i,.int j,.int c]=>c≠0/\(-(2 ^ 40)<=i/\i < 2 ^ 40/\-(2 ^ 40)<=j/\j < 2 ^ 40/\-(2 ^ 20)<=c/\c < 2 ^ 20)/\∃ n:Nat,Builtin.Range.rangeSize i j c=(n:Int)/\n < 2 ^ 41/\Q (rngD3 i c n)
|_=>False):=rfl
def slT:Sl->(T->Prop)->Prop
|.sh d,N=>N (.fz d)
|.ow t,N=>N t
|.bo t,N=>N t
|.io _ t,N=>N t
|.un,_=>False
def pAt (δ:DSt) (i:Nat) (N:T->Prop):Prop:=∃ s t,δ[i]?=some s/\s.tree=some t/\N t
theorem e_dVar (i:Nat) (δ:DSt) (Q:D->Prop):dVar i δ Q=pAt δ i λ t=>fzT t Q:=rfl
theorem zys (i:Nat) (δ:DSt) (Q:D->Prop):dVarV i δ Q=pAt δ i λ t=>vwT t Q:=rfl
theorem e_pVar (i:Nat) (δ:DSt) (Q:Nat->Pth->T->Prop):pVar i δ Q=pAt δ i λ t=>Q i [] t:=rfl
theorem e_pAt0 (s:Sl) (δ:DSt) (N:T->Prop):pAt (s :: δ) 0 N=slT s N:=by
 apply propext
 cases s <;> simp [pAt,slT,Sl.tree]
theorem e_pAtS (i:Nat) (s:Sl) (δ:DSt) (N:T->Prop):pAt (s :: δ) (i+1) N=pAt δ i N:=by simp [pAt]
theorem e_mutS (δ:DSt) (i:Nat) (p:Pth) (u:T) (N:DSt->Prop):mutS δ i p u N=(match δ[i]? with
|some (.ow t)=>N (δ.set i (.ow (setP t p u)))
|some (.io a t)=>N (δ.set i (.io a (setP t p u)))
|_=>False):=rfl
theorem e_fzS (δ:DSt) (i:Nat) (p:Pth) (N:DSt->Prop):fzS δ i p N=(match δ[i]? with
|some (.ow t)=>∃ u d,getP t p=some u/\toD u=some d/\N (δ.set i (slot (setP t p (.fz d))))
|_=>False):=rfl
theorem zts (δ:DSt) (i:Nat):isOwn δ i=(match δ[i]? with
|some (.ow _)=>True
|some (.io _ _)=>True
|_=>False):=rfl
theorem zoq (t u:T):setP t [] u=u:=by cases t <;> rfl
theorem e_tyN1 (ds:List D):tyN "list" (.li ds)=True:=by simp [tyN]
theorem e_tyN2 (ds:List T):tyN "list" (.ls ds)=True:=by simp [tyN]
theorem e_tyN3 (ds:List (Key×D)):tyN "dict" (.dk ds)=True:=by simp [tyN]
theorem e_tyN4 (ds:List (List Key×D)):tyN "dict" (.dt ds)=True:=by simp [tyN]
theorem e_rDf (Qd:D->Prop) (d:D) (δ:DSt):rD Qd (.fz d) δ=Qd d:=rfl
theorem e_rDl (Qd:D->Prop) (d:List D) (δ:DSt):rD Qd (.li d) δ=Qd (.list d):=rfl
theorem e_rDs (Qd:D->Prop) (d:List T) (δ:DSt):rD Qd (.ls d) δ=∃ e,toD (.ls d)=some e/\Qd e:=rfl
theorem znq (p:DSpT) (δ:DSt) (as:List ArgP) (Q:T->DSt->Prop):cCore p δ as Q=(match oSlot as with
|some (i,q,t)=>isOwn δ i/\oneO i as/\notFz t/\p (as.map ArgP.arg) λ r t2=>mutS δ i q t2 λ δ'=>Q r δ'
|none=>noO as/\p (as.map ArgP.arg) λ r _=>Q r δ):=rfl
theorem zwq (p:DSpT) (as:List ArgP) (Q:T->Prop):nCore p as Q=(noO as/\p (as.map ArgP.arg) λ r _=>Q r):=rfl
def NCompB (items:List D) (n:Nat) (ix:List Nat) (dg:DG) (dn:DN) (δ:DSt) (Q:T->Prop):Prop:=items.length<=sizeLine/\∃ R:Nat->T->Prop,
 (∀ i d,items[i]?=some d->dg d (cST n ix δ) λ δ'=>dn δ' λ r=>R i r)/\∀ rs:List T,rs.length=items.length->(∀ (j:Nat) r,rs[j]?=some r->R j r)->Q (.ls rs)
theorem zdt (di:DF) (n:Nat) (ix:List Nat) (dg:DG) (dn:DN) (δ:DSt) (Q:T->Prop):nComp di n ix dg dn δ Q=di δ λ items=>NCompB items n ix dg dn δ Q:=rfl
theorem ncompM {α:Type} {xs:List α} {enc:α->D} (f:α->T) {n:Nat} {ix:List Nat} {dg:DG} {dn:DN} {δ:DSt} {Q:T->Prop} (hz:xs.length<=sizeLine)
  (h:∀ x∈xs,dg (enc x) (cST n ix δ) λ δ'=>dn δ' λ r=>r=f x) (q:Q (.ls (xs.map f))):NCompB (xs.map enc) n ix dg dn δ Q:=by
 refine ⟨by rw [List.length_map];exact hz,λ i r=>∀ x,xs[i]?=some x->r=f x,λ i d e=>?_,λ rs hl hR=>?_⟩
 ·rw [List.getElem?_map] at e
  obtain ⟨x,hx,rfl⟩:=Option.map_eq_some_iff.mp e
  have e1:(λ r=>∀ y,xs[i]?=some y->r=f y)=λ r=>r=f x:=by funext r;rw [hx];simp
  show dg (enc x) (cST n ix δ) λ δ'=>dn δ' λ r=>∀ y,xs[i]?=some y->r=f y
  rw [e1]
  exact h x (List.mem_of_getElem? hx)
 ·rw [List.length_map] at hl
  have:rs=xs.map f:=by
   apply List.ext_getElem?
   intro i
   rw [List.getElem?_map]
   by_cases hi:i < rs.length
   ·have e1:rs[i]?=some rs[i]:=List.getElem?_eq_getElem hi
    have e2:xs[i]?=some (xs[i]'(by lia)):=List.getElem?_eq_getElem _
    rw [e1,e2,hR i _ e1 _ e2];rfl
   ·rw [List.getElem?_eq_none (by lia),List.getElem?_eq_none (by lia)];rfl
  rw [this];exact q
def CompB (items:List D) (n:Nat) (ix:List Nat) (dg:DG) (dt:DT) (de:DE) (δ:DSt) (Q:List D->Prop):Prop:=items.length<=sizeLine/\∃ R:Nat->Option D->Prop,
 (∀ i d,items[i]?=some d->dg d (cST n ix δ) λ δ'=>dt δ' λ b=>if b=true then de δ' λ r=>R i (some r) else R i none) /\
 ∀ os:List (Option D),os.length=items.length->(∀ (j:Nat) o,os[j]?=some o->R j o)->Q (os.filterMap id)
theorem e_comp (di:DF) (n:Nat) (ix:List Nat) (dg:DG) (dt:DT) (de:DE) (δ:DSt) (Q:List D->Prop):dComp di n ix dg dt de δ Q=di δ λ items=>CompB items n ix dg dt de δ Q:=rfl
def ForB (items:List D) (dg:DG) (db:DS) (E:DEnds) (δ:DSt):Prop:=∃ W:Nat->DSt->Prop,W 0 δ /\
 (∀ i d δ',items[i]?=some d->W i δ'->dg d δ' λ δ2=>db { E with nx:=W (i+1),ct:=W (i+1),bk:=E.nx } δ2)/\∀ δ',W items.length δ'->E.nx δ'
theorem e_for (di:DF) (dg:DG) (db:DS) (E:DEnds) (δ:DSt):dFor di dg db E δ=di δ λ items=>ForB items dg db E δ:=rfl
theorem zn2 {a b:DS} {E:DEnds} {δ:DSt} (J:DSt->Prop) (h:a { E with nx:=J } δ) (hj:∀ δ',J δ'->b E δ'):dSeq a b E δ:=⟨J,h,hj⟩
theorem ze0 {a b:DS} {E:DEnds} {δ:DSt} (h:∀ J:DSt->Prop,(∀ δ',b E δ'->J δ')->a { E with nx:=J } δ):dSeq a b E δ:=⟨b E,h (b E) λ _ z=>z,λ _ z=>z⟩
theorem fm_of {α:Type} {f:α->Option D}:∀ {xs:List α} {os:List (Option D)},os.length=xs.length->(∀ (j:Nat) o x,os[j]?=some o->xs[j]?=some x->o=f x)->os.filterMap id=xs.filterMap f
|[],[],_,_=>rfl
|x :: xs,o :: os,hl,h=>by
  have e:o=f x:=h 0 o x rfl rfl
  have ih:=fm_of (f:=f) (xs:=xs) (os:=os) (by simpa using hl) λ j o' x' h1 h2=>h (j+1) o' x' (by simpa using h1) (by simpa using h2)
  rw [List.filterMap_cons,List.filterMap_cons,e,ih]
  rfl
theorem compF {α:Type} {xs:List α} {enc:α->D} (f:α->Option D) {n:Nat} {ix:List Nat} {dg:DG} {dt:DT} {de:DE} {δ:DSt} {Q:List D->Prop} (hz:xs.length<=sizeLine)
  (h:∀ x∈xs,dg (enc x) (cST n ix δ) λ δ'=>dt δ' λ b=>if b=true then de δ' λ r=>some r=f x else none=f x) (q:Q (xs.filterMap f)):CompB (xs.map enc) n ix dg dt de δ Q:=by
 refine ⟨by rw [List.length_map];exact hz,λ i o=>∀ x,xs[i]?=some x->o=f x,λ i d e=>?_,λ os hl hR=>?_⟩
 ·rw [List.getElem?_map] at e
  obtain ⟨x,hx,rfl⟩:=Option.map_eq_some_iff.mp e
  have:=h x (List.mem_of_getElem? hx)
  have e1:(λ r=>∀ y,xs[i]?=some y->some r=f y)=λ r=>some r=f x:=by
   funext r;rw [hx];simp
  have e2:(∀ y,xs[i]?=some y->(none:Option D)=f y)=(none=f x):=by rw [hx];simp
  show dg (enc x) (cST n ix δ) λ δ'=>dt δ' λ b=>if b=true then de δ' λ r=>∀ y,xs[i]?=some y->some r=f y else ∀ y,xs[i]?=some y->(none:Option D)=f y
  rw [e1,e2]
  exact this
 ·rw [List.length_map] at hl
  rw [fm_of hl λ j o x h1 h2=>hR j o h1 x h2]
  exact q
theorem compM {α:Type} {xs:List α} {enc:α->D} (g:α->D) {n:Nat} {ix:List Nat} {dg:DG} {de:DE} {δ:DSt} {Q:List D->Prop} (hz:xs.length<=sizeLine)
  (h:∀ x∈xs,dg (enc x) (cST n ix δ) λ δ'=>de δ' λ r=>r=g x) (q:Q (xs.map g)):CompB (xs.map enc) n ix dg dTrue de δ Q:=by
 refine compF (λ x=>some (g x)) hz (λ x hx=>?_) ?_
 ·have:=h x hx
  have e:(λ r=>some r=some (g x))=λ r=>r=g x:=by funext r;simp
  show dg (enc x) (cST n ix δ) λ δ'=>if true=true then de δ' λ r=>some r=some (g x) else none=some (g x)
  rw [e]
  simp only [if_true]
  exact this
 ·rw [show xs.filterMap (λ x=>some (g x))=xs.map g from congrFun List.filterMap_eq_map' xs]
  exact q
theorem zib {α:Type} {xs:List α} {enc:α->D} (W:Nat->DSt->Prop) {dg:DG} {db:DS} {E:DEnds} {δ:DSt} (h0:W 0 δ)
  (hs:∀ (i:Nat) x δ',xs[i]?=some x->W i δ'->dg (enc x) δ' λ δ2=>db { E with nx:=W (i+1),ct:=W (i+1),bk:=E.nx } δ2) (he:∀ δ',W xs.length δ'->E.nx δ'):ForB (xs.map enc) dg db E δ:=by
 refine ⟨W,h0,λ i d δ' e w=>?_,λ δ' w=>he δ' (by rw [List.length_map] at w;exact w)⟩
 rw [List.getElem?_map] at e
 obtain ⟨x,hx,rfl⟩:=Option.map_eq_some_iff.mp e
 exact hs i x δ' hx w
theorem two {c:Prop} [Decidable c] {A B:Prop} (h1:c->A) (h2:¬c->B):if c then A else B:=by
 by_cases h:c
 ·rw [if_pos h];exact h1 h
 ·rw [if_neg h];exact h2 h
theorem zfi {α β:Type} (f:α->D) (g:β->D) (xs:List α) (ys:List β):zipD (xs.map f) (ys.map g)=(xs.zip ys).map λ p=>.tuple [f p.1,g p.2]:=by
 unfold zipD
 rw [List.zipWith_map,List.zip_eq_zipWith,List.map_zipWith]
theorem zeh {α:Type} (f:α->D) (xs:List α):enumD (xs.map f)=(xs.mapIdx λ i x=>(i,x)).map λ p=>.tuple [.int (p.1:Nat),f p.2]:=by
 unfold enumD
 apply List.ext_getElem?
 intro i
 rw [List.getElem?_mapIdx,List.getElem?_map,List.getElem?_map,List.getElem?_mapIdx]
 cases xs[i]? <;> rfl
theorem at_nat {α:Type} {xs:List α} {i:Int} {x:α} (h0:0<=i) (h:xs[i.toNat]?=some x):atI xs i=some x:=by
 have e:((i.toNat:Nat):Int)=i:=by lia
 have:=zsq (xs:=xs) (j:=i.toNat) (v:=x) h
 rwa [e] at this
theorem at_of {α:Type} {xs:List α} {i:Int} (h0:0<=i) (h1:i < (xs.length:Int)):∃ x,xs[i.toNat]?=some x/\atI xs i=some x:=by
 have h:i.toNat < xs.length:=by lia
 exact ⟨xs[i.toNat],List.getElem?_eq_getElem h,at_nat h0 (List.getElem?_eq_getElem h)⟩
section
variable (K:Fg)
def RfH (te:TE) (de:DE):Prop:=∀ {F H:Hp} {σ:L2.St} {δ:DSt} {Qd:D->Prop} {Q:VK},Same F H->RV K F H σ δ->de δ Qd->(∀ d,Qd d->∀ v F' H',Ext F H F' H'->Is K H' v d->Q v H')->te σ H Q
def RfAH (ta:TA) (da:DF):Prop:=∀ {F H:Hp} {σ:L2.St} {δ:DSt} {Qd:List D->Prop} {Q:List V->Hp->Prop},Same F H->RV K F H σ δ->da δ Qd->(∀ ds,Qd ds->∀ vs F' H',Ext F H F' H'->IsAll K H' vs ds->Q vs H')->ta σ H Q
end
section
variable {K:Fg} {te ta tb:TE} {de da db:DE} {tA:TA} {dA:DF}
theorem RfV.h (h:RfV K te de):RfH K te de:=λ s r d k=>h s r d λ x q v F' H' e i=>k x q v F' H' e (i.is e.fh)
theorem rh_nil:RfAH K tNil dNil:=λ s rv h k=>k _ h _ _ _ (Ext.refl s) .nil
theorem zso {F H:Hp} {p:Addr} {o:HO} (s:Same F H) (hn:H p=none):Ext F H F (upd H p o) :=
 ⟨zt1 hn _,λ _ _ z=>z,λ b o z=>zt1 hn _ b o (s b o z),λ _ _ z=>z⟩
theorem rh_lst (h:RfAH K tA dA):RfH K (tLstU tA) (dF (dLst dA)):=by
 intro F H σ δ Qd Q s rv hd k
 refine h s rv hd λ xs hx vs F1 H1 e1 i1=>⟨by rw [i1.dlen];exact hx.1,λ p hp=>?_⟩
 exact k _ hx.2 _ _ _ (e1.trans (zso e1.fh hp)) (.lst (SqL.of zg0) (i1.mono (zt1 hp _)))
def R2H (K:Fg) (r:R2) (f:D->D->(D->Prop)->Prop):Prop:=∀ {F H:Hp} {x y:V} {d e:D} {Qd:D->Prop} {Q:VK},Same F H->Is K H x d->Is K H y e->f d e Qd->(∀ z,Qd z->∀ v F' H',Ext F H F' H'->Is K F' v z->Q v H')->r x y H Q
theorem rf_opH {r:R2} {f:D->D->(D->Prop)->Prop} (hr:R2H K r f) (ha:RfH K ta da) (hb:RfH K tb db):RfE K (tOp r ta tb) (dOp f da db):=by
 intro F H σ δ Qd Q s rv h k
 refine ha s rv h λ x hx v F1 H1 e1 i1=>hb e1.fh (rv.ext e1) hx λ y hy u F2 H2 e2 i2=>?_
 exact hr e2.fh (i1.mono e2.h) i2 hy λ z hz w F3 H3 e3 i3=>k z hz w F3 H3 ((e1.trans e2).trans e3) i3
theorem q_eq:R2H K (rEqU K) fEq:=by
 intro F H x y d e Qd Q s hx hy h k
 unfold fEq at h
 split at h
 ·cases hx.int_inv;cases hy.int_inv
  refine .inl ⟨rfl,k _ h _ F H (Ext.refl s) ?_⟩
  rw [zsd];exact .bl _
 ·cases hx.str_inv;cases hy.str_inv
  refine .inl ⟨rfl,k _ h _ F H (Ext.refl s) ?_⟩
  rw [zud];exact .bl _
 ·cases hx.bl_inv;cases hy.bl_inv
  refine .inl ⟨rfl,k _ h _ F H (Ext.refl s) ?_⟩
  rw [dec_bl];exact .bl _
 ·exact .inr ⟨_,_,hx,hy,h.1,h.2.1,k _ h.2.2 _ F H (Ext.refl s) (.bl _)⟩
theorem q_ne:R2H K (rNeU K) fNe:=by
 intro F H x y d e Qd Q s hx hy h k
 unfold fNe at h
 split at h
 ·cases hx.int_inv;cases hy.int_inv
  refine .inl ⟨rfl,k _ h _ F H (Ext.refl s) ?_⟩
  rw [zsd];exact .bl _
 ·cases hx.str_inv;cases hy.str_inv
  refine .inl ⟨rfl,k _ h _ F H (Ext.refl s) ?_⟩
  rw [zud];exact .bl _
 ·cases hx.bl_inv;cases hy.bl_inv
  refine .inl ⟨rfl,k _ h _ F H (Ext.refl s) ?_⟩
  rw [dec_bl];exact .bl _
 ·exact .inr ⟨_,_,hx,hy,h.1,h.2.1,k _ h.2.2 _ F H (Ext.refl s) (.bl _)⟩
end
theorem isT_ii (i:Int):isT "int" (.int i)=true:=rfl
theorem isT_bi (i:Int):isT "bool" (.int i)=false:=by simp [isT,tyD]
theorem isT_ll (i:List D):isT "list" (.list i)=true:=rfl
theorem isT_tt (i:List D):isT "tuple" (.tuple i)=true:=rfl
theorem isT_ss (i:Str):isT "str" (.str i)=true:=rfl
theorem nd_int (i:Int):(∀ kvs,PyData.int i≠.dict kvs)=True:=by simp
theorem zrr (i:List D):(∀ kvs,PyData.list i≠.dict kvs)=True:=by simp
theorem nd_tup (i:List D):(∀ kvs,PyData.tuple i≠.dict kvs)=True:=by simp
theorem nd_str (i:Str):(∀ kvs,PyData.str i≠.dict kvs)=True:=by simp
theorem nd_bl (i:Bool):(∀ kvs,PyData.bool i≠.dict kvs)=True:=by simp
theorem nd_non:(∀ kvs,PyData.none≠.dict kvs)=True:=by simp
theorem eqv_refl {n:Nat} {d:D} (h:Fit n d):PyData.eqv d d=true:=h.eqv
end L4
namespace L3
open PySem PySem.Spec PyProof.Rows L2
section
variable {X:Cx}
theorem zi5 {C:Addr} {m:Str} {k:Nat} {ps:List Str} {sp:Sp} {o:Expr} {ta:TE} {apos pos:Pos} {pl:Sem Bool} (d:MethD X.prog X.w X.K X.mg X.base C m k ps sp) (hr:Room k X.A) (he:PE X o ta)
  (ht:eval (.Call (.Attribute o m apos) [] [] pos) X.env=(do
   let ov <- eval o X.env
   standAt apos.atName
   let (f,first) <- holding [ov] (getMethod ov m pl)
   callWith pos f first (backTo pos (starEach [] X.env)) (backToKw pos (keywordEach [] X.env))):=by rfl) :
  PE X (.Call (.Attribute o m apos) [] [] pos) (tMeth C m sp [] E0 ta tNil):=by
 obtain ⟨f,fd,c,M,F,b⟩:=d
 exact zto he c M F hr b .nil pass0 ht
end
end L3
namespace L4
open PySem PySem.Spec PyProof.Rows L2 L3
section
variable {K:Fg} {te ta ti tv tk tb:TE} {de da di dk db:DE} {dc:DC} {tA:TA} {dA:DF}
theorem zpt (x:Int):Builtin.bitXor x 1=x+1 - 2 * (x % 2):=by
 rw [PyProof.Rows.bitXor_and,PyProof.Rows.bitAnd_m1]
end
end L4
namespace L3
open PySem PySem.Spec PyProof.Rows L2
section
variable {X:Cx}
end
end L3
namespace L4
open PySem PySem.Spec PyProof.Rows L2 L3
section
variable {K:Fg} {te ta ti tv tk tb:TE} {de da di dk db:DE} {dc:DC} {dp:DP} {tA:TA} {dA:DF}
end
end L4
namespace L3
open PySem PySem.Spec PyProof.Rows L2
structure TopDefN (K:Fg) (x:Str) (st:Stmt):Prop where
 ex:∃ (f T:Addr) (oc:Value) (od:Option Addr) (kV doc pm:Value) (an:Option Addr) (cdv ct:Value) (osl:Array (Option Value)) (o:Obj) (n:Nat),PySem.W.nsIn K mainGlobals x=some (some (.ref f)) /\
  K.lookup f=some ⟨oc,od,.func (PySem.W.fnOf x x (zn5 st) (zr1 st) (zf0 st) (.ref T) kV doc pm an cdv ct),osl⟩/\PySem.W.codeIn K cdv x=true/\PySem.W.keepIn K (.ref f)=true/\K.lookup T=some o/\o.data=.seq #[.none] n
theorem zuj {K:Fg} {x:Str} {st:Stmt} {f T:Addr} {oc:Value} {od an:Option Addr} {osl:Array (Option Value)} {kV doc pm cdv ct:Value} {o:Obj} {n:Nat} (a:PySem.W.nsIn K mainGlobals x=some (some (.ref f)))
  (l:K.lookup f=some ⟨oc,od,.func (PySem.W.fnOf x x (zn5 st) (zr1 st) (zf0 st) (.ref T) kV doc pm an cdv ct),osl⟩) (c:PySem.W.codeIn K cdv x=true) (k:PySem.W.keepIn K (.ref f)=true) (lt:K.lookup T=some o) (hd:o.data=.seq #[.none] n):TopDefN K x st :=
 ⟨f,T,oc,od,kV,doc,pm,an,cdv,ct,osl,o,n,a,l,c,k,lt,hd⟩
def DefN (P:Program) (w:World) (K:Fg) (mg:Str->Option Value) (base:Heap) (x:Str) (k:Nat) (ps:List Str) (sp:Sp):Prop :=
 ∃ f fd,FnOk P w K mg base CX0 k f fd ps sp/\Binds K fd ps []/\Binds K fd ps [.none]/\PySem.W.keepIn K (.ref f)=true/\mg x=some (.ref f)
theorem DefN.d {P:Program} {w:World} {K:Fg} {mg:Str->Option Value} {base:Heap} {x:Str} {k:Nat} {ps:List Str} {sp:Sp} (h:DefN P w K mg base x k ps sp):Def P w K mg base x k ps sp:=by
 obtain ⟨f,fd,F,b,_,kp,m⟩:=h
 exact ⟨f,fd,F,b,kp,m⟩
section
variable {P:Program} {w:World} {K:Fg} {mg:Str->Option Value} {base:Heap}
end
section
variable {X:Cx} {k:Nat} {C:Addr} {ps:List Str} {sp:Sp} {x m:Str} {p pos apos:Pos} {e o:Expr} {es:List Expr} {ta:TE} {t:TA}
end
end L3
namespace L4
open PySem PySem.Spec PyProof.Rows L2 L3
section
variable {K:Fg} {te ta ti tv tk tb:TE} {de da di dk db:DE} {dc:DC} {dp:DP} {tA:TA} {dA:DF}
end
section
variable {K:Fg} {tA:TA} {dA:DF}
end
end L4
namespace L5
open PySem PySem.Spec PyProof.Rows L2 L3 L4
theorem ar1 {α:Type} {us:List α} (h:us.length=1):∃ a,us=[a]:=by
 rcases us with _|⟨a,_|⟨b,us⟩⟩
 ·cases h
 ·exact ⟨a,rfl⟩
 ·cases h
theorem ars {α:Type} {n:Nat} {us:List α} (h:us.length=n+1):∃ a r,us=a :: r/\r.length=n:=by
 rcases us with _|⟨a,us⟩
 ·cases h
 ·exact ⟨a,us,rfl,Nat.succ.inj h⟩
theorem ar2 {α:Type} {us:List α} (h:us.length=2):∃ a b,us=[a,b]:=by
 obtain ⟨a,r,rfl,k⟩:=ars h
 obtain ⟨b,rfl⟩:=ar1 k
 exact ⟨a,b,rfl⟩
theorem ar3 {α:Type} {us:List α} (h:us.length=3):∃ a b c,us=[a,b,c]:=by
 obtain ⟨a,r,rfl,k⟩:=ars h
 obtain ⟨b,c,rfl⟩:=ar2 k
 exact ⟨a,b,c,rfl⟩
theorem ar4 {α:Type} {us:List α} (h:us.length=4):∃ a b c d,us=[a,b,c,d]:=by
 obtain ⟨a,r,rfl,k⟩:=ars h
 obtain ⟨b,c,d,rfl⟩:=ar3 k
 exact ⟨a,b,c,d,rfl⟩
theorem ar5 {α:Type} {us:List α} (h:us.length=5):∃ a b c d e,us=[a,b,c,d,e]:=by
 obtain ⟨a,r,rfl,k⟩:=ars h
 obtain ⟨b,c,d,e,rfl⟩:=ar4 k
 exact ⟨a,b,c,d,e,rfl⟩
section
variable {prog:Program} {w:World} {A:Around} {E:Value->Shared->Prop}
end
section
variable {prog:Program} {w:World} {A:Around} {R:Result->Shared->Prop} {I:Addr} {fp wr:List Addr} {n:Nat} {P:Nat->Value->Prop} {St:Nat->Heap->Prop} {d:Value}
end
section
variable {X:Cx} {x:Str} {p pos kp:Pos} {e e2:Expr} {te te2:TE}
end
section
variable {K:Fg} {te te2:TE} {df:DE} {dd:DE}
end
section
variable {P:Program} {w:World} {K:Fg} {mg:Str->Option Value} {base:Heap} {m:Str} {k:Nat} {ta:TE} {tA:TA} {dn:DN} {dA:DF}
abbrev Tab:=List (Addr×DSpT)
theorem args_d {F H:Hp}:∀ {vs:List V} {ds:List D},IsAll K F vs ds->ArgsR K F H vs (ds.map .d) [] none
|_,_,.nil=>.nil
|_,_,.cons h r=>.d h (args_d r)
theorem tab3 {C1 C2 C3:Addr} {p1 p2 p3:DSpT} (h1:∃ ps,MethD P w K mg base C1 m k ps (spT K p1)) (h2:∃ ps,MethD P w K mg base C2 m k ps (spT K p2)) (h3:∃ ps,MethD P w K mg base C3 m k ps (spT K p3)) :
  ∀ C p,(C,p)∈[(C1,p1),(C2,p2),(C3,p3)]->∃ ps,MethD P w K mg base C m k ps (spT K p):=λ C p h=>by
 rcases List.mem_cons.mp h with e|h
 ·cases e;exact h1
 rcases List.mem_cons.mp h with e|h
 ·cases e;exact h2
 rcases List.mem_cons.mp h with e|h
 ·cases e;exact h3
 ·simp at h
end
section
variable {P:Program} {w:World} {K:Fg} {mg:Str->Option Value} {base:Heap} {m:Str} {k:Nat} {ta tk tx:TE} {tA:TA} {dp:DP} {dk dx:DE} {dA:DF}
def fGet2 (u:T) (k x:D) (Q:D->Prop):Prop:=match u with
|.dk kvs=>∃ key,keyD k=some key/\Q ((getA kvs key).getD x)
|.dt kvs=>∃ key,keyT k=some key/\Q ((getA kvs key).getD x)
|_=>False
def nGet2 (dp:DP) (dk dx:DE):DE:=λ δ Q=>dp δ λ _ _ u=>tyN "dict" u/\dk δ λ k=>dx δ λ x=>fGet2 u k x Q
theorem zzr (dp:DP) (dk dx:DE) (δ:DSt) (Q:D->Prop):nGet2 dp dk dx δ Q=(dp δ λ _ _ u=>tyN "dict" u/\dk δ λ k=>dx δ λ x=>fGet2 u k x Q):=rfl
theorem zks {F H:Hp} {v kv xv:V} {u:T} {fn:List Addr} {k x:D} {Qd:D->Prop} {Q:VK} (s:Same F H) (hr:Rt K F H v u fn) (hk:Is K F kv k) (hx:Is K F xv x) (hf:fGet2 u k x Qd) (q:∀ d y,Qd d->Is K F y d->Q y H):rDGet2 v [kv,xv] H Q:=by
 cases hr with
|dk h1 h2 h3 =>
  obtain ⟨key,ek,qd⟩:=hf
  have:=key_is hk ek
  subst this
  rcases h3.get (k:=key) with ⟨g1,g2⟩|⟨d',y,g1,g2,g3⟩
  ·rw [g1] at qd
   exact ⟨_,_,_,none,rfl,rfl,by rw [<- g2];exact DGet.k h1,q _ _ qd hx⟩
  ·rw [g1] at qd
   exact ⟨_,_,_,some y,rfl,rfl,by rw [<- g2];exact DGet.k h1,q _ _ qd g3⟩
|dt h1 h2 h3 =>
  obtain ⟨key,ek,qd⟩:=hf
  obtain ⟨kb,rfl,hb⟩:=zah hk ek
  rcases h3.get (k:=key) with ⟨g1,g2⟩|⟨d',y,g1,g2,g3⟩
  ·rw [g1] at qd
   exact ⟨_,_,_,none,rfl,rfl,by rw [<- g2];exact DGet.t h1 (s _ _ hb),q _ _ qd hx⟩
  ·rw [g1] at qd
   exact ⟨_,_,_,some y,rfl,rfl,by rw [<- g2];exact DGet.t h1 (s _ _ hb),q _ _ qd g3⟩
|fz _=>exact hf.elim
|li _ _ _=>exact hf.elim
|ls _ _ _=>exact hf.elim
|ob _ _ _ _ _=>exact hf.elim
theorem zen (hp:RfP K ta dp) (hk:RfE K tk dk) (hx:RfE K tx dx):RfE K (tBMU K "dict" rDGet2 ta (tCons tk (tCons tx tNil))) (nGet2 dp dk dx):=by
 intro F H σ δ Qd Q s rv hd kk
 refine hp s rv hd λ i p u hu v F1 H1 e1 at1=>?_
 have rv1:=rv.ext e1
 obtain ⟨fn,hr⟩:=at1.rt rv1
 refine ⟨ty_of hr hu.1,hk e1.fh rv1 hu.2 λ kd hkd kv F2 H2 e2 i2=>hx e2.fh (rv1.ext e2) hkd λ xd hxd xv F3 H3 e3 i3=>?_⟩
 have e13:=(e1.trans e2).trans e3
 exact zks e3.fh ((hr.ext e2).ext e3) (i2.mono e3.f) i3 hxd λ d y qd iy=>kk d qd y F3 H3 e13 iy
def nMethP (m:Str) (tab:Tab) (dp:DP) (dA:DF):DN:=λ δ Q=>dp δ λ _ _ u=>match u with
|.ob C fs=>noM m (.ob C fs)/\∃ p,(C,p)∈tab/\dA δ λ ds=>p (.b (.ob C fs) :: ds.map .d) λ r _=>Q r
|_=>False
theorem zsp (m:Str) (tab:Tab) (dp:DP) (dA:DF) (δ:DSt) (Q:T->Prop):nMethP m tab dp dA δ Q=(dp δ λ _ _ u=>match u with
|.ob C fs=>noM m (.ob C fs)/\∃ p,(C,p)∈tab/\dA δ λ ds=>p (.b (.ob C fs) :: ds.map .d) λ r _=>Q r
|_=>False):=rfl
theorem zfj {tab:Tab} (ht:∀ C p,(C,p)∈tab->∃ ps,MethD P w K mg base C m k ps (spT K p)) (h1:RfP K ta dp) (h2:RfA K tA dA):RfN K (tMethX P w K mg base m k ta tA) (nMethP m tab dp dA):=by
 intro F H σ δ Qd Q s rv hd kk
 refine h1 s rv hd λ i q u hu v F1 H1 e1 at1=>?_
 have rv1:=rv.ext e1
 obtain ⟨fn,r1,nd1⟩:=at1.rtV rv1
 cases r1 with
|ob g1 g2 g3 g4 g5 =>
  rename_i a C dx' kvs fs fp'
  obtain ⟨nm,p,hp,hq⟩:=hu
  obtain ⟨ps,md⟩:=ht C p hp
  refine ⟨a,C,dx',kvs,ps,_,rfl,g1,(g5.keys m).1 nm,md,h2 e1.fh rv1 hq λ ds hds vs F2 H2 e2 i2=>?_⟩
  have r2:Rt K F2 H2 (.ref a) (.ob C fs) (a :: dx' :: fp'):=(Rt.ob g1 g2 g3 g4 g5).ext e2
  have e12:=e1.trans e2
  refine ⟨F2,_,_,none,_,e2.fh,.b r2 nd1 (args_d i2),(λ b hb=>by simp [ofp] at hb),hds,λ r2 t2 q2 v F' H' fpr fpo post=>?_⟩
  exact kk _ q2 v F' H' fpr (e12.trans ⟨λ b o hb=>post.hh b o (by simp [ofp]) hb,post.ff,post.fh,post.nw⟩) post.rt post.nd λ b hb=>zj1 e12 (post.fr b hb)
|fz _=>exact hu.elim
|li _ _ _=>exact hu.elim
|ls _ _ _=>exact hu.elim
|dk _ _ _=>exact hu.elim
|dt _ _ _=>exact hu.elim
end
end L5
namespace L5
open PySem
theorem zx6:((Str.ofString "wide") == (Str.ofString "since"))=false:=by decide +kernel
theorem zz6:((Str.ofString "wide") == (Str.ofString "other"))=false:=by decide +kernel
theorem zh9:((Str.ofString "wide") == (Str.ofString "turn"))=false:=by decide +kernel
theorem zee:((Str.ofString "since") == (Str.ofString "wide"))=false:=by decide +kernel
theorem zjd:((Str.ofString "other") == (Str.ofString "wide"))=false:=by decide +kernel
theorem zc7:((Str.ofString "other") == (Str.ofString "turn"))=false:=by decide +kernel
theorem zxe:((Str.ofString "turn") == (Str.ofString "wide"))=false:=by decide +kernel
theorem zhe:((Str.ofString "turn") == (Str.ofString "other"))=false:=by decide +kernel
theorem zy8:((Str.ofString "width_at") == (Str.ofString "wide"))=false:=by decide +kernel
theorem zn7:((Str.ofString "width_at") == (Str.ofString "since"))=false:=by decide +kernel
theorem zl7:((Str.ofString "width_at") == (Str.ofString "other"))=false:=by decide +kernel
theorem zr8:((Str.ofString "width_at") == (Str.ofString "turn"))=false:=by decide +kernel
theorem zmd:((Str.ofString "wide")=(Str.ofString "since"))=False:=eq_false (by intro h;have:=zx6;rw [h] at this;simp at this)
theorem zkd:((Str.ofString "wide")=(Str.ofString "other"))=False:=eq_false (by intro h;have:=zz6;rw [h] at this;simp at this)
theorem zdf:((Str.ofString "wide")=(Str.ofString "turn"))=False:=eq_false (by intro h;have:=zh9;rw [h] at this;simp at this)
theorem zae:((Str.ofString "other")=(Str.ofString "turn"))=False:=eq_false (by intro h;have:=zc7;rw [h] at this;simp at this)
theorem zs5:((Str.ofString "rooms") == (Str.ofString "lying"))=false:=by decide +kernel
theorem zk5:((Str.ofString "rooms") == (Str.ofString "pipes"))=false:=by decide +kernel
theorem zh5:((Str.ofString "rooms") == (Str.ofString "gates"))=false:=by decide +kernel
theorem zo4:((Str.ofString "rooms") == (Str.ofString "moment"))=false:=by decide +kernel
theorem zv3:((Str.ofString "rooms") == (Str.ofString "entered"))=false:=by decide +kernel
theorem zk4:((Str.ofString "rooms") == (Str.ofString "coming"))=false:=by decide +kernel
theorem zub:((Str.ofString "lying") == (Str.ofString "rooms"))=false:=by decide +kernel
theorem zu5:((Str.ofString "lying") == (Str.ofString "pipes"))=false:=by decide +kernel
theorem zo5:((Str.ofString "lying") == (Str.ofString "gates"))=false:=by decide +kernel
theorem zt4:((Str.ofString "lying") == (Str.ofString "moment"))=false:=by decide +kernel
theorem zw3:((Str.ofString "lying") == (Str.ofString "entered"))=false:=by decide +kernel
theorem zr4:((Str.ofString "lying") == (Str.ofString "coming"))=false:=by decide +kernel
theorem zwc:((Str.ofString "pipes") == (Str.ofString "rooms"))=false:=by decide +kernel
theorem zv5:((Str.ofString "pipes") == (Str.ofString "lying"))=false:=by decide +kernel
theorem zl5:((Str.ofString "pipes") == (Str.ofString "gates"))=false:=by decide +kernel
theorem zv4:((Str.ofString "pipes") == (Str.ofString "moment"))=false:=by decide +kernel
theorem zb4:((Str.ofString "pipes") == (Str.ofString "entered"))=false:=by decide +kernel
theorem zx4:((Str.ofString "pipes") == (Str.ofString "coming"))=false:=by decide +kernel
theorem ztc:((Str.ofString "gates") == (Str.ofString "rooms"))=false:=by decide +kernel
theorem zq5:((Str.ofString "gates") == (Str.ofString "lying"))=false:=by decide +kernel
theorem zqc:((Str.ofString "gates") == (Str.ofString "pipes"))=false:=by decide +kernel
theorem zw4:((Str.ofString "gates") == (Str.ofString "moment"))=false:=by decide +kernel
theorem zk3:((Str.ofString "gates") == (Str.ofString "entered"))=false:=by decide +kernel
theorem zn4:((Str.ofString "gates") == (Str.ofString "coming"))=false:=by decide +kernel
theorem zla:((Str.ofString "moment") == (Str.ofString "rooms"))=false:=by decide +kernel
theorem zq4:((Str.ofString "moment") == (Str.ofString "lying"))=false:=by decide +kernel
theorem zba:((Str.ofString "moment") == (Str.ofString "pipes"))=false:=by decide +kernel
theorem zga:((Str.ofString "moment") == (Str.ofString "gates"))=false:=by decide +kernel
theorem zf3:((Str.ofString "moment") == (Str.ofString "entered"))=false:=by decide +kernel
theorem zo3:((Str.ofString "moment") == (Str.ofString "coming"))=false:=by decide +kernel
theorem zm8:((Str.ofString "entered") == (Str.ofString "rooms"))=false:=by decide +kernel
theorem zn3:((Str.ofString "entered") == (Str.ofString "lying"))=false:=by decide +kernel
theorem zq9:((Str.ofString "entered") == (Str.ofString "pipes"))=false:=by decide +kernel
theorem zo8:((Str.ofString "entered") == (Str.ofString "gates"))=false:=by decide +kernel
theorem zg3:((Str.ofString "entered") == (Str.ofString "moment"))=false:=by decide +kernel
theorem zd3:((Str.ofString "entered") == (Str.ofString "coming"))=false:=by decide +kernel
theorem zma:((Str.ofString "coming") == (Str.ofString "rooms"))=false:=by decide +kernel
theorem zl4:((Str.ofString "coming") == (Str.ofString "lying"))=false:=by decide +kernel
theorem zpa:((Str.ofString "coming") == (Str.ofString "pipes"))=false:=by decide +kernel
theorem zca:((Str.ofString "coming") == (Str.ofString "gates"))=false:=by decide +kernel
theorem zi3:((Str.ofString "coming") == (Str.ofString "moment"))=false:=by decide +kernel
theorem ze3:((Str.ofString "coming") == (Str.ofString "entered"))=false:=by decide +kernel
theorem zmf:((Str.ofString "now") == (Str.ofString "rooms"))=false:=by decide +kernel
theorem znf:((Str.ofString "now") == (Str.ofString "lying"))=false:=by decide +kernel
theorem zaf:((Str.ofString "now") == (Str.ofString "pipes"))=false:=by decide +kernel
theorem zjf:((Str.ofString "now") == (Str.ofString "gates"))=false:=by decide +kernel
theorem zxd:((Str.ofString "now") == (Str.ofString "moment"))=false:=by decide +kernel
theorem zzc:((Str.ofString "now") == (Str.ofString "entered"))=false:=by decide +kernel
theorem zme:((Str.ofString "now") == (Str.ofString "coming"))=false:=by decide +kernel
theorem zad:((Str.ofString "holds") == (Str.ofString "rooms"))=false:=by decide +kernel
theorem zpb:((Str.ofString "holds") == (Str.ofString "lying"))=false:=by decide +kernel
theorem ztb:((Str.ofString "holds") == (Str.ofString "pipes"))=false:=by decide +kernel
theorem zfc:((Str.ofString "holds") == (Str.ofString "gates"))=false:=by decide +kernel
theorem zz9:((Str.ofString "holds") == (Str.ofString "moment"))=false:=by decide +kernel
theorem zw8:((Str.ofString "holds") == (Str.ofString "entered"))=false:=by decide +kernel
theorem zwa:((Str.ofString "holds") == (Str.ofString "coming"))=false:=by decide +kernel
theorem zn6:((Str.ofString "under_way") == (Str.ofString "rooms"))=false:=by decide +kernel
theorem zg6:((Str.ofString "under_way") == (Str.ofString "lying"))=false:=by decide +kernel
theorem zj6:((Str.ofString "under_way") == (Str.ofString "pipes"))=false:=by decide +kernel
theorem zi6:((Str.ofString "under_way") == (Str.ofString "gates"))=false:=by decide +kernel
theorem zp5:((Str.ofString "under_way") == (Str.ofString "moment"))=false:=by decide +kernel
theorem za5:((Str.ofString "under_way") == (Str.ofString "entered"))=false:=by decide +kernel
theorem zy5:((Str.ofString "under_way") == (Str.ofString "coming"))=false:=by decide +kernel
theorem za8:((Str.ofString "room_in") == (Str.ofString "rooms"))=false:=by decide +kernel
theorem zb8:((Str.ofString "room_in") == (Str.ofString "lying"))=false:=by decide +kernel
theorem ze8:((Str.ofString "room_in") == (Str.ofString "pipes"))=false:=by decide +kernel
theorem zu8:((Str.ofString "room_in") == (Str.ofString "gates"))=false:=by decide +kernel
theorem zr7:((Str.ofString "room_in") == (Str.ofString "moment"))=false:=by decide +kernel
theorem zd6:((Str.ofString "room_in") == (Str.ofString "entered"))=false:=by decide +kernel
theorem zs7:((Str.ofString "room_in") == (Str.ofString "coming"))=false:=by decide +kernel
theorem zzd:((Str.ofString "full") == (Str.ofString "rooms"))=false:=by decide +kernel
theorem zke:((Str.ofString "full") == (Str.ofString "lying"))=false:=by decide +kernel
theorem zce:((Str.ofString "full") == (Str.ofString "pipes"))=false:=by decide +kernel
theorem zgd:((Str.ofString "full") == (Str.ofString "gates"))=false:=by decide +kernel
theorem zkc:((Str.ofString "full") == (Str.ofString "moment"))=false:=by decide +kernel
theorem zja:((Str.ofString "full") == (Str.ofString "entered"))=false:=by decide +kernel
theorem zyc:((Str.ofString "full") == (Str.ofString "coming"))=false:=by decide +kernel
theorem zif:((Str.ofString "let") == (Str.ofString "rooms"))=false:=by decide +kernel
theorem zlf:((Str.ofString "let") == (Str.ofString "lying"))=false:=by decide +kernel
theorem zvf:((Str.ofString "let") == (Str.ofString "pipes"))=false:=by decide +kernel
theorem zzf:((Str.ofString "let") == (Str.ofString "gates"))=false:=by decide +kernel
theorem zqd:((Str.ofString "let") == (Str.ofString "moment"))=false:=by decide +kernel
theorem zsc:((Str.ofString "let") == (Str.ofString "entered"))=false:=by decide +kernel
theorem zie:((Str.ofString "let") == (Str.ofString "coming"))=false:=by decide +kernel
theorem zec:((Str.ofString "go_on") == (Str.ofString "rooms"))=false:=by decide +kernel
theorem zqb:((Str.ofString "go_on") == (Str.ofString "lying"))=false:=by decide +kernel
theorem zcd:((Str.ofString "go_on") == (Str.ofString "pipes"))=false:=by decide +kernel
theorem zyb:((Str.ofString "go_on") == (Str.ofString "gates"))=false:=by decide +kernel
theorem zva:((Str.ofString "go_on") == (Str.ofString "moment"))=false:=by decide +kernel
theorem zg8:((Str.ofString "go_on") == (Str.ofString "entered"))=false:=by decide +kernel
theorem zsa:((Str.ofString "go_on") == (Str.ofString "coming"))=false:=by decide +kernel
theorem zvc:((Str.ofString "rooms")=(Str.ofString "lying"))=False:=eq_false (by intro h;have:=zs5;rw [h] at this;simp at this)
theorem zsb:((Str.ofString "rooms")=(Str.ofString "pipes"))=False:=eq_false (by intro h;have:=zk5;rw [h] at this;simp at this)
theorem zgc:((Str.ofString "rooms")=(Str.ofString "gates"))=False:=eq_false (by intro h;have:=zh5;rw [h] at this;simp at this)
theorem zia:((Str.ofString "rooms")=(Str.ofString "moment"))=False:=eq_false (by intro h;have:=zo4;rw [h] at this;simp at this)
theorem zf8:((Str.ofString "rooms")=(Str.ofString "entered"))=False:=eq_false (by intro h;have:=zv3;rw [h] at this;simp at this)
theorem zea:((Str.ofString "rooms")=(Str.ofString "coming"))=False:=eq_false (by intro h;have:=zk4;rw [h] at this;simp at this)
theorem zbd:((Str.ofString "lying")=(Str.ofString "pipes"))=False:=eq_false (by intro h;have:=zu5;rw [h] at this;simp at this)
theorem zic:((Str.ofString "lying")=(Str.ofString "gates"))=False:=eq_false (by intro h;have:=zo5;rw [h] at this;simp at this)
theorem zka:((Str.ofString "lying")=(Str.ofString "moment"))=False:=eq_false (by intro h;have:=zt4;rw [h] at this;simp at this)
theorem zv8:((Str.ofString "lying")=(Str.ofString "entered"))=False:=eq_false (by intro h;have:=zw3;rw [h] at this;simp at this)
theorem zna:((Str.ofString "lying")=(Str.ofString "coming"))=False:=eq_false (by intro h;have:=zr4;rw [h] at this;simp at this)
theorem zac:((Str.ofString "pipes")=(Str.ofString "lying"))=False:=eq_false (by intro h;have:=zv5;rw [h] at this;simp at this)
theorem znc:((Str.ofString "pipes")=(Str.ofString "gates"))=False:=eq_false (by intro h;have:=zl5;rw [h] at this;simp at this)
theorem zfa:((Str.ofString "pipes")=(Str.ofString "moment"))=False:=eq_false (by intro h;have:=zv4;rw [h] at this;simp at this)
theorem zh8:((Str.ofString "pipes")=(Str.ofString "entered"))=False:=eq_false (by intro h;have:=zb4;rw [h] at this;simp at this)
theorem zra:((Str.ofString "pipes")=(Str.ofString "coming"))=False:=eq_false (by intro h;have:=zx4;rw [h] at this;simp at this)
theorem zdd:((Str.ofString "gates")=(Str.ofString "lying"))=False:=eq_false (by intro h;have:=zq5;rw [h] at this;simp at this)
theorem zoa:((Str.ofString "gates")=(Str.ofString "moment"))=False:=eq_false (by intro h;have:=zw4;rw [h] at this;simp at this)
theorem zk9:((Str.ofString "gates")=(Str.ofString "entered"))=False:=eq_false (by intro h;have:=zk3;rw [h] at this;simp at this)
theorem zxa:((Str.ofString "gates")=(Str.ofString "coming"))=False:=eq_false (by intro h;have:=zn4;rw [h] at this;simp at this)
theorem zy9:((Str.ofString "moment")=(Str.ofString "lying"))=False:=eq_false (by intro h;have:=zq4;rw [h] at this;simp at this)
theorem zi7:((Str.ofString "moment")=(Str.ofString "entered"))=False:=eq_false (by intro h;have:=zf3;rw [h] at this;simp at this)
theorem zs8:((Str.ofString "moment")=(Str.ofString "coming"))=False:=eq_false (by intro h;have:=zo3;rw [h] at this;simp at this)
theorem zd9:((Str.ofString "entered")=(Str.ofString "lying"))=False:=eq_false (by intro h;have:=zn3;rw [h] at this;simp at this)
theorem zj7:((Str.ofString "entered")=(Str.ofString "moment"))=False:=eq_false (by intro h;have:=zg3;rw [h] at this;simp at this)
theorem zk7:((Str.ofString "entered")=(Str.ofString "coming"))=False:=eq_false (by intro h;have:=zd3;rw [h] at this;simp at this)
theorem zua:((Str.ofString "coming")=(Str.ofString "lying"))=False:=eq_false (by intro h;have:=zl4;rw [h] at this;simp at this)
theorem zg9:((Str.ofString "coming")=(Str.ofString "moment"))=False:=eq_false (by intro h;have:=zi3;rw [h] at this;simp at this)
theorem zu7:((Str.ofString "coming")=(Str.ofString "entered"))=False:=eq_false (by intro h;have:=ze3;rw [h] at this;simp at this)
end L5
namespace L3
open PySem PySem.Spec PyProof.Rows L2
section
variable {s:Shared} {w:World} {prog:Program} {E:Value->Shared->Prop} {A:Around}
theorem zno {d:Addr} {od:Obj} {Q:Value->Shared->Prop} (go:s.heap.get? d=some od) (gc:od.cls=.type "dict") (gs:(d == sysModules)=false)
  (h:Q (.ref s.heap.objs.size) { s with heap:=s.heap.push { cls:=.type "dict_items",data:=.fields #[.ref d] } }):wpAny (model prog w) A (call (.builtin "dict.items") [.ref d]) Q E s:=by
 refine wpAny_call_entry PySem.F.slot_dict_items ⟨od,go,gc⟩ PySem.F.entry_dict_items ?_ (PySem.F.args_dict_items_1 _)
 unfold Builtin.«dict.items» Builtin.Dict.noArgs
 refine wpAny_bind (wpAny_bind (wpAny_notOrdered_dict ⟨od,go,gc⟩ (wpAny_pure ?_)))
 unfold Builtin.Dict.showsAll
 refine wpAny_bind ?_
 rw [gs,if_neg Bool.false_ne_true]
 exact wpAny_pure (wpAny_bind (wpAny_newObj_type (wpAny_pure ⟨_,rfl,h⟩)))
abbrev itF (d:Addr) (i n ep:Nat) (x k v:Value):Array Value:=#[x,.bool false,.ref d,.int i 0,.int n 0,.int ep 0,k,v]
theorem owns:Builtin.Dict_items.ownsTuple "dict_itemiterator"=true:=by decide
theorem zyo {v d:Addr} {od:Obj} {es:Array DictEntry} {ep:Nat} {Q:Value->Shared->Prop} (gv:s.heap.IsItemsView v d) (go:s.heap.get? d=some od) (gd:od.data=.dict es ep)
  (q:Q (.ref s.heap.objs.size) { s with heap:=s.heap.push { cls:=.type "dict_itemiterator",data:=.fields (itF d 0 es.size ep .none .none .none) } }):wpAny (model prog w) A (pyIter (.ref v)) Q E s:=by
 refine wpAny_pyIter_slot gv.typeIs F.slot_dict_items_iter (wpAny_call_entry F.slot_dict_items_iter gv.typeIs F.entry_dict_items_iter ?_ (F.args_dict_items_iter_1 _))
 obtain ⟨vo,v1,v2,v3⟩:=gv
 unfold Builtin.«dict_items.__iter__» Builtin.Dict_items.dictOf Builtin.Dict_items.newIterator
 refine wpAny_bind (wpAny_pure (wpAny_bind (wpAny_bind (wpAny_field v1 v3 (x:=.ref d) rfl (wpAny_pure ?_)))))
 refine wpAny_bind (wpAny_bind (wpAny_dictEntries go gd (wpAny_bind (wpAny_dictEpoch go gd ?_))))
 simp only [owns,if_true]
 refine wpAny_newObj_type (hd:=?_) (wpAny_pure ⟨_,rfl, "dict_itemiterator",_,⟨_,Heap.get?_push_size _ rfl,rfl⟩,F.slot_dict_itemiterator_next.lookup,?_⟩)
 ·simpa [rawInt,Builtin.Dict_items.ownedTupleFields,itF] using q
 ·simp [sizeOk,Builtin.Dict_items.ownedTupleFields,sizeLine_eq]
theorem zpd {it d:Addr} {od:Obj} {es:Array DictEntry} {i ep:Nat} {k0 v0:Value} {Q:Option Value->Shared->Prop} (calm:A.handled=none) (gi:IsItemIter s.heap it d i es.size ep k0 v0) (go:s.heap.get? d=some od) (gd:od.data=.dict es ep)
  (q1:∀ (lt:i < es.size) (h':Heap),IsItemIterOut h' it d (i+1) es.size ep es[i].key es[i].val s.heap.objs.size->h'.get? s.heap.objs.size=some { cls:=.type "tuple",data:=.seq #[es[i].key,es[i].val] } ->
   (∀ b o,b≠it->s.heap.get? b=some o->h'.get? b=some o)->Q (some (.ref s.heap.objs.size)) { s with heap:=h' })
  (q2:es.size<=i->∀ h':Heap,Heap.ExtBut it s.heap h'->Q none { s with heap:=h' }):wpAny (model prog w) A (pyNext (.ref it)) Q E s:=by
 have ty:s.TypeIs (.ref it) "dict_itemiterator":=⟨_,gi,rfl⟩
 unfold pyNext
 refine wpAny_bind (wpAny_attempt (wpAny_callSpecial?_slot (name:=Str.ofString "__next__") ty F.slot_dict_itemiterator_next (wpAny_call_entry F.slot_dict_itemiterator_next ty F.entry_dict_itemiterator_next ?_ (F.args_dict_itemiterator_next_1 _))))
 refine wpAny_bind (wpAny_pure (wpAny_bind (wpAny_bind (wpAny_bind (wpAny_typeNameOfWhole_itemiter ty (wpAny_pure (wpAny_bind (wpAny_fieldsOf gi rfl ?_))))))))
 simp only [owns,if_true]
 refine (show wpAny _ _ (if (Value.ref d == Value.none)=true then pure none else _) _ _ _ from ?_)
 rw [if_neg (show ¬ (Value.ref d == Value.none)=true from nofun)]
 refine wpAny_bind (wpAny_pure (wpAny_bind (wpAny_dictEntries go gd ?_)))
 rw [if_neg (by simp)]
 refine wpAny_bind (wpAny_pure (wpAny_bind (wpAny_dictEpoch go gd ?_)))
 rw [if_neg (by simp)]
 refine wpAny_pure ?_
 rcases Nat.lt_or_ge i es.size with lt|ge
 ·simp only [Array.getElem?_eq_getElem lt,Int.toNat_natCast,if_neg (Int.not_lt.mpr (Int.natCast_nonneg i))]
  refine wpAny_bind (wpAny_bind (wpAny_typeNameOfWhole_itemiter ty (wpAny_pure (wpAny_bind (wpAny_isOneOf_itemiter ty ?_)))))
  have il:it < s.heap.objs.size:=Heap.lt_size gi
  refine wpAny_bind (show wpAny _ _ (setField (.ref it) 3 (rawInt ((i:Int)+1))) _ _ _ from wpAny_setField_rec gi (by simp) λ a1 e1 c1=>?_)
  have c1:Heap.SameBut it s.heap a1:=c1
  have e1:IsItemIter a1 it d (i+1) es.size ep k0 v0:=by
   simpa [IsItemIter,rawInt] using e1
  have ty1:Shared.TypeIs { s with heap:=a1 } (.ref it) "dict_itemiterator":=⟨_,e1,rfl⟩
  refine wpAny_bind (wpAny_holding (wpAny_bind (wpAny_isOneOf_itemiter ty1 (wpAny_bind (wpAny_isOneOf_itemiter ty1 (show wpAny _ _ (Builtin.Dict_items.pairFromOwner (.ref it) 6 es[i].key es[i].val) _ _ _ from ?_))))))
  unfold Builtin.Dict_items.pairFromOwner Builtin.Dict_items.ownedTupleIsFree
  refine wpAny_bind (wpAny_newTuple ?_)
  obtain ⟨a2,za2⟩:∃ a2,a2=a1.push { cls:=.type "tuple",data:=.seq #[es[i].key,es[i].val] }:=⟨_,rfl⟩
  have e2:IsItemIter a2 it d (i+1) es.size ep k0 v0:=by rw [za2];exact Heap.get?_push_of_some _ e1
  have t2:a2.get? s.heap.objs.size=some { cls:=.type "tuple",data:=.seq #[es[i].key,es[i].val] }:=by rw [za2,<- c1.1];exact Heap.get?_push_size _ rfl
  have p2:∀ b o,b≠it->s.heap.get? b=some o->a2.get? b=some o:=λ b o n z=>by rw [za2];exact Heap.get?_push_of_some _ (c1.extBut b o n z)
  rw [show a1.objs.size=s.heap.objs.size from c1.1]
  refine wpAny_bind (show wpAny _ _ _ _ _ { s with heap:=a1.push { cls:=.type "tuple",data:=.seq #[es[i].key,es[i].val] } } from ?_)
  rw [<- za2]
  clear za2 e1 ty1 c1
  refine wpAny_bind (wpAny_field e2 rfl (x:=.none) rfl (wpAny_pure ?_))
  simp only [if_true]
  refine wpAny_bind (wpAny_field e2 rfl (x:=k0) rfl (wpAny_bind (wpAny_field e2 rfl (x:=v0) rfl (wpAny_bind (wpAny_setField_rec e2 (by simp) λ a3 e3 c3=>?_)))))
  have e3:IsItemIter a3 it d (i+1) es.size ep es[i].key v0:=e3
  refine wpAny_bind (wpAny_setField_rec e3 (by simp) λ a4 e4 c4=>?_)
  have e4:IsItemIter a4 it d (i+1) es.size ep es[i].key es[i].val:=e4
  refine wpAny_bind (wpAny_setField_rec e4 (by simp) λ a5 e5 c5=>?_)
  have e5:IsItemIterOut a5 it d (i+1) es.size ep es[i].key es[i].val s.heap.objs.size:=e5
  refine wpAny_bind (wpAny_setField_rec e5 (by simp) λ a6 e6 c6=>?_)
  have e6:IsItemIterOut a6 it d (i+1) es.size ep es[i].key es[i].val s.heap.objs.size:=e6
  have keep:∀ b o,b≠it->a2.get? b=some o->a6.get? b=some o:=λ b o n z=>c6.extBut b o n (c5.extBut b o n (c4.extBut b o n (c3.extBut b o n z)))
  exact wpAny_bind (wpAny_letGo (wpAny_pure (wpAny_pure ⟨_,rfl,wpAny_pure (q1 lt a6 e6 (keep _ _ (Nat.ne_of_gt il) t2) λ b o n z=>keep b o n (p2 b o n z))⟩)))
 ·simp only [Array.getElem?_eq_none ge,Int.toNat_natCast,if_neg (Int.not_lt.mpr (Int.natCast_nonneg i))]
  refine wpAny_bind (wpAny_bind (wpAny_typeNameOfWhole_itemiter ty (wpAny_pure (wpAny_bind (show wpAny _ _ (setField (.ref it) 2 .none) _ _ _ from wpAny_setField gi rfl (by simp) ?_)))))
  refine wpAny_bind (show wpAny _ _ (newExc (.type "StopIteration") []) _ _ _ from ?_)
  simp only [newExc,newTuple]
  refine wpAny_bind (wpAny_newObj_type (hd:=by size_fits) (wpAny_bind (m:=firstArgMember _ _) (wpAny_of_eq (a:=Value.none) (by rfl) (wpAny_newObj_type (hd:=by size_fits) ?_))))
  simp only [raiseNew]
  refine wpAny_bind (wpAny_handled ?_)
  rw [show A.in1.handled=none from calm]
  refine wpAny_bind (wpAny_pure (wpAny_throw ?_));refine wpAny_bind (wpAny_isInstance (b:=true) (T := "StopIteration") ⟨_,Heap.get?_push_size _ rfl,rfl⟩ isSubtype_stop (wpAny_pure (q2 ge _ ?_)))
  exact ((Heap.SameBut.update ..).extBut.push _).push _
end
section
variable {X:Cx} {pins:List (Addr×Obj)} {σ:L2.St} {H:Hp} {s:Shared} {a:Addr} {u:HO} {o:Obj}
theorem freeze (I:L2.Inv X pins σ H s) (mu:Mut (H a)) (e:H a=some u) (ho:s.heap.get? a=some o):L2.Inv X pins σ (upd H a (.frz o u)) s:=by
 have nown:∀ c y,H c=some (.own y)->c≠a:=λ c y r z=>by subst z;rw [r] at mu;exact mu
 have ntup:∀ c xs,H c=some (.tup xs)->c≠a:=λ c xs r z=>by subst z;rw [r] at mu;exact mu
 refine I.write (s:=s) (t':=s.toks) (h':=s.heap) (e:=a) mu (.inl rfl) (λ _ _ _ q=>q) ⟨o,ho⟩ ⟨ho,?_⟩
 exact (I.hok a u e).stay (λ _ _ _ q=>q) (λ c r=>by rw [upd_ne (nown c a r)];exact r) λ c xs r=>by rw [upd_ne (ntup c xs r)];exact r
theorem thaw (I:L2.Inv X pins σ H s) (e:H a=some (.frz o u)) (h0:∀ ob v,X.H₀ a≠some (.frz ob v)):L2.Inv X pins σ (upd H a u) s:=by
 have ne:∀ b,H b=none->b≠a:=λ b n z=>by subst z;rw [e] at n;cases n
 have nt:∀ b xs,H b=some (.tup xs)->b≠a:=λ b xs n z=>by subst z;rw [e] at n;cases n
 have no:∀ b y,H b=some (.own y)->b≠a:=λ b y n z=>by subst z;rw [e] at n;cases n
 refine ⟨I.ok,I.os,I.bare,⟨I.base.keep,I.base.slot,λ b ob q n hx=>?_,I.base.there,λ b xs q=>?_,λ b ob v q=>?_,λ b ps q=>?_⟩,I.loc,I.cell,by rw [upd_ne (ne _ I.free)];exact I.free,λ x c q=>by rw [upd_ne (ne _ (I.freeC x c q))];exact I.freeC x c q,λ p hp=>?_,λ b v q=>?_,I.len⟩
 ·have:=I.base.free b ob q n hx
  rw [upd_ne (ne b this)];exact this
 ·have:=I.base.tups b xs q
  rw [upd_ne (nt b xs this)];exact this
 ·have:=I.base.frzs b ob v q
  have hb:b≠a:=λ z=>by subst z;exact h0 ob v q
  rw [upd_ne hb];exact this
 ·obtain ⟨m,hm⟩:=I.base.tbls b ps q
  exact ⟨m,by rw [upd_ne (λ z=>by subst z;rw [e] at hm;cases hm)];exact hm⟩
 ·obtain ⟨p1,p2,p3⟩:=I.pin p hp
  exact ⟨p1,by rw [upd_ne (ne _ p2)];exact p2,p3⟩
 ·by_cases hb:b=a
  ·subst hb
   rw [zg0] at q;cases q
   exact (I.hok b _ e).2.stay (λ _ _ _ q=>q) (λ c r=>by rw [upd_ne (no c b r)];exact r) λ c xs r=>by rw [upd_ne (nt c xs r)];exact r
  ·rw [upd_ne hb] at q
   exact (I.hok b v q).stay (λ _ _ _ q=>q) (λ c r=>by rw [upd_ne (no c b r)];exact r) λ c xs r=>by rw [upd_ne (nt c xs r)];exact r
end
def Itd (a:Addr) (o:Obj) (kvs:List (List Key×V)):It:=⟨λ i H=>H a=some (.frz o (.dT kvs))/\i < kvs.length,
 λ i H x H'=>∃ k v b p,kvs[i]?=some (k,v)/\H b=some (.tup (k.map kV))/\H p=none/\x=.ref p/\H'=upd H p (.tup [.ref b,v]),λ i H=>H a=some (.frz o (.dT kvs))/\kvs.length<=i⟩
theorem kt_get {H:Hp}:∀ {kvs:List (List Key×V)} {xs:List (List Key×Addr×Value)} {i:Nat} {k:List Key} {v:V},KT H kvs xs->kvs[i]?=some (k,v)->∃ b u,xs[i]?=some (k,b,u)/\H b=some (.tup (k.map kV))/\RelV v u:=by
 intro kvs xs i k v h
 induction h generalizing i with
|nil=>intro e;simp at e
|@cons p q ps qs hq t ih =>
  intro e
  cases i with
 |zero =>
   simp at e
   subst e
   obtain ⟨q1,q2,q3⟩:=q
   obtain ⟨h1,h2,h3⟩:=hq
   dsimp only at h1 h2 h3
   subst h1
   exact ⟨q2,q3,rfl,h2,h3⟩
 |succ i=>simp at e ⊢;exact ih e
theorem zdk {P:Program} {w:World} {K:Fg} {elts:List Expr} {c:_} {pos:Pos} {a it:Addr} {o:Obj} {kvs:List (List Key×V)} {es:Array DictEntry} {ep:Nat} (hd:o.data=.dict es ep) :
  Turn P w K (.Tuple elts c pos) (Itd a o kvs) [it] it (λ i h=>∃ ok ov,IsItemIter h it a i es.size ep ok ov) where
 mem:=by simp
 obj:=λ i h S b hb=>by
  obtain ⟨ok,ov,he⟩:=S
  simp at hb
  subst hb
  exact ⟨_,he,λ v q=>by cases q⟩
 keep:=λ i h h' S k=>by
  obtain ⟨ok,ov,he⟩:=S
  exact ⟨ok,ov,k _ (by simp) _ he⟩
 item:=by
  intro X hP hw hK hc i pins s σ H E I hf S hg
  subst hP hw hK
  obtain ⟨ok,ov,he⟩:=S
  obtain ⟨hq,hlt⟩:=hg
  obtain ⟨ho,hdt⟩:=(show ObjOk X.prog X.w H s.heap a (.frz o (.dT kvs)) from I.hok a _ hq)
  obtain ⟨z,_,xs,r,o',es',ep',h1,h2,h3,h4,h5⟩:=hdt
  rw [ho] at h1;cases h1
  rw [hd] at h3;cases h3
  have hx:kvs[i]?=some (kvs[i].1,kvs[i].2):=by rw [List.getElem?_eq_getElem hlt]
  obtain ⟨kb,u,g1,g2,g3⟩:=kt_get r hx
  have hes:i < es.size:=by
   rw [<- Array.length_toList,h4,List.length_map]
   exact (List.getElem?_eq_some_iff.mp g1).1
  have hent:es[i]=entryOfKey (tupleKind (zn1 X.prog X.w)) (kvs[i].1,kb,u):=by
   have e1:es.toList[i]?=some (entryOfKey (tupleKind (zn1 X.prog X.w)) (kvs[i].1,kb,u)):=by rw [h4,List.getElem?_map,g1];rfl
   rw [Array.getElem?_toList,Array.getElem?_eq_getElem hes] at e1
   exact Option.some.inj e1
  have ek:es[i].key=.ref kb:=by rw [hent];rfl
  have ev:es[i].val=u:=by rw [hent];rfl
  refine zpd (I.ok.hd hc) he ho hd (λ _ h' ho' ht hk=>?_) λ ge=>absurd hes (Nat.not_lt.mpr ge)
  rw [ek,ev] at ho' ht
  have iL:it < s.heap.objs.size:=Heap.lt_size he
  have hfr:=I.hok.fresh (Nat.le_refl s.heap.objs.size)
  have I1:L2.Inv X pins σ (upd H s.heap.objs.size (.tup [.ref kb,kvs[i].2])) { s with heap:=s.heap.push { cls:=.type "tuple",data:=.seq #[.ref kb,u] },toks:=s.toks } :=
   I.laid (t':=s.toks) (o:=.tup [.ref kb,kvs[i].2]) (λ b ob q=>Heap.get?_push_of_some _ q) (Nat.le_refl _) ⟨by show 2<=sizeLine;rw [sizeLine_eq];decide,[.ref kb,u],.cons rfl (.cons g3 .nil),IsTup.new _ _⟩
  have fi:=hf it (by simp)
  have fi1:FpOk X pins (upd H s.heap.objs.size (.tup [.ref kb,kvs[i].2])) it:=⟨by rw [upd_ne (Nat.ne_of_lt iL)];exact fi.1,fi.2⟩
  have I2:L2.Inv X pins σ (upd H s.heap.objs.size (.tup [.ref kb,kvs[i].2])) { s with heap:=h',toks:=s.toks } :=
   zon (a:=it) (c:=it) (s:={ s with heap:=s.heap.push { cls:=.type "tuple",data:=.seq #[.ref kb,u] },toks:=s.toks }) I1 (λ b o nb1 nb2 q=>by
    by_cases z:b=s.heap.objs.size
    ·subst z
     have q':(s.heap.push { cls:=.type "tuple",data:=.seq #[.ref kb,u] }).get? s.heap.objs.size=some o:=q
     rw [Heap.get?_push_size _ rfl] at q'
     cases q'
     exact ht
    ·exact hk b o nb1 (zsm q z)) fi1 fi1
  refine ⟨.ref s.heap.objs.size,rfl,wpAny_letOwnedTupleGo_items ho' λ h2' he2 hs2=>?_⟩
  exact ⟨.ref s.heap.objs.size,_,zg2 (tk:=s.toks) I2 fi1 hs2,rfl,⟨_,_,kb,s.heap.objs.size,hx,g2,hfr,rfl,rfl⟩,⟨_,_,he2⟩,λ b hb=>by simp at hb;subst hb;exact fi1.1⟩
 done:=by
  intro X hP hw hK hc i pins s σ H E I hf S hg
  subst hP hw hK
  obtain ⟨ok,ov,he⟩:=S
  obtain ⟨hq,hge⟩:=hg
  obtain ⟨ho,hdt⟩:=(show ObjOk X.prog X.w H s.heap a (.frz o (.dT kvs)) from I.hok a _ hq)
  obtain ⟨z,_,xs,r,o',es',ep',h1,h2,h3,h4,h5⟩:=hdt
  rw [ho] at h1;cases h1
  rw [hd] at h3;cases h3
  have hl:kvs.length=xs.length:=r.length
  have hz:es.size=xs.length:=by rw [<- Array.length_toList,h4,List.length_map]
  exact zpd (I.ok.hd hc) he ho hd (λ lt=>absurd lt (by lia)) λ _ h' eb=>⟨rfl,fp_ext (tk:=s.toks) I (hf it (by simp)) eb⟩
 self:=λ _ _ _ _ _ S h=>PySem.W.kcp_self S.choose_spec.choose_spec h
section
variable {X:Cx} {elts:List Expr}
def kItems (v:V) (H:Hp) (R:It->Hp->Prop):Prop:=∃ a kvs,v=.ref a/\H a=some (.dT kvs)/\∀ o,R (Itd a o kvs) (upd H a (.frz o (.dT kvs)))
def iItems (te:TE):TI:=λ σ H R=>te σ H λ v H1=>kItems v H1 R
theorem zwo {c:_} {tpos:Pos} {o:Expr} {te:TE} {apos cpos:Pos} (ho:PE X o te) (hbase:attributeBase o "items" X.env (eval o X.env)=eval o X.env:=by rfl) (hline:(apos.endLine == cpos.line)=true:=by rfl) :
  PI X (.Tuple elts c tpos) (.Call (.Attribute o "items" apos) [] [] cpos) (iItems te):=by
 intro pins s σ H R I h
 refine wpAny_Call_method0_late hbase hline (thn (ho pins s σ H _ I h) λ v s1 ⟨x,H1,I1,r1,a,kvs,ex,e,q⟩=>?_)
 subst ex
 obtain rfl:v=Value.ref a:=r1
 obtain ⟨t1,t2,hm⟩:=isD_at I1 (.inr ⟨kvs,.inl e⟩)
 obtain ⟨z,_,xs,r,od,es,ep,h1,h2,h3,h4,h5⟩:=(show ObjOk X.prog X.w H1 s1.heap a (.dT kvs) from I1.hok a _ e)
 refine ⟨"dict", "dict.items",PySem.F.plainAttrs_dict,PySem.F.slot_dict_items,PySem.F.type_dict_items,t1,t2,Calls.callWith_builtin rfl (PySem.evalArgs_none (zno h1 h2.1 hm ?_))⟩
 have aL:a < s1.heap.objs.size:=Heap.lt_size h1
 have ha2:(s1.heap.push { cls:=.type "dict_items",data:=.fields #[.ref a] }).get? a=some od:=Heap.get?_push_of_some _ h1
 refine zyo (d:=a) (es:=es) (ep:=ep) ⟨_,Heap.get?_push_size _ rfl,rfl,rfl⟩ ha2 h3 ?_
 have k2:∀ b u,s1.heap.get? b=some u->((s1.heap.push { cls:=.type "dict_items",data:=.fields #[.ref a] }).push { cls:=.type "dict_itemiterator",data:=.fields #[.none,.bool false,.ref a,.int 0 0,.int es.size 0,.int ep 0,.none,.none] }).get? b=some u:=λ b u q=>Heap.get?_push_of_some _ (Heap.get?_push_of_some _ q)
 have I2:=I1.kept (t':=s1.toks) k2
 have I3:=freeze I2 (a:=a) (by rw [e];trivial) e (k2 _ _ h1)
 refine ⟨_,[_],_,_,_,rfl,I3,zdk (es:=es) (ep:=ep) h3,⟨.none,.none,Heap.get?_push_size _ rfl⟩,λ b hb=>?_,q od⟩
 simp only [List.mem_singleton] at hb
 have hb':s1.heap.objs.size<=b:=by rw [hb];simp [Heap.push]
 exact I1.fpOk hb' (by rw [upd_ne (λ z=>by rw [z] at hb';exact absurd aL (Nat.not_lt.mpr hb'))];exact I1.hok.fresh hb')
def tThaw (te:TE):TE:=λ σ H Q=>te σ H λ v H'=>∃ a o u,(∀ ob y,H a≠some (.frz ob y))/\H' a=some (.frz o u)/\Q v (upd H' a u)
theorem zfn {e:Expr} {te:TE} (h:PE X e te):PE X e (tThaw te):=by
 intro pins s σ H Q I q
 refine thn (h pins s σ H _ I q) λ v s1 ⟨x,H1,I1,r1,a,o,u,e2,e3,q1⟩=>?_
 exact ⟨x,_,thaw I1 e3 λ ob y z=>e2 ob y (I.base.frzs a ob y z),r1,q1⟩
end
end L3
namespace L4
open PySem PySem.Spec PyProof.Rows L2 L3
section
variable {K:Fg} {ta:TE} {dp:DP}
def kD:Key->D
|.inl i=>.int i
|.inr x=>.str x
theorem zvh {F:Hp}:∀ (k:List Key),IsAll K F (k.map kV) (k.map kD)
|[]=>.nil
|.inl i :: r=>.cons (.int i) (zvh r)
|.inr x :: r=>.cons (.str x) (zvh r)
theorem KvIs.at {κ:Type} {F:Hp}:∀ {r:List (κ×V)} {t:List (κ×D)} {i:Nat} {k:κ} {v:V},KvIs K F r t->r[i]?=some (k,v)->∃ d,t[i]?=some (k,d)/\Is K F v d:=by
 intro r t i k v h
 induction h generalizing i with
|nil=>intro e;simp at e
|cons h1 h2 ih =>
  intro e
  cases i with
 |zero=>simp at e;obtain ⟨rfl,rfl⟩:=e;exact ⟨_,rfl,h1⟩
 |succ i=>simp at e ⊢;exact ih e
def plD (kvs:List (List Key×D)):List D:=kvs.map λ kv=>.tuple (kv.1.map kD++[kv.2])
def zbj (u:T) (Q:List D->Prop):Prop:=match u with
|.dt kvs=>kvs.length<=1000/\(∀ kv∈kvs,kv.1≠[]/\kv.1.length<=1000)/\Q (plD kvs)
|_=>False
def zkj (dp:DP):DF:=λ δ Q=>dp δ λ _ _ u=>zbj u Q
theorem zol (hp:RfP K ta dp):RfF K (tThaw (tComp (iItems ta) 2 [] (gTup K 2 (gCons (gName 0) (gCons (gName 1) gNil))) tTrue (tOp (rAddW K) (tVar 0) (tTupU (tCons (tVar 1) tNil))))) (zkj dp):=by
 intro F H σ δ Qd Q s rv h k
 refine hp s rv h λ i p u hu v F1 H1 e1 at1=>?_
 obtain ⟨fn,hr⟩:=at1.rt (rv.ext e1)
 cases hr with
|fz _=>exact hu.elim
|li _ _ _=>exact hu.elim
|ls _ _ _=>exact hu.elim
|ob _ _ _ _ _=>exact hu.elim
|dk _ _ _=>exact hu.elim
|@dt a kvs' kvs h1 h2 h3 =>
  obtain ⟨hz,hks,hQ⟩:=hu
  have hlen:=h3.len
  refine ⟨a,kvs',rfl,h1,λ o D hD=>?_⟩
  have nDa:D≠a:=λ z=>by subst z;rw [zg0] at hD;cases hD
  have hD1:H1 D=none:=by rw [upd_ne nDa] at hD;exact hD
  have F1D:F1 D=none:=by
   cases q:F1 D with
  |none=>rfl
  |some o=>rw [e1.fh D o q] at hD1;cases hD1
  refine ⟨λ i m acc σ' H'=>m=kvs.length - i/\i<=kvs.length/\σ'.length=2/\∃ F':Hp,Ext F1 H1 F' (upd H' a (.dT kvs'))/\H' a=some (.frz o (.dT kvs'))/\F' D=none/\H' D=some (.lst acc)/\acc.length=i/\IsAll K F' acc (plD (kvs.take i)),⟨kvs.length,rfl,Nat.zero_le _,by simp [compσ],F1,?_,by rw [upd_ne (Ne.symm nDa),zg0],F1D,zg0,rfl,.nil⟩,?_⟩
  ·refine ⟨λ b ob hb=>?_,λ _ _ z=>z,λ b ob hb=>?_,λ _ _ z=>z⟩
   ·by_cases ba:b=a
    ·subst ba;rw [zg0,<- h1];exact hb
    ·have bD:b≠D:=λ z=>by subst z;rw [hD1] at hb;cases hb
     rw [upd_ne ba,upd_ne bD,upd_ne ba];exact hb
   ·have ba:b≠a:=λ z=>by subst z;rw [h2] at hb;cases hb
    have bD:b≠D:=λ z=>by subst z;rw [F1D] at hb;cases hb
    rw [upd_ne ba,upd_ne bD,upd_ne ba];exact e1.fh b ob hb
  rintro i m acc σ' H' ⟨rfl,hi',hl,F',ex,ha,fD,hDD,hacc,hall⟩
  have fa:F' a=none:=ex.nw a (by rw [h1];simp) h2
  have fh':Same F' H':=λ b ob hb=>by
   have ba:b≠a:=λ z=>by subst z;rw [fa] at hb;cases hb
   have:=ex.fh b ob hb
   rw [upd_ne ba] at this;exact this
  by_cases hlt:i < kvs.length
  ·refine .inr ⟨⟨ha,by lia⟩,λ acc' σ2 H2=>i+1<=kvs.length/\σ2.length=2/\∃ F':Hp,Ext F1 H1 F' (upd H2 a (.dT kvs'))/\H2 a=some (.frz o (.dT kvs'))/\F' D=none/\H2 D=some (.lst acc')/\acc'.length=i+1/\IsAll K F' acc' (plD (kvs.take (i+1))),λ acc' σ2 H2 q=>⟨kvs.length - (i+1),by lia,rfl,q⟩,λ x H2 y=>?_⟩
   obtain ⟨ky,v,b,p,g1,g2,g3,rfl,rfl⟩:=y
   obtain ⟨d,g4,g5⟩:=h3.at g1
   obtain ⟨kn,kz⟩:=hks _ (List.mem_of_getElem? g4)
   have pb:b≠p:=λ z=>by subst z;rw [g3] at g2;cases g2
   have pD:D≠p:=λ z=>by subst z;rw [g3] at hDD;cases hDD
   have pa:a≠p:=λ z=>by subst z;rw [g3] at ha;cases ha
   refine ⟨p,[.ref b,v],rfl,SqT.of (H:=upd H' p (.tup [.ref b,v])) zg0,rfl,.ref b,[v],rfl,v,[],rfl,rfl,?_⟩
   dsimp only [tTrue]
   rw [if_pos rfl]
   obtain ⟨s0,s1,rfl⟩:∃ s0 s1,σ'=[s0,s1]:=by
    match σ',hl with
   |[s0,s1],_=>exact ⟨s0,s1,rfl⟩
   refine ⟨.ref b,rfl,v,rfl,by rw [sizeLine_eq];simp,λ q hq=>?_⟩
   have qp:q≠p:=λ z=>by subst z;rw [zg0] at hq;cases hq
   have hq':H' q=none:=by rw [upd_ne qp] at hq;exact hq
   have qb:b≠q:=λ z=>by subst z;rw [hq'] at g2;cases g2
   refine .inl (.inr (.inr (.inr ⟨b,q,ky.map kV,[v],rfl,rfl,SqT.of (by rw [upd_ne qb,upd_ne pb];exact g2),SqT.of zg0,?_,?_,λ z=>(by cases z),λ _ l hl'=>?_⟩)))
   ·intro z;exact kn (List.map_eq_nil_iff.mp z)
   ·rw [List.length_map,sizeLine_eq];simp;dsimp only at kz;lia
   have lq:l≠q:=λ z=>by subst z;rw [zg0] at hl';cases hl'
   have lp:l≠p:=λ z=>by subst z;rw [upd_ne lq,zg0] at hl';cases hl'
   have hl0:H' l=none:=by rw [upd_ne lq,upd_ne lp] at hl';exact hl'
   have old:∀ c ob,H' c=some ob->c≠p/\c≠q/\c≠l:=λ c ob hc=>⟨(λ z=>by subst z;rw [g3] at hc;cases hc),(λ z=>by subst z;rw [hq'] at hc;cases hc),(λ z=>by subst z;rw [hl0] at hc;cases hc)⟩
   have kp:∀ c ob,H' c=some ob->upd (upd (upd H' p (.tup [.ref b,v])) q (.tup [v])) l (.tup (ky.map kV++[v])) c=some ob:=λ c ob hc=>by
    obtain ⟨c1,c2,c3⟩:=old c ob hc
    rw [upd_ne c3,upd_ne c2,upd_ne c1];exact hc
   have lD:l≠D:=Ne.symm (old D _ hDD).2.2
   have la:l≠a:=Ne.symm (old a _ ha).2.2
   have s3:Same F' (upd (upd H' p (.tup [.ref b,v])) q (.tup [v])):=λ c ob hc=>by
    obtain ⟨c1,c2,c3⟩:=old c ob (fh' c ob hc)
    rw [upd_ne c2,upd_ne c1];exact fh' c ob hc
   obtain ⟨ex4,is4⟩:=zob (K:=K) (ds:=ky.map kD++[d]) s3 hl' ((zvh ky).dapp (.cons (g5.mono ex.f) .nil))
   have F'l:F' l=none:=by
    cases z:F' l with
   |none=>rfl
   |some ob=>rw [fh' l ob z] at hl0;cases hl0
   refine ⟨kp D _ hDD,by rw [hacc,sizeLine_eq];lia,hlt,by simp,upd F' l (.tup (ky.map kV++[v])),⟨λ c ob hc=>?_,ex.f.trans ex4.f,λ c ob hc=>?_,λ c hc fc=>?_⟩,?_,?_,zg0,by simp [hacc],?_⟩
   ·by_cases ca:c=a
    ·subst ca;rw [zg0,<- h1];exact hc
    ·have:=ex.h c ob hc
     rw [upd_ne ca] at this
     have cD:c≠D:=λ z=>by subst z;rw [hD1] at hc;cases hc
     rw [upd_ne ca,upd_ne cD];exact kp c ob this
   ·by_cases cl:c=l
    ·subst cl
     rw [zg0] at hc;cases hc
     rw [upd_ne la,upd_ne lD,zg0]
    ·rw [upd_ne cl] at hc
     have ca:c≠a:=λ z=>by subst z;rw [fa] at hc;cases hc
     have cD:c≠D:=λ z=>by subst z;rw [fD] at hc;cases hc
     rw [upd_ne ca,upd_ne cD];exact kp c ob (fh' c ob hc)
   ·have cl:c≠l:=λ z=>by
     subst z
     cases q1:H1 c with
    |none=>exact hc q1
    |some ob =>
      have:=ex.h c ob q1
      rw [upd_ne la,hl0] at this;cases this
    rw [upd_ne cl];exact ex.nw c hc fc
   ·rw [upd_ne (Ne.symm nDa)];exact kp a _ ha
   ·rw [upd_ne (Ne.symm lD)];exact fD
   ·have et:plD (kvs.take (i+1))=plD (kvs.take i)++[.tuple (ky.map kD++[d])]:=by
     unfold plD
     rw [List.take_succ,g4,List.map_append];rfl
    rw [et]
    exact (hall.mono ex4.f).dapp (.cons is4 .nil)
  ·have ei:i=kvs.length:=by lia
   refine .inl ⟨⟨ha,by lia⟩,a,o,_,λ ob y z=>?_,ha,k _ hQ D acc F' _ (e1.trans ex) (zj1 e1 hD1) (by rw [upd_ne nDa];exact hDD) fD (by rw [ei,List.take_length] at hall;exact hall)⟩
   rw [e1.h a _ z] at h1;cases h1
theorem zdm (dp:DP) (δ:DSt) (Q:List D->Prop):zkj dp δ Q=(dp δ λ _ _ u=>zbj u Q):=rfl
theorem zql (kvs:List (List Key×D)) (Q:List D->Prop):zbj (.dt kvs) Q=(kvs.length<=1000/\(∀ kv∈kvs,kv.1≠[]/\kv.1.length<=1000)/\Q (plD kvs)):=rfl
end
end L4
namespace L3
open PySem PySem.Spec PyProof.Rows L2
section
variable {s:Shared} {w:World} {prog:Program} {E:Value->Shared->Prop} {A:Around}
theorem zqp {a:Addr} {vs:List Value} {n:Nat} {P:Fin->Shared->Prop} (go:s.heap.get? a=some (seqObj "list" vs.toArray n)) (few:vs.toArray.size < 2)
  (h:P (.done (.ret .none)) { s with heap:=sortedHeap s.heap a vs ((vs.toArray.zip vs.toArray).map (·.2)) }):wpAny (model prog w) A (Builtin.«list.sort» ⟨[.ref a],[]⟩) P E s:=by
 have al:a < s.heap.objs.size:=Heap.lt_size go
 obtain ⟨e1,g1⟩:∃ e1,(s.heap.update a (Obj.mapSeq λ _=>#[])).get? a=some (seqObj "list" #[] e1):=⟨_,get?_update_seq go λ _=>#[]⟩
 rw [list_sort_plain]
 refine wpAny_bind (listItems_at go rfl (wpAny_bind (listUpdate_at go rfl (wpAny_bind (seqEpoch_at g1 rfl (wpAny_bind (wpAny_newTuple (wpAny_bind (wpAny_newList (wpAny_holding ?_))))))))))
 have g6:(((s.heap.update a (Obj.mapSeq λ _=>#[])).push (seqObj "tuple" vs.toArray 0)).push (seqObj "list" #[] 0)).get? a=some (seqObj "list" #[] e1):=Heap.get?_push_of_some _ (Heap.get?_push_of_some _ g1)
 refine (show wpAny (model prog w) A _ P E { s with heap:=((s.heap.update a (Obj.mapSeq λ _=>#[])).push (seqObj "tuple" vs.toArray 0)).push (seqObj "list" #[] 0) } from ?_)
 dsimp only
 rw [if_pos few,if_pos few]
 refine wpAny_bind (wpAny_pure ?_)
 rw [StateT.run_pure]
 refine wpAny_bind (wpAny_pure ?_);dsimp only
 refine wpAny_bind (seqEpoch_at g6 rfl (wpAny_bind (listUpdate_at (hsz2:=?_) g6 rfl ?_)))
 ·rw [if_neg (by simp)]
  exact wpAny_pure h
 ·have z2:(arrOf (SortSt.mk' general' (vs.toArray.zip vs.toArray) #[] 7 none))=vs.toArray.zip vs.toArray:=rfl
  rw [z2]
  have:((vs.toArray.zip vs.toArray).map λ x=>x.2).size<=2:=by simp;simp at few;lia
  refine Nat.le_trans this ?_
  rw [sizeLine_eq];lia
theorem zri {l:Addr} {vs:List Value} {Q:Value->Shared->Prop} (gl:s.heap.IsList l vs.toArray) (few:vs.toArray.size < 2)
  (h:Q (.ref (s.heap.objs.size+1)) { s with heap:=sortedAll s.heap vs ((vs.toArray.zip vs.toArray).map (·.2)) }):wpAny (model prog w) A (call (.builtin "sorted") [.ref l]) Q E s:=by
 refine Calls.call_function_entry kind_sorted plain_sorted entry_sorted (args_sorted1 _) ?_
 unfold Builtin.«sorted»
 have z:((s.heap.push (seqObj "list" #[] 0)).update s.heap.objs.size (Obj.mapSeq (·++vs.toArray))).objs.size=s.heap.objs.size+1:=by rw [Heap.size_update,size_push']
 have g:(((s.heap.push (seqObj "list" #[] 0)).update s.heap.objs.size (Obj.mapSeq (·++vs.toArray))).push (seqObj "list" vs.toArray 0)).get? (s.heap.objs.size+1)=some (seqObj "list" vs.toArray 0):=by
  rw [<- z];exact Heap.get?_push_size _ rfl
 refine wpAny_bind (m:=checkCount "sorted" 1 1 _) (wpAny_pure (wpAny_bind (collect_list gl ?_)))
 refine wpAny_bind (wpAny_newList (show wpAny _ _ _ _ _ { s with heap:=((s.heap.push (seqObj "list" #[] 0)).update s.heap.objs.size (Obj.mapSeq (·++vs.toArray))).push (seqObj "list" vs.toArray 0) } from ?_))
 rw [z]
 refine wpAny_bind (wpAny_holding (wpAny_call_entry slot_list_sort ⟨_,g,rfl⟩ entry_list_sort (zqp g few ⟨_,rfl,?_⟩) (args_list_sort _)))
 exact wpAny_pure ⟨_,rfl,h⟩
end
end L3
namespace L4
open PySem PySem.Spec PyProof.Rows L2 L3
section
variable {K:Fg}
end
end L4
namespace L3
open PySem PySem.Spec PyProof.Rows L2
section
variable {s:Shared} {w:World} {prog:Program} {E:Value->Shared->Prop} {A:Around} {Ky:Type} [DecidableEq Ky] {knd:HeapKind prog w Ky}
theorem zdo {d b:Addr} {od:Obj} {es:Array DictEntry} {ep:Nat} {xs:List (Ky×Addr×Value)} {k:Ky} {x:Value} {Q:Value->Shared->Prop} (ru:knd.room A.in1) (hk:knd.is s.heap k b) (gs:(d == sysModules)=false)
  (go:s.heap.get? d=some od) (gx:od.ExactDict) (gd:od.data=.dict es ep) (ge:es.toList=xs.map (entryOfKey knd)) (gi:∀ x∈xs,knd.is s.heap x.1 x.2.1) (gn:(xs.map (·.1)).Nodup) (gz:xs.length<=sizeLine)
  (q1:∀ (j:Nat) (p:Addr×Value),xs[j]?=some (k,p)->∀ t,Q p.2 { s with heap:=s.heap.update d (Obj.mapDictKeys (·.eraseIdxIfInBounds j)),toks:=t })
  (q2:(∀ (j:Nat) (p:Addr×Value),xs[j]?≠some (k,p))->∀ t,Q x { s with toks:=t }):wpAny (model prog w) A (call (.builtin "dict.pop") [.ref d,.ref b,x]) Q E s:=by
 have ty:s.TypeIs (.ref d) "dict":=⟨od,go,gx.1⟩
 have sz:es.size=xs.length:=size_of_entries ge
 refine wpAny_call_entry PySem.F.slot_dict_pop ty PySem.F.entry_dict_pop ?_ (PySem.F.args_dict_pop_3 _ _ _)
 unfold Builtin.«dict.pop» Builtin.Dict.keyAndDefault
 refine wpAny_bind (wpAny_bind (wpAny_notOrdered_dict ty (show wpAny _ _ (pure (d,Value.ref b,some x)) _ _ _ from wpAny_pure ?_)))
 have np:(keyPart (Value.ref b)).isSome=false:=rfl
 simp only [np,Bool.false_eq_true,if_false]
 refine wpAny_bind (wpAny_dictEntries go gd (wpAny_bind (wpAny_pure ?_)))
 by_cases em:es.isEmpty=true
 ·rw [if_pos em]
  have xe:xs=[]:=by
   have:es.size=0:=by simpa using em
   exact List.length_eq_zero_iff.mp (by lia)
  refine wpAny_bind (wpAny_rule (wpAny_bind (wpAny_pure ?_)))
  rw [if_pos Option.isNone_none]
  exact wpAny_bind (wpAny_missedRemoval_other gs (wpAny_bind (wpAny_rule (wpAny_pure ⟨x,rfl,q2 (by rw [xe];intro j p;simp) s.toks⟩))))
 ·rw [if_neg em]
  unfold Builtin.Dict.takeOut
  refine wpAny_bind (wpAny_holding (wpAny_bind (knd.pyHash ru hk (wpAny_bind (wpAny_dictFind_heap (s:={ s with toks:=s.toks+knd.draws k }) ru hk go gd ge gi gn (λ no=>wpAny_pure ?_) λ j p hj=>?_)))))
  ·rw [if_pos Option.isNone_none]
   exact wpAny_bind (wpAny_missedRemoval_other gs (wpAny_bind (wpAny_rule (wpAny_pure ⟨x,rfl,q2 no _⟩))))
  ·refine wpAny_bind (wpAny_dictEntries (s:={ s with toks:=s.toks+knd.draws k }) go gd ?_)
   rw [entry_at ge j,hj]
   refine wpAny_bind (wpAny_updateDictKeys (hz:=by lia) (hf:=by rw [Array.eraseIdxIfInBounds];split <;> simp <;> lia) (s:={ s with toks:=s.toks+knd.draws k }) go gd (wpAny_pure ?_))
   rw [if_neg (by simp)]
   exact wpAny_bind (wpAny_letGo (wpAny_pure ⟨p.2,rfl,q1 j p hj _⟩))
end
theorem zxc {α β:Type} (f:α->β):∀ (l:List α) (j:Nat),(l.map f).eraseIdx j=(l.eraseIdx j).map f
|[],_=>rfl
|_ :: _,0=>rfl
|x :: r,j+1=>by rw [List.map_cons,List.eraseIdx_cons_succ,List.eraseIdx_cons_succ,List.map_cons,zxc f r j]
theorem zbs {H:Hp} {kvs:List (List Key×V)} {xs:List (List Key×Addr×Value)} {k:List Key} (r:KT H kvs xs) (h:∀ (j:Nat) (p:Addr×Value),xs[j]?≠some (k,p)):valV kvs k=none:=by
 have:=r.val k
 rw [atKey_none_of_get h] at this
 cases e:valV kvs k with
|none=>rfl
|some v=>rw [e] at this;exact this.elim
theorem zdr {H:Hp} {kvs:List (List Key×V)} {xs:List (List Key×Addr×Value)} {k:List Key} {j:Nat} {p:Addr×Value} (r:KT H kvs xs) (hn:(xs.map (·.1)).Nodup) (h:xs[j]?=some (k,p)):∃ v,valV kvs k=some v/\RelV v p.2:=by
 have:=r.val k
 rw [atKey_of_get hn h] at this
 cases e:valV kvs k with
|none=>rw [e] at this;exact this.elim
|some v=>rw [e] at this;exact ⟨v,rfl,this⟩
theorem ztq {H:Hp} {k:List Key}:∀ {kvs:List (List Key×V)} {xs:List (List Key×Addr×Value)} {j:Nat} {p:Addr×Value},KT H kvs xs->(xs.map (·.1)).Nodup->xs[j]?=some (k,p)->KT H (dropK kvs k) (xs.eraseIdx j):=by
 intro kvs xs j p r
 induction r generalizing j with
|nil=>intro _ h;simp at h
|@cons a b as bs hq t ih =>
  intro hn h
  rw [List.map_cons] at hn
  have hn':=List.nodup_cons.mp hn
  unfold dropK at ih ⊢
  cases j with
 |zero =>
   simp at h
   subst h
   have e1:a.1=k:=hq.1
   rw [List.filter_cons_of_neg (by simp [e1]),List.eraseIdx_zero,List.tail_cons]
   have all:∀ {l:List (List Key×V)} {m:List (List Key×Addr×Value)},KT H l m->k ∉ m.map (·.1)->l.filter (λ kv=>decide (kv.1≠k))=l:=by
    intro l m q
    induction q with
   |nil=>intro _;rfl
   |cons hq' t' ih' =>
     intro nk
     simp at nk
     rw [List.filter_cons_of_pos (by simp;rw [hq'.1];exact λ z=>nk.1 z.symm),ih' (by simpa using nk.2)]
   rw [all t hn'.1]
   exact t
 |succ j =>
   simp at h
   have ne:a.1≠k:=λ z=>by
    have:b.1∈bs.map (·.1):=by
     rw [<- hq.1,z]
     exact List.mem_map_of_mem (f:=(·.1)) (List.mem_of_getElem? h)
    exact hn'.1 this
   rw [List.filter_cons_of_pos (by simp [ne]),List.eraseIdx_cons_succ]
   exact .cons hq (ih hn'.2 h)
def rPopT:V->List V->Hp->VK->Prop:=λ x vs H Q=>∃ a b kvs k z,x=.ref a/\vs=[.ref b,z]/\H a=some (.dT kvs)/\H b=some (.tup (k.map kV))/\(∀ v,valV kvs k=some v->Q v (upd H a (.dT (dropK kvs k))))/\(valV kvs k=none->Q z H)
theorem zis {X:Cx} (hu:X.A.units+64 < cLine):MtM X "dict.pop" rPopT:=by
 intro pins s σ H x xs v us Q I rx rv h
 obtain ⟨a,b,kvs,k,z,rfl,rfl,e,eb,q1,q2⟩:=h
 obtain ⟨u,r,rfl,ru,rr⟩:=vals2 rv
 obtain rfl:v=Value.ref a:=rx
 cases (show u=Value.ref b from ru)
 obtain ⟨hz,hd,ys,rel,o,es,ep,h1,h2,h3,h4,h5,h6⟩:=dt_of I.hok e
 have hl:ys.length<=sizeLine:=by rw [<- Paired.length rel];exact hz
 refine zdo (tupleKind_room_in1 (by lia)) (key_of I.hok eb) hd h1 h2 h3 h4 h5 h6 hl (λ j p hj t=>?_) λ no t=>⟨z,H,I.kept (t':=t) λ _ _ q=>q,rr,q2 (zbs rel no)⟩
 obtain ⟨v,hv,rv'⟩:=zdr rel h6 hj
 have sb:Heap.SameBut a s.heap (s.heap.update a (Obj.mapDictKeys (·.eraseIdxIfInBounds j))):=Heap.SameBut.update ..
 have gq:=Heap.get?_update_self (Obj.mapDictKeys (·.eraseIdxIfInBounds j)) h1 (Obj.isFreed_of_dict (Obj.data_mapDictKeys h3 _))
 refine ⟨v,upd H a (.dT (dropK kvs k)),zpj (t':=t) (ob:=.dT (dropK kvs k)) I (by rw [e];exact True.intro) sb ⟨_,gq⟩ ⟨Nat.le_trans (zuo kvs k) hz,hd,ys.eraseIdx j,(ztq rel h6 hj).keeps λ c zs ec=>?_,_,_,ep+1,gq,h2.mapDictKeys _,Obj.data_mapDictKeys h3 _,?_,?_⟩,rv',q1 v hv⟩
 ·rw [upd_ne (ne_of ec e (λ z=>nomatch z))];exact ec
 ·have jl:j < es.size:=by rw [size_of_entries h4];exact (List.getElem?_eq_some_iff.mp hj).1
  rw [Array.eraseIdxIfInBounds,dif_pos jl,Array.toList_eraseIdx,h4,zxc]
 ·rw [<- zxc]
  exact List.Nodup.sublist (List.eraseIdx_sublist _ _) h6
end L3
namespace L4
open PySem PySem.Spec PyProof.Rows L2 L3
section
variable {K:Fg} {ta tb ti tk tx:TE} {dp dq:DP} {dk dy dz:DE}
def dropA {κ:Type} [DecidableEq κ] (kvs:List (κ×D)) (k:κ):List (κ×D):=kvs.filter λ kv=>decide (kv.1≠k)
theorem KvIs.drop {κ:Type} [DecidableEq κ] {F:Hp} {k:κ}:∀ {r:List (κ×V)} {s:List (κ×D)},KvIs K F r s->KvIs K F (dropK r k) (dropA s k)
|_,_,.nil=>.nil
|_,_,.cons (k:=k') (r:=r) (s:=s) h t=>by
  unfold dropK dropA
  by_cases e:k'=k
  ·rw [List.filter_cons_of_neg (by simp [e]),List.filter_cons_of_neg (by simp [e])]
   exact t.drop
  ·rw [List.filter_cons_of_pos (by simp [e]),List.filter_cons_of_pos (by simp [e])]
   exact .cons h t.drop
def fPopA (u:T) (y z:D) (N:D->T->Prop):Prop:=match u with
|.dt kvs=>∃ key,keyT y=some key/\N ((getA kvs key).getD z) (.dt (dropA kvs key))
|_=>False
def sepP (i:Nat) (p:Pth) (j:Nat) (q:Pth):Prop:=j=i/\∃ g h,p=[.fl g]/\q=[.fl h]/\g≠h
def zrg (f:Int->Int->Int) (dp:DP) (dk:DE) (dq:DP) (dy dz:DE):DS:=λ E δ=>dp δ λ i p u=>dk δ λ k=>fGet u k λ x=>dq δ λ j q t=>tyN "dict" t/\dy δ λ y=>dz δ λ z=>fPopA t y z λ c t2 =>
 fII f x c λ n=>fPut u k n λ u2=>sepP i p j q/\mutS δ j q t2 λ δ1=>mutS δ1 i p u2 E.nx
theorem zk6 {f g:Str} {u:T} (n:g≠f):∀ (ts:List (Str×T)),(putA f u ts).lookup g=ts.lookup g
|[]=>by
  have hb:(g == f)=false:=beq_eq_false_iff_ne.mpr n
  show List.lookup g [(f,u)]=_
  simp [List.lookup,hb]
|(h,t) :: r=>by
  have hb:(g == f)=false:=beq_eq_false_iff_ne.mpr n
  by_cases e:h=f
  ·subst e
   rw [show putA h u ((h,t) :: r)=(h,u) :: r from if_pos rfl]
   simp [List.lookup,hb]
  ·rw [show putA f u ((h,t) :: r)=(h,t) :: putA f u r from if_neg e]
   simp only [List.lookup]
   rw [zk6 n r]
theorem at_fl {H:Hp} {x v:V} {t u:T} {g:Str} (h:At H x t [.fl g] v u):∃ a C dx fs ts,x=.ref a/\t=.ob C ts/\H a=some (.ins C dx fs)/\fs.lookup g=some v/\ts.lookup g=some u:=by
 cases h with
|fl h1 h2 h3 h4 =>
  cases h4
  exact ⟨_,_,_,_,_,rfl,rfl,h1,h2,h3⟩
theorem znl {u:T} {k d:D} {N M:T->Prop} (h:fPut u k d N) (m:∀ u2,N u2->M u2):fPut u k d M:=by
 unfold fPut at h ⊢
 split at h
 ·split at h
  ·obtain ⟨j,e,n⟩:=h;exact ⟨j,e,m _ n⟩
  ·exact h.elim
 ·obtain ⟨key,e,l,n⟩:=h;exact ⟨key,e,l,m _ n⟩
 ·obtain ⟨key,e,l,n⟩:=h;exact ⟨key,e,l,m _ n⟩
 ·exact h.elim
theorem zln {u:T} {k d:D} {N:T->Prop} (h:fPut u k d N):∃ u2,N u2:=by
 unfold fPut at h
 split at h
 ·split at h
  ·obtain ⟨j,e,n⟩:=h;exact ⟨_,n⟩
  ·exact h.elim
 ·obtain ⟨key,e,l,n⟩:=h;exact ⟨_,n⟩
 ·obtain ⟨key,e,l,n⟩:=h;exact ⟨_,n⟩
 ·exact h.elim
theorem zqj {κ:Type} [DecidableEq κ] {k:κ}:∀ {r:List (κ×V)},valV r k=none->dropK r k=r:=by
 intro r h
 unfold dropK
 rw [List.filter_eq_self]
 intro x hx
 unfold valV at h
 have:=List.find?_eq_none.mp (Option.map_eq_none_iff.mp h) x hx
 simpa using this
theorem zil {f:Int->Int->Int} (hp:RfP K ta dp) (hk:RfE K ti dk) (hq:RfP K tb dq) (hy:RfE K tk dy) (hz:RfE K tx dz) :
  RfS K (tAugS ta ti (tBMU K "dict" rPopT tb (tCons tk (tCons tx tNil))) (rGetV K) (ipI f) rSetV) (zrg f dp dk dq dy dz):=by
 intro B F H σ δ fps E Z r h k
 refine hp r.fh r.rv h λ i p u hu v F1 H1 e1 at1=>?_
 have r1:=r.grow e1
 refine hk r1.fh r1.rv hu λ kd hkd kv F2 H2 e2 i2=>?_
 have r2:=r1.grow e2
 have at2:=at1.mono e2.h
 obtain ⟨fn,hr⟩:=at2.rt r2.rv
 refine get_ok r2.fh hr i2 hkd λ x xv hx ix=>hq r2.fh r2.rv hx λ j q t ht w F3 H3 e3 at3=>?_
 have r3:=r2.grow e3
 obtain ⟨fn3,hr3⟩:=at3.rt r3.rv
 refine ⟨ty_of hr3 ht.1,hy r3.fh r3.rv ht.2 λ yd hyd yv F4 H4 e4 i4=>hz (r3.grow e4).fh (r3.grow e4).rv hyd λ zd hzd zv F5 H5 e5 i5=>?_⟩
 have e35:=e3.trans (e4.trans e5)
 have r5:RS K B F5 H5 σ δ fps:=(r3.grow e4).grow e5
 have at5:=at3.mono (e4.h.trans e5.h)
 have at25:=at2.mono e35.h
 obtain ⟨fn5,hr5⟩:=at5.rt r5.rv
 cases hr5 with
|dt g1 g2 g3 =>
  rename_i b kvs ds
  obtain ⟨key,ek,hN⟩:=hzd
  obtain ⟨kb,rfl,hb⟩:=zah (i4.mono e5.f) ek
  have put:∀ (nv:V) (nd:D),Is K F5 nv nd->(fPut u kd nd λ u2=>sepP i p j q/\mutS δ j q (.dt (dropA ds key)) λ δ1=>mutS δ1 i p u2 E.nx) ->
    rSetV v kv nv (upd H5 b (.dT (dropK kvs key))) λ H8=>Z.nx σ H8:=by
   intro nv nd inv hf
   obtain ⟨_,⟨rfl,g,h',rfl,rfl,ne⟩,_⟩:=zln hf
   have one:∀ δ1,(∀ N:DSt->Prop,mutS δ j [.fl h'] (.dt (dropA ds key)) N=N δ1)->(∃ s,δ1[j]?=some s/\s.tree=(match δ[j]? with
    |some s=>s.tree.map λ t=>setP t [.fl h'] (.dt (dropA ds key))
    |none=>none))->rSetV v kv nv (upd H5 b (.dT (dropK kvs key))) λ H8=>Z.nx σ H8:=by
    intro δ1 em es
    obtain ⟨δ2,fps2,r6,n6,_⟩:=r5.one (o2:=.dT (dropK kvs key)) (N:=λ δ'=>δ'=δ1) at5 (u2:=.dt (dropA ds key)) (by rw [em]) g1 (λ fn' hr'=>by cases hr';rfl) (λ fa=>.dt zg0 fa g3.drop)
    subst n6
    obtain ⟨s0,t0,x0,a1,a2,a3,a4⟩:=at25
    obtain ⟨s5,t5,x5,b1,b2,b3,b4⟩:=at5
    rw [a1] at b1;cases b1
    rw [a2] at b2;cases b2
    rw [a3] at b3;cases b3
    obtain ⟨aa,C,dx,fs,ts,rfl,rfl,c1,c2,c3⟩:=at_fl a4
    obtain ⟨_,_,_,_,_,z1,z2,d1,d2,d3⟩:=at_fl b4
    cases z1
    cases z2
    rw [c1] at d1
    cases d1
    obtain ⟨s6,es1,es2⟩:=es
    rw [a1] at es2
    simp only [a2,Option.map_some] at es2
    have et:setP (.ob C ts) [.fl h'] (.dt (dropA ds key))=.ob C (putA h' (.dt (dropA ds key)) ts):=by
     simp only [setP,d3]
    have at6:AtS (upd H5 b (.dT (dropK kvs key))) σ δ2 j [.fl g] v u:=⟨s6,_,_,es1,es2,a3,by
     rw [et]
     exact .fl (by rw [upd_ne (ne_of c1 g1 (λ z=>nomatch z))];exact c1) c2 (by rw [zk6 ne];exact c3) .nil⟩
    exact put_ok r6 at6 (i2.mono e35.f) inv (znl hf λ u2 hu2=>by have:=hu2.2;rw [em] at this;exact this) λ δ3 fps3 H8 r8 n8=>k.nx r8 n8
   obtain ⟨s0,t0,x0,a1,a2,a3,a4⟩:=at5
   have hl:j < δ.length:=(List.getElem?_eq_some_iff.mp a1).1
   obtain ⟨u2,_,hm⟩:=zln hf
   cases s0 with
  |ow t1=>exact one (δ.set j (.ow (setP t1 [.fl h'] (.dt (dropA ds key))))) (λ N=>by simp only [mutS,a1]) ⟨_,List.getElem?_set_self hl,by rw [a1];rfl⟩
  |io a' t1=>exact one (δ.set j (.io a' (setP t1 [.fl h'] (.dt (dropA ds key))))) (λ N=>by simp only [mutS,a1]) ⟨_,List.getElem?_set_self hl,by rw [a1];rfl⟩
  |un=>simp only [mutS,a1] at hm
  |sh d=>simp only [mutS,a1] at hm
  |bo t1=>simp only [mutS,a1] at hm
  have go:∀ (cv:V) (c:D),Is K F5 cv c->(fII f x c λ n=>fPut u kd n λ u2=>sepP i p j q/\mutS δ j q (.dt (dropA ds key)) λ δ1=>mutS δ1 i p u2 E.nx) ->
    (ipI f) xv cv (upd H5 b (.dT (dropK kvs key))) λ z H7=>rSetV v kv z H7 λ H8=>Z.nx σ H8:=by
   intro cv c ic hf
   unfold fII at hf
   split at hf
   ·cases ix.int_inv
    cases ic.int_inv
    exact ⟨_,_,rfl,rfl,put _ _ (.int _) hf⟩
   ·exact hf.elim
  refine ⟨b,kb,kvs,key,zv,rfl,rfl,g1,r5.fh _ _ hb,λ cv hcv=>?_,λ hno=>?_⟩
  ·rcases g3.get (k:=key) with ⟨q1,q2⟩|⟨d',y',q1,q2,q3⟩
   ·rw [q2] at hcv;cases hcv
   ·rw [q2] at hcv;cases hcv
    rw [q1] at hN
    exact go _ _ q3 hN
  ·rcases g3.get (k:=key) with ⟨q1,q2⟩|⟨d',y',q1,q2,q3⟩
   ·rw [q1] at hN
    have:=go _ _ i5 hN
    rw [zqj q2] at this
    have eH:upd H5 b (.dT kvs)=H5:=by
     funext c
     by_cases z:c=b
     ·subst z;rw [zg0,g1]
     ·rw [upd_ne z]
    rw [eH] at this
    exact this
   ·rw [q2] at hno;cases hno
|fz _=>exact hzd.elim
|li _ _ _=>exact hzd.elim
|ls _ _ _=>exact hzd.elim
|ob _ _ _ _ _=>exact hzd.elim
|dk _ _ _=>exact hzd.elim
theorem zik (f:Int->Int->Int) (dp:DP) (dk:DE) (dq:DP) (dy dz:DE) (E:DEnds) (δ:DSt):zrg f dp dk dq dy dz E δ=(dp δ λ i p u=>dk δ λ k=>fGet u k λ x=>dq δ λ j q t=>tyN "dict" t/\dy δ λ y=>dz δ λ z=>fPopA t y z λ c t2 =>
 fII f x c λ n=>fPut u k n λ u2=>sepP i p j q/\mutS δ j q t2 λ δ1=>mutS δ1 i p u2 E.nx):=rfl
theorem zxq (kvs:List (List Key×D)) (y z:D) (N:D->T->Prop):fPopA (.dt kvs) y z N=∃ key,keyT y=some key/\N ((getA kvs key).getD z) (.dt (dropA kvs key)):=rfl
end
end L4
namespace L5
def xr (s:Nat):Nat:=if s % 2=0 then s+1 else s - 1
def hd (E:List Nat) (s:Nat):Nat:=E.getD s 0
def tl (E:List Nat) (s:Nat):Nat:=hd E (xr s)
def lf (L:List Int) (s:Nat):Int:=L.getD s 0
structure Net (n m:Nat) (E:List Nat) (S:List (List Nat)):Prop where
 lE:E.length=2 * m
 bE:∀ s,s < 2 * m->hd E s < n
 lS:S.length=n
 s1:∀ (v:Nat) l,S[v]?=some l->∀ s∈l,s < 2 * m/\tl E s=v
 s2:∀ s,s < 2 * m->∃ l,S[tl E s]?=some l/\s∈l
def lkp (lv:List (Nat×Nat)) (v:Nat):Option Nat:=(lv.find? λ p=>decide (p.1=v)).map (·.2)
structure Lev (n m:Nat) (E:List Nat) (L:List Int) (src:Nat) (lv:List (Nat×Nat)):Prop where
 nd:(lv.map (·.1)).Nodup
 bd:∀ p∈lv,p.1 < n
 l0:lkp lv src=some 0
 z0:∀ v,lkp lv v=some 0->v=src
 cl:∀ s,s < 2 * m->0 < lf L s->(lkp lv (tl E s)).isSome=true->(lkp lv (hd E s)).isSome=true
 pr:∀ v a,lkp lv v=some (a+1)->∃ s,s < 2 * m/\0 < lf L s/\hd E s=v/\lkp lv (tl E s)=some a
def Adm (E:List Nat) (L:List Int) (lv:List (Nat×Nat)) (s:Nat):Prop:=0 < lf L s/\∃ a,lkp lv (tl E s)=some a/\lkp lv (hd E s)=some (a+1)
inductive Rch (m:Nat) (E:List Nat) (L:List Int) (lv:List (Nat×Nat)) (t:Nat):Nat->Prop
|here:Rch m E L lv t t
|step {s:Nat}:s < 2 * m->Adm E L lv s->Rch m E L lv t (hd E s)->Rch m E L lv t (tl E s)
theorem Rch.mono {m:Nat} {E:List Nat} {L L':List Int} {lv:List (Nat×Nat)} {t v:Nat} (h:∀ s,s < 2 * m->Adm E L' lv s->Adm E L lv s) (r:Rch m E L' lv t v):Rch m E L lv t v:=by
 induction r with
|here=>exact .here
|step h1 h2 _ ih=>exact .step h1 (h _ h1 h2) ih
structure Tri (m:Nat) (E:List Nat) (S:List (List Nat)) (L:List Int) (lv:List (Nat×Nat)) (t:Nat) (TT:List (List Nat)):Prop where
 len:TT.length=S.length
 pre:∀ (v:Nat) l,TT[v]?=some l->∃ k,S[v]?=some k/\l <+: k
 vain:∀ (v:Nat) l k,TT[v]?=some l->S[v]?=some k->∀ (j:Nat) s,l.length<=j->k[j]?=some s->¬(Adm E L lv s/\Rch m E L lv t (hd E s))
theorem Tri.mono {m:Nat} {E:List Nat} {S:List (List Nat)} {L L':List Int} {lv:List (Nat×Nat)} {t:Nat} {TT:List (List Nat)} (h:∀ s,s < 2 * m->Adm E L' lv s->Adm E L lv s) (hS:∀ (v:Nat) k,S[v]?=some k->∀ s∈k,s < 2 * m) (r:Tri m E S L lv t TT):Tri m E S L' lv t TT :=
 ⟨r.len,r.pre,λ v l k h1 h2 j s hj hs z=>r.vain v l k h1 h2 j s hj hs ⟨h s (hS v k h2 s (List.mem_of_getElem? hs)) z.1,z.2.mono h⟩⟩
end L5
namespace L5
def term (E:List Nat) (L:List Int) (v k:Nat):Int:=(if hd E (2 * k)=v then lf L (2 * k+1) else 0) - (if hd E (2 * k+1)=v then lf L (2 * k+1) else 0)
def bal (m:Nat) (E:List Nat) (L:List Int) (v:Nat):Int:=((List.range m).map (term E L v)).sum
structure Cap (m:Nat) (most:Nat->Int) (L:List Int):Prop where
 len:L.length=2 * m
 nn:∀ s,s < 2 * m->0<=lf L s
 sm:∀ k,k < m->lf L (2 * k)+lf L (2 * k+1)=most k
end L5
namespace L5
open PySem PySem.Spec PyProof.Rows L2 L3 L4
def nI (x:Nat):D:=.int (x:Int)
end L5
namespace L5
structure Bfs (n m:Nat) (E:List Nat) (L:List Int) (src:Nat) (lv:List (Nat×Nat)) (row:List Nat) (lev:Nat):Prop where
 nd:(lv.map (·.1)).Nodup
 bd:∀ p∈lv,p.1 < n
 l0:lkp lv src=some 0
 z0:∀ v,lkp lv v=some 0->v=src
 ro:∀ v∈row,lkp lv v=some lev
 le:∀ v b,lkp lv v=some b->b<=lev/\(b=lev->v∈row)
 cl:∀ v b,lkp lv v=some b->b < lev->∀ s,s < 2 * m->tl E s=v->0 < lf L s->(lkp lv (hd E s)).isSome=true
 pr:∀ v a,lkp lv v=some (a+1)->∃ s,s < 2 * m/\0 < lf L s/\hd E s=v/\lkp lv (tl E s)=some a
structure Mid (n m:Nat) (E:List Nat) (L:List Int) (lv:List (Nat×Nat)) (lev:Nat) (lv1:List (Nat×Nat)) (beh:List Nat):Prop where
 nd:(lv1.map (·.1)).Nodup
 bd:∀ p∈lv1,p.1 < n
 old:∀ v b,lkp lv v=some b->lkp lv1 v=some b
 new:∀ v b,lkp lv1 v=some b->lkp lv v=some b \/ (b=lev+1/\v∈beh)
 ro:∀ v∈beh,lkp lv1 v=some (lev+1)
 pr:∀ v a,lkp lv1 v=some (a+1)->∃ s,s < 2 * m/\0 < lf L s/\hd E s=v/\lkp lv1 (tl E s)=some a
 len:lv1.length=lv.length+beh.length
end L5
namespace L5
open PySem PySem.Spec PyProof.Rows L2 L3 L4
end L5
namespace L5
structure Up (m:Nat) (most:Nat->Int) (E:List Nat) (L L':List Int) (src snk:Nat):Prop where
 cap:Cap m most L'
 eqb:∀ v,v≠src->v≠snk->bal m E L' v=bal m E L v
 out:∀ k,k < m->hd E (2 * k+1)=src->lf L (2 * k+1)<=lf L' (2 * k+1)
 inn:∀ k,k < m->hd E (2 * k)=snk->lf L (2 * k+1)<=lf L' (2 * k+1)
 bs:bal m E L' src<=bal m E L src
 bt:bal m E L snk<=bal m E L' snk
theorem Up.trans {m:Nat} {most:Nat->Int} {E:List Nat} {L L' L2:List Int} {src snk:Nat} (h:Up m most E L L' src snk) (k:Up m most E L' L2 src snk):Up m most E L L2 src snk :=
 ⟨k.cap,λ v a b=>(k.eqb v a b).trans (h.eqb v a b),λ i a b=>Int.le_trans (h.out i a b) (k.out i a b),λ i a b=>Int.le_trans (h.inn i a b) (k.inn i a b),Int.le_trans k.bs h.bs,Int.le_trans h.bt k.bt⟩
end L5
namespace L5
open PySem PySem.Spec PyProof.Rows L2 L3 L4
abbrev Ar:=Nat×Nat×Int
def endsA (A:List Ar):List Nat:=A.flatMap λ a=>[a.2.1,a.1]
def leftA (A:List Ar) (f:List Int):List Int:=(A.zip f).flatMap λ x=>[x.1.2.2 - x.2,x.2]
theorem Net.nil (n:Nat):Net n 0 [] (List.replicate n []):=⟨rfl,λ s hs=>by lia,by simp,(λ v l h s hs=>by
 rw [List.getElem?_replicate] at h
 split at h
 ·cases h;simp at hs
 ·cases h),λ s hs=>by lia⟩
theorem ztj:∀ {A:List Ar} {k:Nat} {a:Ar},A[k]?=some a->hd (endsA A) (2 * k)=a.2.1/\hd (endsA A) (2 * k+1)=a.1
|[],k,a,h=>by simp at h
|b :: r,0,a,h=>by simp at h;subst h;simp [endsA,hd]
|b :: r,k+1,a,h=>by
  have:=ztj (A:=r) (k:=k) (by simpa using h)
  rw [show 2 * (k+1)=2 * k+1+1 by lia]
  simp [endsA,hd] at this ⊢;exact this
def mostA (A:List Ar) (k:Nat):Int:=((A[k]?).map λ a=>a.2.2).getD 0
structure Best (n:Nat) (A:List Ar) (f:List Int) (src snk:Nat) (L:List Int) (side:List Nat):Prop where
 up:Up A.length (mostA A) (endsA A) (leftA A f) L src snk
 inn:src∈side
 out:snk ∉ side
 bd:∀ v∈side,v < n
 ris:side.Pairwise (· < ·)
 cl:∀ s,s < 2 * A.length->0 < lf L s->tl (endsA A) s∈side->hd (endsA A) s∈side
 rc:∃ lv,Lev n A.length (endsA A) L src lv/\∀ v,v∈side ↔ (lkp lv v).isSome=true
def sm (m:Nat) (g:Nat->Int):Int:=((List.range m).map g).sum
theorem zfh (m:Nat) (g:Nat->Int):sm (m+1) g=sm m g+g m:=by
 unfold sm
 rw [List.range_succ,List.map_append,List.sum_append]
 simp
theorem zte {m:Nat} {g h:Nat->Int} (e:∀ k,k < m->g k=h k):sm m g=sm m h:=by
 unfold sm
 rw [List.map_congr_left λ k hk=>e k (List.mem_range.mp hk)]
theorem sm_add (g h:Nat->Int):∀ m,sm m (λ k=>g k+h k)=sm m g+sm m h
|0=>rfl
|m+1=>by rw [zfh,zfh,zfh,sm_add g h m];lia
theorem zkm:∀ m,sm m (λ _=>0)=0
|0=>rfl
|m+1=>by rw [zfh,zkm m];rfl
def trm (u v:Nat) (x:Int) (w:Nat):Int:=(if v=w then x else 0) - (if u=w then x else 0)
def bl (m:Nat) (eu ev:Nat->Nat) (x:Nat->Int) (w:Nat):Int:=sm m λ k=>trm (eu k) (ev k) (x k) w
def flux (m:Nat) (eu ev:Nat->Nat) (x:Nat->Int) (side:List Nat):Int:=sm m λ k=>(if ev k∈side then x k else 0) - (if eu k∈side then x k else 0)
theorem zyi (m:Nat) (eu ev:Nat->Nat) (x:Nat->Int):∀ {side:List Nat},side.Nodup->flux m eu ev x side=(side.map (bl m eu ev x)).sum
|[],_=>by
  unfold flux
  rw [zte (h:=λ _=>0) λ k _=>by simp,zkm];rfl
|w :: r,h=>by
  obtain ⟨h1,h2⟩:=List.nodup_cons.mp h
  rw [List.map_cons,List.sum_cons,<- zyi m eu ev x h2]
  unfold bl flux
  rw [<- sm_add]
  refine zte λ k _=>?_
  unfold trm
  have a:∀ z:Nat,(if z∈w :: r then x k else 0)=(if z=w then x k else 0)+(if z∈r then x k else 0):=λ z=>by
   by_cases e:z=w
   ·subst e;simp [h1]
   ·simp [e]
  rw [a,a];lia
theorem zrn {g:Nat->Int} {s:Nat}:∀ {side:List Nat},side.Nodup->s∈side->(∀ w∈side,w≠s->g w=0)->(side.map g).sum=g s
|[],_,h,_=>by simp at h
|w :: r,nd,h,z=>by
  obtain ⟨h1,h2⟩:=List.nodup_cons.mp nd
  rw [List.map_cons,List.sum_cons]
  by_cases e:w=s
  ·subst e
   have:∀ l:List Nat,(∀ y∈l,g y=0)->(l.map g).sum=0:=by
    intro l
    induction l with
   |nil=>intro _;rfl
   |cons y t ih=>intro k;rw [List.map_cons,List.sum_cons,k y (by simp),ih λ u hu=>k u (by simp [hu])];rfl
   rw [this r λ y hy=>z y (by simp [hy]) λ q=>h1 (q ▸ hy)];lia
  ·have hs:s∈r:=by
    rcases List.mem_cons.mp h with q|q
    ·exact absurd q.symm e
    ·exact q
   rw [zrn h2 hs λ y hy=>z y (by simp [hy]),z w (by simp) e];lia
theorem zhs {m:Nat} {eu ev:Nat->Nat} {x:Nat->Int} {s t:Nat} {side:List Nat} (nd:side.Nodup) (hs:s∈side) (ht:t ∉ side) (h:∀ w,w≠s->w≠t->bl m eu ev x w=0):bl m eu ev x s=flux m eu ev x side:=by
 rw [zyi m eu ev x nd,zrn nd hs λ w hw hn=>h w hn λ q=>ht (q ▸ hw)]
def aU (A:List Ar) (k:Nat):Nat:=((A[k]?).map λ a=>a.1).getD 0
def aV (A:List Ar) (k:Nat):Nat:=((A[k]?).map λ a=>a.2.1).getD 0
theorem bal_bl {A:List Ar} {L:List Int} (w:Nat):bal A.length (endsA A) L w=bl A.length (aU A) (aV A) (λ k=>lf L (2 * k+1)) w:=by
 show sm _ _=sm _ _
 refine zte λ k hk=>?_
 have ga:A[k]?=some A[k]:=List.getElem?_eq_getElem hk
 obtain ⟨e1,e2⟩:=ztj ga
 unfold term trm aU aV
 rw [e1,e2,ga];rfl
theorem zfm {l:List Nat} (h:l.Pairwise (· < ·)):l.Nodup:=h.imp λ h=>by lia
theorem Best.bl {n:Nat} {A:List Ar} {f L:List Int} {src snk:Nat} {side:List Nat} (b:Best n A f src snk L side) (h:∀ v,v≠src->v≠snk->bal A.length (endsA A) L v=0):L5.bl A.length (aU A) (aV A) (λ k=>lf L (2 * k+1)) src=flux A.length (aU A) (aV A) (λ k=>lf L (2 * k+1)) side :=
 zhs (zfm b.ris) b.inn b.out λ w h1 h2=>by rw [<- bal_bl];exact h w h1 h2
abbrev Pr:=Nat×Nat
def pU (P:List Pr) (k:Nat):Nat:=((P[k]?).map λ a=>a.1).getD 0
def pV (P:List Pr) (k:Nat):Nat:=((P[k]?).map λ a=>a.2).getD 0
def fx (f:List Int) (k:Nat):Int:=(f[k]?).getD 0
def nb (P:List Pr) (f:List Int) (w:Nat):Int:=bl P.length (pU P) (pV P) (fx f) w
theorem zw5 {κ:Type} [DecidableEq κ] (p:κ×D) (r:List (κ×D)) (k:κ):getA (p :: r) k=if p.1=k then some p.2 else getA r k:=by
 unfold getA
 rw [List.find?_cons]
 by_cases e:p.1=k
 ·simp [e]
 ·simp [e]
def kP (u v:Nat):List Key:=[.inl (u:Int),.inl (v:Int)]
def Th (kvs:List (List Key×D)) (P:List Pr):Prop:=∀ (u v:Nat) d,getA kvs (kP u v)=some d->∃ j:Nat,d=nI j/\P[j]?=some (u,v)
theorem Th.nil:Th [] []:=λ u v d h=>by simp [getA] at h
structure Dr (n src snk:Nat) (P:List Pr) (f sl:List Int) (kvs:List (List Key×D)):Prop where
 lf:f.length=P.length
 ls:sl.length=P.length
 lk:kvs.length<=P.length
 bd:∀ p∈P,p.1 < n/\p.2 < n
 f0:∀ x∈f,0<=x
 s0:∀ x∈sl,0<=x
 th:Th kvs P
theorem Dr.nil (n src snk:Nat):Dr n src snk [] [] [] []:=⟨rfl,rfl,Nat.le_refl _,λ p h=>by simp at h,λ p h=>by simp at h,λ p h=>by simp at h,Th.nil⟩
theorem znk {f:Int->Int->Int} {fl gl:Str} {C a:Addr} {ts:List (Str×T)} {di dy dz:DE} {E:DEnds} {δ:DSt} {ds:List D} {kvs:List (List Key×D)} {z y c:Int} {yd zd:D} {key:List Key} {j:Nat}
  (h0:δ[0]?=some (.io a (.ob C ts))) (hl:ts.lookup fl=some (.li ds)) (hg:ts.lookup gl=some (.dt kvs)) (ne:fl≠gl) (hi:∀ Q:D->Prop,Q (.int z)->di δ Q) (hy:∀ Q:D->Prop,Q yd->dy δ Q) (hz:∀ Q:D->Prop,Q zd->dz δ Q)
  (z0:0<=z) (gy:ds[z.toNat]?=some (.int y)) (hj:ixN ds.length z=some j) (hk:keyT yd=some key) (hc:(getA kvs key).getD zd=.int c)
  (q:E.nx (δ.set 0 (.io a (.ob C (putA fl (.li (ds.set j (.int (f y c)))) (putA gl (.dt (dropA kvs key)) ts)))))) :
  zrg f (pFld C fl (pVar 0)) di (pFld C gl (pVar 0)) dy dz E δ:=by
 have l0:0 < δ.length:=(List.getElem?_eq_some_iff.mp h0).1
 have m1:∀ (p:Pth) (u:T) (N:DSt->Prop),mutS δ 0 p u N=N (δ.set 0 (.io a (setP (.ob C ts) p u))):=λ p u N=>by simp only [mutS,h0]
 have e1:setP (.ob C ts) [.fl gl] (.dt (dropA kvs key))=.ob C (putA gl (.dt (dropA kvs key)) ts):=by simp only [setP,hg]
 have e2:∀ u,setP (.ob C (putA gl (.dt (dropA kvs key)) ts)) [.fl fl] u=.ob C (putA fl u (putA gl (.dt (dropA kvs key)) ts)):=λ u=>by
  simp only [setP,zk6 ne,hl]
 have fin:mutS δ 0 [.fl gl] (.dt (dropA kvs key)) λ δ1=>mutS δ1 0 [.fl fl] (.li (ds.set j (.int (f y c)))) E.nx:=by
  rw [m1,e1]
  have:(δ.set 0 (.io a (.ob C (putA gl (.dt (dropA kvs key)) ts))))[0]?=some (.io a (.ob C (putA gl (.dt (dropA kvs key)) ts))):=List.getElem?_set_self l0
  simp only [mutS,this,e2,List.set_set]
  exact q
 have pv:∀ (g:Str) (u:T) (Q:Nat->Pth->T->Prop),ts.lookup g=some u->Q 0 [.fl g] u->pFld C g (pVar 0) δ Q:=λ g u Q hu hq=>⟨_,_,h0,rfl,rfl,u,hu,hq⟩
 refine pv fl _ _ hl (hi _ ⟨z0,_,gy,pv gl _ _ hg ⟨rfl,hy _ (hz _ ⟨key,hk,?_⟩)⟩⟩)
 rw [hc]
 exact ⟨j,hj,⟨rfl,fl,gl,rfl,rfl,ne⟩,fin⟩
end L5
namespace L4
open PySem PySem.Spec PyProof.Rows L2 L3
section
variable {P:Program} {w:World} {K:Fg} {mg:Str->Option Value} {base:Heap}
end
section
variable {K:Fg} {g:TG} {dg:DG} {tb:TS} {db:DS} {n:Nat}
end
section
variable {K:Fg} {t1 t2 t3 te:TE} {d1 d2 d3:DE} {dn:DN}
end
end L4
namespace L5
open PySem PySem.W PyProof.Rows
structure Lts (lt:Nat->Nat->Bool):Prop where
 asym:∀ {i j},lt i j=true->lt j i=false
 tr:∀ {i j k},lt j i=false->lt k j=false->lt k i=false
theorem Lts.irr {lt:Nat->Nat->Bool} (o:Lts lt) (i:Nat):lt i i=false:=by
 cases h:lt i i with
|false=>rfl
|true=>rw [o.asym h] at h;cases h
def Ans (n:Nat) (lt:Nat->Nat->Bool) (cmp:Nat->Nat->(Bool->Shared->Prop)->Shared->Prop) (s:Shared):Prop:=∀ i j,i < n->j < n->∀ C:Bool->Shared->Prop,C (lt i j) s->cmp i j C s
def Whole (n:Nat) (p:Array Nat):Prop:=p.toList.Perm (List.range n)
def Rise (lt:Nat->Nat->Bool) (p:Array Nat) (m:Nat):Prop:=∀ i j,i<=j->j < m->lt (p.getD j 0) (p.getD i 0)=false
def Sink (lt:Nat->Nat->Bool) (p:Array Nat) (m:Nat):Prop:=∀ i j,i<=j->j < m->lt (p.getD i 0) (p.getD j 0)=false
def Alike (lt:Nat->Nat->Bool) (p:Array Nat) (m q:Nat):Prop:=∀ i,m<=i+q+1->i < m->lt (p.getD i 0) (p.getD (m - 1) 0)=false/\lt (p.getD (m - 1) 0) (p.getD i 0)=false
section
variable {n:Nat} {lt:Nat->Nat->Bool} {cmp:Nat->Nat->(Bool->Shared->Prop)->Shared->Prop} {s:Shared} {p:Array Nat}
theorem Whole.size (h:Whole n p):p.size=n:=by have:=h.length_eq;simpa using this
theorem Whole.bnd (h:Whole n p) (hn:0 < n) (k:Nat):p.getD k 0 < n:=by
 by_cases hk:k < p.size
 ·have:p[k]∈p.toList:=by simp
  have:=h.mem_iff.mp this
  simp only [Array.getD,hk,dite_true]
  exact List.mem_range.mp this
 ·simp only [Array.getD,hk,dite_false];exact hn
theorem Whole.rev (h:Whole n p) (i j:Nat):Whole n (kas_rev p i j):=(Array.perm_iff_toList_perm.mp (mirror_perm p i j _)).trans h
theorem Whole.bub (h:Whole n p) (i j:Nat):Whole n (bubble p i j):=(Array.perm_iff_toList_perm.mp (bubble_perm p i j)).trans h
theorem getD_q (p:Array Nat) (k:Nat):p.getD k 0=(p[k]?).getD 0:=by simp
theorem rev_at (hj:j<=p.size) (k:Nat):(kas_rev p i j).getD k 0=if i<=k/\k < j then p.getD (i+j - 1 - k) 0 else p.getD k 0:=by
 rw [getD_q,getD_q,getD_q,kas_rev,getElem?_mirror_all hj]
 split <;> simp_all
theorem bub_at (hs:src < p.size) (hd:d<=src) (k:Nat):(bubble p src d).getD k 0=if k=src - d then p.getD src 0 else if src - d < k/\k<=src then p.getD (k - 1) 0 else p.getD k 0:=by
 rw [getD_q,getD_q,getD_q,getD_q,getElem?_bubble hs d hd]
 split
 ·rfl
 ·split <;> rfl
theorem Rise.more (o:Lts lt) (h:Rise lt p m) (h1:1<=m) (c:lt (p.getD m 0) (p.getD (m - 1) 0)=false):Rise lt p (m+1):=by
 intro i j hij hj
 by_cases e:j=m
 ·subst e
  by_cases e2:i=j
  ·subst e2;exact o.irr _
  ·exact o.tr (h i (j - 1) (by lia) (by lia)) c
 ·exact h i j hij (by lia)
theorem Sink.more (o:Lts lt) (h:Sink lt p m) (h1:1<=m) (c:lt (p.getD (m - 1) 0) (p.getD m 0)=false):Sink lt p (m+1):=by
 intro i j hij hj
 by_cases e:j=m
 ·subst e
  by_cases e2:i=j
  ·subst e2;exact o.irr _
  ·exact o.tr c (h i (j - 1) (by lia) (by lia))
 ·exact h i j hij (by lia)
theorem kw_t {α:Type} {T₁ T₂:KasT α} {Q:α->Shared->Prop} (h:T₁.kasWp cmp Q s):(if true=true then T₁ else T₂).kasWp cmp Q s:=by rw [if_pos rfl];exact h
theorem kw_f {α:Type} {T₁ T₂:KasT α} {Q:α->Shared->Prop} (h:T₂.kasWp cmp Q s):(if false=true then T₁ else T₂).kasWp cmp Q s:=by rw [if_neg (by simp)];exact h
theorem asc_ok (a:Ans n lt cmp s) (o:Lts lt) (hn:0 < n) (w:Whole n p) {Q:Nat->Shared->Prop}:∀ (f m:Nat),1<=m->Rise lt p m ->
  (∀ m',m<=m'->m'<=m+f->Rise lt p m'->(m'=m+f \/ lt (p.getD m' 0) (p.getD (m' - 1) 0)=true)->Q m' s)->(kas_asc p f m).kasWp cmp Q s
|0,m,h1,r,q=>q m (Nat.le_refl _) (Nat.le_refl _) r (.inl rfl)
|f+1,m,h1,r,q=>by
  refine a _ _ (w.bnd hn _) (w.bnd hn _) _ ?_
  cases c:lt (p.getD m 0) (p.getD (m - 1) 0) with
 |true=>refine kw_t ?_;exact q m (Nat.le_refl _) (by lia) r (.inr c)
 |false =>
   refine kw_f ?_
   exact asc_ok a o hn w f (m+1) (by lia) (r.more o h1 c) λ m' h2 h3 h4 h5=>q m' (by lia) (by lia) h4 (by rcases h5 with h5|h5;exact .inl (by lia);exact .inr h5)
theorem zdh (o:Lts lt) (w:Whole n p) (hm:m<=n) (hq:q < m) (e:Alike lt p m q) (k:Nat):lt ((kas_rev p (m - (q+1)) m).getD k 0) (p.getD k 0)=false/\lt (p.getD k 0) ((kas_rev p (m - (q+1)) m).getD k 0)=false:=by
 rw [rev_at (by rw [w.size];exact hm)]
 split
 ·rename_i hk
  have e1:=e k (by lia) hk.2
  have e2:=e (m - (q+1)+m - 1 - k) (by lia) (by lia)
  exact ⟨o.tr e1.2 e2.1,o.tr e2.2 e1.1⟩
 ·exact ⟨o.irr _,o.irr _⟩
theorem Sink.alike (o:Lts lt) {p':Array Nat} (h:Sink lt p m) (e:∀ k,lt (p'.getD k 0) (p.getD k 0)=false/\lt (p.getD k 0) (p'.getD k 0)=false):Sink lt p' m:=λ i j hij hj =>
 o.tr (o.tr (e j).2 (h i j hij hj)) (e i).1
theorem zug (a:Ans n lt cmp s) (o:Lts lt) (hn:0 < n) {Q:Array Nat×Nat×Nat->Shared->Prop}:∀ (f:Nat) (p:Array Nat) (m q:Nat),Whole n p->1<=m->m+f<=n->q < m->Sink lt p m->Alike lt p m q ->
  (∀ p' m' q',Whole n p'->m<=m'->m'<=m+f->q' < m'->Sink lt p' m'->Alike lt p' m' q'->Q (p',m',q') s)->(kas_desc f p m q).kasWp cmp Q s
|0,p,m,q,w,h1,hf,hq,d,e,k=>k p m q w (Nat.le_refl _) (Nat.le_refl _) hq d e
|f+1,p,m,q,w,h1,hf,hq,d,e,k=>by
  refine a _ _ (w.bnd hn _) (w.bnd hn _) _ ?_
  cases c:lt (p.getD m 0) (p.getD (m - 1) 0) with
 |true =>
   refine kw_t ?_
   have al:∀ p',Alike lt p' (m+1) 0:=λ p' i h2 h3=>by
    have:i=m:=by lia
    subst this
    exact ⟨o.irr _,o.irr _⟩
   by_cases hq0:q > 0
   ·rw [if_pos hq0]
    have ek:=zdh o w (by lia) hq e
    refine zug a o hn f _ (m+1) 0 (w.rev _ _) (by lia) (by lia) (by lia) ?_ (al _) λ p' m' q' a1 a2 a3 a4 a5 a6=>k p' m' q' a1 (by lia) (by lia) a4 a5 a6
    exact (d.more o h1 (o.asym c)).alike o ek
   ·rw [if_neg hq0]
    exact zug a o hn f _ (m+1) 0 w (by lia) (by lia) (by lia) (d.more o h1 (o.asym c)) (al _) λ p' m' q' a1 a2 a3 a4 a5 a6=>k p' m' q' a1 (by lia) (by lia) a4 a5 a6
 |false =>
   refine kw_f ?_
   refine a _ _ (w.bnd hn _) (w.bnd hn _) _ ?_
   cases c2:lt (p.getD (m - 1) 0) (p.getD m 0) with
  |true=>refine kw_t ?_;exact k p m q w (Nat.le_refl _) (by lia) hq d e
  |false =>
    refine kw_f ?_
    refine zug a o hn f p (m+1) (q+1) w (by lia) (by lia) (by lia) (d.more o h1 c2) (λ i h2 h3=>?_) λ p' m' q' a1 a2 a3 a4 a5 a6=>k p' m' q' a1 (by lia) (by lia) a4 a5 a6
    rw [show m+1 - 1=m by lia]
    by_cases e2:i=m
    ·subst e2;exact ⟨o.irr _,o.irr _⟩
    ·have e1:=e i (by lia) (by lia)
     exact ⟨o.tr c2 e1.1,o.tr e1.2 c⟩
theorem zag (w:Whole n p) (hm:m<=n) (h:Sink lt p m):Rise lt (kas_rev p 0 m) m:=by
 intro i j hij hj
 rw [rev_at (by rw [w.size];exact hm),rev_at (by rw [w.size];exact hm),if_pos ⟨Nat.zero_le _,by lia⟩,if_pos ⟨Nat.zero_le _,by lia⟩]
 exact h _ _ (by lia) (by lia)
theorem zfk (a:Ans n lt cmp s) (o:Lts lt) (hn:0 < n) (w:Whole n p) (h1:1<=m) (hm:m<=n) (d:Sink lt p m) {Q:Nat×Array Nat->Shared->Prop}
  (k:∀ p' m',Whole n p'->1<=m'->m'<=n->Rise lt p' m'->Q (m',p') s):(kas_tail3 m n p).kasWp cmp Q s:=by
 unfold kas_tail3
 rw [KasT.kasWp_bind]
 exact asc_ok a o hn (w.rev _ _) _ m h1 (zag w hm d) λ m' h2 h3 h4 _=>k _ m' (w.rev _ _) (by lia) (by lia) h4
theorem zmb (a:Ans n lt cmp s) (o:Lts lt) (hn:0 < n) (w:Whole n p) (h1:1<=m) (hm:m+1<=n) (d:Sink lt p (m+1)) {Q:Nat×Array Nat->Shared->Prop}
  (k:∀ p' m',Whole n p'->1<=m'->m'<=n->Rise lt p' m'->Q (m',p') s):(kas_descPart m n p).kasWp cmp Q s:=by
 unfold kas_descPart
 rw [KasT.kasWp_bind]
 refine zug a o hn _ p (m+1) 0 w (by lia) (by lia) (by lia) d (λ i h2 h3=>?_) λ p' m' q' a1 a2 a3 a4 a5 a6=>?_
 ·have:i=m:=by lia
  subst this
  exact ⟨o.irr _,o.irr _⟩
 ·show (if q' > 0 then kas_tail3 m' n (kas_rev p' (m' - (q'+1)) m') else kas_tail3 m' n p').kasWp cmp Q s
  split
  ·exact zfk a o hn (a1.rev _ _) (by lia) (by lia) (a5.alike o (zdh o a1 (by lia) a4 a6)) k
  ·exact zfk a o hn a1 (by lia) (by lia) a5 k
theorem zpo (a:Ans n lt cmp s) (o:Lts lt) (hn:0 < n) (w:Whole n p) {Q:Nat×Array Nat->Shared->Prop}
  (k:∀ p' m',Whole n p'->1<=m'->m'<=n->Rise lt p' m'->Q (m',p') s):(kas_count n p).kasWp cmp Q s:=by
 unfold kas_count
 rw [KasT.kasWp_bind]
 refine asc_ok a o hn w _ 1 (Nat.le_refl _) (λ i j h1 h2=>?_) λ m h2 h3 h4 h5=>?_
 ·have:i=j:=by lia
  subst this
  exact o.irr _
 ·by_cases e:m=n
  ·rw [if_pos (by simp [e])];exact k p m w h2 (by lia) h4
  ·rw [if_neg (by simp [e])]
   have c:lt (p.getD m 0) (p.getD (m - 1) 0)=true:=by rcases h5 with h5|h5;lia;exact h5
   by_cases e1:m > 1
   ·rw [if_pos e1]
    refine a _ _ (w.bnd hn _) (w.bnd hn _) _ ?_
    cases c2:lt (p.getD 0 0) (p.getD (m - 1) 0) with
   |true=>refine kw_t ?_;exact k p m w h2 (by lia) h4
   |false =>
     refine kw_f ?_
     have al:∀ i j,i < m->j < m->lt (p.getD i 0) (p.getD j 0)=false:=λ i j hi hj =>
      o.tr (h4 j (m - 1) (by lia) (by lia)) (o.tr c2 (h4 0 i (by lia) hi))
     have sk:Sink lt (kas_rev p 0 m) m:=λ i j hij hj=>by
      rw [rev_at (by rw [w.size];lia),rev_at (by rw [w.size];lia),if_pos ⟨Nat.zero_le _,by lia⟩,if_pos ⟨Nat.zero_le _,by lia⟩]
      exact al _ _ (by lia) (by lia)
     refine zmb a o hn (w.rev _ _) h2 (by lia) (sk.more o h2 ?_) k
     rw [rev_at (by rw [w.size];lia),rev_at (by rw [w.size];lia),if_pos ⟨Nat.zero_le _,by lia⟩,if_neg (by lia)]
     exact o.tr (o.asym c) (al _ _ (by lia) (by lia))
   ·rw [if_neg e1]
    have:m=1:=by lia
    subst this
    refine zmb a o hn w (Nat.le_refl _) (by lia) (Sink.more o (λ i j h1 h2=>?_) (Nat.le_refl _) (o.asym c)) k
    have:i=j:=by lia
    subst this
    exact o.irr _
theorem zuf (a:Ans n lt cmp s) (o:Lts lt) (hn:0 < n) (w:Whole n p) {j:Nat} (r:Rise lt p j) {Q:Nat->Shared->Prop}:∀ (f l u:Nat),l<=u->u<=j->u - l<=f ->
  (∀ i,i < l->lt (p.getD j 0) (p.getD i 0)=false)->(∀ i,u<=i->i < j->lt (p.getD j 0) (p.getD i 0)=true) ->
  (∀ l',l'<=j->(∀ i,i < l'->lt (p.getD j 0) (p.getD i 0)=false)->(∀ i,l'<=i->i < j->lt (p.getD j 0) (p.getD i 0)=true)->Q l' s)->(kas_place p j f l u).kasWp cmp Q s
|0,l,u,h1,h2,h3,a1,a2,q=>q l (by lia) a1 λ i hi=>a2 i (by lia)
|f+1,l,u,h1,h2,h3,a1,a2,q=>by
  unfold kas_place
  by_cases e:l ≥ u
  ·rw [if_pos e];exact q l (by lia) a1 λ i hi=>a2 i (by lia)
  ·rw [if_neg e]
   refine a _ _ (w.bnd hn _) (w.bnd hn _) _ ?_
   cases c:lt (p.getD j 0) (p.getD ((l+u) / 2) 0) with
  |true =>
    refine kw_t (zuf a o hn w r f l ((l+u) / 2) (by lia) (by lia) (by lia) a1 (λ i hi hj=>?_) q)
    cases c3:lt (p.getD j 0) (p.getD i 0) with
   |true=>rfl
   |false=>rw [o.tr (r ((l+u) / 2) i hi hj) c3] at c;cases c
  |false =>
    refine kw_f (zuf a o hn w r f ((l+u) / 2+1) u (by lia) h2 (by lia) (λ i hi=>?_) a2 q)
    exact o.tr (r i ((l+u) / 2) (by lia) (by lia)) c
theorem bin_ok (a : Ans n lt cmp s) (o : Lts lt) (hn : 0 < n) {Q : Array Nat → Shared → Prop} : ∀ (f : Nat) (p : Array Nat) (j : Nat), Whole n p → j + f = n → Rise lt p j → (∀ p', Whole n p' → Rise lt p' n → Q p' s) → (kas_bin f p j).kasWp cmp Q s
  | 0, p, j, w, h, r, q => q p w (by have : j = n := by lia
                                     rw [← this]; exact r)
  | f + 1, p, j, w, h, r, q => by
    unfold kas_bin
    rw [KasT.kasWp_bind]
    refine zuf a o hn w r j 0 j (Nat.zero_le _) (Nat.le_refl _) (by lia) (fun i hi => absurd hi (by lia)) (fun i h1 h2 => absurd h1 (by lia)) fun l hl b1 b2 => ?_
    refine bin_ok a o hn f _ (j + 1) (w.bub _ _) (by lia) (fun i k hik hk => ?_) q
    have hs : j < p.size := by rw [w.size]; lia
    rw [bub_at hs (by lia), bub_at hs (by lia)]
    have e : j - (j - l) = l := by lia
    rw [e]
    by_cases k1 : k = l
    · rw [if_pos k1]
      by_cases i1 : i = l
      · rw [if_pos i1]; exact o.irr _
      · rw [if_neg i1, if_neg (by lia)]; exact b1 i (by lia)
    · rw [if_neg k1]
      by_cases k2 : l < k ∧ k ≤ j
      · rw [if_pos k2]
        by_cases i1 : i = l
        · rw [if_pos i1]; exact o.asym (b2 (k - 1) (by lia) (by lia))
        · rw [if_neg i1]
          by_cases i2 : l < i ∧ i ≤ j
          · rw [if_pos i2]; exact r _ _ (by lia) (by lia)
          · rw [if_neg i2]; exact r _ _ (by lia) (by lia)
      · rw [if_neg k2, if_neg (by lia), if_neg (by lia)]; exact r _ _ (by lia) (by lia)
theorem zds (a:Ans n lt cmp s) (o:Lts lt) (hn:0 < n) {Q:Array Nat->Shared->Prop} (q:∀ p,Whole n p->Rise lt p n->Q p s):(kas_sort n).kasWp cmp Q s:=by
 unfold kas_sort
 rw [KasT.kasWp_bind]
 refine zpo a o hn (by unfold Whole;exact List.Perm.refl _) λ p m w h1 h2 r=>?_
 show (if m < n then kas_bin (n - max m 1) p (max m 1) else .ret p).kasWp cmp Q s
 split
 ·exact bin_ok a o hn _ p _ w (by lia) (by rw [Nat.max_eq_left h1];exact r) q
 ·have:m=n:=by lia
  subst this
  exact q p w r
end
end L5
namespace L3
open PySem PySem.W PySem.Spec PyProof.Rows L2 L5
def lexB:List Int->List Int->Bool
|[],[]=>false
|[],_ :: _=>true
|_ :: _,[]=>false
|a :: r,b :: t=>if a=b then lexB r t else decide (a < b)
theorem zx7 (a b:Int) (r t:List Int):lexB (a :: r) (b :: t)=if a=b then lexB r t else decide (a < b):=by rw [lexB]
theorem zog:∀ {x y:List Int},lexB x y=true->lexB y x=false
|[],[],h=>by simp [lexB] at h
|[],_ :: _,h=>by simp [lexB]
|_ :: _,[],h=>by simp [lexB] at h
|a :: r,b :: t,h=>by
  rw [zx7] at h ⊢
  by_cases e:a=b
  ·subst e;rw [if_pos rfl] at h ⊢;exact zog h
  ·rw [if_neg e] at h;rw [if_neg (Ne.symm e)];simp at h ⊢;lia
theorem zjm:∀ {x y z:List Int},lexB y x=false->lexB z y=false->lexB z x=false
|[],[],z,_,h=>h
|[],_ :: _,[],_,_=>by simp [lexB]
|[],_ :: _,_ :: _,_,_=>by simp [lexB]
|_ :: _,[],_,h,_=>by simp [lexB] at h
|_ :: _,_ :: _,[],_,h=>by simp [lexB] at h
|a :: r,b :: t,c :: u,h,k=>by
  rw [zx7] at h k ⊢
  by_cases e:b=a
  ·subst e
   rw [if_pos rfl] at h
   by_cases e2:c=b
   ·subst e2;rw [if_pos rfl] at k ⊢;exact zjm h k
   ·rw [if_neg e2] at k ⊢;exact k
  ·rw [if_neg e] at h
   by_cases e2:c=b
   ·subst e2;rw [if_neg e];exact h
   ·rw [if_neg e2] at k
    simp at h k
    rw [if_neg (by lia)];simp;lia
theorem zwg:∀ {x y:List Int},lexB x y=false->lexB y x=false->x=y
|[],[],_,_=>rfl
|[],_ :: _,h,_=>by simp [lexB] at h
|_ :: _,[],_,h=>by simp [lexB] at h
|a :: r,b :: t,h,k=>by
  rw [zx7] at h k
  by_cases e:a=b
  ·subst e;rw [if_pos rfl] at h k;rw [zwg h k]
  ·rw [if_neg e] at h;rw [if_neg (Ne.symm e)] at k;simp at h k;lia
theorem zbr (rows:List (List Int)):Lts λ i j=>lexB (rows.getD i []) (rows.getD j []):=⟨zog,zjm⟩
section
variable {s:Shared} {w:World} {prog:Program} {E:Value->Shared->Prop} {A:Around}
theorem lex_at {Q:Bool->Shared->Prop} {fin:Bool}:∀ (xs ys:List Int) (vs ws:List Value) (i:Nat),IntsAre vs xs->IntsAre ws ys->fin=decide (xs.length < ys.length)->Q (lexB xs ys) s->KatLex prog w A true fin Q (vs.zip ws) i s
|[],[],_,_,i,.nil,.nil,e,q=>by subst e;exact q
|[],_ :: _,_,_,i,.nil,.cons _ _ _,e,q=>by
  have:fin=true:=by rw [e];simp
  subst this
  exact kat_nil q
|_ :: _,[],_,_,i,.cons _ _ _,.nil,e,q=>by
  have:fin=false:=by rw [e];simp
  subst this
  exact kat_nil q
|a :: r,b :: t,_,_,i,.cons _ u h,.cons _ u2 k,e,q=>by
  rw [List.zip_cons_cons]
  rw [zx7] at q
  refine kat_cons (wpAny_eqBool_int (kat_go (λ e1=>kat_yes ?_) λ e1=>kat_no ?_))
  ·have:a=b:=by simpa using e1
   subst this
   rw [if_pos rfl] at q
   exact lex_at r t _ _ (i+1) h k (by rw [e];simp) q
  ·have:a≠b:=by simpa using e1
   rw [if_neg this] at q
   cases (true && i == 0) with
  |true=>exact oneLt_int q
  |false=>exact kat_one _ _ (PyProof.Rows.lt_int q)
inductive TupRows (h:Heap):List Value->List (List Int)->Prop
|nil:TupRows h [] []
|cons {v:Value} {r:List Int} {vs:List Value} {rows:List (List Int)}:(∃ b o its k,v=.ref b/\h.get? b=some o/\o.cls=.type "tuple"/\o.data=.seq its k/\IntsAre its.toList r/\r≠[])->TupRows h vs rows->TupRows h (v :: vs) (r :: rows)
theorem TupRows.mono {h h':Heap} {vs:List Value} {rows:List (List Int)} (t:TupRows h vs rows) (k:∀ b o,h.get? b=some o->o.cls=.type "tuple"->h'.get? b=some o):TupRows h' vs rows:=by
 induction t with
|nil=>exact .nil
|cons a t ih =>
  obtain ⟨b,o,its,n,e1,e2,e3,e4,e5,e6⟩:=a
  exact .cons ⟨b,o,its,n,e1,k b o e2 e3,e3,e4,e5,e6⟩ ih
theorem TupRows.at {h:Heap}:∀ {vs:List Value} {rows:List (List Int)},TupRows h vs rows->∀ {i:Nat},i < vs.length->∃ b o its k,vs.getD i .none=.ref b/\h.get? b=some o/\o.cls=.type "tuple"/\o.data=.seq its k/\IntsAre its.toList (rows.getD i [])/\rows.getD i []≠[]
|_,_,.nil,i,hi=>by simp at hi
|_,_,.cons a t,0,_=>a
|_,_,.cons a t,i+1,hi=>by simpa using TupRows.at t (i:=i) (by simpa using hi)
theorem TupRows.firsts {h:Heap}:∀ {vs:List Value} {rows:List (List Int)},TupRows h vs rows->∃ fs:List Value,KatTups h vs fs/\fs.length=vs.length/\∀ v∈fs,∃ n t,v=Value.int n t
|_,_,.nil=>⟨[],.nil,rfl,by simp⟩
|_,_,.cons ⟨b,o,its,n,e1,e2,e3,e4,e5,e6⟩ t=>by
  obtain ⟨fs,k1,k2,k3⟩:=TupRows.firsts t
  subst e1
  obtain ⟨l,hl⟩:∃ l,its.toList=l:=⟨_,rfl⟩
  rw [hl] at e5
  cases e5 with
 |nil=>exact absurd rfl e6
 |cons x u r =>
   refine ⟨.int x u :: fs,KatTups.cons e2 e3 e4 ?_ k1,by simp [k2],?_⟩
   ·rw [<- Array.getElem?_toList,hl];rfl
   ·intro v hv
    rcases List.mem_cons.mp hv with rfl|hv
    ·exact ⟨_,_,rfl⟩
    ·exact k3 v hv
theorem zqk {a:Addr} {vs:List Value} {rows:List (List Int)} {n:Nat} {P:Fin->Shared->Prop} (go:s.heap.get? a=some (seqObj "list" vs.toArray n)) (t:TupRows s.heap vs rows) (h2:2<=vs.length) (h64:vs.length < 64)
  (h:∀ p:Array Nat,Whole vs.length p->Rise (λ i j=>lexB (rows.getD i []) (rows.getD j [])) p vs.length->P (.done (.ret .none)) { s with heap:=sortedHeap s.heap a vs (List.toArray (p.toList.map λ i=>vs.getD i .none)) }) :
  wpAny (model prog w) A (Builtin.«list.sort» ⟨[.ref a],[]⟩) P E s:=by
 have al:a < s.heap.objs.size:=Heap.lt_size go
 obtain ⟨e1,g1⟩:∃ e1,(s.heap.update a (Obj.mapSeq λ _=>#[])).get? a=some (seqObj "list" #[] e1):=⟨_,get?_update_seq go λ _=>#[]⟩
 rw [list_sort_plain]
 refine wpAny_bind (listItems_at go rfl (wpAny_bind (listUpdate_at go rfl (wpAny_bind (seqEpoch_at g1 rfl (wpAny_bind (wpAny_newTuple (wpAny_bind (wpAny_newList (wpAny_holding ?_))))))))))
 have g6:(((s.heap.update a (Obj.mapSeq λ _=>#[])).push (seqObj "tuple" vs.toArray 0)).push (seqObj "list" #[] 0)).get? a=some (seqObj "list" #[] e1):=Heap.get?_push_of_some _ (Heap.get?_push_of_some _ g1)
 have t6:TupRows (((s.heap.update a (Obj.mapSeq λ _=>#[])).push (seqObj "tuple" vs.toArray 0)).push (seqObj "list" #[] 0)) vs rows:=t.mono λ b o ho hc=>by
  have hb:b≠a:=by
   rintro rfl
   rw [go] at ho
   cases ho
   simp at hc
  exact Heap.get?_push_of_some _ (Heap.get?_push_of_some _ (by rw [Heap.get?_update_ne _ _ _ _ hb];exact ho))
 refine (show wpAny (model prog w) A _ P E { s with heap:=((s.heap.update a (Obj.mapSeq λ _=>#[])).push (seqObj "tuple" vs.toArray 0)).push (seqObj "list" #[] 0) } from ?_)
 dsimp only
 have hn2:¬ vs.toArray.size < 2:=by rw [List.size_toArray];lia
 rw [if_neg hn2,if_neg hn2]
 obtain ⟨fs,k1,k2,k3⟩:=t6.firsts
 refine wpAny_bind (kat_kind (T:=.type "int") k1 (by lia) (λ v hv=>?_) rfl ?_)
 ·obtain ⟨x,u,rfl⟩:=k3 v hv
  exact .now
 have ask:Ans vs.length (λ i j=>lexB (rows.getD i []) (rows.getD j [])) (kas_ask prog w A (tuples' (Value.type "int" != Value.type "tuple")) vs) { s with heap:=((s.heap.update a (Obj.mapSeq λ _=>#[])).push (seqObj "tuple" vs.toArray 0)).push (seqObj "list" #[] 0) }:=by
  intro i j hi hj C hc
  obtain ⟨b,o,its,n,a1,a2,a3,a4,a5,a6⟩:=t6.at hi
  obtain ⟨b',o',its',n',c1,c2,c3,c4,c5,c6⟩:=t6.at hj
  unfold kas_ask
  rw [a1,c1]
  refine kat_lt a2 a4 c2 c4 (lex_at _ _ _ _ 0 a5 c5 ?_ hc)
  rw [<- Array.length_toList,<- Array.length_toList,a5.length,c5.length]
 refine wpAny_bind (wpAny_mono (kat_run (Q:=λ st' s'=>s'={ s with heap:=((s.heap.update a (Obj.mapSeq λ _=>#[])).push (seqObj "tuple" vs.toArray 0)).push (seqObj "list" #[] 0) }/\∃ p:Array Nat,arrOf st'=p.map (kas_item (vs.toArray.zip vs.toArray))/\failedOf st'=none/\Whole vs.length p/\Rise (λ i j=>lexB (rows.getD i []) (rows.getD j [])) p vs.length)
  (G:=λ p s'=>s'={ s with heap:=((s.heap.update a (Obj.mapSeq λ _=>#[])).push (seqObj "tuple" vs.toArray 0)).push (seqObj "list" #[] 0) }/\Whole vs.length p/\Rise (λ i j=>lexB (rows.getD i []) (rows.getD j [])) p vs.length)
  rfl h2 h64 (λ p st' s' b1 b2 b3 b4=>⟨b4.1,p,b2,b3,b4.2⟩) (zds ask (zbr rows) (by lia) λ p w r=>⟨rfl,w,r⟩)) ?_ λ _ _ e=>e)
 rintro ⟨⟨⟩,st'⟩ s' ⟨rfl,p,har,hf,hw,hr⟩
 dsimp only
 have hout:=kat_snds rfl har
 rw [hout]
 refine wpAny_bind (seqEpoch_at g6 rfl (wpAny_bind (listUpdate_at (hsz2:=?_) g6 rfl ?_)))
 ·rw [hf]
  rw [if_neg (by simp)]
  exact wpAny_pure (h p hw hr)
 ·rw [List.size_toArray,List.length_map,Array.length_toList,hw.size,sizeLine_eq];lia
theorem zrh {l:Addr} {vs:List Value} {rows:List (List Int)} {Q:Value->Shared->Prop} (gl:s.heap.IsList l vs.toArray) (t:TupRows s.heap vs rows) (h2:2<=vs.length) (h64:vs.length < 64)
  (h:∀ p:Array Nat,Whole vs.length p->Rise (λ i j=>lexB (rows.getD i []) (rows.getD j [])) p vs.length->Q (.ref (s.heap.objs.size+1)) { s with heap:=sortedAll s.heap vs (List.toArray (p.toList.map λ i=>vs.getD i .none)) }):wpAny (model prog w) A (call (.builtin "sorted") [.ref l]) Q E s:=by
 refine Calls.call_function_entry kind_sorted plain_sorted entry_sorted (args_sorted1 _) ?_
 unfold Builtin.«sorted»
 have z:((s.heap.push (seqObj "list" #[] 0)).update s.heap.objs.size (Obj.mapSeq (·++vs.toArray))).objs.size=s.heap.objs.size+1:=by rw [Heap.size_update,size_push']
 have g:(((s.heap.push (seqObj "list" #[] 0)).update s.heap.objs.size (Obj.mapSeq (·++vs.toArray))).push (seqObj "list" vs.toArray 0)).get? (s.heap.objs.size+1)=some (seqObj "list" vs.toArray 0):=by
  rw [<- z];exact Heap.get?_push_size _ rfl
 have keep:∀ b o,s.heap.get? b=some o->(((s.heap.push (seqObj "list" #[] 0)).update s.heap.objs.size (Obj.mapSeq (·++vs.toArray))).push (seqObj "list" vs.toArray 0)).get? b=some o:=λ b o q=>by
  have hlt:b < s.heap.objs.size:=Heap.lt_size q
  rw [Heap.get?_push_ne _ _ _ (by rw [z];exact Nat.ne_of_lt (Nat.lt_succ_of_lt hlt)),Heap.get?_update_ne _ _ _ _ (Nat.ne_of_lt hlt),Heap.get?_push_ne _ _ _ (Nat.ne_of_lt hlt)]
  exact q
 refine wpAny_bind (m:=checkCount "sorted" 1 1 _) (wpAny_pure (wpAny_bind (collect_list gl ?_ (by rw [sizeLine_eq];lia))))
 refine wpAny_bind (wpAny_newList (show wpAny _ _ _ _ _ { s with heap:=((s.heap.push (seqObj "list" #[] 0)).update s.heap.objs.size (Obj.mapSeq (·++vs.toArray))).push (seqObj "list" vs.toArray 0) } from ?_) (by rw [sizeLine_eq];lia))
 rw [z]
 refine wpAny_bind (wpAny_holding (wpAny_call_entry slot_list_sort ⟨_,g,rfl⟩ entry_list_sort (zqk g (t.mono λ b o ho _=>keep b o ho) h2 h64 λ p w r=>⟨_,rfl,?_⟩) (args_list_sort _)))
 exact wpAny_pure ⟨_,rfl,h p w r⟩
end
inductive RowsV (K:Fg) (H:Hp):List V->List (List Int)->Prop
|nil:RowsV K H [] []
|cons {b:Addr} {r:List Int} {xs:List V} {rows:List (List Int)}:SqT K H b (r.map V.int)->r≠[]->RowsV K H xs rows->RowsV K H (.ref b :: xs) (r :: rows)
theorem RowsV.len {K:Fg} {H:Hp} {xs:List V} {rows:List (List Int)} (h:RowsV K H xs rows):xs.length=rows.length:=by
 induction h with
|nil=>rfl
|cons _ _ _ ih=>simp [ih]
def Order (rows:List (List Int)) (p:List Nat):Prop:=p.Perm (List.range rows.length)/\p.Pairwise λ i j=>lexB (rows.getD j []) (rows.getD i [])=false
def rSortT (K:Fg):List V->Hp->VK->Prop:=λ vs H Q=>∃ (a:Addr) (xs:List V) (rows:List (List Int)),vs=[.ref a]/\SqL K H a xs/\RowsV K H xs rows/\rows.length < 64 /\
 ∀ p:List Nat,Order rows p->∀ l,H l=none->Q (.ref l) (upd H l (.lst (p.map λ i=>xs.getD i .non)))
theorem zur {X:Cx} {pins:List (Addr×Obj)} {s:Shared} {σ:St} {H:Hp} (I:L2.Inv X pins σ H s) {xs:List V} {rows:List (List Int)} (h:RowsV X.K H xs rows):∀ {us:List Value},Vals xs us->TupRows s.heap us rows:=by
 induction h with
|nil=>intro us r;cases r;exact .nil
|cons h1 h2 _ ih =>
  intro us r
  cases r with
 |cons a r =>
   cases a
   obtain ⟨its,rv,⟨o,g,gc,n,gd⟩,_⟩:=I.tuple h1
   exact .cons ⟨_,o,its.toArray,n,rfl,g,gc,gd,by simpa using zzh rv,h2⟩ (ih r)
theorem Vals.getP {xs:List V} {us:List Value} (h:Vals xs us) {i:Nat} (hi:i < xs.length):RelV (xs.getD i .non) (us.getD i .none):=by
 obtain ⟨u,e,r⟩:=Vals.get h (List.getElem?_eq_getElem hi)
 rw [List.getD_eq_getElem?_getD,List.getD_eq_getElem?_getD,List.getElem?_eq_getElem hi,e]
 exact r
theorem Vals.pick {xs:List V} {us:List Value} (h:Vals xs us):∀ (p:List Nat),(∀ i∈p,i < xs.length)->Vals (p.map λ i=>xs.getD i .non) (p.map λ i=>us.getD i .none)
|[],_=>.nil
|i :: p,q=>.cons (Vals.getP h (q i (.head _))) (Vals.pick h p λ j hj=>q j (.tail _ hj))
theorem zyk {rows:List (List Int)} (h:rows.length < 2):Order rows (List.range rows.length):=by
 refine ⟨List.Perm.refl _,?_⟩
 rcases rows with _|⟨r,_|⟨r2,t⟩⟩
 ·simp
 ·simp [List.range_succ]
 ·simp at h;lia
theorem zmp {rows:List (List Int)} {p:Array Nat} (w:Whole rows.length p) (r:Rise (λ i j=>lexB (rows.getD i []) (rows.getD j [])) p rows.length):Order rows p.toList:=by
 refine ⟨w,?_⟩
 rw [List.pairwise_iff_getElem]
 intro i j hi hj hij
 have hz:=w.size
 have hi':i < p.size:=by simpa using hi
 have hj':j < p.size:=by simpa using hj
 have:=r i j (Nat.le_of_lt hij) (by lia)
 simpa [Array.getD,hi',hj'] using this
theorem zde {X:Cx} {K:Fg} (h:X.K=K):CallR X (.builtin "sorted") (rSortT K):=by
 subst h
 intro pins s σ H xs us Q I r h
 obtain ⟨a,ys,rows,rfl,hx,hr,hz,q⟩:=h
 obtain ⟨u,rfl,r1⟩:=vals1 r
 cases r1
 obtain ⟨its,rv,p,_⟩:=I.list hx
 have hl:its.length=rows.length:=by rw [<- rv.length,hr.len]
 have hy:=hr.len
 by_cases h2:its.length < 2
 ·have eo:(its.toArray.zip its.toArray).map (·.2)=its.toArray:=by
   apply Array.toList_inj.mp
   rw [Array.toList_map,Array.toList_zip];exact List.map_snd_zip (Nat.le_refl _)
  refine zri p.isList (by simpa using h2) ?_
  rw [eo]
  obtain ⟨e,he⟩:=sortedAll_at s.heap its its.toArray
  have ei:(List.range rows.length).map (λ i=>ys.getD i .non)=ys:=by
   apply List.ext_getElem
   ·simp [hy]
   ·intro i h1 h3;simp [List.getElem?_eq_getElem h3]
  refine ⟨.ref _,upd H (s.heap.objs.size+1) (.lst ys),I.laid (a:=s.heap.objs.size+1) (t':=s.toks) (λ b o=>sortedAll_old) (Nat.le_succ _) ⟨by rw [sizeLine_eq];lia,its,e,rv,he⟩,rfl,?_⟩
  have:=q _ (zyk (by lia)) _ (I.hok.fresh (Nat.le_succ _))
  rw [ei] at this
  exact this
 ·refine zrh p.isList (zur I hr rv) (by lia) (by lia) λ pp w rs=>?_
  rw [hl] at w rs
  obtain ⟨e,he⟩:=sortedAll_at s.heap its (List.toArray (pp.toList.map λ i=>its.getD i .none))
  have hlt:∀ i∈pp.toList,i < ys.length:=λ i hi=>by
   have:=List.mem_range.mp (w.mem_iff.mp hi)
   lia
  refine ⟨.ref _,upd H (s.heap.objs.size+1) (.lst (pp.toList.map λ i=>ys.getD i .non)),I.laid (a:=s.heap.objs.size+1) (t':=s.toks) (λ b o=>sortedAll_old) (Nat.le_succ _) ⟨?_,pp.toList.map λ i=>its.getD i .none,e,Vals.pick rv pp.toList hlt,he⟩,rfl,q _ (zmp w rs) _ (I.hok.fresh (Nat.le_succ _))⟩
  rw [List.length_map,Array.length_toList,w.size,sizeLine_eq];lia
end L3
namespace L4
open PySem PySem.Spec PyProof.Rows L2 L3
section
variable {K:Fg}
def rowD (r:List Int):D:=.tuple (r.map .int)
def fSortT:List D->(List D->Prop)->Prop
|[.list ds],Q=>∃ rows:List (List Int),ds=rows.map rowD/\(∀ r∈rows,r≠[])/\rows.length < 64/\∀ rows':List (List Int),rows'.Perm rows->rows'.Pairwise (λ a b=>lexB b a=false)->Q (rows'.map rowD)
|_,_=>False
theorem zai {F H:Hp} (s:Same F H):∀ {xs:List V} {rows:List (List Int)},(∀ r∈rows,r≠[])->IsAll K F xs (rows.map rowD)->RowsV K H xs rows
|[],[],_,_=>.nil
|_,_ :: _,n,.cons a r=>by
  obtain ⟨b,ys,rfl,h1,h2⟩:=Is.tuple_inv a
  have:=zdi h2 (zdq _)
  subst this
  exact .cons (sseqT s h1) (n _ (.head _)) (zai s (λ r hr=>n r (.tail _ hr)) r)
theorem zhi {F:Hp} {xs:List V} {ds:List D} (h:IsAll K F xs ds) {i:Nat} (hi:i < xs.length):Is K F (xs.getD i .non) (ds.getD i .none):=by
 obtain ⟨d,e,r⟩:=h.get (List.getElem?_eq_getElem hi)
 rw [List.getD_eq_getElem?_getD,List.getD_eq_getElem?_getD,List.getElem?_eq_getElem hi,e]
 exact r
theorem zne {F:Hp} {xs:List V} {ds:List D} (h:IsAll K F xs ds):∀ (p:List Nat),(∀ i∈p,i < xs.length)->IsAll K F (p.map λ i=>xs.getD i .non) (p.map λ i=>ds.getD i .none)
|[],_=>.nil
|i :: p,q=>.cons (zhi h (q i (.head _))) (zne h p λ j hj=>q j (.tail _ hj))
theorem znm:CF K (rSortT K) fSortT:=by
 intro F H vs ds Qd Q s hv h k
 unfold fSortT at h
 split at h
 ·obtain ⟨v,rfl,hw⟩:=vw1 hv
  obtain ⟨p,xs,rfl,h1,i1⟩:=hw.list s
  obtain ⟨rows,rfl,hn,hz,q⟩:=h
  have hr:=zai s hn i1
  refine ⟨p,xs,rows,rfl,h1,hr,hz,λ pp po l hl=>?_⟩
  obtain ⟨ex,fn⟩:=zm5 (xs:=pp.map λ i=>xs.getD i .non) s hl
  have hlt:∀ i∈pp,i < xs.length:=λ i hi=>by
   have:=List.mem_range.mp (po.1.mem_iff.mp hi)
   rw [hr.len];exact this
  have e2:(pp.map λ i=>(rows.map rowD).getD i .none)=(pp.map λ i=>rows.getD i []).map rowD:=by
   rw [List.map_map]
   refine List.map_congr_left λ i hi=>?_
   have h3:i < rows.length:=by rw [<- hr.len];exact hlt i hi
   simp [h3]
  have e3:(List.range rows.length).map (λ i=>rows.getD i [])=rows:=by
   apply List.ext_getElem
   ·simp
   ·intro i h1 h3;simp [List.getElem?_eq_getElem h3]
  refine k _ (q (pp.map λ i=>rows.getD i []) ?_ ?_) l _ F _ ex hl zg0 fn ?_
  ·have:=po.1.map λ i=>rows.getD i []
   rw [e3] at this
   exact this
  ·exact List.pairwise_map.mpr po.2
  ·rw [<- e2];exact zne i1 pp hlt
 ·exact h.elim
theorem zoo (ds:List D) (Q:List D->Prop):fSortT [.list ds] Q=∃ rows:List (List Int),ds=rows.map rowD/\(∀ r∈rows,r≠[])/\rows.length < 64/\∀ rows':List (List Int),rows'.Perm rows->rows'.Pairwise (λ a b=>lexB b a=false)->Q (rows'.map rowD):=rfl
end
end L4
namespace L3
open PySem PySem.Spec PyProof.Rows L2
section
variable {s:Shared} {w:World} {prog:Program} {E:Value->Shared->Prop} {A:Around}
theorem zgm {d:Addr} {od:Obj} {es:Array DictEntry} {ep:Nat} {Q:Value->Shared->Prop} (go:s.heap.get? d=some od) (gc:od.cls=.type "dict") (gd:od.data=.dict es ep) (gs:(d == sysModules)=false)
  (q:Q (.ref s.heap.objs.size) { s with heap:=s.heap.push { cls:=.type "dict_keyiterator",data:=.fields #[.ref d,.int 0 0,.int es.size 0,.int ep 0] } }):wpAny (model prog w) A (pyIter (.ref d)) Q E s:=by
 have ty:s.TypeIs (.ref d) "dict":=⟨od,go,gc⟩
 refine wpAny_pyIter_slot ty F.slot_dict_iter (wpAny_call_entry F.slot_dict_iter ty F.entry_dict_iter ?_ (F.args_dict_iter_1 _))
 unfold Builtin.«dict.__iter__» Builtin.Dict.dictSlotNone
 refine wpAny_bind (wpAny_bind (wpAny_notOrdered_dict ty (show wpAny _ _ (pure (Value.ref d)) _ _ s from wpAny_pure (show wpAny _ _ (Builtin.Dict.showsAll d >>= _) _ _ s from ?_))))
 unfold Builtin.Dict.showsAll
 rw [gs,if_neg Bool.false_ne_true]
 refine wpAny_bind (wpAny_pure (wpAny_bind (wpAny_dictEntries go gd (wpAny_bind (wpAny_dictEpoch go gd (wpAny_bind (wpAny_newObj_type (wpAny_pure ⟨_,rfl, "dict_keyiterator",_,⟨_,Heap.get?_push_size _ rfl,rfl⟩,F.slot_dict_keyiterator_next.lookup,?_⟩))))))))
 simpa [rawInt] using q
theorem ownk:Builtin.Dict_items.ownsTuple "dict_keyiterator"=false:=by decide
theorem zgh {it d:Addr} {od:Obj} {es:Array DictEntry} {i ep:Nat} {Q:Option Value->Shared->Prop} (calm:A.handled=none) (gi:s.heap.IsKeyIter it d i es.size ep) (go:s.heap.get? d=some od) (gd:od.data=.dict es ep)
  (q1:∀ (lt:i < es.size) (h':Heap),h'.IsKeyIter it d (i+1) es.size ep->Heap.SameBut it s.heap h'->Q (some es[i].key) { s with heap:=h' })
  (q2:es.size<=i->∀ h':Heap,Heap.ExtBut it s.heap h'->Q none { s with heap:=h' }):wpAny (model prog w) A (pyNext (.ref it)) Q E s:=by
 have ty:=gi.typeIs
 obtain ⟨io,g1,g2,g3⟩:=id gi
 unfold pyNext
 refine wpAny_bind (wpAny_attempt (wpAny_callSpecial?_slot (name:=Str.ofString "__next__") ty F.slot_dict_keyiterator_next (wpAny_call_entry F.slot_dict_keyiterator_next ty F.entry_dict_keyiterator_next ?_ (F.args_dict_keyiterator_next_1 _))))
 refine wpAny_bind (wpAny_pure (wpAny_bind (wpAny_bind (wpAny_bind (wpAny_typeNameOfWhole_keyiter ty (wpAny_pure (wpAny_bind (wpAny_fieldsOf g1 g3 ?_))))))))
 simp only [ownk,Bool.false_eq_true,if_false]
 refine (show wpAny _ _ (if (Value.ref d == Value.none)=true then _ else _) _ _ _ from ?_)
 rw [if_neg (show ¬ (Value.ref d == Value.none)=true from nofun)]
 refine wpAny_bind (wpAny_pure (wpAny_bind (wpAny_dictEntries go gd ?_)))
 rw [if_neg (by simp)]
 refine wpAny_bind (wpAny_pure (wpAny_bind (wpAny_dictEpoch go gd ?_)))
 rw [if_neg (by simp)]
 refine wpAny_pure ?_
 rcases Nat.lt_or_ge i es.size with lt|ge
 ·simp only [Array.getElem?_eq_getElem lt,Int.toNat_natCast,if_neg (Int.not_lt.mpr (Int.natCast_nonneg i))]
  refine wpAny_bind (wpAny_bind (wpAny_typeNameOfWhole_keyiter ty (wpAny_pure (wpAny_bind (wpAny_isOneOf_keyiter ty ?_)))))
  refine wpAny_bind (show wpAny _ _ (setField (.ref it) 1 (rawInt ((i:Int)+1))) _ _ _ from wpAny_setField g1 g3 (by simp) ?_)
  have gi':(s.heap.update it (Obj.mapFields (·.setIfInBounds 1 (rawInt ((i:Int)+1))))).IsKeyIter it d (i+1) es.size ep:=by
   refine ⟨_,Heap.get?_update_self _ g1 (Obj.isFreed_of_fields (Obj.data_mapFields g3 _)),(Obj.cls_mapFields ..).trans g2,?_⟩
   rw [Obj.data_mapFields g3];simp [rawInt]
  refine wpAny_bind (wpAny_holding (wpAny_bind (wpAny_isOneOf_keyiter (s:={ s with heap:=s.heap.update it (Obj.mapFields (·.setIfInBounds 1 (rawInt ((i:Int)+1)))) }) gi'.typeIs (show wpAny _ _ (pure es[i].key) _ _ _ from wpAny_pure (wpAny_pure ⟨_,rfl,wpAny_pure (q1 lt _ gi' (Heap.SameBut.update ..))⟩)))))
 ·simp only [Array.getElem?_eq_none ge,Int.toNat_natCast,if_neg (Int.not_lt.mpr (Int.natCast_nonneg i))]
  refine wpAny_bind (wpAny_bind (wpAny_typeNameOfWhole_keyiter ty (wpAny_pure (wpAny_bind (show wpAny _ _ (setField (.ref it) 0 .none) _ _ _ from wpAny_setField g1 g3 (by simp) ?_)))))
  refine wpAny_bind (show wpAny _ _ (newExc (.type "StopIteration") []) _ _ _ from ?_)
  simp only [newExc,newTuple]
  refine wpAny_bind (wpAny_newObj_type (hd:=by size_fits) (wpAny_bind (m:=firstArgMember _ _) (wpAny_of_eq (a:=Value.none) (by rfl) (wpAny_newObj_type (hd:=by size_fits) ?_))))
  simp only [raiseNew]
  refine wpAny_bind (wpAny_handled ?_)
  rw [show A.in1.handled=none from calm]
  refine wpAny_bind (wpAny_pure (wpAny_throw ?_));refine wpAny_bind (wpAny_isInstance (b:=true) (T := "StopIteration") ⟨_,Heap.get?_push_size _ rfl,rfl⟩ isSubtype_stop (wpAny_pure (q2 ge _ ?_)))
  exact ((Heap.SameBut.update ..).extBut.push _).push _
end
section
variable {X:Cx} {tg:Expr}
end
end L3
namespace L4
open PySem PySem.Spec PyProof.Rows L2 L3
section
variable {K:Fg} {w:World}
theorem KvIs.keysT {κ:Type} {F:Hp} {r:List (κ×V)} {t:List (κ×D)} (h:KvIs K F r t):r.map (·.1)=t.map (·.1):=by
 induction h with
|nil=>rfl
|cons a r ih=>simp_all
theorem ztn {κ:Type} [DecidableEq κ]:∀ {kvs:List (κ×V)} {i:Nat} {k:κ} {v:V},(kvs.map (·.1)).Nodup->kvs[i]?=some (k,v)->valV kvs k=some v
|[],i,_,_,_,h=>by simp at h
|(a,b) :: r,0,k,v,_,h=>by
  simp at h
  obtain ⟨rfl,rfl⟩:=h
  unfold valV;simp
|(a,b) :: r,i+1,k,v,n,h=>by
  simp at h
  have ha:a≠k:=λ z=>by
   subst z
   simp only [List.map_cons,List.nodup_cons] at n
   exact n.1 (List.mem_map.mpr ⟨(a,v),List.mem_of_getElem? h,rfl⟩)
  have:=ztn (i:=i) (k:=k) (v:=v) (kvs:=r) (by simp only [List.map_cons,List.nodup_cons] at n;exact n.2) h
  unfold valV at this ⊢
  rw [List.find?_cons_of_neg (by simpa using ha)]
  exact this
end
section
variable {K:Fg} {g:TG} {dg:DG} {tb:TS} {db:DS} {n:Nat} {B:Bs} {F H:Hp} {σ:L2.St} {δ:DSt} {fps:Nat->List Addr}
end
section
variable {K:Fg} {te:TE} {tA:TA} {dA:DF} {dc:DC} {tt tu:TT} {dt:DT} {t u:TS} {d e:DS}
abbrev DU:=DSt->(Bool->DSt->Prop)->Prop
variable {du:DU}
def RfU (K:Fg) (tt:TT) (du:DU):Prop:=∀ {B:Bs} {F H:Hp} {σ:L2.St} {δ:DSt} {fps:Nat->List Addr} {Qd:Bool->DSt->Prop} {Q:Bool->Hp->Prop},RS K B F H σ δ fps->du δ Qd->(∀ b δ',Qd b δ'->∀ F' H' fps',RS K B F' H' σ δ' fps'->Q b H')->tt σ H Q
def uNot (du:DU):DU:=λ δ Q=>du δ λ b δ'=>Q (!b) δ'
theorem ru_not (h:RfU K tt du):RfU K (tNot tt) (uNot du):=λ r q k=>h r q λ b δ' z F' H' fps' r'=>k (!b) δ' z F' H' fps' r'
def uC (dc:DC):DU:=λ δ Q=>dc δ λ r δ'=>∃ b,r=.fz (.bool b)/\Q b δ'
theorem ru_c (h:RfC K te dc):RfU K (tTruU K te) (uC dc):=by
 intro B F H σ δ fps Qd Q r hd k
 refine h r hd λ x δ' q v F1 H1 fps1 fpr res=>?_
 obtain ⟨b,rfl,q⟩:=q
 have hr:=res.rt
 cases hr with
|fz hi =>
  cases hi
  exact ⟨b,rfl,k b δ' q F1 H1 fps1 res.rs⟩
def dIfU (du:DU) (d e:DS):DS:=λ E δ=>du δ λ b δ'=>if b=true then d E δ' else e E δ'
theorem rs_ifU (ht:RfU K tt du) (h1:RfS K t d) (h2:RfS K u e):RfS K (tIfS tt t u) (dIfU du d e):=by
 intro B F H σ δ fps E Z r h k
 refine ht r h λ b δ' hb F1 H1 fps1 r1=>?_
 cases b with
|true=>rw [if_pos rfl] at hb ⊢;exact h1 r1 hb k
|false=>rw [if_neg Bool.false_ne_true] at hb ⊢;exact h2 r1 hb k
def cCall1 (p:DSp) (dc:DC) (dA:DF):DC:=λ δ Q=>dc δ λ r δ'=>∃ d,r=.fz d/\dA δ' λ ds=>p (d :: ds) λ v=>Q (.fz v) δ'
theorem zho {p:DSp} {E:XK} (hc:RfC K te dc) (hA:RfA K tA dA):RfC K (tCall (spD K p) [] E (tCons te tA)) (cCall1 p dc dA):=by
 intro B F H σ δ fps Qd Q r hd k
 refine hc r hd λ x δ' q v F1 H1 fps1 fpr res=>?_
 obtain ⟨d,rfl,q⟩:=q
 have hr:=res.rt
 cases hr with
|fz hi =>
  refine hA res.rs.fh res.rs.rv q λ ds hp vs F2 H2 e2 i2=>?_
  refine (show spD K p (v :: vs++[]) H2 Q E from ?_)
  rw [List.append_nil]
  refine ⟨F2,d :: ds,_,e2.fh,.cons (hi.mono e2.f) i2,hp,λ z qz v' F' H' e3 i3=>?_⟩
  exact k _ δ' qz v' F' H' fps1 [] ⟨res.rs.grow (e2.trans e3),.fz i3,.nil,λ a ha=>by simp at ha,λ _ _ _ _ a _ ha=>by simp at ha⟩
theorem e_uNot (du:DU) (δ:DSt) (Q:Bool->DSt->Prop):uNot du δ Q=du δ λ b δ'=>Q (!b) δ':=rfl
theorem e_uC (dc:DC) (δ:DSt) (Q:Bool->DSt->Prop):uC dc δ Q=dc δ λ r δ'=>∃ b,r=.fz (.bool b)/\Q b δ':=rfl
theorem e_dIfU (du:DU) (d e:DS) (E:DEnds) (δ:DSt):dIfU du d e E δ=du δ λ b δ'=>if b=true then d E δ' else e E δ':=rfl
theorem zeo (p:DSp) (dc:DC) (dA:DF) (δ:DSt) (Q:T->DSt->Prop):cCall1 p dc dA δ Q=dc δ λ r δ'=>∃ d,r=.fz d/\dA δ' λ ds=>p (d :: ds) λ v=>Q (.fz v) δ':=rfl
end
abbrev DX:=Addr->DSt->Prop
abbrev DSpX:=List Arg->(T->T->Prop)->(Addr->T->Prop)->Prop
def spX (K:Fg) (p:DSpX):Sp:=λ vs H Q E=>∃ F as bf oo Qd Xd,Same F H/\ArgsR K F H vs as bf oo/\(∀ b∈ofp oo,b ∉ bf)/\p as Qd Xd/\(∀ r t',Qd r t'->∀ v F' H' fpr fpo,Post K F H oo F' H' v r fpr t' fpo->Q v H') /\
 ∀ C t',Xd C t'->∀ F' H' fpo,Post K F H oo F' H' .non (.fz .none) [] t' fpo->E (.ref C) none H'
def ExOk (K:Fg) (Eσ:L2.St->XK) (ex:DX) (B:Bs):Prop:=∀ {C:Addr} {F H:Hp} {σ:L2.St} {δ:DSt} {fps:Nat->List Addr},RS K B F H σ δ fps->ex C δ->Eσ σ (.ref C) none H
def RfSe (K:Fg) (Eσ:L2.St->XK) (ex:DX) (ts:TS) (ds:DS):Prop:=∀ {B:Bs} {F H:Hp} {σ:L2.St} {δ:DSt} {fps:Nat->List Addr} {E:DEnds} {Z:Ends},ExOk K Eσ ex B->RS K B F H σ δ fps->ds E δ->En K B E Z->ts Z σ H
abbrev DCX:=DSt->(T->DSt->Prop)->DX->Prop
structure RfCx (K:Fg) (Eσ:L2.St->XK) (te:TE) (dc:DCX):Prop where
 of:∀ {B:Bs} {F H:Hp} {σ:L2.St} {δ:DSt} {fps:Nat->List Addr} {Qd:T->DSt->Prop} {Xd:DX} {Q:VK},RS K B F H σ δ fps->dc δ Qd Xd->(∀ r δ',Qd r δ'->∀ v F' H' fps' fpr,Res K B F' H' σ δ' fps' v r fpr->Q v H') ->
 (∀ C δ',Xd C δ'->∀ F' H' fps',RS K B F' H' σ δ' fps'->Eσ σ (.ref C) none H')->te σ H Q
section
variable {K:Fg} {Eσ:L2.St->XK} {ex:DX} {te ta:TE} {tA:TA} {dA:DF} {dc:DCX} {tt:TT} {dt:DT} {t u tb:TS} {d e db:DS} {g:TG} {dg:DG} {n:Nat} {dp:DP} {dA':DAT}
theorem ExOk.mono {B B':Bs} (h:ExOk K Eσ ex B) (k:∀ {F H:Hp} {σ:L2.St} {δ:DSt} {fps:Nat->List Addr},RS K B' F H σ δ fps->RS K B F H σ δ fps):ExOk K Eσ ex B':=λ r q=>h (k r) q
theorem re_of (h:RfS K t d):RfSe K Eσ ex t d:=λ _ r q k=>h r q k
theorem re_seq (h1:RfSe K Eσ ex t d) (h2:RfSe K Eσ ex u e):RfSe K Eσ ex (tSeq t u) (dSeq d e):=by
 intro B F H σ δ fps E Z o r h k
 obtain ⟨J,ha,hb⟩:=h
 exact h1 o r ha ⟨λ r' q=>h2 o r' (hb _ q) k,k.bk,k.ct,k.rt⟩
theorem re_if (ht:RfT K tt dt) (h1:RfSe K Eσ ex t d) (h2:RfSe K Eσ ex u e):RfSe K Eσ ex (tIfS tt t u) (dIf dt d e):=by
 intro B F H σ δ fps E Z o r h k
 refine ht r.fh r.rv h λ b hb F1 H1 e1=>?_
 cases b with
|true=>rw [if_pos rfl] at hb ⊢;exact h1 o (r.grow e1) hb k
|false=>rw [if_neg Bool.false_ne_true] at hb ⊢;exact h2 o (r.grow e1) hb k
def dSetX (i:Nat) (dc:DCX) (ex:DX):DS:=λ E δ=>dc δ (λ r δ'=>E.nx (δ'.set i (slot r))) ex
theorem re_set {i:Nat} (hc:RfCx K Eσ te dc):RfSe K Eσ ex (tAsg te (gName i)) (dSetX i dc ex):=by
 intro B F H σ δ fps E Z o r h k
 refine hc.of r h (λ r2 δ' q v F1 H1 fps1 fpr res=>?_) λ C δ' q F1 H1 fps1 r1=>o r1 q
 obtain ⟨fps2,r3⟩:=res.set i
 exact k.nx r3 q
def dRaise (C:Addr) (dA:DF) (ex:DX):DS:=λ _ δ=>dA δ λ ds=>ds.length<=sizeLine/\ex C δ
theorem zjc {C:Addr} {E:XK} (h:RfA K tA dA):RfSe K (λ _=>E) ex (tRaise C E tA) (dRaise C dA ex):=by
 intro B F H σ δ fps E' Z o r hd k
 refine h r.fh r.rv hd λ ds q vs F1 H1 e1 i1=>⟨by rw [i1.dlen];exact q.1,o (r.grow e1) q.2⟩
def cCoreX (p:DSpX) (δ:DSt) (as:List ArgP) (Q:T->DSt->Prop) (X:DX):Prop:=match oSlot as with
|some (i,q,t)=>isOwn δ i/\oneO i as/\notFz t/\p (as.map ArgP.arg) (λ r t2=>mutS δ i q t2 λ δ'=>Q r δ') λ C t2=>mutS δ i q t2 λ δ'=>X C δ'
|none=>noO as/\p (as.map ArgP.arg) (λ r _=>Q r δ) λ C _=>X C δ
theorem zgi {B:Bs} {F H:Hp} {σ:L2.St} {δ:DSt} {fps:Nat->List Addr} {p:DSpX} {vs:List V} {as:List ArgP} {Qd:T->DSt->Prop} {Xd:DX} {Q:VK} {E:XK} (r:RS K B F H σ δ fps) (ha:ArgsP K F H σ δ vs as) (hc:cCoreX p δ as Qd Xd)
  (k:∀ r δ',Qd r δ'->∀ v F' H' fps' fpr,Res K B F' H' σ δ' fps' v r fpr->Q v H') (kx:∀ C δ',Xd C δ'->∀ F' H' fps',RS K B F' H' σ δ' fps'->E (.ref C) none H'):spX K p vs H Q E:=by
 unfold cCoreX at hc
 split at hc
 ·rename_i i q t0 eo
  obtain ⟨ho,h1,hf,hp⟩:=hc
  obtain ⟨s,hs,hso⟩:∃ s,δ[i]?=some s/\s.own=true:=by
   unfold isOwn at ho
   split at ho
   ·rename_i q;exact ⟨_,q,rfl⟩
   ·rename_i q;exact ⟨_,q,rfl⟩
   ·exact ho.elim
  obtain ⟨a,hat,hargs⟩:=zdc (λ h=>r.rtS h) ha eo h1 hf
  obtain ⟨fn,t1,g1,g2,g3,g4,back⟩:=r.put hs hso hat
  obtain ⟨bf,m1,m2⟩:=hargs fn g2 g3
  have go:∀ {r2 t2 v F' H' fpr fpo},Post K F H (some (a,fn)) F' H' v r2 fpr t2 fpo->∃ fps2,Res K B F' H' σ (δ.set i (s.wth (setP t1 q t2))) fps2 v r2 fpr:=λ {r2 t2 v F' H' fpr fpo} post=>by
   obtain ⟨io1,io2,io3,io4⟩:=post.io a fn rfl
   obtain ⟨fps2,r2',e2,e3⟩:=back (F2:=F') (H2:=H') (u2:=t2) (fq:=fpo) post.hh post.ff post.fh (λ b hb fb _=>post.nw b hb fb) post.al (λ b hb f=>absurd (post.nw b (g2.dom b hb).1 (g2.dom b hb).2) f) io1 io2 (λ b hb=>(io3 b hb).elim .inl λ z=>.inr (r.newOk z))
   refine ⟨fps2,r2',post.rt,post.nd,λ b hb=>(r.newOk (post.fr b hb)).1,λ j s' ej hs' b hb hbr=>?_⟩
   have fresh:=post.fr b hbr
   by_cases hji:j=i
   ·subst hji
    rcases e3 b hb with z|z
    ·obtain ⟨x',t',a1,a2,a3,a4,a5⟩:=r.rt j s hs (zm4 hso)
     exact (a3.dom b z).1 fresh
    ·exact io4 b z hbr
   ·rw [e2 j hji] at hb
    rw [List.getElem?_set_ne (λ z=>hji z.symm)] at ej
    exact (r.newOk fresh).2 j s' ej hs' hb
  refine ⟨F,_,bf,some (a,fn),_,_,r.fh,m1,λ b hb hbf=>?_,hp,λ r2 t2 q2 v F' H' fpr fpo post=>?_,λ C t2 q2 F' H' fpo post=>?_⟩
  ·obtain ⟨j,hj,hbj,sj,e1,hh⟩:=m2 b hbf
   exact r.dj i j s sj (λ z=>hj z.symm) hs e1 hso hh b (g4 b hb) hbj
  ·obtain ⟨fps2,res⟩:=go post
   exact k _ _ (zxf hs hso g1 q2) v F' H' fps2 fpr res
  ·obtain ⟨fps2,res⟩:=go post
   exact kx _ _ (zxf hs hso g1 q2) F' H' fps2 res.rs
 ·rename_i eo
  obtain ⟨hn,hp⟩:=hc
  obtain ⟨bf,m1,_⟩:=zvd (λ h=>r.rtS h) ha hn
  refine ⟨F,_,bf,none,_,_,r.fh,m1,λ b hb=>by simp [ofp] at hb,hp,λ r2 t2 q2 v F' H' fpr fpo post=>?_,λ C t2 q2 F' H' fpo post=>?_⟩
  ·have ex:Ext F H F' H':=⟨λ b o hb=>post.hh b o (by simp [ofp]) hb,post.ff,post.fh,post.nw⟩
   exact k _ _ q2 v F' H' fps fpr ⟨r.grow ex,post.rt,post.nd,λ b hb=>(r.newOk (post.fr b hb)).1,λ j s' ej hs' b hb hbr=>(r.newOk (post.fr b hbr)).2 j s' ej hs' hb⟩
  ·have ex:Ext F H F' H':=⟨λ b o hb=>post.hh b o (by simp [ofp]) hb,post.ff,post.fh,post.nw⟩
   exact kx _ _ q2 F' H' fps (r.grow ex)
def xMeth (o:Bool) (C:Addr) (m:Str) (p:DSpX) (dp:DP) (da:DAT):DCX:=λ δ Q X=>dp δ λ i q u=>nCls C u/\noM m u/\da δ λ as=>cCoreX p δ ((if o then .o i q u else .b i q u) :: as) Q X
theorem zhj {P:Program} {w:World} {mg:Str->Option Value} {base:Heap} {p:DSpX} {C:Addr} {m:Str} {k:Nat} {ps:List Str} (o:Bool) (Y:Meth1 P w K mg base C m k ps (spX K p)) (hp:RfP K ta dp) (h:RfAT K tA dA'):RfCx K Eσ (tMethS P w K mg base m k Eσ ta tA) (xMeth o C m p dp dA'):=by
 refine ⟨λ {B F H σ δ fps Qd Xd Q} r hd k kx=>?_⟩
 refine hp r.fh r.rv hd λ i q u hu v F1 H1 e1 at1=>?_
 have r1:=r.grow e1
 obtain ⟨fn,hr⟩:=at1.rt r1.rv
 obtain ⟨a,dx,fs,rfl,h1,h2⟩:=zlc hr hu.1 hu.2.1
 refine ⟨a,C,dx,fs,ps,spX K p,rfl,h1,h2,Y,h r1.fh r1.rv hu.2.2 λ as has vs F2 H2 e2 i2=>?_⟩
 have at2:=at1.mono e2.h
 cases o with
|true=>exact zgi (r1.grow e2) (.o at2 i2) has k kx
|false=>exact zgi (r1.grow e2) (.b at2 i2) has k kx
def dHand (K:Fg):List (Value×DS)->Addr->DEnds->DSt->Prop
|[],_,_,_=>False
|(c,d) :: r,C,E,δ=>∃ b,PySem.W.exmOne K (.ref C) c=some b/\if b=true then d E δ else dHand K r C E δ
inductive RfHs (K:Fg):List (Value×TS)->List (Value×DS)->Prop
|nil:RfHs K [] []
|cons {c:Value} {t:TS} {d:DS} {l:List (Value×TS)} {hs:List (Value×DS)}:RfS K t d->RfHs K l hs->RfHs K ((c,t) :: l) ((c,d) :: hs)
end
section
variable {P:Program} {w:World} {K:Fg} {mg:Str->Option Value} {base:Heap}
def xEnd (as:List Arg) (a:Addr) (Xd:Addr->T->Prop):DX:=λ C δ=>match oIx as with
|none=>Xd C (.fz .none)
|some k=>∃ t',δ[k]?=some (.io a t')/\Xd C t'
theorem body_X {qual:Str} {st:Stmt} {N:List Str} {k:Nat} {p:DSpX}
  (body:∀ (f:Addr) (cdv:Value) (A:Around) (outer:List Env) (s:Shared) (H:Hp) (E:XK),Room k (A.deeper (envOfC qual (zf0 st) s.heap.objs.size f cdv))->∃ (t:TS) (d:DX->DS),PSs (cxOf (CX1 P w) P w K mg base N qual (zf0 st) f cdv A outer s H E) (zr1 st) t/\(∀ ex,RfSe K (λ _=>E) ex t (d ex))/\∀ as Qd Xd a,p as Qd Xd->d (xEnd as a Xd) (tEnds as a Qd) (tStart N a as)) :
  zhc P w K mg base qual st N k (spX K p):=by
 intro f cdv A outer s H vs Q E hr h
 obtain ⟨F,as,bf,oo,Qd,Xd,sf,ha,hd,hp,hq,hx⟩:=h
 obtain ⟨t,d,h1,h2,h3⟩:=body f cdv A outer s H E hr
 obtain ⟨hl,fl,a1,a2,a3,a4,a5⟩:=zza ha
 obtain ⟨a,haa⟩:∃ a:Addr,∀ a' fp,oo=some (a',fp)->a'=a:=by
  cases oo with
 |none=>exact ⟨0,λ a' fp e=>by cases e⟩
 |some x=>exact ⟨x.1,λ a' fp e=>by cases e;rfl⟩
 have slot:∀ (i:Nat) sl,(tStart N a as)[i]?=some sl->(sl=.un/\as.length<=i) \/ ∃ g,as[i]?=some g/\sl=slotA a g:=λ i sl e=>by
  unfold tStart at e
  by_cases hi:i < as.length
  ·rw [List.getElem?_append_left (by simpa using hi),List.getElem?_map] at e
   obtain ⟨g,h1,h2⟩:=Option.map_eq_some_iff.mp e
   exact .inr ⟨g,h1,h2.symm⟩
  ·rw [List.getElem?_append_right (by simpa using hi),List.getElem?_replicate] at e
   split at e
   ·cases e;exact .inl ⟨rfl,by lia⟩
   ·cases e
 have val:∀ (i:Nat) v,vs[i]?=some v->(L2.start N vs).getD i none=some v:=λ i v e=>by
  have hi:i < vs.length:=by
   rcases Nat.lt_or_ge i vs.length with z|z
   ·exact z
   ·rw [List.getElem?_eq_none z] at e;cases e
  unfold L2.start
  rw [List.getD_eq_getElem?_getD,List.getElem?_append_left (by simpa using hi),List.getElem?_map,e]
  rfl
 have rs:RS K ⟨F,H,ofp oo⟩ F H (L2.start N vs) (tStart N a as) fl:=by
  refine ⟨λ b o _ z=>z,λ _ _ z=>z,sf,λ b _ z=>z,λ b z=>z,by simp [L2.start,tStart,hl],λ i x e=>?_,λ i sl e hs=>?_,λ i sl e ho b hb=>?_,λ i j sl sl' hij e1 e2 o1 o2 b hb hb2=>?_⟩
  ·rcases slot i _ e with ⟨z,_⟩|⟨g,e1,e2⟩
   ·cases z
   ·cases g with
   |d x'=>cases e2;obtain ⟨v,g1,g2⟩:=a1 i x e1;exact ⟨v,val i v g1,g2⟩
   |b _=>cases e2
   |o _=>cases e2
  ·rcases slot i _ e with ⟨z,_⟩|⟨g,e1,e2⟩
   ·rw [z] at hs;cases hs
   ·cases g with
   |d x'=>rw [e2] at hs;cases hs
   |b x' =>
     obtain ⟨v,g1,g2,g3,g4⟩:=a2 i x' e1
     rw [e2]
     exact ⟨v,x',val i v g1,rfl,g2,λ a u z=>(by cases z),g3⟩
   |o x' =>
     obtain ⟨a',g1,g2,g3,g4,g5⟩:=a3 i x' e1
     have:=haa a' _ g2
     subst this
     rw [e2]
     exact ⟨_,x',val i _ g1,rfl,g3,λ a u z=>(by cases z;rfl),g4⟩
  ·rcases slot i _ e with ⟨z,_⟩|⟨g,e1,e2⟩
   ·rw [z] at ho;cases ho
   ·cases g with
   |d x'=>rw [e2] at ho;cases ho
   |b x'=>rw [e2] at ho;cases ho
   |o x' =>
     obtain ⟨a',g1,g2,g3,g4,g5⟩:=a3 i x' e1
     refine .inr ⟨?_,λ t z=>?_⟩
     ·show b∈ofp oo
      rw [g2];exact hb
     ·rw [e2] at z;cases z
  ·rcases slot i _ e1 with ⟨z,_⟩|⟨g,f1,f2⟩
   ·rw [z] at o1;cases o1
   ·cases g with
   |d x'=>rw [f2] at o1;cases o1
   |b x'=>rw [f2] at o1;cases o1
   |o x' =>
     obtain ⟨a',g1,g2,g3,g4,g5⟩:=a3 i x' f1
     rcases slot j _ e2 with ⟨z,_⟩|⟨g',f1',f2'⟩
     ·rw [z] at o2;cases o2
     ·cases g' with
     |d x''=>rw [f2'] at o2;cases o2
     |b x'' =>
       obtain ⟨v,k1,k2,k3,k4⟩:=a2 j x'' f1'
       exact hd b (by rw [g2];exact hb) (k4 b hb2)
     |o x'' =>
       obtain ⟨a'',k1,k2,k3,k4,k5⟩:=a3 j x'' f1'
       rw [g5] at k5
       exact hij (Option.some.inj k5)
 have fin:∀ {F' H':Hp} {σ':L2.St} {δ':DSt} {fps':Nat->List Addr} {v:V} {r:T} {fpr:List Addr},Res K ⟨F,H,ofp oo⟩ F' H' σ' δ' fps' v r fpr->exA as a Qd r δ'->Q v H':=λ {F' H' σ' δ' fps' v r fpr} res ex=>by
  unfold exA at ex
  split at ex
  ·rename_i eo
   refine hq r (.fz .none) ex v F' H' fpr [] ⟨res.rs.hh,res.rs.ff,res.rs.fh,res.rs.nw,res.rs.al,res.rt,res.nd,res.fr,λ a' fp e=>?_⟩
   obtain ⟨k,x,g1,g2,g3⟩:=a5 a' fp e
   rw [eo] at g3;cases g3
  ·rename_i ko eo
   obtain ⟨t',et,qd⟩:=ex
   obtain ⟨x',t'',b1,b2,b3,b4,b5⟩:=res.rs.rt ko _ et rfl
   cases b2
   have:=b4 a t' rfl
   subst this
   refine hq r t' qd v F' H' fpr (fps' ko) ⟨res.rs.hh,res.rs.ff,res.rs.fh,res.rs.nw,res.rs.al,res.rt,res.nd,res.fr,λ a' fp e=>?_⟩
   have ea:=haa a' fp e
   subst ea
   refine ⟨b3,b5,λ b hb=>?_,λ b hb=>res.dj ko _ et rfl b hb⟩
   rcases res.rs.fr ko _ et rfl b hb with z|⟨z,_⟩
   ·exact .inr z
   ·have:b∈ofp oo:=z
    rw [e] at this
    exact .inl this
 have finx:∀ {F' H':Hp} {σ':L2.St} {δ':DSt} {fps':Nat->List Addr} {C:Addr},RS K ⟨F,H,ofp oo⟩ F' H' σ' δ' fps'->xEnd as a Xd C δ'->E (.ref C) none H':=λ {F' H' σ' δ' fps' C} rs' ex=>by
  have res:Res K ⟨F,H,ofp oo⟩ F' H' σ' δ' fps' .non (.fz .none) []:=⟨rs',.fz .non,.nil,λ a ha=>by simp at ha,λ _ _ _ _ a _ ha=>by simp at ha⟩
  unfold xEnd at ex
  split at ex
  ·rename_i eo
   refine hx C (.fz .none) ex F' H' [] ⟨res.rs.hh,res.rs.ff,res.rs.fh,res.rs.nw,res.rs.al,res.rt,res.nd,res.fr,λ a' fp e=>?_⟩
   obtain ⟨k,x,g1,g2,g3⟩:=a5 a' fp e
   rw [eo] at g3;cases g3
  ·rename_i ko eo
   obtain ⟨t',et,qd⟩:=ex
   obtain ⟨x',t'',b1,b2,b3,b4,b5⟩:=res.rs.rt ko _ et rfl
   cases b2
   have:=b4 a t' rfl
   subst this
   refine hx C t' qd F' H' (fps' ko) ⟨res.rs.hh,res.rs.ff,res.rs.fh,res.rs.nw,res.rs.al,res.rt,res.nd,res.fr,λ a' fp e=>?_⟩
   have ea:=haa a' fp e
   subst ea
   refine ⟨b3,b5,λ b hb=>?_,λ b hb=>res.dj ko _ et rfl b hb⟩
   rcases res.rs.fr ko _ et rfl b hb with z|⟨z,_⟩
   ·exact .inr z
   ·have:b∈ofp oo:=z
    rw [e] at this
    exact .inl this
 refine ⟨t,h1,h2 (xEnd as a Xd) (λ r q=>finx r q) rs (h3 as Qd Xd a hp) ⟨λ r q=>fin ⟨r,.fz .non,.nil,λ a ha=>by simp at ha,λ _ _ _ _ a _ ha=>by simp at ha⟩ q,λ _ z=>z.elim,λ _ z=>z.elim,λ res q=>fin res q⟩⟩
theorem len_X {p:DSpX} {ps:List Str} (h:∀ as Qd Xd,p as Qd Xd->as.length=ps.length):∀ vs H Q E,spX K p vs H Q E->vs.length=ps.length:=λ vs H Q E z=>by
 obtain ⟨F,as,bf,oo,Qd,Xd,_,ha,_,hp,_⟩:=z
 rw [zxh ha];exact h as Qd Xd hp
end
end L4
namespace L3
open PySem PySem.Spec PyProof.Rows L2
section
variable {X:Cx}
def kFmtD (K:Fg) (x:V) (H:Hp) (Q:Str->Hp->Prop):Prop:=kFmt x H Q \/ ∃ ds:List PyData,Is K H x (.list ds)/\(PyData.list ds).showable=true/\(PyData.list ds).hasDict=false/\(PyData.list ds).depth<=40/\(PyData.list ds).shown.length<=sizeLine/\Q (PyData.list ds).shown H
def jValD (K:Fg) (te:TE) (t:TJ):TJ:=λ acc σ H Q=>te σ H λ x H1=>kFmtD K x H1 λ z H2=>(acc++z).length<=sizeLine/\t (acc++z) σ H2 Q
theorem zab {K:Fg} {k:Nat} {e:Expr} {te:TE} {pos:Pos} {es:List Expr} {t:TJ} (hK:X.K=K) (hr:Room k X.A) (he:PE X e te) (h:PJ X es t):PJ X (.FormattedValue e (-1) none pos :: es) (jValD K te t):=by
 subst hK
 intro acc pins s σ H Q I q
 refine joinParts_cons (FormattedValue_plain (thn (he pins s σ H _ I q) λ v s1 ⟨x,H1,I1,r1,q1⟩=>?_))
 rcases q1 with (⟨z,rfl,hz,q1⟩|⟨i,rfl,hi,q1⟩)|⟨ds,hi,h1,h2,h3,h4,q1⟩
 ·obtain ⟨t',rfl⟩:=r1
  exact formatField_str (λ t2 tk=>⟨q1.1,h _ pins _ σ H1 Q (I1.tok tk) q1.2⟩) hz
 ·obtain ⟨t',rfl⟩:=r1
  exact wpAny_formatField_int hi ⟨q1.1,h _ pins _ σ H1 Q (I1.tok _) q1.2⟩
 ·obtain ⟨as,rd⟩:=zp6 I1 hi r1
  obtain ⟨a,xs,rfl,_,_⟩:=hi.list_inv
  obtain rfl:v=Value.ref a:=r1
  have hu:=hr.un
  exact formatField_of_reads rd h1 (λ z=>by rw [h2] at z;cases z) hr.gd (by lia) (λ _ _ e=>e) (λ h' u tk k=>⟨q1.1,h _ pins _ σ H1 Q (I1.kept (t':=tk) k) q1.2⟩) h4
variable {k:Nat} {m:Str} {pos apos:Pos} {o:Expr} {ta:TE} {Eσ:St->XK}
end
end L3
namespace L4
open PySem PySem.Spec PyProof.Rows L2 L3
section
variable {K:Fg} {te:TE} {de:DE} {tj:TJ}
abbrev DJ:=DSt->Nat->(Nat->Prop)->Prop
variable {dj:DJ}
def RfFs (K:Fg) (tj:TJ) (dj:DJ):Prop:=∀ {F H:Hp} {σ:L2.St} {δ:DSt} {acc:Str} {n:Nat} {Qd:Nat->Prop} {Q:Str->Hp->Prop},Same F H->RV K F H σ δ->acc.length<=n->dj δ n Qd->(∀ m,Qd m->∀ z F' H',Ext F H F' H'->z.length<=m->Q z H')->tj acc σ H Q
theorem zun (x y:Str):(x++y).length=x.length+y.length:=by
 show (x.cps++y.cps).size=_
 rw [Array.size_append];rfl
def dJN:DJ:=λ _ n Q=>n<=sizeLine/\Q n
theorem rj_nil:RfFs K jNil dJN:=λ s _ hn h k=>⟨Nat.le_trans hn h.1,k _ h.2 _ _ _ (Ext.refl s) hn⟩
def dJT (l:Nat) (dj:DJ):DJ:=λ δ n Q=>n+l<=sizeLine/\dj δ (n+l) Q
theorem zt9 {y:Str} {l:Nat} (hy:y.length<=l) (h:RfFs K tj dj):RfFs K (jText y tj) (dJT l dj):=by
 intro F H σ δ acc n Qd Q s rv hn hd k
 have:=zun acc y
 exact ⟨by have:=hd.1;lia,h s rv (by lia) hd.2 k⟩
def znb (dj:DJ):DE:=λ δ Q=>dj δ 0 λ n=>∀ z:Str,z.length<=n->Q (.str z)
theorem zv7 (h:RfFs K tj dj):RfE K (zsn tj) (znb dj):=by
 intro F H σ δ Qd Q s rv hd k
 exact h s rv (Nat.le_refl 0) hd λ m q z F' H' e1 hz=>k _ (q z hz) _ F' H' e1 (.str z)
end
theorem zms (i:Nat) (dc:DCX) (ex:DX) (E:DEnds) (δ:DSt):dSetX i dc ex E δ=dc δ (λ r δ'=>E.nx (δ'.set i (slot r))) ex:=rfl
theorem zbp (C:Addr) (dA:DF) (ex:DX) (E:DEnds) (δ:DSt):dRaise C dA ex E δ=dA δ λ ds=>ds.length<=sizeLine/\ex C δ:=rfl
theorem zuq (o:Bool) (C:Addr) (m:Str) (p:DSpX) (dp:DP) (da:DAT) (δ:DSt) (Q:T->DSt->Prop) (X:DX):xMeth o C m p dp da δ Q X=dp δ λ i q u=>nCls C u/\noM m u/\da δ λ as=>cCoreX p δ ((if o then .o i q u else .b i q u) :: as) Q X:=rfl
theorem znp (K:Fg) (C:Addr) (E:DEnds) (δ:DSt):dHand K [] C E δ=False:=rfl
theorem zpp (K:Fg) (c:Value) (d:DS) (r:List (Value×DS)) (C:Addr) (E:DEnds) (δ:DSt):dHand K ((c,d) :: r) C E δ=∃ b,PySem.W.exmOne K (.ref C) c=some b/\if b=true then d E δ else dHand K r C E δ:=rfl
theorem e_dJN (δ:DSt) (n:Nat) (Q:Nat->Prop):dJN δ n Q=(n<=sizeLine/\Q n):=rfl
theorem e_dJT (l:Nat) (dj:DJ) (δ:DSt) (n:Nat) (Q:Nat->Prop):dJT l dj δ n Q=(n+l<=sizeLine/\dj δ (n+l) Q):=rfl
theorem zzl (dj:DJ) (δ:DSt) (Q:D->Prop):znb dj δ Q=dj δ 0 λ n=>∀ z:Str,z.length<=n->Q (.str z):=rfl
theorem zmk (p:DSpX) (δ:DSt) (as:List ArgP) (Q:T->DSt->Prop) (X:DX):cCoreX p δ as Q X=match oSlot as with
|some (i,q,t)=>isOwn δ i/\oneO i as/\notFz t/\p (as.map ArgP.arg) (λ r t2=>mutS δ i q t2 λ δ'=>Q r δ') λ C t2=>mutS δ i q t2 λ δ'=>X C δ'
|none=>noO as/\p (as.map ArgP.arg) (λ r _=>Q r δ) λ C _=>X C δ:=rfl
section
variable {K:Fg} {te ta:TE} {tA:TA} {da de:DE} {dA:DF} {dp:DP} {dn:DN}
end
end L4
namespace L4
open PySem PySem.W PySem.Spec PySem.Calls PyProof.Rows PySem.Builtin PySem.Builtin.ObjectAttr PySem.Builtin.Getset_descriptor
section
variable {prog:Program} {w:World} {A:Around} {E:Value->Shared->Prop} {s:Shared} {K:Fg} {x D:Addr} {ox:Obj}
structure XAt (h:Heap) (x:Addr) (ox:Obj) (C:Addr):Prop where
 at_:h.get? x=some ox
 cls:ox.cls=.ref C
theorem XAt.type {M:Model} {h:Heap} (I:XAt h x ox D):Looks M h (typeOf (.ref x)) (.ref D):=I.cls ▸ (Looks.ld I.at_).andThen .now
theorem znh {R:Result->Shared->Prop} {tp:Value} (X:K.In s.heap) (I:XAt s.heap x ox D) (hm:mroIn K D (.type "object")=some true)
  (h:R (.ok (.ret (.ref D))) s):codeAny (model prog w) A (.call (.builtin "getset_descriptor.__get__") ⟨[.builtin "object.__class__",.ref x,tp],[]⟩) R s:=by
 obtain ⟨hh,g,dr,t,os⟩:=s
 have L0:=I.type (M:=model prog w)
 have L1:=looks_mroIn (M:=model prog w) X hm
 refine codeAny_call_builtin KF.slot_gs.plain KF.entry_gs (KF.slot_gs.check _ _ _ _ _ _ _ _ KF.type_class (KF.args_gs _ _ _) ?_)
 unfold Builtin.«getset_descriptor.__get__» descrGet
 rw [dga_obj]
 refine wpAny_bind (wpAny_pure ?_)
 unfold descrGetter descrCheckInstance descrNameAndClass isInstance
 simp only [KF.owner_class]
 repeat lk
 refine ⟨Code.quiet_builtin _ (by decide +kernel),codeAny_builtin KF.entry_class ?_⟩
 unfold Builtin.«object.__class__» shownTypeOf
 repeat lk
 exact h
theorem zpk {Q:Option Value->Shared->Prop} (X:K.In s.heap) (I:XAt s.heap x ox D) (hga:findIn K (.ref D) "__getattribute__"=some (some (.builtin "BaseException.__getattribute__"))) (hgn:findIn K (.ref D) "__getattr__"=some none) (ha:findIn K (.ref D) "__class__"=some (some (.builtin "object.__class__")))
  (hn:specialIn K (.builtin "object.__class__") "__get__"=some (some (.builtin "getset_descriptor.__get__"))) (htk:takesIn K (.builtin "object.__class__")=some true) (hm:mroIn K D (.type "object")=some true) (hmB:mroIn K D (.type "BaseException")=some true)
  (h:Q (some (.ref D)) { s with toks:=s.toks+1 }):wpAny (model prog w) A (getAttr? (.ref x) "__class__") Q E s:=by
 obtain ⟨hh,g,d,t,os⟩:=s
 have L0:=I.type (M:=model prog w)
 have L1:=looks_findIn (M:=model prog w) X hga
 have L2:=looks_findIn (M:=model prog w) X hgn
 have L3:Looks (model prog w) hh (Builtin.ObjectAttr.find (.ref x) (.ref D) "__class__") (.bind (.builtin "getset_descriptor.__get__") (.builtin "object.__class__")) :=
  (looks_findIn X ha).andThen ((show Looks _ _ (Builtin.ObjectAttr.getOf _) _ from looks_specialIn X hn).andThen ((show Looks _ _ (Builtin.ObjectAttr.dataDescriptor? (some (.builtin "object.__class__")) (some (.builtin "getset_descriptor.__get__"))) (some (.builtin "getset_descriptor.__get__",.builtin "object.__class__")) from (looks_takesIn X htk).andThen .now).andThen (Looks.tag .now)))
 have LB:=looks_mroIn (M:=model prog w) X hmB
 unfold getAttr? getAttrBy? getAttrBy
 refine wpAny_bind (wpAny_mkText (wpAny_bind (wpAny_attempt (wpAny_holding (wpAny_bind (L0.at (wpAny_bind (L1.at ?_))))))))
 show wpAny _ _ (getAttrByItsOwn _ _ _ _ _ _) _ _ _
 unfold getAttrByItsOwn
 refine wpAny_bind ?_
 show wpAny _ _ (typeLookup _ _) _ _ _
 refine L2.at ?_
 refine wpAny_bind (wpAny_attempt (wpAny_holding ?_))
 show wpAny _ _ (boundAndCalled _ _ _) _ _ _
 unfold boundAndCalled
 have f3:bindSpecial (.builtin "BaseException.__getattribute__") (.ref x)=pure (.builtin "BaseException.__getattribute__",[.ref x]):=F.excAttr_ValueError.ga.bind (.ref x)
 rw [f3]
 refine wpAny_bind (wpAny_pure ?_)
 refine wpAny_call (codeAny_call_builtin F.excAttr_ValueError.ga.plain F.entry_bexc_ga ?_)
 have hk:builtinKind "BaseException.__getattribute__"=some .slot:=by decide +kernel
 have hsplit:splitId "BaseException.__getattribute__"=some ("BaseException", "__getattribute__"):=by decide +kernel
 have hargs:=F.args_bexc_ga (.ref x) (.str "__class__" t)
 have LI:Looks (model prog w) hh (isInstance (.ref x) (.type "BaseException")) true:=L0.andThen LB
 simp only [checkBuiltinCall,hk,hsplit]
 refine wpAny_bind (LI.at ?_)
 repeat (any_goals (first|assumption|wp_step))
 refine wpAny_loadPart_at I.at_ ?_
 refine wpAny_pure ?_
 rw [I.cls]
 refine wpAny_bind (L3.at ?_)
 show wpAny _ _ (Builtin.ObjectAttr.bindTo _ _ _ _) _ _ _
 unfold Builtin.ObjectAttr.bindTo
 show wpAny _ _ (holding [Value.builtin "object.__class__"] (call (Value.builtin "getset_descriptor.__get__") [Value.builtin "object.__class__",Value.ref x,Value.ref D]) >>= ret) _ _ _
 refine wpAny_bind (wpAny_holding (wpAny_call (znh (ox:=ox) X I hm ?_)))
 refine wpAny_pure ?_
 exact handed_on rfl (wpAny_pure h)
structure ExK (K:Fg) (D:Addr):Prop where
 hc:(clsIn K D).isSome=true
 hga:findIn K (.ref D) "__getattribute__"=some (some (.builtin "BaseException.__getattribute__"))
 hgn:findIn K (.ref D) "__getattr__"=some none
 ha:findIn K (.ref D) "__class__"=some (some (.builtin "object.__class__"))
 hn:specialIn K (.builtin "object.__class__") "__get__"=some (some (.builtin "getset_descriptor.__get__"))
 htk:takesIn K (.builtin "object.__class__")=some true
 hm:mroIn K D (.type "object")=some true
 hmB:mroIn K D (.type "BaseException")=some true
theorem zkp (k:ExK K D):KitX K (.ref x) (.ref D) (λ h=>XAt h x ox D) where
 ty:=λ _ _ _ I=>I.type
 it:=λ _ _ X _=>by
  obtain ⟨cdD,hcD⟩:=Option.isSome_iff_exists.mp k.hc
  unfold clsIn at hcD
  split at hcD
  ·rename_i c' d' cd' sl' ho
   intro A' Q' E' s' k q
   unfold isType loadHead
   exact wpAny_bind (wpAny_loadPart (k _ _ (X _ _ ho)) (wpAny_pure q))
  ·cases hcD
 ne:=λ h tp dd its n sl X htp=>by
  obtain ⟨cdD,hcD⟩:=Option.isSome_iff_exists.mp k.hc
  refine Bool.eq_false_iff.mpr λ q=>?_
  have e:D=tp:=Value.ref.inj (beq_iff_eq.mp q)
  subst e
  unfold clsIn at hcD
  split at hcD
  ·rename_i c' d' cd' sl' ho
   have z:=(X _ _ ho).symm.trans htp
   cases z
  ·cases hcD
 ca:=λ X I q=>zpk X I k.hga k.hgn k.ha k.hn k.htk k.hm k.hmB q
theorem exc_isinst {c:Value} {b:Bool} {Q:Value->Shared->Prop} (k:ExK K D) (X:K.In s.heap) (I:XAt s.heap x ox D) (e:kitOne K (.ref D) c=some b) (h:∀ tk,Q (.bool b) { s with toks:=tk }) :
  wpAny (model prog w) A (call (.builtin "isinstance") [.ref x,c]) Q E s:=kia_one (zkp k) X I e (λ z=>nomatch z) h
end
end L4
namespace L3
open PySem PySem.Spec PyProof.Rows L2
section
variable {X:Cx} {pins:List (Addr×Obj)} {σ:St} {H:Hp} {s:Shared}
theorem del_ok {M:Model} {A:Around} {E:Value->Shared->Prop} {i:Nat} {x:Str} {Q:Bool->Shared->Prop} (I:Inv X pins σ H s) (hN:X.N.Nodup) (hi:X.N[i]?=some x) (hk:X.env.kindOf x=some .local) {v:V} (hv:σ[i]?=some (some v))
  (h:∀ h',Inv X pins (σ.set i none) H { s with heap:=h' }->Q true { s with heap:=h' }):wpAny M A (nsDel X.env.locals x) Q E s:=by
 obtain ⟨m,hn,hl⟩:=id I.loc
 have hiσ:i < σ.length:=by rw [I.len];exact (List.getElem?_eq_some_iff.mp hi).1
 have cne:=I.cne
 have tracked:∀ {a:Addr} {h':Heap},(∃ o,s.heap.get? a=some o/\H a=none)->Heap.SameBut a s.heap h'->HOk X.prog X.w H h':=λ {a h'} ha hs b ob e=>by
  obtain ⟨_,_,hfree⟩:=ha
  refine (I.hok b ob e).stay (λ c w' hc q=>(hs.2 c ?_).trans q) (λ _ q=>q) λ _ _ q=>q
  rintro rfl
  rcases hc with rfl|hc
  ·rw [hfree] at e;cases e
  ·rw [hfree] at hc;cases hc
 have hm:(m x).isSome=true:=by
  obtain ⟨u',r',q⟩:=hl i x v hi hv (.inl hk)
  rcases q with ⟨k,e⟩|⟨k,_⟩
  ·rw [e];rfl
  ·rw [hk] at k;rcases k with k|k <;> cases k
 refine wpAny_nsDel_keeps hn λ h' v' hn' hs=>?_
 rw [hm]
 obtain ⟨oL,_,_,hoL,_⟩:=id hn
 refine h _ ⟨I.ok,I.os,I.bare,⟨λ b o e n hb hx=>?_,λ b o e n hb hx=>?_,I.base.free,λ b o e hx=>?_,I.base.tups,I.base.frzs,I.base.tbls⟩,⟨_,hn',λ j y v' e1 e2 e3=>?_⟩,λ y c e=>?_,I.free,I.freeC,λ p hp=>?_,tracked ⟨oL,hoL,I.free⟩ hs,by simpa using I.len⟩
 ·exact (hs.2 b (Nat.ne_of_lt (Nat.lt_of_lt_of_le (Heap.lt_size e) I.ok.above))).trans (I.base.keep b o e n hb hx)
 ·obtain ⟨sl,e1⟩:=I.base.slot b o e n hb hx
  exact ⟨sl,(hs.2 b (Nat.ne_of_lt (Nat.lt_of_lt_of_le (Heap.lt_size e) I.ok.above))).trans e1⟩
 ·obtain ⟨o',e1⟩:=I.base.there b o e hx
  exact ⟨o',(hs.2 b (Nat.ne_of_lt (Nat.lt_of_lt_of_le (Heap.lt_size e) I.ok.above))).trans e1⟩
 ·by_cases hj:j=i
  ·subst hj
   rw [List.getElem?_set_self hiσ] at e2
   cases e2
  ·rw [List.getElem?_set_ne (Ne.symm hj)] at e2
   obtain ⟨u',r',q⟩:=hl j y v' e1 e2 e3
   refine ⟨u',r',?_⟩
   rcases q with ⟨k,e⟩|⟨k,c,e,z⟩
   ·refine .inl ⟨k,?_⟩
    have:y≠x:=λ e=>hj (zpf hN e1 (e ▸ hi))
    simp [this,e]
   ·exact .inr ⟨k,c,e,z.sameBut hs (cne y c e)⟩
 ·obtain ⟨w',z⟩:=I.cell y c e
  exact ⟨w',z.sameBut hs (cne y c e)⟩
 ·obtain ⟨e,n,ne,nf,d⟩:=I.pin p hp
  exact ⟨(hs.2 p.1 ne).trans e,n,ne,nf,d⟩
theorem zam {M:Model} {A:Around} {E:Value->Shared->Prop} {i:Nat} {x:Str} {pos:Pos} {Q:Unit->Shared->Prop} (I:Inv X pins σ H s) (hN:X.N.Nodup) (hi:X.N[i]?=some x) (hk:X.env.kindOf x=some .local)
  (h:∀ s',Inv X pins (σ.set i none) H s'->Q () s'):wpAny M A (do bindName X.env x .none;unbindBehindTheSuite X.env x pos) Q E s:=by
 have hiσ:i < σ.length:=by rw [I.len];exact (List.getElem?_eq_some_iff.mp hi).1
 have hp:(X.env.scope.kind == .class || (X.env.scope.kind == .module && X.env.locals != X.env.globals))=false:=by rw [I.ok.kind];rfl
 refine wpAny_bind (wpAny_bindName (zpc I hN hi (.inl hk) (v:=.non) rfl (λ s1 I1=>?_) (.inr hk)))
 unfold unbindBehindTheSuite
 refine wpAny_onRaise ?_
 unfold unbindName
 refine wpAny_bind (wpAny_point (wpAny_bind ?_))
 unfold deleteName
 simp only [hk,hp]
 rw [if_neg (by decide)]
 refine wpAny_bind (del_ok I1 hN hi hk (List.getElem?_set_self hiσ) λ h' I2=>?_)
 simp only [if_true,Bool.not_true,Bool.false_eq_true,if_false]
 rw [List.set_set] at I2
 exact wpAny_pure (wpAny_point (h _ I2))
end
def asX (X:Cx) (ea:Addr) (oe:Obj):Cx:={ markX X ea with pn:=X.pn++[(ea,oe)] }
section
variable {X:Cx} {pins:List (Addr×Obj)} {σ:St} {H H':Hp} {s s':Shared} {ea C:Addr} {oe:Obj} {B:Heap} {a0:Value}
theorem inv_as (I:Inv X pins σ H s) (hp:s.heap.get? ea=some oe/\H ea=none/\ea≠X.env.locals/\ea ∉ X.fs/\∀ v,oe.data≠.cell v):Inv (asX X ea oe) pins σ H s:=by
 have Im:=zii I ea
 refine ⟨⟨Im.ok.mod,Im.ok.kind,Im.ok.glob,Im.ok.blt,Im.ok.above,Im.ok.inj,Im.ok.has,Im.ok.cab,λ z=>Bool.noConfusion z,Im.ok.frames,Im.ok.stk,Im.ok.exf,Im.ok.bs,Im.ok.bsz,Im.ok.noex,Im.ok.exfs,Im.ok.funs,Im.ok.frf⟩,Im.os,Im.bare,Im.base,Im.loc,Im.cell,Im.free,Im.freeC,λ p h=>?_,Im.hok,Im.len⟩
 have h':p∈(X.pn++[(ea,oe)])++pins:=h
 rcases List.mem_append.mp h' with z|z
 ·rcases List.mem_append.mp z with z|z
  ·exact I.pin p (List.mem_append_left _ z)
  ·simp at z;subst z;exact hp
 ·exact I.pin p (List.mem_append_right _ z)
theorem zfq (ok:X.Ok) (I:Inv (asX X ea oe) pins σ H s):Inv X pins σ H s :=
 ⟨ok,I.os,I.bare,I.base,I.loc,I.cell,I.free,I.freeC,λ p h=>I.pin p (by
  show p∈(X.pn++[(ea,oe)])++pins
  rcases List.mem_append.mp h with z|z
  ·exact List.mem_append_left _ (List.mem_append_left _ z)
  ·exact List.mem_append_right _ z),I.hok,I.len⟩
def unD (i:Nat) (D:Ends):Ends:={ nx:=λ σ H=>D.nx (σ.set i none) H,rt:=D.rt,bk:=λ σ H=>D.bk (σ.set i none) H,ct:=λ σ H=>D.ct (σ.set i none) H }
def tAs (i:Nat) (t:Addr->TS):TS:=λ D σ H=>∀ ea,H ea=none->t ea (unD i D) (σ.set i (some (.ref ea))) H
inductive HandsN (X:Cx):List ExceptHandler->List (Value×(Addr->TS))->Prop
|nil:HandsN X [] []
|cons {x n:Str} {np pos:Pos} {i:Nat} {b₀:Stmt} {suite:List Stmt} {c:Value} {t:Addr->Addr->TS} {hs:List ExceptHandler} {l:List (Value×(Addr->TS))}:Gl X x->(X.mg x=some c \/ (X.mg x=none/\bootBuiltins x=some c/\x ≠ "__name__"))->(x == ("__debug__":Str))=false ->
   X.N.Nodup->X.N[i]?=some n->X.env.kindOf n=some .local->(∀ ea oe C,oe.cls=.ref C->PSs (asX X ea oe) (b₀ :: suite) (t C ea))->HandsN X hs l ->
   HandsN X (.ExceptHandler (some (.Name x np)) (some n) (b₀ :: suite) pos :: hs) ((c,λ C=>tAs i (t C)) :: l)
def kHandN (K:Fg):List (Value×(Addr->TS))->Addr->Ends->St->Hp->Prop
|[],_,_,_,_=>False
|(c,t) :: r,C,D,σ,H=>∃ b,PySem.W.exmOne K (.ref C) c=some b/\if b=true then t C D σ H else kHandN K r C D σ H
theorem zqi (I:Inv X pins σ H s) (c:Come X H s ea C B a0 H' s') (hthere:∃ o,s'.heap.get? ea=some o) {D:Ends}:∀ {hs:List ExceptHandler} {l:List (Value×(Addr->TS))},HandsN X hs l->∀ (h:Heap) (tk:Nat),Heap.FlyingW B X.stack ea (.ref C) a0 h->s'.heap.UpToSlots h->kHandN X.K l C D σ H' ->
  wpAny (model X.prog X.w) X.A (handleBy (.ref ea) X.env hs) (SP X pins D) X.xe { s' with heap:=h,toks:=tk }:=by
 intro hs l hh
 induction hh with
|nil=>intro h tk _ _ q;exact False.elim q
|@cons x n np pos i b₀ suite cl t hs l hg hm hdb hN hi hk ht hr ih =>
  intro h tk fl sm q
  obtain ⟨b,hb,q⟩:=q
  have I5:=zvj (tk:=tk) I c fl.1 sm
  have Im:=zii I5 ea
  have go:∀ (E':Value->Shared->Prop) (Q':Value->Shared->Prop),Q' cl { s' with heap:=h,toks:=tk }->wpAny (model X.prog X.w) (X.A.mark (some (.ref ea))) (eval (.Name x np) X.env) Q' E' { s' with heap:=h,toks:=tk }:=λ E' Q' z=>by
   rcases hm with hm|⟨hm,hv,hn⟩
   ·exact ztd (X:=markX X ea) Im hg hm z hdb
   ·exact ld_blt (X:=markX X ea) Im hg hm hv z hn hdb
  refine wpAny_handleBy_cons (codeAny_handlers_test (go _ _ ?_)) (by intro z;cases z)
  obtain ⟨ob,hob,hcl⟩:=fl.there
  have LT:PySem.W.Looks (model X.prog X.w) h (typeOf (.ref ea)) (.ref C):=by
   rw [<- hcl]
   exact (PySem.W.Looks.ld hob).andThen .now
  refine (PySem.W.exm_one (I5.kIn) LT hb).here ?_
  cases b with
 |false =>
   have q':kHandN X.K l C D σ H':=by simpa using q
   exact ih h tk fl sm q'
 |true =>
   have q':tAs i (t C) D σ H':=by simpa using q
   refine codeAny_handlers_suite_as (lands_againW fl λ h6 fl6 sm6=>?_)
   have I6:=zvj (tk:=tk) I c fl6.1 (sm.trans sm6)
   obtain ⟨oe,vs,ho6,hc6,hd6,_⟩:=fl6.first
   have hne:B.get? ea=none:=fl6.2.1
   have hH:H' ea=none:=by
    cases e:H' ea with
   |none=>rfl
   |some u =>
     obtain ⟨o,ho⟩:=hthere
     have:=c.b1 ea o u ho e
     rw [hne] at this;cases this
   have Ia:Inv (asX X ea oe) pins σ H' { s' with heap:=h6,toks:=tk }:=by
    refine inv_as I6 (ea:=ea) (oe:=oe) ⟨ho6,hH,λ z=>?_,λ hb=>?_,λ v z=>by rw [hd6] at z;cases z⟩
    ·obtain ⟨m,⟨oL,es,ep,hoL,hdL,_⟩,_⟩:=I6.loc
     have hoL':h6.get? X.env.locals=some oL:=hoL
     rw [<- z,ho6] at hoL';cases hoL'
     rw [hd6] at hdL;cases hdL
    ·obtain ⟨_,o',e',hd⟩:=I6.funs.mem hb
     have e'':h6.get? ea=some o':=e'
     rw [ho6] at e'';cases e''
     exact hd _ hd6
   refine zpc (X:=asX X ea oe) Ia hN hi (.inl hk) (v:=.ref ea) rfl (λ s7 I7=>?_) (.inr hk)
   refine wpAny_noRaise (thn (ht ea oe C hc6 pins _ _ H' _ I7 (q' ea hH)) λ f s8 q8=>?_)
   have fin:∀ {σ2:St} {H2:Hp} {Q:Unit->Shared->Prop},Inv (asX X ea oe) pins σ2 H2 s8->(∀ s9,Inv X pins (σ2.set i none) H2 s9->Q () s9)->wpAny (model X.prog X.w) X.A (do bindName X.env n .none;unbindBehindTheSuite X.env n pos) Q X.xe s8:=λ I8 k=>zam (zfq I.ok I8) hN hi hk k
   cases f with
  |next=>obtain ⟨σ2,H2,I8,q2⟩:=q8;exact fin I8 λ s9 I9=>⟨_,H2,I9,q2⟩
  |brk=>obtain ⟨σ2,H2,I8,q2⟩:=q8;exact fin I8 λ s9 I9=>⟨_,H2,I9,q2⟩
  |cont=>obtain ⟨σ2,H2,I8,q2⟩:=q8;exact fin I8 λ s9 I9=>⟨_,H2,I9,q2⟩
  |ret u=>obtain ⟨v,σ2,H2,I8,r2,q2⟩:=q8;exact fin I8 λ s9 I9=>⟨v,_,H2,I9,r2,q2⟩
def wishN (K:Fg) (l:List (Value×(Addr->TS))) (D:Ends) (σ:St):XK:=λ V _ H'=>∃ c,V=.ref c/\kHandN K l c D σ H'
theorem zgp {outer:List Env} {L:Addr} {D:Ends} {hs:List ExceptHandler} {l:List (Value×(Addr->TS))} {e:Value} (hst:X.stack=X.env :: outer) (hf:X.env.frame=some L) (hh:HandsN X hs l) (I:Inv X [] σ H s)
  (h:CX1 X.prog X.w X.stack H s (wishN X.K l D σ) e s'):tryX X D hs e s':=by
 obtain ⟨ea,C,B,a0,H2,rfl,hfl,hos,hbare,u2,hok,hB,hB2,hB3,c',ec,hE⟩:=h
 cases ec
 have fr:X.A.frames=some (X.env :: outer):=by rw [<- hst];exact I.ok.frames
 have hfl':Heap.FlyingW B (X.env :: outer) ea (.ref C) a0 s'.heap:=by rw [<- hst];exact hfl
 obtain ⟨oe,hoe,_⟩:=hfl.there
 refine wpAny_looks_onW fr hf hfl' λ h4 hheld4 sm4=>?_
 refine wpAny_landsW hheld4 λ h5 fl5 sm5=>?_
 have fl5':Heap.FlyingW B X.stack ea (.ref C) a0 h5:=by rw [hst];exact fl5
 exact zqi I ⟨hos,hbare,u2,hok,hB,hB2,hB3⟩ ⟨oe,hoe⟩ hh h5 s'.toks fl5' (sm4.trans sm5) hE
theorem znn {outer:List Env} {L:Addr} {body:List Stmt} {h₀:ExceptHandler} {hs:List ExceptHandler} {l:List (Value×(Addr->TS))} {tb:Ends->TS} {pos:Pos} (hst:X.stack=X.env :: outer) (hf:X.env.frame=some L) (hh:∀ pn xe,HandsN (withX X pn xe) (h₀ :: hs) l)
  (hb:∀ (D:Ends) (pn:List (Addr×Obj)) (xe:Value->Shared->Prop),(∀ σ,zzb (CX1 X.prog X.w) (withX X pn xe) (wishN X.K l D σ) σ)->PSs (withX X pn xe) body (tb D)):PS X (.Try body (h₀ :: hs) [] [] pos) (tTry tb):=by
 intro pins s σ H D I h
 have ok:=I.ok
 refine wpAny_Try_except ?_
 have I1:=zdp I (tryX (withX X (X.pn++pins) X.xe) D (h₀ :: hs))
 have key:=hb D (X.pn++pins) (tryX (withX X (X.pn++pins) X.xe) D (h₀ :: hs)) (λ σ' ps H1 s1 e s2 J c=>zgp (X:=withX X (X.pn++pins) X.xe) hst hf (hh _ _) (zoj J) c) [] s σ H D I1 h
 refine wpAny_mono key (λ f s1 q=>?_) λ e s1 q=>?_
 ·cases f with
 |next=>exact wpAny_execs_nil (zc4 ok q)
 |brk=>exact zc4 ok q
 |cont=>exact zc4 ok q
 |ret u=>exact zc4 ok q
 ·exact wpAny_mono q (λ _ s2 q2=>wpAny_mono q2 (λ _ s3 q3=>wpAny_mono q3 (λ f s4 q4=>zc4 ok q4) λ _ _ z=>z) λ _ _ z=>z) λ _ _ z=>z
def rIsE (K:Fg) (ea C:Addr):List V->Hp->VK->Prop:=λ xs H Q=>L4.ExK K C/\∃ cV c b,xs=[.ref ea,cV]/\clsV cV=some c/\PySem.W.kitOne K (.ref C) c=some b/\Q (.bl b) H
theorem zb1 {K:Fg} (h:X.K=K) (hc:oe.cls=.ref C):CallR (asX X ea oe) (.builtin "isinstance") (rIsE K ea C):=by
 subst h
 intro pins s σ H xs us Q I r h
 obtain ⟨k,cV,c,b,rfl,rc,e,q⟩:=h
 obtain ⟨u,v,rfl,ru,rv⟩:=r.two
 obtain rfl:=zre rc rv
 cases (show u=Value.ref ea from ru)
 have hp:=I.pin (ea,oe) (List.mem_append_left _ (by show (ea,oe)∈X.pn++[(ea,oe)];simp))
 exact L4.exc_isinst k I.kIn ⟨hp.1,hc⟩ e λ tk=>⟨.bl b,H,I.tok tk,rfl,q⟩
end
end L3
namespace L4
open PySem PySem.Spec PyProof.Rows L2 L3
section
variable {i j:Nat} {ea:Addr}
structure ImpE (i:Nat) (ea:Addr) (te te':TE):Prop where
 of:∀ {σ:L2.St} {H:Hp} {Q Q':VK},σ[i]?=some (some (.ref ea))->(∀ v H1,Q' v H1->Q v H1)->te' σ H Q'->te σ H Q
structure ImpA (i:Nat) (ea:Addr) (ta ta':TA):Prop where
 of:∀ {σ:L2.St} {H:Hp} {Q Q':List V->Hp->Prop},σ[i]?=some (some (.ref ea))->(∀ v H1,Q' v H1->Q v H1)->ta' σ H Q'->ta σ H Q
structure ImpS (i:Nat) (ea:Addr) (ts ts':TS):Prop where
 of:∀ {D:Ends} {σ:L2.St} {H:Hp},σ[i]?=some (some (.ref ea))->ts' D σ H->ts D σ H
variable {te te':TE} {ta ta':TA} {u u':TS}
theorem zh1 {K:Fg} {C:Addr} {cV:V} {c:Value} {b:Bool} (hk:ExK K C) (hc:clsV cV=some c) (hb:PySem.W.kitOne K (.ref C) c=some b):ImpE i ea (tCB (rIsE K ea C) (tCons (tVar i) (tCons (tC cV) tNil))) (tC (.bl b)) :=
 ⟨λ hs k q=>⟨_,hs,hk,cV,c,b,rfl,hc,hb,k _ _ q⟩⟩
theorem zv6:ImpA i ea tNil tNil:=⟨λ _ k q=>k _ _ q⟩
theorem zu0 (h:ImpE i ea te te') (h2:ImpA i ea ta ta'):ImpA i ea (tCons te ta) (tCons te' ta'):=⟨λ hs k q=>h.of hs (λ v H1 q1=>h2.of hs (λ vs H2 q2=>k _ _ q2) q1) q⟩
theorem zdb (h:ImpA i ea ta ta'):ImpE i ea (tLstU ta) (tLstU ta'):=⟨λ hs k q=>h.of hs (λ vs H1 q1=>⟨q1.1,λ p hp=>k _ _ (q1.2 p hp)⟩) q⟩
theorem zpm (h:ImpE i ea te te'):ImpS i ea (tAsg te (gName j)) (tAsg te' (gName j)):=⟨λ hs q=>h.of hs (λ _ _ q1=>q1) q⟩
theorem zpg (hij:i≠j) (h:ImpE i ea te te') (h2:ImpS i ea u u'):ImpS i ea (tSeq (tAsg te (gName j)) u) (tSeq (tAsg te' (gName j)) u'):=⟨λ {D σ H} hs q=>h.of hs (λ v H1 q1=>h2.of (by
 rw [List.getElem?_set_ne (λ z=>hij z.symm)];exact hs) q1) q⟩
theorem zao {K:Fg} {x y:V} {H:Hp} {Q Q':VK} (k:∀ v H1,Q' v H1->Q v H1) (h:rAddW K x y H Q'):rAddW K x y H Q:=by
 rcases h with (⟨a,b,e1,e2,q⟩|⟨a,b,e1,e2,e3,q⟩|⟨l,b,xs,zs,e1,e2,e3,e4,e5,q⟩|⟨a,b,xs,ys,e1,e2,e3,e4,e5,e6,q1,q2⟩)|h
 ·exact .inl (.inl ⟨a,b,e1,e2,k _ _ q⟩)
 ·exact .inl (.inr (.inl ⟨a,b,e1,e2,e3,k _ _ q⟩))
 ·exact .inl (.inr (.inr (.inl ⟨l,b,xs,zs,e1,e2,e3,e4,e5,λ p hp=>k _ _ (q p hp)⟩)))
 ·exact .inl (.inr (.inr (.inr ⟨a,b,xs,ys,e1,e2,e3,e4,e5,e6,λ z=>k _ _ (q1 z),λ z p hp=>k _ _ (q2 z p hp)⟩)))
 ·obtain ⟨a,b,xs,ys,e1,e2,e3,e4,e5,q⟩:=h
  exact .inr ⟨a,b,xs,ys,e1,e2,e3,e4,e5,λ p hp=>k _ _ (q p hp)⟩
theorem zlg {K:Fg} (h:ImpE i ea te te'):ImpE i ea (tOp (rAddW K) (tVar j) te) (tOp (rAddW K) (tVar j) te'):=⟨λ hs k q=>by
 obtain ⟨v,hv,q⟩:=q
 exact ⟨v,hv,h.of hs (λ y H2 q2=>zao k q2) q⟩⟩
theorem zyj (h:ImpE i ea te te'):ImpE i ea (tNotV te) (tNotV te'):=⟨λ hs k q=>h.of hs (λ x H1 q1=>by
 obtain ⟨c,e,q1⟩:=q1
 exact ⟨c,e,k _ _ q1⟩) q⟩
end
section
variable {K:Fg} {B:Bs} {F H:Hp} {σ:L2.St} {δ:DSt} {fps:Nat->List Addr} {i:Nat}
theorem RS.setU (r:RS K B F H σ δ fps) (x:Option V) (hi:δ[i]?=some .un):RS K B F H (σ.set i x) δ fps:=by
 have ne:∀ {j:Nat} {s:Sl},δ[j]?=some s->s≠.un->(σ.set i x).getD j none=σ.getD j none:=λ {j s} e hs=>by
  have:i≠j:=λ z=>by subst z;rw [hi] at e;cases e;exact hs rfl
  rw [List.getD_eq_getElem?_getD,List.getElem?_set_ne this,<- List.getD_eq_getElem?_getD]
 refine ⟨r.hh,r.ff,r.fh,r.nw,r.al,by rw [List.length_set];exact r.len,λ j d e=>?_,λ j s e hs=>?_,r.fr,r.dj⟩
 ·rw [ne e (λ z=>by cases z)];exact r.sh j d e
 ·rw [ne e (λ z=>by subst z;cases hs)];exact r.rt j s e hs
def dHandN (K:Fg):List (Value×(Addr->DS))->Addr->DEnds->DSt->Prop
|[],_,_,_=>False
|(c,d) :: r,C,E,δ=>∃ b,PySem.W.exmOne K (.ref C) c=some b/\if b=true then d C E δ else dHandN K r C E δ
def dAs (i:Nat) (d:DS):DS:=λ E δ=>δ[i]?=some .un/\d { nx:=λ δ'=>δ'[i]?=some .un/\E.nx δ',bk:=λ δ'=>δ'[i]?=some .un/\E.bk δ',ct:=λ δ'=>δ'[i]?=some .un/\E.ct δ',rt:=E.rt } δ
def dG (Cs:List Addr) (C:Addr) (d:DS):DS:=λ E δ=>C∈Cs/\d E δ
inductive RfHsN (K:Fg):List (Value×(Addr->TS))->List (Value×(Addr->DS))->Prop
|nil:RfHsN K [] []
|cons {Cs:List Addr} {c:Value} {i:Nat} {t:Addr->Addr->TS} {t':Addr->TS} {d:Addr->DS} {l:List (Value×(Addr->TS))} {hs:List (Value×(Addr->DS))}:(∀ C,C∈Cs->∀ ea,ImpS i ea (t C ea) (t' C))->(∀ C,C∈Cs->RfS K (t' C) (d C))->RfHsN K l hs->RfHsN K ((c,λ C=>tAs i (t C)) :: l) ((c,λ C=>dAs i (dG Cs C (d C))) :: hs)
theorem zxo {E:DEnds} {Z:Ends} {C:Addr} (r:RS K B F H σ δ fps) (k:En K B E Z) {l:List (Value×(Addr->TS))} {hs:List (Value×(Addr->DS))} (h:RfHsN K l hs):dHandN K hs C E δ->kHandN K l C Z σ H:=by
 induction h with
|nil=>exact λ z=>z
|@cons Cs c i t t' d l hs hi ht _ ih =>
  rintro ⟨b,hb,q⟩
  refine ⟨b,hb,?_⟩
  cases b with
 |true =>
   rw [if_pos rfl] at q ⊢
   obtain ⟨hu,hC,q⟩:=q
   intro ea hea
   have hlt:i < σ.length:=by rw [r.len];exact (List.getElem?_eq_some_iff.mp hu).1
   refine (hi C hC ea).of (List.getElem?_set_self hlt) (ht C hC (r.setU _ hu) q ⟨λ r' q'=>k.nx (r'.setU none q'.1) q'.2,λ r' q'=>k.bk (r'.setU none q'.1) q'.2,λ r' q'=>k.ct (r'.setU none q'.1) q'.2,λ res q'=>k.rt res q'⟩)
 |false=>rw [if_neg Bool.false_ne_true] at q ⊢;exact ih q
def dTryN (K:Fg) (db:DX->DS) (hs:List (Value×(Addr->DS))):DS:=λ E δ=>db (λ C δ'=>dHandN K hs C E δ') E δ
theorem zdn {tb:Ends->TS} {db:DX->DS} {l:List (Value×(Addr->TS))} {hs:List (Value×(Addr->DS))} (hb:∀ (D:Ends) (ex:DX),RfSe K (wishN K l D) ex (tb D) (db ex)) (hh:RfHsN K l hs):RfS K (tTry tb) (dTryN K db hs):=by
 intro B F H σ δ fps E Z r h k
 exact hb Z _ (λ r' q=>⟨_,rfl,zxo r' k hh q⟩) r h k
end
structure KxT (K:Fg) (Cs Ds:List Addr):Prop where
 ex:∀ C∈Cs,ExK K C
 one:∀ C∈Cs,∀ D∈Ds,PySem.W.kitOne K (.ref C) (.ref D)=some (C == D)
 ve:∀ C∈Cs,PySem.W.kitOne K (.ref C) (.type "ValueError")=some true
 nd:Ds.Nodup
theorem fm_nil {α:Type} {p:α->Prop}:∀ x∈([]:List α),p x:=λ _ h=>by simp at h
theorem zn0 {α:Type} {p:α->Prop} {a:α} {l:List α} (h:p a) (r:∀ x∈l,p x):∀ x∈a :: l,p x:=λ x hx=>by
 rcases List.mem_cons.mp hx with z|z
 ·rw [z];exact h
 ·exact r x z
theorem zkr (K:Fg) (db:DX->DS) (hs:List (Value×(Addr->DS))) (E:DEnds) (δ:DSt):dTryN K db hs E δ=db (λ C δ'=>dHandN K hs C E δ') E δ:=rfl
theorem zjl (K:Fg) (C:Addr) (E:DEnds) (δ:DSt):dHandN K [] C E δ=False:=rfl
theorem zyl (K:Fg) (c:Value) (d:Addr->DS) (r:List (Value×(Addr->DS))) (C:Addr) (E:DEnds) (δ:DSt):dHandN K ((c,d) :: r) C E δ=∃ b,PySem.W.exmOne K (.ref C) c=some b/\if b=true then d C E δ else dHandN K r C E δ:=rfl
theorem e_dAs (i:Nat) (d:DS) (E:DEnds) (δ:DSt):dAs i d E δ=(δ[i]?=some .un/\d { nx:=λ δ'=>δ'[i]?=some .un/\E.nx δ',bk:=λ δ'=>δ'[i]?=some .un/\E.bk δ',ct:=λ δ'=>δ'[i]?=some .un/\E.ct δ',rt:=E.rt } δ):=rfl
theorem e_dG (Cs:List Addr) (C:Addr) (d:DS) (E:DEnds) (δ:DSt):dG Cs C d E δ=(C∈Cs/\d E δ):=rfl
end L4
namespace L3
open PySem PySem.Spec PyProof.Rows L2
def Itp (a:Addr) (o:Obj) (kvs:List (Key×V)):It:=⟨λ i H=>H a=some (.frz o (.dK kvs))/\i < kvs.length,
 λ i H x H'=>∃ k v,kvs[i]?=some (k,v)/\x=kV k/\H'=H,λ i H=>H a=some (.frz o (.dK kvs))/\kvs.length<=i⟩
theorem kv_get:∀ {kvs:List (Key×V)} {xs:List (Key×Value)} {i:Nat} {k:Key} {v:V},KV kvs xs->kvs[i]?=some (k,v)->∃ u,xs[i]?=some (k,u)/\RelV v u:=by
 intro kvs xs i k v h
 induction h generalizing i with
|nil=>intro e;simp at e
|@cons p q ps qs hq t ih =>
  intro e
  cases i with
 |zero =>
   simp at e
   subst e
   obtain ⟨q1,q2⟩:=q
   obtain ⟨h1,h2⟩:=hq
   dsimp only at h1 h2
   subst h1
   exact ⟨q2,rfl,h2⟩
 |succ i=>simp at e ⊢;exact ih e
theorem zpl {prog:Program} {w:World} {knd:PySem.KeyKind prog w Key}:∀ {es:List DictEntry} {xs:List (Key×Value)} {i:Nat} {k:Key} {u:Value},Pairs knd es xs->xs[i]?=some (k,u)->∃ e,es[i]?=some e/\knd.is k e.key=true:=by
 intro es xs i k u h
 induction h generalizing i with
|nil=>intro e;simp at e
|@cons e kv es xs h1 h2 _ ih =>
  intro z
  cases i with
 |zero=>simp at z;subst z;exact ⟨e,rfl,h1⟩
 |succ i=>simp at z ⊢;exact ih z
theorem zbt {k:Key} {v:Value} (h:keyIs k v=true):RelV (kV k) v:=by
 rcases zd1 h with ⟨j,t,rfl,rfl⟩|⟨x,t,rfl,rfl⟩
 ·exact ⟨t,rfl⟩
 ·exact ⟨t,rfl⟩
theorem zcj {P:Program} {w:World} {K:Fg} {tg:Expr} {a it:Addr} {o:Obj} {kvs:List (Key×V)} {es:Array DictEntry} {ep:Nat} (hd:o.data=.dict es ep) :
  Turn P w K tg (Itp a o kvs) [it] it (λ i h=>h.IsKeyIter it a i es.size ep) where
 mem:=by simp
 obj:=λ i h S b hb=>by
  obtain ⟨io,g1,g2,g3⟩:=S
  simp at hb
  subst hb
  exact ⟨_,g1,λ v q=>by rw [g3] at q;cases q⟩
 keep:=λ i h h' S k=>by
  obtain ⟨io,g1,g2,g3⟩:=S
  exact ⟨io,k _ (by simp) _ g1,g2,g3⟩
 item:=by
  intro X hP hw hK hc i pins s σ H E I hf S hg
  subst hP hw hK
  obtain ⟨hq,hlt⟩:=hg
  obtain ⟨ho,hdt⟩:=(show ObjOk X.prog X.w H s.heap a (.frz o (.dK kvs)) from I.hok a _ hq)
  obtain ⟨z,_,xs,r,o',es',ep',h1,h2,h3,h4,h5,h6⟩:=hdt
  rw [ho] at h1;cases h1
  rw [hd] at h3;cases h3
  have hx:kvs[i]?=some (kvs[i].1,kvs[i].2):=by rw [List.getElem?_eq_getElem hlt]
  obtain ⟨u,g1,g2⟩:=kv_get r hx
  obtain ⟨e,e1,e2⟩:=zpl h5 g1
  have hes:i < es.size:=by
   rw [<- Array.length_toList]
   exact (List.getElem?_eq_some_iff.mp e1).1
  have hent:es[i]=e:=by
   rw [Array.getElem?_toList,Array.getElem?_eq_getElem hes] at e1
   exact Option.some.inj e1
  have fi:=hf it (by simp)
  refine zgh (I.ok.hd hc) S ho hd (λ _ h' S' sb=>?_) λ ge=>absurd hes (Nat.not_lt.mpr ge)
  rw [hent]
  obtain ⟨io,i1,i2,i3⟩:=id S'
  exact ⟨e.key,rfl,go_of (s:={ s with heap:=h' }) i1 i2 i3 (by decide) ⟨kV kvs[i].1,H,fp_ext (tk:=s.toks) I fi sb.extBut,zbt e2,⟨_,_,hx,rfl,rfl⟩,S',λ b hb=>(hf b hb).1⟩⟩
 done:=by
  intro X hP hw hK hc i pins s σ H E I hf S hg
  subst hP hw hK
  obtain ⟨hq,hge⟩:=hg
  obtain ⟨ho,hdt⟩:=(show ObjOk X.prog X.w H s.heap a (.frz o (.dK kvs)) from I.hok a _ hq)
  obtain ⟨z,_,xs,r,o',es',ep',h1,h2,h3,h4,h5,h6⟩:=hdt
  rw [ho] at h1;cases h1
  rw [hd] at h3;cases h3
  have hl:kvs.length=xs.length:=Paired.length r
  have hz:es.size=xs.length:=by rw [<- Array.length_toList];exact h5.length
  exact zgh (I.ok.hd hc) S ho hd (λ lt=>absurd lt (by lia)) λ _ h' eb=>⟨rfl,fp_ext (tk:=s.toks) I (hf it (by simp)) eb⟩
 self:=λ _ _ _ _ _ S h=>wpAny_pyIter_keyiter S h
section
variable {X:Cx} {tg:Expr}
def kKeysP (v:V) (H:Hp) (R:It->Hp->Prop):Prop:=∃ a kvs,v=.ref a/\H a=some (.dK kvs)/\∀ o,R (Itp a o kvs) (upd H a (.frz o (.dK kvs)))
def iKeysP (te:TE):TI:=λ σ H R=>te σ H λ v H1=>kKeysP v H1 R
theorem zzp {e:Expr} {te:TE} (ho:PE X e te):PI X tg e (iKeysP te):=by
 intro pins s σ H R I h
 refine thn (ho pins s σ H _ I h) λ v s1 ⟨x,H1,I1,r1,a,kvs,ex,e,q⟩=>?_
 subst ex
 obtain rfl:v=Value.ref a:=r1
 obtain ⟨t1,t2,hm⟩:=isD_at I1 (.inl ⟨kvs,.inl e⟩)
 obtain ⟨z,_,xs,r,od,es,ep,h1,h2,h3,h4,h5⟩:=(show ObjOk X.prog X.w H1 s1.heap a (.dK kvs) from I1.hok a _ e)
 refine zgm h1 h2.1 h3 hm ?_
 have aL:a < s1.heap.objs.size:=Heap.lt_size h1
 have k2:∀ b u,s1.heap.get? b=some u->(s1.heap.push { cls:=.type "dict_keyiterator",data:=.fields #[.ref a,.int 0 0,.int es.size 0,.int ep 0] }).get? b=some u:=λ b u q=>Heap.get?_push_of_some _ q
 have I2:=I1.kept (t':=s1.toks) k2
 have I3:=freeze I2 (a:=a) (by rw [e];trivial) e (k2 _ _ h1)
 refine ⟨_,[_],_,_,_,rfl,I3,zcj (es:=es) (ep:=ep) h3,⟨_,Heap.get?_push_size _ rfl,rfl,rfl⟩,λ b hb=>?_,q od⟩
 simp only [List.mem_singleton] at hb
 have hb':s1.heap.objs.size<=b:=Nat.le_of_eq hb.symm
 exact I1.fpOk hb' (by rw [upd_ne (λ z=>by rw [z] at hb';exact absurd aL (Nat.not_lt.mpr hb'))];exact I1.hok.fresh hb')
end
end L3
namespace L4
open PySem PySem.Spec PyProof.Rows L2 L3
section
variable {K:Fg} {w:World}
def shO:Sl->Sl
|.sh d=>.sh d
|_=>.un
theorem zgt {F H F' H':Hp} {a:Addr} {o:HO} (e:Ext F H F' H') (h1:H a≠none) (h2:F a=none):Ext F (upd H a o) F' (upd H' a o):=by
 have fa:=e.nw a h1 h2
 refine ⟨λ b ob hb=>?_,e.f,λ b ob hb=>?_,λ b hb fb=>?_⟩
 ·by_cases z:b=a
  ·subst z;rw [zg0] at hb ⊢;exact hb
  ·rw [upd_ne z] at hb ⊢;exact e.h b ob hb
 ·have z:b≠a:=λ z=>by subst z;rw [fa] at hb;cases hb
  rw [upd_ne z];exact e.fh b ob hb
 ·by_cases z:b=a
  ·subst z;exact fa
  ·rw [upd_ne z] at hb;exact e.nw b hb fb
def zak (ix:List Nat) (d1:DE) (δ:DSt) (u:T) (Q:List D->Prop):Prop:=match u with
|.dk kvs=>kvs.length<=1000/\(kvs.map (·.1)).Nodup/\∃ g:Key->D,(∀ kv∈kvs,d1 (.sh (kD kv.1) :: ix.map λ i=>shO (δ.getD i .un)) λ r=>r=g kv.1)/\Q (kvs.map λ kv=>.tuple [g kv.1,kD kv.1,kv.2])
|_=>False
def zzi (ix:List Nat) (d1:DE) (dp:DP):DF:=λ δ Q=>dp δ λ _ _ u=>zak ix d1 δ u Q
theorem zzk {ix:List Nat} {te1:TE} {d1:DE} (i iw:Nat) (hw:ix[iw]?=some i) (he1:RfE K te1 d1):RfF K (tThaw (tComp (iKeysP (tVar i)) 1 ix (gName 0) tTrue (tTupU (tCons te1 (tCons (tVar 0) (tCons (tOp (rIxV w K) (tVar (iw+1)) (tVar 0)) tNil)))))) (zzi ix d1 (pVar i)):=by
 intro F H σ δ Qd Q s rv h k
 obtain ⟨sl,t,q,et,hu⟩:=h
 obtain ⟨x,fp,ex0,hr,_⟩:=(rv.sl i _ q).rt et
 refine ⟨x,zoe (F:=F) (H:=H) (δ:=δ) ex0,?_⟩
 cases hr with
|fz _=>exact hu.elim
|li _ _ _=>exact hu.elim
|ls _ _ _=>exact hu.elim
|ob _ _ _ _ _=>exact hu.elim
|dt _ _ _=>exact hu.elim
|@dk a kvs' kvs h1 h2 h3 =>
  obtain ⟨hz,hnd,g,hg,hQ⟩:=hu
  have hlen:=h3.len
  have hkk:=h3.keysT
  refine ⟨a,kvs',rfl,h1,λ o D hD=>?_⟩
  have nDa:D≠a:=λ z=>by subst z;rw [zg0] at hD;cases hD
  have hD1:H D=none:=by rw [upd_ne nDa] at hD;exact hD
  have F1D:F D=none:=by
   cases q:F D with
  |none=>rfl
  |some o=>rw [s D o q] at hD1;cases hD1
  refine ⟨λ i m acc σ' H'=>m=kvs.length - i/\i<=kvs.length/\(∃ s0,σ'=s0 :: ix.map λ i=>σ.getD i none)/\∃ F':Hp,Ext F H F' (upd H' a (.dK kvs'))/\H' a=some (.frz o (.dK kvs'))/\F' D=none/\H' D=some (.lst acc)/\acc.length=i/\IsAll K F' acc ((kvs.take i).map λ kv=>.tuple [g kv.1,kD kv.1,kv.2]),⟨kvs.length,rfl,Nat.zero_le _,⟨none,rfl⟩,F,?_,by rw [upd_ne (Ne.symm nDa),zg0],F1D,zg0,rfl,.nil⟩,?_⟩
  ·refine ⟨λ b ob hb=>?_,λ _ _ z=>z,λ b ob hb=>?_,λ _ _ z=>z⟩
   ·by_cases ba:b=a
    ·subst ba;rw [zg0,<- h1];exact hb
    ·have bD:b≠D:=λ z=>by subst z;rw [hD1] at hb;cases hb
     rw [upd_ne ba,upd_ne bD,upd_ne ba];exact hb
   ·have ba:b≠a:=λ z=>by subst z;rw [h2] at hb;cases hb
    have bD:b≠D:=λ z=>by subst z;rw [F1D] at hb;cases hb
    rw [upd_ne ba,upd_ne bD,upd_ne ba];exact s b ob hb
  rintro i' m acc σ' H' ⟨rfl,hi',⟨s0,rfl⟩,F',ex,ha,fD,hDD,hacc,hall⟩
  have fa:F' a=none:=ex.nw a (by rw [h1];simp) h2
  have fh':Same F' H':=λ b ob hb=>by
   have ba:b≠a:=λ z=>by subst z;rw [fa] at hb;cases hb
   have:=ex.fh b ob hb
   rw [upd_ne ba] at this;exact this
  by_cases hlt:i' < kvs.length
  ·refine .inr ⟨⟨ha,by lia⟩,λ acc' σ2 H2=>i'+1<=kvs.length/\(∃ s0,σ2=s0 :: ix.map λ i=>σ.getD i none)/\∃ F':Hp,Ext F H F' (upd H2 a (.dK kvs'))/\H2 a=some (.frz o (.dK kvs'))/\F' D=none/\H2 D=some (.lst acc')/\acc'.length=i'+1/\IsAll K F' acc' ((kvs.take (i'+1)).map λ kv=>.tuple [g kv.1,kD kv.1,kv.2]),λ acc' σ2 H2 q=>⟨kvs.length - (i'+1),by lia,rfl,q⟩,λ x H2 y=>?_⟩
   obtain ⟨ky,v,g1,rfl,eH⟩:=y
   subst H2
   obtain ⟨d,g4,g5⟩:=h3.at g1
   have hv:some v=valV kvs' ky:=(ztn (by rw [hkk];exact hnd) g1).symm
   have isk:Is K F' (kV ky) (kD ky):=by
    cases ky with
   |inl i=>exact .int i
   |inr x=>exact .str x
   dsimp only [gName,tTrue]
   rw [if_pos rfl]
   have rv1:RV K F' H' (some (kV ky) :: ix.map λ i=>σ.getD i none) (.sh (kD ky) :: ix.map λ i=>shO (δ.getD i .un)):=by
    refine ⟨by simp,λ j sl ej=>?_⟩
    cases j with
   |zero=>simp at ej;subst ej;exact ⟨_,rfl,isk⟩
   |succ j =>
     rw [List.getElem?_cons_succ,List.getElem?_map] at ej
     obtain ⟨i2,hi2,rfl⟩:=Option.map_eq_some_iff.mp ej
     rw [List.getD_cons_succ,List.getD_eq_getElem?_getD,List.getElem?_map,hi2]
     show RSl K F' H' (σ.getD i2 none) (shO (δ.getD i2 .un))
     cases e2:δ[i2]? with
    |none =>
      have e3:δ.getD i2 .un=.un:=by rw [List.getD_eq_getElem?_getD,e2];rfl
      rw [e3];trivial
    |some sl =>
      have:=rv.sl i2 sl e2
      have e3:δ.getD i2 .un=sl:=by rw [List.getD_eq_getElem?_getD,e2];rfl
      rw [e3]
      cases sl with
     |sh d=>obtain ⟨x,e3,e4⟩:=this;exact ⟨x,e3,e4.mono ex.f⟩
     |un=>trivial
     |ow _=>trivial
     |bo _=>trivial
     |io _ _=>trivial
   refine he1 fh' rv1 (hg _ (List.mem_of_getElem? g4)) λ r hr v1 F2 H2 ex2 is2=>?_
   subst hr
   have ha2:H2 a=some (.frz o (.dK kvs')):=ex2.h _ _ ha
   have hD2:H2 D=some (.lst acc):=ex2.h _ _ hDD
   have fa2:F2 a=none:=ex2.nw a (by rw [ha];simp) fa
   have fD2:F2 D=none:=ex2.nw D (by rw [hDD];simp) fD
   have exx:=ex.trans (zgt (a:=a) (o:=.dK kvs') ex2 (by rw [ha];simp) fa)
   refine ⟨kV ky,rfl,.ref a,?_,kV ky,rfl,.inr ⟨a,v,rfl,.inl ⟨kvs',ky,.inr ⟨o,ha2⟩,rfl,hv⟩,?_⟩⟩
   ·rw [List.set_cons_zero,List.getElem?_cons_succ,List.getElem?_map,hw]
    exact congrArg some ex0
   refine ⟨by rw [sizeLine_eq];simp,λ l hl0=>?_⟩
   have old:∀ c ob,H2 c=some ob->c≠l:=λ c ob hc z=>by subst z;rw [hl0] at hc;cases hc
   have kp:∀ c ob,H2 c=some ob->upd H2 l (.tup [v1,kV ky,v]) c=some ob:=λ c ob hc=>by rw [upd_ne (old c ob hc)];exact hc
   have lD:l≠D:=Ne.symm (old D _ hD2)
   have la:l≠a:=Ne.symm (old a _ ha2)
   obtain ⟨ex4,is4⟩:=zob (K:=K) (xs:=[v1,kV ky,v]) (ds:=[g ky,kD ky,d]) ex2.fh hl0 (.cons is2 (.cons (isk.mono ex2.f) (.cons (g5.mono exx.f) .nil)))
   refine ⟨kp D _ hD2,by rw [hacc,sizeLine_eq];lia,hlt,⟨_,rfl⟩,upd F2 l (.tup [v1,kV ky,v]),⟨λ c ob hc=>?_,exx.f.trans ex4.f,λ c ob hc=>?_,λ c hc fc=>?_⟩,?_,?_,zg0,by simp [hacc],?_⟩
   ·by_cases ca:c=a
    ·subst ca;rw [zg0,<- h1];exact hc
    ·have:=exx.h c ob hc
     rw [upd_ne ca] at this
     have cD:c≠D:=λ z=>by subst z;rw [hD1] at hc;cases hc
     rw [upd_ne ca,upd_ne cD];exact kp c ob this
   ·by_cases cl:c=l
    ·subst cl
     rw [zg0] at hc;cases hc
     rw [upd_ne la,upd_ne lD,zg0]
    ·rw [upd_ne cl] at hc
     have ca:c≠a:=λ z=>by subst z;rw [fa2] at hc;cases hc
     have cD:c≠D:=λ z=>by subst z;rw [fD2] at hc;cases hc
     rw [upd_ne ca,upd_ne cD];exact kp c ob (ex2.fh c ob hc)
   ·have cl:c≠l:=λ z=>by
     subst z
     cases q1:H c with
    |none=>exact hc q1
    |some ob =>
      have:=exx.h c ob q1
      rw [upd_ne la,hl0] at this;cases this
    rw [upd_ne cl];exact exx.nw c hc fc
   ·rw [upd_ne (Ne.symm nDa)];exact kp a _ ha2
   ·rw [upd_ne (Ne.symm lD)];exact fD2
   ·rw [List.take_succ,g4,List.map_append]
    exact ((hall.mono ex2.f).mono ex4.f).dapp (.cons is4 .nil)
  ·have ei:i'=kvs.length:=by lia
   refine .inl ⟨⟨ha,by lia⟩,a,o,_,λ ob y z=>?_,ha,k _ hQ D acc F' _ ex hD1 (by rw [upd_ne nDa];exact hDD) fD (by rw [ei,List.take_length] at hall;exact hall)⟩
   rw [h1] at z;cases z
theorem zwk (ix:List Nat) (d1:DE) (dp:DP) (δ:DSt) (Q:List D->Prop):zzi ix d1 dp δ Q=(dp δ λ _ _ u=>zak ix d1 δ u Q):=rfl
theorem zhl (ix:List Nat) (d1:DE) (δ:DSt) (kvs:List (Key×D)) (Q:List D->Prop):zak ix d1 δ (.dk kvs) Q=(kvs.length<=1000/\(kvs.map (·.1)).Nodup/\∃ g:Key->D,(∀ kv∈kvs,d1 (.sh (kD kv.1) :: ix.map λ i=>shO (δ.getD i .un)) λ r=>r=g kv.1)/\Q (kvs.map λ kv=>.tuple [g kv.1,kD kv.1,kv.2])):=rfl
end
section
variable {K:Fg} {te:TE} {de:DE} {tj:TJ} {dj:DJ}
def smallI:D->Prop
|.int i=>-10000000000000000000000000000000000000000 < i/\i < 10000000000000000000000000000000000000000
|_=>False
theorem zlk {i:Int} (h1:-10000000000000000000000000000000000000000 < i) (h2:i < 10000000000000000000000000000000000000000):i.natAbs.log2 < 1920:=by
 by_cases z:i.natAbs=0
 ·rw [z];decide
 ·have:i.natAbs.log2 < 140:=(Nat.log2_lt z).mpr (by lia)
  lia
def dJI (de:DE) (dj:DJ):DJ:=λ δ n Q=>de δ λ d=>smallI d/\n+2000<=sizeLine/\dj δ (n+2000) Q
theorem rj_int (he:RfE K te de) (h:RfFs K tj dj):RfFs K (jValD K te tj) (dJI de dj):=by
 intro F H σ δ acc n Qd Q s rv hn hd k
 refine he s rv hd λ d hx v F1 H1 e1 i1=>?_
 obtain ⟨hs,h1,h2⟩:=hx
 cases d with
|int i =>
  obtain ⟨b1,b2⟩:=hs
  have hl:=zlk b1 b2
  cases i1
  have hz:=int_text_len_1921 hl
  have:=zun acc (Str.ofString (toString i))
  refine .inl (.inr ⟨i,rfl,hl,by lia,?_⟩)
  exact h e1.fh (rv.ext e1) (by lia) h2 λ m q z F2 H2 e2 hz=>k m q z F2 H2 (e1.trans e2) hz
|list _=>exact hs.elim
|none=>exact hs.elim
|bool _=>exact hs.elim
|str _=>exact hs.elim
|tuple _=>exact hs.elim
|dict _=>exact hs.elim
theorem e_dJI (de:DE) (dj:DJ) (δ:DSt) (n:Nat) (Q:Nat->Prop):dJI de dj δ n Q=de δ λ d=>smallI d/\n+2000<=sizeLine/\dj δ (n+2000) Q:=rfl
theorem zrp (i:Int):smallI (.int i)=(-10000000000000000000000000000000000000000 < i/\i < 10000000000000000000000000000000000000000):=rfl
end
end L4
open PySem PySem.Spec PyProof.Rows L2 L3 L4 L5
local macro_rules|`(tactic| walk_at "sc")=>`(tactic| exact ⟨rfl,rfl,rfl,by decide +kernel,rfl,by decide +kernel,by decide +kernel⟩)
local macro_rules|`(tactic| walk_at "csc")=>`(tactic| exact ⟨rfl,by decide +kernel,by decide +kernel,by decide +kernel,by decide +kernel⟩)
local macro_rules|`(tactic| walk_at "ds")=>do `(tactic| simp only [$(<- ("dStart tStart slotA List.map_cons List.map_nil List.length_cons List.length_nil Nat.reduceAdd Nat.reduceSub List.replicate List.cons_append List.nil_append".splitOn " ").toArray.mapM λ s=>`(Lean.Parser.Tactic.simpLemma| $(Lean.mkIdent s.toName):ident)),*])
local macro_rules|`(tactic| walk_at "cs")=>do `(tactic| simp only [$(<- ("cST shO List.map_cons List.map_nil List.replicate List.cons_append List.nil_append List.getD_cons_zero List.getD_cons_succ".splitOn " ").toArray.mapM λ s=>`(Lean.Parser.Tactic.simpLemma| $(Lean.mkIdent s.toName):ident)),*])
local macro_rules|`(tactic| walk_at "dd")=>do `(tactic| simp only [$(<- ("e_dF zkr zjl zyl e_dAs e_dG zwk zhl e_dJI zrp e_dC e_dOp e_dRep e_dUn zqs zas zet e_dTru e_dAnd e_dOr e_dNot e_dIfE ziq e_dNil zfr e_dTup e_dLst zhr zyp e_dCB e_dCF e_dIs zxk zvr e_dSl3 e_dIt zxs e_dZip zjt e_gN zrq zeq e_gT zos e_pFld e_pIx e_dPV e_dPE e_cE e_cF zcr e_dAsg e_dSet zjr e_dRet zft zqr e_dIf e_cBM e_dPut zmr e_cDK e_cDT e_cN e_dFld zrl e_dFrz e_aNil e_aD e_aB e_aO zzs zlr zyr znt e_eN zit zsp zik zxq zdm zql zzr zoo e_uNot e_uC e_dIfU zeo zms zbp zuq znp zpp e_dJN e_dJT zzl zmk fGet2 e_dVar zys e_pVar e_pAt0 e_pAtS e_mutS e_fzS zts zoq e_tyN1 e_tyN2 e_tyN3 e_tyN4 e_rDf e_rDl e_rDs znq zwq e_comp zdt e_for zus fAdd fCat fI fI0 fMul fRep fEq fNe fIx flatD fNeg fB fTru fLen fMax2 fMin2 fList fInt fSlF fIter fZip isT_ii isT_bi isT_ll isT_tt isT_ss nd_int zrr nd_tup nd_str nd_bl nd_non fzT vwT slT slot Sl.wth mApp fPut fGet fII keyD nFld nCls noM nSet nFII nIx noO noS oSlot oneO notFz ArgP.arg toD zpt tEnds exA oIx List.getElem?_cons_zero List.getElem?_cons_succ List.set_cons_zero List.set_cons_succ List.length_cons List.length_nil List.map_cons List.map_nil List.nil_append List.cons_append List.lookup putA setP getP beq_self_eq_true Nat.reduceAdd Nat.reduceSub Nat.reduceMul Int.reduceAdd Int.reduceSub Int.reduceMul Int.reduceNeg Int.reduceLT Int.reduceLE Int.reducePow Int.reduceToNat Nat.reducePow Nat.reduceLT Nat.reduceLeDiff Nat.reduceEqDiff Int.reduceEq Int.reduceMod Int.reduceDiv Int.reduceBEq Int.reduceBNe Int.reduceGT Int.reduceGE CDivW CPow sizeLine_eq decide_eq_true_eq decide_true decide_false Bool.not_true Bool.not_false Bool.not_eq_true' Bool.not_eq_eq_eq_not Bool.not_not decide_eq_false_iff_not decide_not true_and and_true if_true if_false Bool.false_eq_true reduceCtorEq ite_true ite_false not_false_eq_true not_true_eq_false ne_eq Option.some.injEq exists_eq_left' exists_eq_left Option.map_some Option.map_none Option.bind_some zx6 zz6 zh9 zee zjd zc7 zxe zhe zy8 zn7 zl7 zr8 zmd zkd zdf zae zs5 zk5 zh5 zo4 zv3 zk4 zub zu5 zo5 zt4 zw3 zr4 zwc zv5 zl5 zv4 zb4 zx4 ztc zq5 zqc zw4 zk3 zn4 zla zq4 zba zga zf3 zo3 zm8 zn3 zq9 zo8 zg3 zd3 zma zl4 zpa zca zi3 ze3 zmf znf zaf zjf zxd zzc zme zad zpb ztb zfc zz9 zw8 zwa zn6 zg6 zj6 zi6 zp5 za5 zy5 za8 zb8 ze8 zu8 zr7 zd6 zs7 zzd zke zce zgd zkc zja zyc zif zlf zvf zzf zqd zsc zie zec zqb zcd zyb zva zg8 zsa zvc zsb zgc zia zf8 zea zbd zic zka zv8 zna zac znc zfa zh8 zra zdd zoa zk9 zxa zy9 zi7 zs8 zd9 zj7 zk7 zua zg9 zu7".splitOn " ").toArray.mapM λ s=>`(Lean.Parser.Tactic.simpLemma| $(Lean.mkIdent s.toName):ident)),*])
local macro_rules|`(tactic| walk_at "dn")=>`(tactic| (refine ze0 λ J hJ=>?_;walk_at "dd";refine hJ _ ?_;clear hJ))
local macro_rules|`(tactic| walk_at "dns")=>`(tactic| repeat walk_at "dn")
namespace K09
open PySem PySem.Spec PyProof.Rows L2 L3 L4 L5
def top (i:Nat):Stmt:=PySem.Challenge.pw_vatyard_k09_letting_refused.main.body.getD i (.Pass ⟨0,0,0,0⟩)
abbrev zgk:Stmt:=zf2 (top 12) 0
abbrev zu1:Stmt:=zf2 (top 13) 0
abbrev zs1:Stmt:=zf2 (top 13) 1
abbrev zl2:Stmt:=zf2 (top 14) 0
abbrev zp2:Stmt:=zf2 (top 14) 1
abbrev zz1:Stmt:=zf2 (top 15) 0
abbrev zd2:Stmt:=zf2 (top 15) 1
abbrev zoc:Stmt:=top 16
abbrev zc1:Stmt:=zf2 (top 18) 0
abbrev za9:Stmt:=zf2 (top 18) 1
abbrev zg5:Stmt:=zf2 (top 18) 2
abbrev zk1:Stmt:=zf2 (top 18) 3
abbrev zx1:Stmt:=zf2 (top 18) 4
abbrev zf4:Stmt:=zf2 (top 18) 5
abbrev zn9:Stmt:=zf2 (top 18) 6
abbrev ze5:Stmt:=zf2 (top 18) 7
abbrev zq3:Stmt:=top 19
abbrev ze6:Stmt:=top 21
abbrev zm6:Stmt:=top 22
abbrev zf6:Stmt:=top 23
abbrev zu6:Stmt:=top 24
abbrev za6:Stmt:=top 25
abbrev zd4:Stmt:=top 26
abbrev zc5:Stmt:=top 27
abbrev zf5:Stmt:=top 28
abbrev zi2:Stmt:=top 29
abbrev zz2:Stmt:=top 30
abbrev zi9:Stmt:=top 31
abbrev zy1:Stmt:=top 32
abbrev zh4:Stmt:=top 33
abbrev zy2:Stmt:=top 34
abbrev ze2:Stmt:=top 35
abbrev zo9:Stmt:=top 36
abbrev zd5:Stmt:=top 37
abbrev s_law:Stmt:=top 38
inductive Gt where
|st (x:Int)|la (x:Int) (f:Nat)|ti (x y:Int) (t:Nat)
def Gt.d:Gt->D
|.st x=>.tuple [.str "steady",.int x]
|.la x f=>.tuple [.str "late",.int x,.int (f:Int)]
|.ti x y t=>.tuple [.str "tidal",.int x,.int y,.int (t:Int)]
def Gt.at:Gt->Nat->Int
|.st x,_=>x
|.la x f,m=>if f<=m then x else 0
|.ti x y t,m=>if m % t=0 then x else y
def Gt.ob (C1 C2 C3:Addr):Gt->L4.T
|.st x=>.ob C1 [("wide",.fz (.int x))]
|.la x f=>.ob C2 [("wide",.fz (.int x)),("since",.fz (.int (f:Int)))]
|.ti x y t=>.ob C3 [("wide",.fz (.int x)),("other",.fz (.int y)),("turn",.fz (.int (t:Int)))]
def Gt.ok:Gt->Prop
|.ti _ _ t=>0 < t/\t < 1000
|_=>True
section
variable {P:Program} {w:World} {K:Fg} {mg:Str->Option Value} {base:Heap} {jB jD jC:Addr}
def zw1 (C:Addr):DSpT:=λ as Q=>∃ x:Int,as=[.o (.ob C []),.d (.int x)]/\Q (.fz .none) (.ob C [("wide",.fz (.int x))])
def zk2 (C:Addr):DSpT:=λ as Q=>∃ x y:Int,as=[.o (.ob C []),.d (.int x),.d (.int y)]/\Q (.fz .none) (.ob C [("wide",.fz (.int x)),("since",.fz (.int y))])
def zb2 (C:Addr):DSpT:=λ as Q=>∃ x y z:Int,as=[.o (.ob C []),.d (.int x),.d (.int y),.d (.int z)]/\Q (.fz .none) (.ob C [("wide",.fz (.int x)),("other",.fz (.int y)),("turn",.fz (.int z))])
def zv0 (C:Addr):DSpT:=λ as Q=>∃ (x:Int) (m:Nat),as=[.b (.ob C [("wide",.fz (.int x))]),.d (.int (m:Int))]/\Q (.fz (.int (Gt.at (.st x) m))) (.fz .none)
def zz0 (C:Addr):DSpT:=λ as Q=>∃ (x:Int) (f m:Nat),as=[.b (.ob C [("wide",.fz (.int x)),("since",.fz (.int (f:Int)))]),.d (.int (m:Int))]/\Q (.fz (.int (Gt.at (.la x f) m))) (.fz .none)
def zy0 (C:Addr):DSpT:=λ as Q=>∃ (x y:Int) (t m:Nat),as=[.b (.ob C [("wide",.fz (.int x)),("other",.fz (.int y)),("turn",.fz (.int (t:Int)))]),.d (.int (m:Int))]/\0 < t/\t < 1000/\Q (.fz (.int (Gt.at (.ti x y t) m))) (.fz .none)
def zmc (C1 C2 C3:Addr):DSpT:=λ as Q=>∃ g:Gt,as=[.d g.d]/\Q (g.ob C1 C2 C3) (.fz .none)
def ztt:DSp:=λ ds Q=>∃ (g:Gt) (m:Nat),ds=[g.d,.int (m:Int)]/\g.ok/\Q (.int (g.at m))
theorem zr2:FnScope ["self", "wide"] ["self", "wide"] (zf0 zu1):=by walk_at "sc"
theorem zs6 (M:Md K mg) (cT:TopCls K "Steady" jB) (T:TopMeth K jB "__init__" "Steady.__init__" zu1) (kG:NoAttr K jB "wide"):MakeD P w K mg base "Steady" jB 1 ["self", "wide"] (spT K (zw1 jB)):=by
 have kZ:=cT.cls
 refine zeg M cT T zr2 (λ _ _ _ _ _ _ us hl=>by obtain ⟨_,_,rfl⟩:=ar2 hl;rfl) (len_T λ as Qd h=>by obtain ⟨_,rfl,_⟩:=h;rfl) (body_T ?_)
 intro f cdv A outer s H E hr
 have nd:=zr2.nd
 refine ⟨_,(dFld jB "wide" (cE (dVar 1)) (pVar 0)),(zh0 (ps_fld (pv 0) (pv 1) rfl)),(rs_fld kZ kG (RfE.c (rf_var 1)) (rp_var 0)),?_⟩
 rintro as Qd a ⟨x,rfl,q⟩
 walk_at "ds"
 walk_at "dd"
 exact ⟨_,rfl,q⟩
theorem zu3:FnScope ["self", "wide", "since"] ["self", "wide", "since"] (zf0 zl2):=by walk_at "sc"
theorem zk8 (M:Md K mg) (cT:TopCls K "Late" jD) (T:TopMeth K jD "__init__" "Late.__init__" zl2) (qC:NoAttr K jD "wide") (kO:NoAttr K jD "since"):MakeD P w K mg base "Late" jD 1 ["self", "wide", "since"] (spT K (zk2 jD)):=by
 have qH:=cT.cls
 refine zeg M cT T zu3 (λ _ _ _ _ _ _ us hl=>by obtain ⟨_,_,_,rfl⟩:=ar3 hl;rfl) (len_T λ as Qd h=>by obtain ⟨_,_,rfl,_⟩:=h;rfl) (body_T ?_)
 intro f cdv A outer s H E hr
 have nd:=zu3.nd
 refine ⟨_,(dSeq (dFld jD "wide" (cE (dVar 1)) (pVar 0))
   (dFld jD "since" (cE (dVar 2)) (pVar 0))),(zd0 (ps_fld (pv 0) (pv 1) rfl)
   (zh0 (ps_fld (pv 0) (pv 2) rfl))),(rs_seq (rs_fld qH qC (RfE.c (rf_var 1)) (rp_var 0))
   (rs_fld qH kO (RfE.c (rf_var 2)) (rp_var 0))),?_⟩
 rintro as Qd a ⟨x,y,rfl,q⟩
 walk_at "ds"
 walk_at "dn"
 walk_at "dd"
 exact ⟨_,rfl,q⟩
theorem zh3:FnScope ["self", "wide", "other", "turn"] ["self", "wide", "other", "turn"] (zf0 zz1):=by walk_at "sc"
theorem zt7 (M:Md K mg) (cT:TopCls K "Tidal" jC) (T:TopMeth K jC "__init__" "Tidal.__init__" zz1) (kQ:NoAttr K jC "wide") (kH:NoAttr K jC "other") (kR:NoAttr K jC "turn"):MakeD P w K mg base "Tidal" jC 1 ["self", "wide", "other", "turn"] (spT K (zb2 jC)):=by
 have kS:=cT.cls
 refine zeg M cT T zh3 (λ _ _ _ _ _ _ us hl=>by obtain ⟨_,_,_,_,rfl⟩:=ar4 hl;rfl) (len_T λ as Qd h=>by obtain ⟨_,_,_,rfl,_⟩:=h;rfl) (body_T ?_)
 intro f cdv A outer s H E hr
 have nd:=zh3.nd
 refine ⟨_,(dSeq (dFld jC "wide" (cE (dVar 1)) (pVar 0))
   (dSeq (dFld jC "other" (cE (dVar 2)) (pVar 0))
   (dFld jC "turn" (cE (dVar 3)) (pVar 0)))),(zd0 (ps_fld (pv 0) (pv 1) rfl)
   (zd0 (ps_fld (pv 0) (pv 2) rfl)
   (zh0 (ps_fld (pv 0) (pv 3) rfl)))),(rs_seq (rs_fld kS kQ (RfE.c (rf_var 1)) (rp_var 0))
   (rs_seq (rs_fld kS kH (RfE.c (rf_var 2)) (rp_var 0))
   (rs_fld kS kR (RfE.c (rf_var 3)) (rp_var 0)))),?_⟩
 rintro as Qd a ⟨x,y,z,rfl,q⟩
 walk_at "ds"
 walk_at "dn"
 walk_at "dn"
 walk_at "dd"
 exact ⟨_,rfl,q⟩
theorem zs2:FnScope ["self", "moment"] ["self", "moment"] (zf0 zs1):=by walk_at "sc"
theorem zb6 (kZ:Cls K jB) (T:TopMeth K jB "width_at" "Steady.width_at" zs1) (kG:NoAttr K jB "wide"):MethD P w K mg base jB "width_at" 1 ["self", "moment"] (spT K (zv0 jB)):=by
 refine zt5 kZ T zs2 (λ _ _ _ _ _ _ us hl=>by obtain ⟨_,_,rfl⟩:=ar2 hl;rfl) (len_T λ as Qd h=>by obtain ⟨_,_,rfl,_⟩:=h;rfl) (body_T ?_)
 intro f cdv A outer s H E hr
 have nd:=zs2.nd
 refine ⟨_,(dRet (cE (dPE (pFld jB "wide" (pVar 0))))),(zh0 (ps_ret (zs0 (K:=K) rfl (pv 0) rfl))),(rs_ret (RfE.c (RfP.e (rp_fld kZ kG (rp_var 0))))),?_⟩
 rintro as Qd a ⟨x,m,rfl,q⟩
 walk_at "ds"
 walk_at "dd"
 exact q
theorem za4:FnScope ["self", "moment"] ["self", "moment"] (zf0 zp2):=by walk_at "sc"
theorem zr9 (qH:Cls K jD) (T:TopMeth K jD "width_at" "Late.width_at" zp2) (qC:NoAttr K jD "wide") (kO:NoAttr K jD "since"):MethD P w K mg base jD "width_at" 1 ["self", "moment"] (spT K (zz0 jD)):=by
 refine zt5 qH T za4 (λ _ _ _ _ _ _ us hl=>by obtain ⟨_,_,rfl⟩:=ar2 hl;rfl) (len_T λ as Qd h=>by obtain ⟨_,_,_,rfl,_⟩:=h;rfl) (body_T ?_)
 intro f cdv A outer s H E hr
 have nd:=za4.nd
 refine ⟨_,(dRet (cE (dIfE (dTest (dOp fGe (dVarV 1) (dPV (pFld jD "since" (pVar 0))))) (dPE (pFld jD "wide" (pVar 0))) (dC (.int 0))))),(zh0 (ps_ret (zgj (zt0 op_ge (pv 1) (zs0 (K:=K) rfl (pv 0) rfl) (nomark _)) (zs0 (K:=K) rfl (pv 0) rfl) pe_int))),(rs_ret (RfE.c (rf_ifE (zp0 (rf_op r_ge (zb0 1) (RfP.v (rp_fld qH kO (rp_var 0))))) (RfP.e (rp_fld qH qC (rp_var 0))) rf_int))),?_⟩
 rintro as Qd a ⟨x,f,m,rfl,q⟩
 walk_at "ds"
 walk_at "dd"
 have q:Qd (.fz (.int (if f<=m then x else 0))) (.fz .none):=q
 refine two (λ h=>?_) λ h=>?_
 ·rw [if_pos (by lia)] at q;exact q
 ·rw [if_neg (by lia)] at q;exact q
theorem zc3:FnScope ["self", "moment"] ["self", "moment"] (zf0 zd2):=by walk_at "sc"
theorem zp7 (kS:Cls K jC) (T:TopMeth K jC "width_at" "Tidal.width_at" zd2) (kQ:NoAttr K jC "wide") (kH:NoAttr K jC "other") (kR:NoAttr K jC "turn"):MethD P w K mg base jC "width_at" 1 ["self", "moment"] (spT K (zy0 jC)):=by
 refine zt5 kS T zc3 (λ _ _ _ _ _ _ us hl=>by obtain ⟨_,_,rfl⟩:=ar2 hl;rfl) (len_T λ as Qd h=>by obtain ⟨_,_,_,_,rfl,_⟩:=h;rfl) (body_T ?_)
 intro f cdv A outer s H E hr
 have nd:=zc3.nd
 refine ⟨_,(dRet (cE (dIfE (dTest (dOp fEq (dOp fMod (dVarV 1) (dPV (pFld jC "turn" (pVar 0)))) (dC (.int 0)))) (dPE (pFld jC "wide" (pVar 0))) (dPE (pFld jC "other" (pVar 0)))))),(zh0 (ps_ret (zgj (zt0 (op_eqD (K:=K) rfl (Room.units hr)) (pe_op op_mod (pv 1) (zs0 (K:=K) rfl (pv 0) rfl)) pe_int (nomark _)) (zs0 (K:=K) rfl (pv 0) rfl) (zs0 (K:=K) rfl (pv 0) rfl)))),(rs_ret (RfE.c (rf_ifE (zp0 (rf_opH q_eq (RfV.h (RfE.v (rf_op r_mod (zb0 1) (RfP.v (rp_fld kS kR (rp_var 0)))))) (RfV.h (RfE.v rf_int)))) (RfP.e (rp_fld kS kQ (rp_var 0))) (RfP.e (rp_fld kS kH (rp_var 0)))))),?_⟩
 rintro as Qd a ⟨x,y,t,m,rfl,h0,h1,q⟩
 walk_at "ds"
 walk_at "dd"
 have q:Qd (.fz (.int (if m % t=0 then x else y))) (.fz .none):=q
 have e:((m:Int) % (t:Int)=0) ↔ m % t=0:=by rw [<- Int.natCast_emod];lia
 refine ⟨by lia,two (λ h=>?_) λ h=>?_⟩
 ·rw [if_pos (e.mp h)] at q;exact q
 ·rw [if_neg (λ z=>h (e.mpr z))] at q;exact q
theorem zfd:FnScope ["gate"] ["gate"] (zf0 zoc):=by walk_at "sc"
theorem zjj (M:Md K mg) (T:TopDef K "gate_of" zoc) (vU:MakeD P w K mg base "Tidal" jC 1 ["self", "wide", "other", "turn"] (spT K (zb2 jC))) (vS:MakeD P w K mg base "Steady" jB 1 ["self", "wide"] (spT K (zw1 jB))) (vX:MakeD P w K mg base "Late" jD 1 ["self", "wide", "since"] (spT K (zk2 jD))):Def P w K mg base "gate_of" 3 ["gate"] (spT K (zmc jB jD jC)):=by
 refine def_of M T zfd (λ _ _ _ _ _ _ us hl=>by obtain ⟨_,rfl⟩:=ar1 hl;rfl) (len_T λ as Qd h=>by obtain ⟨_,rfl,_⟩:=h;rfl) (body_T ?_)
 intro f cdv A outer s H E hr
 have nd:=zfd.nd
 refine ⟨_,(dSeq (dIf (dTest (dOp fEq (dOp fIx (dVarV 0) (dC (.int 0))) (dC (.str "steady")))) (dRet (cN (nMake jB (zw1 jB) (aD (dOp fIx (dVarV 0) (dC (.int 1))) aNil)))) dNext)
   (dSeq (dIf (dTest (dOp fEq (dOp fIx (dVarV 0) (dC (.int 0))) (dC (.str "late")))) (dRet (cN (nMake jD (zk2 jD) (aD (dOp fIx (dVarV 0) (dC (.int 1))) (aD (dOp fIx (dVarV 0) (dC (.int 2))) aNil))))) dNext)
   (dRet (cN (nMake jC (zb2 jC) (aD (dOp fIx (dVarV 0) (dC (.int 1))) (aD (dOp fIx (dVarV 0) (dC (.int 2))) (aD (dOp fIx (dVarV 0) (dC (.int 3))) aNil)))))))),(zd0 (ps_if (zt0 (op_eqD (K:=K) rfl (Room.units hr)) (pe_ix (ix_V (w:=w) (K:=K) (Room.units hr) rfl rfl) (pv 0) pe_int (λ _ _=>rfl)) pe_str (nomark _)) (zh0 (ps_ret (zed vS (Room.mono hr (by decide)) rfl (za0 (pe_ix (ix_V (w:=w) (K:=K) (Room.units hr) rfl rfl) (pv 0) pe_int (λ _ _=>rfl)) pa_nil)))) zq0)
   (zd0 (ps_if (zt0 (op_eqD (K:=K) rfl (Room.units hr)) (pe_ix (ix_V (w:=w) (K:=K) (Room.units hr) rfl rfl) (pv 0) pe_int (λ _ _=>rfl)) pe_str (nomark _)) (zh0 (ps_ret (zed vX (Room.mono hr (by decide)) rfl (za0 (pe_ix (ix_V (w:=w) (K:=K) (Room.units hr) rfl rfl) (pv 0) pe_int (λ _ _=>rfl)) (za0 (pe_ix (ix_V (w:=w) (K:=K) (Room.units hr) rfl rfl) (pv 0) pe_int (λ _ _=>rfl)) pa_nil))))) zq0)
   (zh0 (ps_ret (zed vU (Room.mono hr (by decide)) rfl (za0 (pe_ix (ix_V (w:=w) (K:=K) (Room.units hr) rfl rfl) (pv 0) pe_int (λ _ _=>rfl)) (za0 (pe_ix (ix_V (w:=w) (K:=K) (Room.units hr) rfl rfl) (pv 0) pe_int (λ _ _=>rfl)) (za0 (pe_ix (ix_V (w:=w) (K:=K) (Room.units hr) rfl rfl) (pv 0) pe_int (λ _ _=>rfl)) pa_nil)))))))),(rs_seq (rs_if (zp0 (rf_opH q_eq (RfV.h (RfE.v (rf_op r_ix (zb0 0) (RfE.v rf_int)))) (RfV.h (RfE.v rf_str)))) (rs_ret (RfN.c (zyg (at_d (rf_op r_ix (zb0 0) (RfE.v rf_int)) at_nil)))) zr0)
   (rs_seq (rs_if (zp0 (rf_opH q_eq (RfV.h (RfE.v (rf_op r_ix (zb0 0) (RfE.v rf_int)))) (RfV.h (RfE.v rf_str)))) (rs_ret (RfN.c (zyg (at_d (rf_op r_ix (zb0 0) (RfE.v rf_int)) (at_d (rf_op r_ix (zb0 0) (RfE.v rf_int)) at_nil))))) zr0)
   (rs_ret (RfN.c (zyg (at_d (rf_op r_ix (zb0 0) (RfE.v rf_int)) (at_d (rf_op r_ix (zb0 0) (RfE.v rf_int)) (at_d (rf_op r_ix (zb0 0) (RfE.v rf_int)) at_nil)))))))),?_⟩
 rintro as Qd a ⟨g,rfl,q⟩
 cases g with
|st x =>
  unfold Gt.d
  walk_at "ds"
  refine ze0 λ J hJ=>?_
  walk_at "dd"
  refine ⟨_,rfl,?_⟩
  walk_at "dd"
  exact ⟨_,rfl,x,rfl,trivial,q⟩
|la x f =>
  unfold Gt.d
  walk_at "ds"
  refine ze0 λ J hJ=>?_
  walk_at "dd"
  refine ⟨_,rfl,?_⟩
  walk_at "dd"
  rw [if_neg (by decide +kernel)]
  refine hJ _ ?_
  clear hJ
  refine ze0 λ J hJ=>?_
  walk_at "dd"
  refine ⟨_,rfl,?_⟩
  walk_at "dd"
  exact ⟨_,rfl,_,rfl,x,f,rfl,trivial,q⟩
|ti x y t =>
  unfold Gt.d
  walk_at "ds"
  refine ze0 λ J hJ=>?_
  walk_at "dd"
  refine ⟨_,rfl,?_⟩
  walk_at "dd"
  rw [if_neg (by decide +kernel)]
  refine hJ _ ?_
  clear hJ
  refine ze0 λ J hJ=>?_
  walk_at "dd"
  refine ⟨_,rfl,?_⟩
  walk_at "dd"
  rw [if_neg (by decide +kernel)]
  refine hJ _ ?_
  clear hJ
  walk_at "dd"
  exact ⟨_,rfl,_,rfl,_,rfl,x,y,t,rfl,trivial,q⟩
end
structure Pi where
 u:Nat
 v:Nat
 len:Nat
 pr:Int
 g:Gt
def Pi.d (p:Pi):D:=.tuple [.int (p.u:Int),.int (p.v:Int),.int (p.len:Int),.int p.pr,p.g.d]
theorem ixN_nt {n k:Nat} (h:k < n):ixN n ((k:Nat):Int)=some k:=by
 unfold ixN
 rw [if_pos (by lia),if_pos (by lia)];simp
structure Va where
 nm:Str
 room:Int
 fill:Int
def Va.d (v:Va):D:=.tuple [.str v.nm,.int v.room,.int v.fill]
def pS (C C1 C2 C3:Addr) (rooms lying:List Int) (ps:List Pi) (m:Nat) (en:List Int) (kvs:List (List Key×D)):L4.T :=
 .ob C [("rooms",.li (rooms.map .int)),("lying",.li (lying.map .int)),("pipes",.fz (.list (ps.map Pi.d))),("gates",.ls (ps.map λ p=>p.g.ob C1 C2 C3)),("moment",.fz (.int (m:Int))),("entered",.li (en.map .int)),("coming",.dt kvs)]
section
variable {P:Program} {w:World} {K:Fg} {mg:Str->Option Value} {base:Heap} {jB jD jC jA:Addr}
def zm2 (C C1 C2 C3:Addr):DSpT:=λ as Q=>∃ (vs:List Va) (ps:List Pi),as=[.o (.ob C []),.d (.tuple [.list (vs.map Va.d),.list (ps.map Pi.d)])]/\vs.length<=12/\ps.length<=24 /\
 Q (.fz .none) (pS C C1 C2 C3 (vs.map Va.room) (vs.map Va.fill) ps 0 (List.replicate ps.length 0) [])
def zx2 (C C1 C2 C3:Addr):DSpT:=λ as Q=>∃ (rooms lying:List Int) (ps:List Pi) (m:Nat) (en:List Int) (kvs:List (List Key×D)) (k:Nat) (p:Pi) (e:Int),as=[.b (pS C C1 C2 C3 rooms lying ps m en kvs),.d (.int (k:Int))]/\ps[k]?=some p/\en[k]?=some e/\p.g.ok/\ps.length<=24/\Q (.fz (.int (p.g.at m - e))) (.fz .none)
def zy4 (C C1 C2 C3:Addr):DSpT:=λ as Q=>∃ (rooms lying:List Int) (ps:List Pi) (m:Nat) (en:List Int) (kvs:List (List Key×D)),as=[.b (pS C C1 C2 C3 rooms lying ps m en kvs)]/\Q (.fz (.list (lying.map .int))) (.fz .none)
def zq6 (C C1 C2 C3:Addr):DSpT:=λ as Q=>∃ (rooms lying:List Int) (ps:List Pi) (m:Nat) (en:List Int) (kvs:List (List Key×D)),as=[.b (pS C C1 C2 C3 rooms lying ps m en kvs)]/\rooms.length=lying.length/\rooms.length<=12/\(∀ (i:Nat) r y,rooms[i]?=some r->lying[i]?=some y->y<=r)/\Q (.fz (.list [])) (.fz .none)
theorem zw6:FnScope ["self"] ["self"] (zf0 zg5):=by walk_at "sc"
theorem zld (jG:Cls K jA) (T:TopMeth K jA "holds" "Play.holds" zg5) (qA:mg "list"=none) (jO:NoAttr K jA "lying"):MethD P w K mg base jA "holds" 1 ["self"] (spT K (zy4 jA jB jD jC)):=by
 refine zt5 jG T zw6 (λ _ _ _ _ _ _ us hl=>by obtain ⟨_,rfl⟩:=ar1 hl;rfl) (len_T λ as Qd h=>by obtain ⟨_,_,_,_,_,_,rfl,_⟩:=h;rfl) (body_T ?_)
 intro f cdv A outer s H E hr
 have nd:=zw6.nd
 refine ⟨_,(dRet (cE (dF (dCF fList (dCons (dPV (pFld jA "lying" (pVar 0))) dNil))))),(zh0 (ps_ret (zw2 (zq2 (K:=K) rfl) rfl qA zg7 (za0 (zs0 (K:=K) rfl (pv 0) rfl) pa_nil)))),(rs_ret (RfE.c (RfF.e (rf_cf c_list (zx0 (RfP.v (rp_fld jG jO (rp_var 0))) rw_nil))))),?_⟩
 rintro as Qd a ⟨rooms,lying,ps,m,en,kvs,rfl,q⟩
 unfold pS
 walk_at "ds"
 walk_at "dd"
 exact q
theorem zx9:FnScope ["self"] ["self"] (zf0 zf4):=by walk_at "sc"
theorem zwf (jG:Cls K jA) (T:TopMeth K jA "full" "Play.full" zf4) (qD:mg "enumerate"=none) (kT:NoAttr K jA "rooms") (jO:NoAttr K jA "lying"):MethD P w K mg base jA "full" 1 ["self"] (spT K (zq6 jA jB jD jC)):=by
 refine zt5 jG T zx9 (λ _ _ _ _ _ _ us hl=>by obtain ⟨_,rfl⟩:=ar1 hl;rfl) (len_T λ as Qd h=>by obtain ⟨_,_,_,_,_,_,rfl,_⟩:=h;rfl) (body_T ?_)
 intro f cdv A outer s H E hr
 have nd:=zx9.nd
 refine ⟨_,(dRet (cE (dF (dComp (dEnum (dCons (dPV (pFld jA "rooms" (pVar 0))) dNil)) 2 [0] (gT 2 (gsCons (gN 0) (gsCons (gN 1) gsNil))) (dTest (dOp fGt (dOp fIx (dPV (pFld jA "lying" (pVar 2))) (dVarV 0)) (dVarV 1))) (dVar 0))))),(zh0 (ps_ret (zx3 (sc:=zf0 zf4) (N:=["self"]) (own:=["vat", "room"]) (ix:=[0]) rfl rfl rfl (by walk_at "csc") (zom (K:=K) rfl rfl qD (za0 (zs0 (K:=K) rfl (pv 0) rfl) pa_nil)) (λ _ _ _ _=>⟨(zbe (K:=K) (n:=2) rfl rfl (zj2 (ze1 (i:=0) (show (["vat", "room", "self"]:List Str).Nodup by decide +kernel) rfl (by first|exact Or.inl rfl|exact Or.inr rfl)) (zj2 (ze1 (i:=1) (show (["vat", "room", "self"]:List Str).Nodup by decide +kernel) rfl (by first|exact Or.inl rfl|exact Or.inr rfl)) zfe))),(zwn (zt0 op_gt (pe_ix (ix_V (w:=w) (K:=K) (Room.units hr) rfl rfl) (zs0 (K:=K) rfl (pv 2) rfl) (pv 0) (λ _ _=>rfl)) (pv 1) (nomark _))),(pv 0)⟩)))),(rs_ret (RfE.c (RfF.e (zs4 (zws (zx0 (RfP.v (rp_fld jG kT (rp_var 0))) rw_nil)) (rg_tup (zs3 (zj0 (i:=0) (n:=2) (by decide)) (zs3 (zj0 (i:=1) (n:=2) (by decide)) zcg))) (zp0 (rf_op r_gt (RfE.v (rf_op r_ix (RfP.v (rp_fld jG jO (rp_var 2))) (zb0 0))) (zb0 1))) (rf_var 0))))),?_⟩
 rintro as Qd a ⟨rooms,lying,ps,m,en,kvs,rfl,hl,h12,hb,q⟩
 unfold pS
 walk_at "ds"
 walk_at "dd"
 rw [zeh]
 refine compF (λ _=>none) (by rw [sizeLine_eq,List.length_mapIdx];lia) (λ x hx=>?_) ?_
 ·obtain ⟨i,r⟩:=x
  obtain ⟨j,hj,ej⟩:=List.mem_mapIdx.mp hx
  cases ej
  have ly:i < lying.length:=by lia
  have gl:atI (lying.map PyData.int) ((i:Nat):Int)=some (.int lying[i]):=at_nat (by lia) (by rw [Int.toNat_natCast,List.getElem?_map,List.getElem?_eq_getElem ly];rfl)
  have hh:=hb i _ _ (List.getElem?_eq_getElem hj) (List.getElem?_eq_getElem ly)
  walk_at "cs"
  walk_at "dd"
  refine ⟨_,gl,?_⟩
  walk_at "dd"
  rw [if_neg (by lia)];trivial
 ·have:∀ l:List (Nat×Int),l.filterMap (λ _=>(none:Option D))=[]:=λ l=>by simp
  rw [this];exact q
theorem zr3:FnScope ["self", "yard"] ["self", "yard"] (zf0 zc1):=by walk_at "sc"
theorem zf9 (M:Md K mg) (cT:TopCls K "Play" jA) (T:TopMeth K jA "__init__" "Play.__init__" zc1) (kJ:mg "len"=none) (qA:mg "list"=none) (vO:Def P w K mg base "gate_of" 3 ["gate"] (spT K (zmc jB jD jC))) (kT:NoAttr K jA "rooms") (jO:NoAttr K jA "lying") (jN:NoAttr K jA "pipes") (jZ:NoAttr K jA "gates") (jL:NoAttr K jA "moment") (jM:NoAttr K jA "entered") (jQ:NoAttr K jA "coming"):MakeD P w K mg base "Play" jA 4 ["self", "yard"] (spT K (zm2 jA jB jD jC)):=by
 have jG:=cT.cls
 refine zeg M cT T zr3 (λ _ _ _ _ _ _ us hl=>by obtain ⟨_,_,rfl⟩:=ar2 hl;rfl) (len_T λ as Qd h=>by obtain ⟨_,_,rfl,_⟩:=h;rfl) (body_T ?_)
 intro f cdv A outer s H E hr
 have nd:=zr3.nd
 refine ⟨_,(dSeq (dFld jA "rooms" (cF (dComp (dIt (dOp fIx (dVarV 1) (dC (.int 0)))) 1 [] (gN 0) dTrue (dOp fIx (dVarV 0) (dC (.int 1))))) (pVar 0))
   (dSeq (dFld jA "lying" (cF (dComp (dIt (dOp fIx (dVarV 1) (dC (.int 0)))) 1 [] (gN 0) dTrue (dOp fIx (dVarV 0) (dC (.int 2))))) (pVar 0))
   (dSeq (dFld jA "pipes" (cE (dF (dCF fList (dCons (dOp fIx (dVarV 1) (dC (.int 1))) dNil)))) (pVar 0))
   (dSeq (dFld jA "gates" (cN (nComp (dIt (dOp fIx (dVarV 1) (dC (.int 1)))) 1 [] (gN 0) (nCall (zmc jB jD jC) (aD (dOp fIx (dVarV 0) (dC (.int 4))) aNil)))) (pVar 0))
   (dSeq (dFld jA "moment" (cE (dC (.int 0))) (pVar 0))
   (dSeq (dFld jA "entered" (cF (dRep (dLst (dCons (dC (.int 0)) dNil)) (dCB fLen (dCons (dPV (pFld jA "pipes" (pVar 0))) dNil)))) (pVar 0))
   (dFld jA "coming" cDT (pVar 0)))))))),(zd0 (ps_fld (pv 0) (zx3 (sc:=zf0 zc1) (N:=["self", "yard"]) (own:=["vat"]) (ix:=[]) rfl rfl rfl (by walk_at "csc") (pi_W (K:=K) rfl (pe_ix (ix_V (w:=w) (K:=K) (Room.units hr) rfl rfl) (pv 1) pe_int (λ _ _=>rfl))) (λ _ _ _ _=>⟨(ze1 (i:=0) (show (["vat"]:List Str).Nodup by decide +kernel) rfl (by first|exact Or.inl rfl|exact Or.inr rfl)),zp3,(pe_ix (ix_V (w:=w) (K:=K) (Room.units hr) rfl rfl) (pv 0) pe_int (λ _ _=>rfl))⟩)) rfl)
   (zd0 (ps_fld (pv 0) (zx3 (sc:=zf0 zc1) (N:=["self", "yard"]) (own:=["vat"]) (ix:=[]) rfl rfl rfl (by walk_at "csc") (pi_W (K:=K) rfl (pe_ix (ix_V (w:=w) (K:=K) (Room.units hr) rfl rfl) (pv 1) pe_int (λ _ _=>rfl))) (λ _ _ _ _=>⟨(ze1 (i:=0) (show (["vat"]:List Str).Nodup by decide +kernel) rfl (by first|exact Or.inl rfl|exact Or.inr rfl)),zp3,(pe_ix (ix_V (w:=w) (K:=K) (Room.units hr) rfl rfl) (pv 0) pe_int (λ _ _=>rfl))⟩)) rfl)
   (zd0 (ps_fld (pv 0) (zw2 (zq2 (K:=K) rfl) rfl qA zg7 (za0 (pe_ix (ix_V (w:=w) (K:=K) (Room.units hr) rfl rfl) (pv 1) pe_int (λ _ _=>rfl)) pa_nil)) rfl)
   (zd0 (ps_fld (pv 0) (zx3 (sc:=zf0 zc1) (N:=["self", "yard"]) (own:=["pipe"]) (ix:=[]) rfl rfl rfl (by walk_at "csc") (pi_W (K:=K) rfl (pe_ix (ix_V (w:=w) (K:=K) (Room.units hr) rfl rfl) (pv 1) pe_int (λ _ _=>rfl))) (λ _ _ _ _=>⟨(ze1 (i:=0) (show (["pipe"]:List Str).Nodup by decide +kernel) rfl (by first|exact Or.inl rfl|exact Or.inr rfl)),zp3,(zk0 vO (Room.mono hr (by decide)) rfl (za0 (pe_ix (ix_V (w:=w) (K:=K) (Room.units hr) rfl rfl) (pv 0) pe_int (λ _ _=>rfl)) pa_nil))⟩)) rfl)
   (zd0 (ps_fld (pv 0) pe_int rfl)
   (zd0 (ps_fld (pv 0) (pe_op zm1 (zl1 (za0 pe_int pa_nil)) (zl0 (zi1 (K:=K) rfl) rfl kJ bt_len (za0 (zs0 (K:=K) rfl (pv 0) rfl) pa_nil))) rfl)
   (zh0 (ps_fld (pv 0) zfo rfl)))))))),(rs_seq (rs_fld jG kT (RfF.c (zs4 (rj_of (RfE.v (rf_op r_ix (zb0 1) (RfE.v rf_int)))) (zj0 (i:=0) (n:=1) (by decide)) zb7 (rf_op r_ix (zb0 0) (RfE.v rf_int)))) (rp_var 0))
   (rs_seq (rs_fld jG jO (RfF.c (zs4 (rj_of (RfE.v (rf_op r_ix (zb0 1) (RfE.v rf_int)))) (zj0 (i:=0) (n:=1) (by decide)) zb7 (rf_op r_ix (zb0 0) (RfE.v rf_int)))) (rp_var 0))
   (rs_seq (rs_fld jG jN (RfE.c (RfF.e (rf_cf c_list (zx0 (RfE.v (rf_op r_ix (zb0 1) (RfE.v rf_int))) rw_nil)))) (rp_var 0))
   (rs_seq (rs_fld jG jZ (RfN.c (zir (rj_of (RfE.v (rf_op r_ix (zb0 1) (RfE.v rf_int)))) (zj0 (i:=0) (n:=1) (by decide)) (zvi (at_d (rf_op r_ix (zb0 0) (RfE.v rf_int)) at_nil)))) (rp_var 0))
   (rs_seq (rs_fld jG jL (RfE.c rf_int) (rp_var 0))
   (rs_seq (rs_fld jG jM (RfF.c (rf_rep (rf_lst (zc0 rf_int ra_nil)) (rf_cb c_len (zx0 (RfP.v (rp_fld jG jN (rp_var 0))) rw_nil)))) (rp_var 0))
   (rs_fld jG jQ rc_dt (rp_var 0)))))))),?_⟩
 rintro as Qd a ⟨vs,ps,rfl,hv,hp,q⟩
 walk_at "ds"
 refine ze0 λ J hJ=>?_
 walk_at "dd"
 refine ⟨_,rfl,?_⟩
 walk_at "dd"
 refine compM (λ v=>.int v.room) (by rw [sizeLine_eq];lia) (λ v _=>?_) (hJ _ ?_)
 ·unfold Va.d
  walk_at "cs"
  walk_at "dd"
  exact ⟨_,rfl,rfl⟩
 clear hJ
 refine ze0 λ J hJ=>?_
 walk_at "dd"
 refine ⟨_,rfl,?_⟩
 walk_at "dd"
 refine compM (λ v=>.int v.fill) (by rw [sizeLine_eq];lia) (λ v _=>?_) (hJ _ ?_)
 ·unfold Va.d
  walk_at "cs"
  walk_at "dd"
  exact ⟨_,rfl,rfl⟩
 clear hJ
 refine ze0 λ J hJ=>?_
 walk_at "dd"
 refine ⟨_,rfl,?_⟩
 walk_at "dd"
 refine hJ _ ?_
 clear hJ
 refine ze0 λ J hJ=>?_
 walk_at "dd"
 refine ⟨_,rfl,?_⟩
 walk_at "dd"
 refine ncompM (λ p=>p.g.ob jB jD jC) (by rw [sizeLine_eq];lia) (λ p _=>?_) (hJ _ ?_)
 ·unfold Pi.d
  walk_at "cs"
  walk_at "dd"
  exact ⟨_,rfl,p.g,rfl,rfl⟩
 clear hJ
 walk_at "dn"
 refine ze0 λ J hJ=>?_
 walk_at "dd"
 rw [List.length_map,Int.toNat_natCast,List.flatten_replicate_singleton]
 refine ⟨by lia,by lia,by lia,hJ _ ?_⟩
 clear hJ
 walk_at "dd"
 refine ⟨_,rfl,?_⟩
 unfold pS at q
 rw [List.map_map,List.map_map,List.map_replicate] at q
 exact q
theorem zq1:FnScope ["self", "pipe"] ["self", "pipe"] (zf0 zx1):=by walk_at "sc"
theorem zda (jG:Cls K jA) (T:TopMeth K jA "room_in" "Play.room_in" zx1) (kJ:mg "len"=none) (qH:Cls K jD) (kZ:Cls K jB) (kS:Cls K jC) (jL:NoAttr K jA "moment") (jM:NoAttr K jA "entered") (jN:NoAttr K jA "pipes") (jZ:NoAttr K jA "gates") (kE:MethD P w K mg base jB "width_at" 1 ["self", "moment"] (spT K (zv0 jB))) (kM:MethD P w K mg base jD "width_at" 1 ["self", "moment"] (spT K (zz0 jD))) (kI:MethD P w K mg base jC "width_at" 1 ["self", "moment"] (spT K (zy0 jC))):MethD P w K mg base jA "room_in" 2 ["self", "pipe"] (spT K (zx2 jA jB jD jC)):=by
 refine zt5 jG T zq1 (λ _ _ _ _ _ _ us hl=>by obtain ⟨_,_,rfl⟩:=ar2 hl;rfl) (len_T λ as Qd h=>by obtain ⟨_,_,_,_,_,_,_,_,_,rfl,_⟩:=h;rfl) (body_T ?_)
 intro f cdv A outer s H E hr
 have nd:=zq1.nd
 refine ⟨_,(dSeq (dIf (dNot (dTest (dChain fLe fLt (dC (.int 0)) (dVar 1) (dCB fLen (dCons (dPV (pFld jA "pipes" (pVar 0))) dNil))))) dDead dNext)
   (dRet (cE (dOp fSub (eN (nMethP "width_at" [(jB,(zv0 jB)),(jD,(zz0 jD)),(jC,(zy0 jC))] (pIx (pFld jA "gates" (pVar 0)) (dVar 1)) (dCons (dPE (pFld jA "moment" (pVar 0))) dNil))) (dOp fIx (dPV (pFld jA "entered" (pVar 0))) (dVarV 1)))))),(zd0 (ps_if (pt_not (zgg op_le op_lt pe_int (pv 1) (zl0 (zi1 (K:=K) rfl) rfl kJ bt_len (za0 (zs0 (K:=K) rfl (pv 0) rfl) pa_nil)))) (zh0 zzm) zq0)
   (zh0 (ps_ret (pe_op op_sub (znj (P:=P) (w:=w) (K:=K) (mg:=mg) (base:=base) (k:=1) rfl rfl rfl rfl rfl (Room.mono hr (by decide)) (pe_ix (ix_V (w:=w) (K:=K) (Room.units hr) rfl rfl) (zs0 (K:=K) rfl (pv 0) rfl) (pv 1) (λ _ _=>rfl)) (za0 (zs0 (K:=K) rfl (pv 0) rfl) pa_nil)) (pe_ix (ix_V (w:=w) (K:=K) (Room.units hr) rfl rfl) (zs0 (K:=K) rfl (pv 0) rfl) (pv 1) (λ _ _=>rfl)))))),(rs_seq (rs_if (rf_not (zp0 (zse r_le r_lt rf_int (rf_var 1) (rf_cb c_len (zx0 (RfP.v (rp_fld jG jN (rp_var 0))) rw_nil))))) zhn zr0)
   (rs_ret (RfE.c (rf_op r_sub (RfE.v (RfN.ex (zfj (tab:=[(jB,(zv0 jB)),(jD,(zz0 jD)),(jC,(zy0 jC))]) (tab3 ⟨_,kE⟩ ⟨_,kM⟩ ⟨_,kI⟩) (rp_ix (rp_fld jG jZ (rp_var 0)) (rf_var 1)) (zc0 (RfP.e (rp_fld jG jL (rp_var 0))) ra_nil)))) (RfE.v (rf_op r_ix (RfP.v (rp_fld jG jM (rp_var 0))) (zb0 1))))))),?_⟩
 rintro as Qd a ⟨rooms,lying,ps,m,en,kvs,k,p,e,rfl,hk,he,ok,hl,q⟩
 unfold pS
 walk_at "ds"
 refine ze0 λ J hJ=>?_
 walk_at "dd"
 have lk:=(List.getElem?_eq_some_iff.mp hk).1
 rw [List.length_map,if_pos (by lia),if_neg (by lia)]
 refine hJ _ ?_
 clear hJ
 walk_at "dd"
 refine ⟨k,_,ixN_nt (by rw [List.length_map];exact lk),by rw [List.getElem?_map,hk];rfl,?_⟩
 have ge:atI (en.map PyData.int) ((k:Nat):Int)=some (.int e):=at_nat (by lia) (by rw [Int.toNat_natCast,List.getElem?_map,he];rfl)
 obtain ⟨u,v,ln,pr,g⟩:=p
 have fin:∀ x:Int,x=g.at m->∃ d,atI (en.map PyData.int) ((k:Nat):Int)=some d/\fSub (.int x) d λ d=>Qd (.fz d) (.fz .none):=λ x hx=>⟨_,ge,by rw [hx];exact q⟩
 cases g with
|st x =>
  unfold Gt.ob
  walk_at "dd"
  exact ⟨_,List.mem_cons_self,x,m,rfl,fin _ rfl⟩
|la x f =>
  unfold Gt.ob
  walk_at "dd"
  exact ⟨_,List.mem_cons_of_mem _ List.mem_cons_self,x,f,m,rfl,fin _ rfl⟩
|ti x y t =>
  unfold Gt.ob
  walk_at "dd"
  exact ⟨_,List.mem_cons_of_mem _ (List.mem_cons_of_mem _ List.mem_cons_self),x,y,t,m,rfl,ok.1,ok.2,fin _ rfl⟩
end
def kTI (t:Int) (i:Nat):List Key:=[.inl t,.inl (i:Int)]
def cm (kvs:List (List Key×D)) (t:Int) (i:Nat):Int:=match getA kvs (kTI t i) with
|some (.int c)=>c
|_=>0
def AllI (kvs:List (List Key×D)):Prop:=∀ k d,getA kvs k=some d->∃ c,d=.int c
def inc (l:List Int) (v:Nat) (c:Int):List Int:=l.set v (l.getD v 0+c)
def arrL (ps:List Pi) (kvs:List (List Key×D)) (t:Int):Nat->List Int->List Int
|0,l=>l
|n+1,l=>inc (arrL ps kvs t n l) ((ps[n]?).map Pi.v |>.getD 0) (cm kvs t n)
def arrK (kvs:List (List Key×D)) (t:Int):Nat->List (List Key×D)
|0=>kvs
|n+1=>dropA (arrK kvs t n) (kTI t n)
theorem zxb {κ:Type} [DecidableEq κ] (k k':κ):∀ kvs:List (κ×D),getA (dropA kvs k) k'=if k=k' then none else getA kvs k'
|[]=>by unfold dropA getA;simp
|(a,d) :: r=>by
  have ih:=zxb k k' r
  unfold dropA at ih ⊢
  by_cases e:a=k
  ·rw [List.filter_cons_of_neg (by simp [e]),ih,zw5,e]
   split <;> rfl
  ·rw [List.filter_cons_of_pos (by simp [e]),zw5,zw5,ih]
   by_cases f:a=k'
   ·subst f;rw [if_pos rfl,if_neg (λ z=>e z.symm),if_pos rfl]
   ·rw [if_neg f,if_neg f]
theorem zwm {t t':Int} {i i':Nat} (h:kTI t i=kTI t' i'):t=t'/\i=i':=by
 unfold kTI at h
 injection h with h1 h2
 injection h1 with h1
 injection h2 with h2 _
 injection h2 with h2
 exact ⟨h1,by lia⟩
theorem zih (kvs:List (List Key×D)) (t:Int) (t':Int) (i:Nat):∀ n,getA (arrK kvs t n) (kTI t' i)=if t'=t/\i < n then none else getA kvs (kTI t' i)
|0=>by rw [if_neg (by lia)];rfl
|n+1=>by
  show getA (dropA (arrK kvs t n) (kTI t n)) (kTI t' i)=_
  rw [zxb,zih kvs t t' i n]
  by_cases e:kTI t n=kTI t' i
  ·obtain ⟨e1,e2⟩:=zwm e
   rw [if_pos e,if_pos ⟨e1.symm,by lia⟩]
  ·rw [if_neg e]
   by_cases f:t'=t/\i < n
   ·rw [if_pos f,if_pos ⟨f.1,by lia⟩]
   ·rw [if_neg f,if_neg (λ z=>?_)]
    refine f ⟨z.1,?_⟩
    have:i≠n:=λ y=>e (by rw [z.1,y])
    lia
theorem zsk {kvs:List (List Key×D)} (h:AllI kvs) (k:List Key):AllI (dropA kvs k):=λ k' d e=>by
 rw [zxb] at e
 split at e
 ·cases e
 ·exact h k' d e
theorem zbh {kvs:List (List Key×D)} (h:AllI kvs) (t:Int):∀ n,AllI (arrK kvs t n)
|0=>h
|n+1=>zsk (zbh h t n) _
theorem cm_get {kvs:List (List Key×D)} (h:AllI kvs) (t:Int) (i:Nat):(getA kvs (kTI t i)).getD (.int 0)=.int (cm kvs t i):=by
 unfold cm
 cases e:getA kvs (kTI t i) with
|none=>rfl
|some d =>
  obtain ⟨c,rfl⟩:=h _ _ e
  rfl
theorem zkt (kvs:List (List Key×D)) (t:Int) (n:Nat):cm (arrK kvs t n) t n=cm kvs t n:=by
 unfold cm
 rw [zih,if_neg (by lia)]
theorem zar (l:List Int) (v:Nat) (c:Int):(inc l v c).length=l.length:=by unfold inc;simp
theorem zli (ps:List Pi) (kvs:List (List Key×D)) (t:Int) (l:List Int):∀ n,(arrL ps kvs t n l).length=l.length
|0=>rfl
|n+1=>by
  show (inc _ _ _).length=_
  rw [zar,zli ps kvs t l n]
section
variable {P:Program} {w:World} {K:Fg} {mg:Str->Option Value} {base:Heap} {jB jD jC jA:Addr}
def NoOver (rooms lying:List Int):Prop:=rooms.length=lying.length/\rooms.length<=12/\∀ (i:Nat) r y,rooms[i]?=some r->lying[i]?=some y->y<=r
def zl3 (C C1 C2 C3:Addr):DSpT:=λ as Q=>∃ (rooms lying:List Int) (ps:List Pi) (m:Nat) (en:List Int) (kvs:List (List Key×D)),as=[.b (pS C C1 C2 C3 rooms lying ps m en kvs)]/\NoOver rooms lying/\Q (.fz .none) (.fz .none)
def zz4 (C C1 C2 C3:Addr):DSpT:=λ as Q=>∃ (rooms lying:List Int) (ps:List Pi) (m:Nat) (en:List Int) (kvs:List (List Key×D)),as=[.o (pS C C1 C2 C3 rooms lying ps m en kvs)]/\NoOver rooms lying/\ps.length<=24/\(∀ p∈ps,p.v < lying.length)/\AllI kvs /\
 Q (.fz (.int ((m+1:Nat):Int))) (pS C C1 C2 C3 rooms (arrL ps kvs ((m+1:Nat):Int) ps.length lying) ps (m+1) (List.replicate ps.length 0) (arrK kvs ((m+1:Nat):Int) ps.length))
theorem zj5:FnScope ["play", "vats"] ["play"] (zf0 zq3):=by walk_at "sc"
theorem zbc (M:Md K mg) (T:TopDef K "refuse_full" zq3) (jG:Cls K jA) (uR:MethD P w K mg base jA "full" 1 ["self"] (spT K (zq6 jA jB jD jC))):Def P w K mg base "refuse_full" 2 ["play"] (spT K (zl3 jA jB jD jC)):=by
 refine def_of M T zj5 (λ _ _ _ _ _ _ us hl=>by obtain ⟨_,rfl⟩:=ar1 hl;rfl) (len_T λ as Qd h=>by obtain ⟨_,_,_,_,_,_,rfl,_⟩:=h;rfl) (body_T ?_)
 intro f cdv A outer s H E hr
 have nd:=zj5.nd
 refine ⟨_,(dSeq (dSet 1 (cMeth false jA "full" (zq6 jA jB jD jC) (pVar 0) aNil))
   (dIf (dTru (dVarV 1)) dDead dNext)),(zd0 (ps_set (i:=1) nd rfl (by first|exact Or.inl rfl|exact Or.inr rfl) (zi5 uR (Room.mono hr (by decide)) (pv 0)))
   (zh0 (ps_if (zh2 (K:=K) rfl (pv 1) (λ _=>rfl)) (zh0 zzm) zq0))),(rs_seq (rs_set (zgn false (rp_var 0) at_nil))
   (rs_if (rf_tru (zb0 1)) zhn zr0)),?_⟩
 rintro as Qd a ⟨rooms,lying,ps,m,en,kvs,rfl,⟨h1,h2,h3⟩,q⟩
 unfold pS
 walk_at "ds"
 refine ze0 λ J hJ=>?_
 walk_at "dd"
 refine ⟨rooms,lying,ps,m,en,kvs,rfl,h1,h2,h3,?_⟩
 walk_at "dd"
 refine hJ _ ?_
 clear hJ
 walk_at "dd"
 rw [if_neg (by decide)]
 exact q
theorem zy6:FnScope ["self", "number", "pipe"] ["self"] (zf0 ze5):=by walk_at "sc"
theorem znd (jG:Cls K jA) (T:TopMeth K jA "go_on" "Play.go_on" ze5) (qD:mg "enumerate"=none) (kJ:mg "len"=none) (uF:Def P w K mg base "refuse_full" 2 ["play"] (spT K (zl3 jA jB jD jC))) (jL:NoAttr K jA "moment") (jM:NoAttr K jA "entered") (jN:NoAttr K jA "pipes") (jO:NoAttr K jA "lying") (jQ:NoAttr K jA "coming"):MethD P w K mg base jA "go_on" 3 ["self"] (spT K (zz4 jA jB jD jC)):=by
 refine zt5 jG T zy6 (λ _ _ _ _ _ _ us hl=>by obtain ⟨_,rfl⟩:=ar1 hl;rfl) (len_T λ as Qd h=>by obtain ⟨_,_,_,_,_,_,rfl,_⟩:=h;rfl) (body_T ?_)
 intro f cdv A outer s H E hr
 have nd:=zy6.nd
 refine ⟨_,(dSeq (dDrop (cCall (zl3 jA jB jD jC) (aB (pVar 0) aNil)))
   (dSeq (zpi jA "moment" (λ i j=>i+j) (pVar 0) (dC (.int 1)))
   (dSeq (dFld jA "entered" (cF (dRep (dLst (dCons (dC (.int 0)) dNil)) (dCB fLen (dCons (dPV (pFld jA "pipes" (pVar 0))) dNil)))) (pVar 0))
   (dSeq (dFor (dEnum (dCons (dPE (pFld jA "pipes" (pVar 0))) dNil)) (gT 2 (gsCons (gN 1) (gsCons (gN 2) gsNil))) (zrg (λ i j=>i+j) (pFld jA "lying" (pVar 0)) (dOp fIx (dVarV 2) (dC (.int 1))) (pFld jA "coming" (pVar 0)) (dTup (dCons (dPE (pFld jA "moment" (pVar 0))) (dCons (dVar 1) dNil))) (dC (.int 0))))
   (dRet (cE (dPE (pFld jA "moment" (pVar 0))))))))),(zd0 (zvn (zk0 uF (Room.mono hr (by decide)) rfl (za0 (pv 0) pa_nil)))
   (zd0 (zhk (pv 0) pe_int in_add)
   (zd0 (ps_fld (pv 0) (pe_op zm1 (zl1 (za0 pe_int pa_nil)) (zl0 (zi1 (K:=K) rfl) rfl kJ bt_len (za0 (zs0 (K:=K) rfl (pv 0) rfl) pa_nil))) rfl)
   (zd0 (ps_for PassesOwn.never rfl (zom (K:=K) rfl rfl qD (za0 (zs0 (K:=K) rfl (pv 0) rfl) pa_nil)) (zbe (K:=K) (n:=2) rfl rfl (zj2 (ze1 (i:=1) nd rfl (by first|exact Or.inl rfl|exact Or.inr rfl)) (zj2 (ze1 (i:=2) nd rfl (by first|exact Or.inl rfl|exact Or.inr rfl)) zfe))) (zh0 (zdj (zs0 (K:=K) rfl (pv 0) rfl) (pe_ix (ix_V (w:=w) (K:=K) (Room.units hr) rfl rfl) (pv 2) pe_int (λ _ _=>rfl)) (get_V (K:=K) (Room.units hr) rfl) (pe_bmU (K:=K) rfl PySem.F.plainAttrs_dict PySem.F.slot_dict_pop PySem.F.type_dict_pop (zis (Room.units hr)) (zs0 (K:=K) rfl (pv 0) rfl) (za0 (zm3 (za0 (zs0 (K:=K) rfl (pv 0) rfl) (za0 (pv 1) pa_nil))) (za0 pe_int pa_nil))) ip_add (set_V (Room.units hr)))))
   (zh0 (ps_ret (zs0 (K:=K) rfl (pv 0) rfl))))))),(rs_seq (zrm (zni (at_b (rp_var 0) at_nil)))
   (rs_seq (zll (fn:=(λ i j=>i+j)) jG jL (rp_var 0) rf_int)
   (rs_seq (rs_fld jG jM (RfF.c (rf_rep (rf_lst (zc0 rf_int ra_nil)) (rf_cb c_len (zx0 (RfP.v (rp_fld jG jN (rp_var 0))) rw_nil)))) (rp_var 0))
   (rs_seq (rs_for (zgs (zc0 (RfP.e (rp_fld jG jN (rp_var 0))) ra_nil)) (rg_tup (zs3 (zj0 (i:=1) (n:=100) (by decide)) (zs3 (zj0 (i:=2) (n:=100) (by decide)) zcg))) (zil (rp_fld jG jO (rp_var 0)) (rf_op r_ix (zb0 2) (RfE.v rf_int)) (rp_fld jG jQ (rp_var 0)) (rf_tup (zc0 (RfP.e (rp_fld jG jL (rp_var 0))) (zc0 (rf_var 1) ra_nil))) rf_int))
   (rs_ret (RfE.c (RfP.e (rp_fld jG jL (rp_var 0))))))))),?_⟩
 rintro as Qd a ⟨rooms,lying,ps,m,en,kvs,rfl,no,h24,hv,hi,q⟩
 unfold pS at q ⊢
 walk_at "ds"
 refine ze0 λ J hJ=>?_
 walk_at "dd"
 refine ⟨rooms,lying,ps,m,en,kvs,rfl,no,?_⟩
 walk_at "dd"
 refine hJ _ ?_
 clear hJ
 refine ze0 λ J hJ=>?_
 walk_at "dd"
 refine hJ _ ?_
 clear hJ
 refine ze0 λ J hJ=>?_
 walk_at "dd"
 rw [List.length_map,Int.toNat_natCast,List.flatten_replicate_singleton]
 refine ⟨by lia,by lia,by lia,hJ _ ?_⟩
 clear hJ
 have et:(m:Int)+1=((m+1:Nat):Int):=by lia
 rw [et]
 generalize hT:((m+1:Nat):Int)=t at q ⊢
 refine ze0 λ J hJ=>?_
 walk_at "dd"
 rw [zeh]
 refine zib (λ i δ=>∃ (s1 s2:Sl),δ=[.io a (.ob jA [("rooms",.li (rooms.map .int)),("lying",.li ((arrL ps kvs t i lying).map .int)),("pipes",.fz (.list (ps.map Pi.d))),("gates",.ls (ps.map λ p=>p.g.ob jB jD jC)),("moment",.fz (.int t)),("entered",.li (List.replicate ps.length (.int 0))),("coming",.dt (arrK kvs t i))]),s1,s2]) ⟨_,_,rfl⟩ ?_ ?_
 ·rintro i x δ hx ⟨s1,s2,rfl⟩
  obtain ⟨i',p⟩:=x
  rw [List.getElem?_mapIdx] at hx
  obtain ⟨p',hp,e⟩:=Option.map_eq_some_iff.mp hx
  cases e
  have hl:p.v < (arrL ps kvs t i lying).length:=by rw [zli];exact hv p (List.mem_of_getElem? hp)
  have en1:arrL ps kvs t (i+1) lying=inc (arrL ps kvs t i lying) p.v (cm kvs t i):=by
   show inc _ _ _=_
   rw [hp];rfl
  have ek1:arrK kvs t (i+1)=dropA (arrK kvs t i) (kTI t i):=rfl
  rw [en1,ek1]
  have ec:=cm_get (zbh hi t i) t i
  rw [zkt] at ec
  generalize arrL ps kvs t i lying=L at hl ⊢
  generalize arrK kvs t i=M at ec ⊢
  generalize hpd:ps.map Pi.d=PD
  unfold Pi.d
  refine ⟨rfl,znk (z:=(p.v:Int)) (y:=L.getD p.v 0) (c:=cm kvs t i) (yd:=.tuple [.int t,.int (i:Int)]) (zd:=.int 0) (key:=kTI t i) (j:=p.v) (ds:=L.map .int) (kvs:=M) rfl rfl rfl (by decide +kernel) (λ Q hq=>?_) (λ Q hq=>?_) (λ Q hq=>hq) (by lia) ?_ (ixN_nt (by rw [List.length_map];exact hl)) rfl ec ?_⟩
  ·walk_at "dd"
   exact ⟨_,rfl,hq⟩
  ·walk_at "dd"
   exact hq
  ·rw [Int.toNat_natCast,List.getElem?_map,List.getD_eq_getElem?_getD,List.getElem?_eq_getElem hl];rfl
  ·refine ⟨.sh (.int (i:Int)),.sh (.tuple [.int (p.u:Int),.int (p.v:Int),.int (p.len:Int),.int p.pr,p.g.d]),?_⟩
   unfold inc
   rw [List.map_set]
   rfl
 ·rintro δ ⟨s1,s2,rfl⟩
  rw [List.length_mapIdx]
  refine hJ _ ?_
  clear hJ
  walk_at "dd"
  rw [List.map_replicate] at q
  exact ⟨_,rfl,q⟩
end
def pl (ps:List Pi) (i:Nat):Nat:=((ps[i]?).map Pi.len).getD 0
def startP (ps:List Pi) (i:Nat):Nat:=((ps[i]?).map Pi.u).getD 0
def wideP (ps:List Pi) (i t:Nat):Int:=((ps[i]?).map λ p=>p.g.at t).getD 0
def dueF (n:Nat) (k am l h:Int):Nat:=if k < 0 \/ (n:Int)<=k then 0 else if am < 1 then 1 else if l < am then 2 else if h < am then 3 else 4
def codeP (ps:List Pi) (m:Nat) (ly en:List Int) (k am:Int):Nat:=dueF ps.length k am (wideP ps k.toNat m - en.getD k.toNat 0) (ly.getD (startP ps k.toNat) 0)
def letT (C C1 C2 C3:Addr) (rooms lying:List Int) (ps:List Pi) (m:Nat) (en:List Int) (kvs:List (List Key×D)) (j:Nat) (am:Int):L4.T :=
 pS C C1 C2 C3 rooms (lying.set (startP ps j) (lying.getD (startP ps j) 0 - am)) ps m (en.set j (en.getD j 0+am)) (putD kvs (kTI ((m:Int)+(pl ps j:Int)) j) (.int (cm kvs ((m:Int)+(pl ps j:Int)) j+am)))
def zg1 (C C1 C2 C3 C0:Addr):DSpX:=λ as Q X=>∃ (rooms lying:List Int) (ps:List Pi) (m:Nat) (en:List Int) (kvs:List (List Key×D)) (k:Int),as=[.b (pS C C1 C2 C3 rooms lying ps m en kvs),.d (.int k)]/\en.length=ps.length/\(∀ p∈ps,p.g.ok)/\ps.length<=24/\-10000000000000000000000000000000000000000 < k/\k < 10000000000000000000000000000000000000000 /\
 (k < 0 \/ (ps.length:Int)<=k->X C0 (.fz .none))/\(0<=k->k < (ps.length:Int)->Q (.fz (.int (wideP ps k.toNat m - en.getD k.toNat 0))) (.fz .none))
def zt6 (C C1 C2 C3 C0 CA CW CL:Addr):DSpX:=λ as Q X=>∃ (rooms lying:List Int) (ps:List Pi) (m:Nat) (en:List Int) (kvs:List (List Key×D)) (k am:Int),as=[.o (pS C C1 C2 C3 rooms lying ps m en kvs),.d (.int k),.d (.int am)]/\en.length=ps.length/\(∀ p∈ps,p.g.ok/\p.u < lying.length)/\ps.length<=24/\kvs.length<=1000/\AllI kvs/\-10000000000000000000000000000000000000000 < k/\k < 10000000000000000000000000000000000000000/\-10000000000000000000000000000000000000000 < am/\am < 10000000000000000000000000000000000000000/\(∀ j,j < ps.length->-10000000000000000000000000000000000000000 < wideP ps j m - en.getD j 0/\wideP ps j m - en.getD j 0 < 10000000000000000000000000000000000000000) /\
 (codeP ps m lying en k am=0->X C0 (pS C C1 C2 C3 rooms lying ps m en kvs))/\(codeP ps m lying en k am=1->X CA (pS C C1 C2 C3 rooms lying ps m en kvs))/\(codeP ps m lying en k am=2->X CW (pS C C1 C2 C3 rooms lying ps m en kvs))/\(codeP ps m lying en k am=3->X CL (pS C C1 C2 C3 rooms lying ps m en kvs)) /\
 (codeP ps m lying en k am=4->Q (.fz (.int (lying.getD (startP ps k.toNat) 0 - am))) (letT C C1 C2 C3 rooms lying ps m en kvs k.toNat am))
section
variable {P:Program} {w:World} {K:Fg} {mg:Str->Option Value} {base:Heap} {jB jD jC jA jJ jH jK jF:Addr}
theorem zm9 (jG:Cls K jA) (T:TopMeth K jA "room_in" "Play.room_in" zx1) (kJ:mg "len"=none) (qH:Cls K jD) (kZ:Cls K jB) (kS:Cls K jC) (jL:NoAttr K jA "moment") (jM:NoAttr K jA "entered") (jN:NoAttr K jA "pipes") (jZ:NoAttr K jA "gates") (kE:MethD P w K mg base jB "width_at" 1 ["self", "moment"] (spT K (zv0 jB))) (kM:MethD P w K mg base jD "width_at" 1 ["self", "moment"] (spT K (zz0 jD))) (kI:MethD P w K mg base jC "width_at" 1 ["self", "moment"] (spT K (zy0 jC))) (qB:XCls K "NoPipe" jJ):Meth1 P w K mg base jA "room_in" 2 ["self", "pipe"] (spX K (zg1 jA jB jD jC jJ)):=by
 refine zrj jG T zq1 (λ _ _ _ _ _ _ us hl=>by obtain ⟨_,_,rfl⟩:=ar2 hl;rfl) (len_X λ as Qd Xd h=>by obtain ⟨_,_,_,_,_,_,_,rfl,_⟩:=h;rfl) (body_X ?_)
 intro f cdv A outer s H E hr
 have nd:=zq1.nd
 refine ⟨_,λ ex=>(dSeq (dIf (dNot (dTest (dChain fLe fLt (dC (.int 0)) (dVar 1) (dCB fLen (dCons (dPV (pFld jA "pipes" (pVar 0))) dNil))))) (dRaise jJ (dCons (znb (dJT 17 (dJI (dVar 1) dJN))) dNil) ex) dNext)
   (dRet (cE (dOp fSub (eN (nMethP "width_at" [(jB,(zv0 jB)),(jD,(zz0 jD)),(jC,(zy0 jC))] (pIx (pFld jA "gates" (pVar 0)) (dVar 1)) (dCons (dPE (pFld jA "moment" (pVar 0))) dNil))) (dOp fIx (dPV (pFld jA "entered" (pVar 0))) (dVarV 1)))))),(zd0 (ps_if (pt_not (zgg op_le op_lt pe_int (pv 1) (zl0 (zi1 (K:=K) rfl) rfl kJ bt_len (za0 (zs0 (K:=K) rfl (pv 0) rfl) pa_nil)))) (zh0 (zrb zz5 qB rfl rfl (za0 (zw7 (zc8 (zab (K:=K) rfl hr (pv 1) pj_nil))) pa_nil))) zq0)
   (zh0 (ps_ret (pe_op op_sub (znj (P:=P) (w:=w) (K:=K) (mg:=mg) (base:=base) (k:=1) rfl rfl rfl rfl rfl (Room.mono hr (by decide)) (pe_ix (ix_V (w:=w) (K:=K) (Room.units hr) rfl rfl) (zs0 (K:=K) rfl (pv 0) rfl) (pv 1) (λ _ _=>rfl)) (za0 (zs0 (K:=K) rfl (pv 0) rfl) pa_nil)) (pe_ix (ix_V (w:=w) (K:=K) (Room.units hr) rfl rfl) (zs0 (K:=K) rfl (pv 0) rfl) (pv 1) (λ _ _=>rfl)))))),λ ex=>(re_seq (re_if (rf_not (zp0 (zse r_le r_lt rf_int (rf_var 1) (rf_cb c_len (zx0 (RfP.v (rp_fld jG jN (rp_var 0))) rw_nil))))) (zjc (zc0 (zv7 (zt9 (l:=17) (by decide +kernel) (rj_int (rf_var 1) rj_nil))) ra_nil)) (re_of zr0))
   (re_of (rs_ret (RfE.c (rf_op r_sub (RfE.v (RfN.ex (zfj (tab:=[(jB,(zv0 jB)),(jD,(zz0 jD)),(jC,(zy0 jC))]) (tab3 ⟨_,kE⟩ ⟨_,kM⟩ ⟨_,kI⟩) (rp_ix (rp_fld jG jZ (rp_var 0)) (rf_var 1)) (zc0 (RfP.e (rp_fld jG jL (rp_var 0))) ra_nil)))) (RfE.v (rf_op r_ix (RfP.v (rp_fld jG jM (rp_var 0))) (zb0 1)))))))),?_⟩
 rintro as Qd Xd a ⟨rooms,lying,ps,m,en,kvs,k,rfl,el,hok,hl,k0,k1,qx,q⟩
 unfold pS
 walk_at "ds"
 refine ze0 λ J hJ=>?_
 walk_at "dd"
 rw [List.length_map]
 refine two (λ z1=>two (λ z2=>?_) λ z2=>hJ _ ?_) λ z1=>?_
 ·exact ⟨⟨k0,k1⟩,λ _ _=>qx (.inr (by lia))⟩
 ·clear hJ
  obtain ⟨j,rfl⟩:=Int.eq_ofNat_of_zero_le z1
  have lk:j < ps.length:=by lia
  have q:=q (by lia) (by lia)
  rw [Int.toNat_natCast] at q
  obtain ⟨p,hk⟩:∃ p,ps[j]?=some p:=⟨_,List.getElem?_eq_getElem lk⟩
  have ew:wideP ps j m=p.g.at m:=by unfold wideP;rw [hk];rfl
  rw [ew] at q
  have ok:=hok p (List.mem_of_getElem? hk)
  walk_at "dd"
  refine ⟨j,_,ixN_nt (by rw [List.length_map];exact lk),by rw [List.getElem?_map,hk];rfl,?_⟩
  have ge:atI (en.map PyData.int) ((j:Nat):Int)=some (.int (en.getD j 0)):=at_nat (by lia) (by rw [Int.toNat_natCast,List.getElem?_map,List.getD_eq_getElem?_getD,List.getElem?_eq_getElem (by lia)];rfl)
  obtain ⟨u,v,ln,pr,g⟩:=p
  have fin:∀ x:Int,x=g.at m->∃ d,atI (en.map PyData.int) ((j:Nat):Int)=some d/\fSub (.int x) d λ d=>Qd (.fz d) (.fz .none):=λ x hx=>⟨_,ge,by rw [hx];exact q⟩
  cases g with
 |st x =>
   unfold Gt.ob
   walk_at "dd"
   exact ⟨_,List.mem_cons_self,x,m,rfl,fin _ rfl⟩
 |la x f =>
   unfold Gt.ob
   walk_at "dd"
   exact ⟨_,List.mem_cons_of_mem _ List.mem_cons_self,x,f,m,rfl,fin _ rfl⟩
 |ti x y t =>
   unfold Gt.ob
   walk_at "dd"
   exact ⟨_,List.mem_cons_of_mem _ (List.mem_cons_of_mem _ List.mem_cons_self),x,y,t,m,rfl,ok.1,ok.2,fin _ rfl⟩
 ·exact ⟨⟨k0,k1⟩,λ _ _=>qx (.inl (by lia))⟩
theorem zhb:FnScope ["self", "pipe", "amount", "left", "start", "place"] ["self", "pipe", "amount"] (zf0 zn9):=by walk_at "sc"
theorem zef (jG:Cls K jA) (T:TopMeth K jA "let" "Play.let" zn9) (jM:NoAttr K jA "entered") (jO:NoAttr K jA "lying") (jQ:NoAttr K jA "coming") (jN:NoAttr K jA "pipes") (jL:NoAttr K jA "moment") (kN:Meth1 P w K mg base jA "room_in" 2 ["self", "pipe"] (spX K (zg1 jA jB jD jC jJ))) (kC:XCls K "NoAmount" jH) (kK:XCls K "TooWide" jK) (kA:XCls K "TooLittle" jF):Meth1 P w K mg base jA "let" 3 ["self", "pipe", "amount"] (spX K (zt6 jA jB jD jC jJ jH jK jF)):=by
 refine zrj jG T zhb (λ _ _ _ _ _ _ us hl=>by obtain ⟨_,_,_,rfl⟩:=ar3 hl;rfl) (len_X λ as Qd Xd h=>by obtain ⟨_,_,_,_,_,_,_,_,rfl,_⟩:=h;rfl) (body_X ?_)
 intro f cdv A outer s H E hr
 have nd:=zhb.nd
 refine ⟨_,λ ex=>(dSeq (dSetX 3 (xMeth false jA "room_in" (zg1 jA jB jD jC jJ) (pVar 0) (aD (dVar 1) aNil)) ex)
   (dSeq (dIf (dTest (dOp fLt (dVarV 2) (dC (.int 1)))) (dRaise jH (dCons (znb (dJI (dVar 2) (dJT 25 dJN))) dNil) ex) dNext)
   (dSeq (dIf (dTest (dOp fGt (dVarV 2) (dVarV 3))) (dRaise jK (dCons (znb (dJT 9 (dJI (dVar 1) (dJT 14 (dJI (dVar 3) (dJT 5 dJN)))))) dNil) ex) dNext)
   (dSeq (dAsg (dOp fIx (dOp fIx (dPV (pFld jA "pipes" (pVar 0))) (dVarV 1)) (dC (.int 0))) (gN 4))
   (dSeq (dIf (dTest (dOp fGt (dVarV 2) (dOp fIx (dPV (pFld jA "lying" (pVar 0))) (dVarV 4)))) (dRaise jF (dCons (znb (dJT 18 (dJI (dVar 1) (dJT 14 (dJI (dVar 2) dJN))))) dNil) ex) dNext)
   (dSeq (dAugS (λ i j=>i+j) (pFld jA "entered" (pVar 0)) (dVar 1) (dVar 2))
   (dSeq (dAugS (λ i j=>i - j) (pFld jA "lying" (pVar 0)) (dVar 4) (dVar 2))
   (dSeq (dAsg (dTup (dCons (dOp fAdd (dPV (pFld jA "moment" (pVar 0))) (dOp fIx (dOp fIx (dPV (pFld jA "pipes" (pVar 0))) (dVarV 1)) (dC (.int 2)))) (dCons (dVar 1) dNil))) (gN 5))
   (dSeq (dPut (pFld jA "coming" (pVar 0)) (dVar 5) (dOp fAdd (nGet2 (pFld jA "coming" (pVar 0)) (dVar 5) (dC (.int 0))) (dVarV 2)))
   (dRet (cE (dOp fIx (dPV (pFld jA "lying" (pVar 0))) (dVarV 4))))))))))))),(zd0 (ps_set (i:=3) nd rfl (by first|exact Or.inl rfl|exact Or.inr rfl) (zze (k:=2) rfl rfl rfl rfl rfl (Room.mono hr (by decide)) zhf (pv 0) (za0 (pv 1) pa_nil)))
   (zd0 (ps_if (zt0 op_lt (pv 2) pe_int (nomark _)) (zh0 (zrb zz5 kC rfl rfl (za0 (zw7 (zab (K:=K) rfl hr (pv 2) (zc8 pj_nil))) pa_nil))) zq0)
   (zd0 (ps_if (zt0 op_gt (pv 2) (pv 3) (nomark _)) (zh0 (zrb zz5 kK rfl rfl (za0 (zw7 (zc8 (zab (K:=K) rfl hr (pv 1) (zc8 (zab (K:=K) rfl hr (pv 3) (zc8 pj_nil)))))) pa_nil))) zq0)
   (zd0 (ps_set (i:=4) nd rfl (by first|exact Or.inl rfl|exact Or.inr rfl) (pe_ix (ix_V (w:=w) (K:=K) (Room.units hr) rfl rfl) (pe_ix (ix_V (w:=w) (K:=K) (Room.units hr) rfl rfl) (zs0 (K:=K) rfl (pv 0) rfl) (pv 1) (λ _ _=>rfl)) pe_int (λ _ _=>rfl)))
   (zd0 (ps_if (zt0 op_gt (pv 2) (pe_ix (ix_V (w:=w) (K:=K) (Room.units hr) rfl rfl) (zs0 (K:=K) rfl (pv 0) rfl) (pv 4) (λ _ _=>rfl)) (nomark _)) (zh0 (zrb zz5 kA rfl rfl (za0 (zw7 (zc8 (zab (K:=K) rfl hr (pv 1) (zc8 (zab (K:=K) rfl hr (pv 2) pj_nil))))) pa_nil))) zq0)
   (zd0 (zdj (zs0 (K:=K) rfl (pv 0) rfl) (pv 1) (get_V (K:=K) (Room.units hr) rfl) (pv 2) ip_add (set_V (Room.units hr)))
   (zd0 (zdj (zs0 (K:=K) rfl (pv 0) rfl) (pv 4) (get_V (K:=K) (Room.units hr) rfl) (pv 2) ip_sub (set_V (Room.units hr)))
   (zd0 (ps_set (i:=5) nd rfl (by first|exact Or.inl rfl|exact Or.inr rfl) (zm3 (za0 (pe_op (zo0 (K:=K) rfl) (zs0 (K:=K) rfl (pv 0) rfl) (pe_ix (ix_V (w:=w) (K:=K) (Room.units hr) rfl rfl) (pe_ix (ix_V (w:=w) (K:=K) (Room.units hr) rfl rfl) (zs0 (K:=K) rfl (pv 0) rfl) (pv 1) (λ _ _=>rfl)) pe_int (λ _ _=>rfl))) (za0 (pv 1) pa_nil))))
   (zd0 (ps_asg (pe_op (zo0 (K:=K) rfl) (pe_bmU (K:=K) rfl PySem.F.plainAttrs_dict PySem.F.slot_dict_get PySem.F.type_dict_get (ztm (Room.units hr)) (zs0 (K:=K) rfl (pv 0) rfl) (za0 (pv 5) (za0 pe_int pa_nil))) (pv 2)) (pg_sub (zs0 (K:=K) rfl (pv 0) rfl) (pv 5) (set_V (Room.units hr))))
   (zh0 (ps_ret (pe_ix (ix_V (w:=w) (K:=K) (Room.units hr) rfl rfl) (zs0 (K:=K) rfl (pv 0) rfl) (pv 4) (λ _ _=>rfl))))))))))))),λ ex=>(re_seq (re_set (i:=3) (zhj false kN (rp_var 0) (at_d (rf_var 1) at_nil)))
   (re_seq (re_if (zp0 (rf_op r_lt (zb0 2) (RfE.v rf_int))) (zjc (zc0 (zv7 (rj_int (rf_var 2) (zt9 (l:=25) (by decide +kernel) rj_nil))) ra_nil)) (re_of zr0))
   (re_seq (re_if (zp0 (rf_op r_gt (zb0 2) (zb0 3))) (zjc (zc0 (zv7 (zt9 (l:=9) (by decide +kernel) (rj_int (rf_var 1) (zt9 (l:=14) (by decide +kernel) (rj_int (rf_var 3) (zt9 (l:=5) (by decide +kernel) rj_nil)))))) ra_nil)) (re_of zr0))
   (re_seq (re_of (rs_asg (rf_op r_ix (RfE.v (rf_op r_ix (RfP.v (rp_fld jG jN (rp_var 0))) (zb0 1))) (RfE.v rf_int)) (zj0 (i:=4) (n:=100) (by decide))))
   (re_seq (re_if (zp0 (rf_op r_gt (zb0 2) (RfE.v (rf_op r_ix (RfP.v (rp_fld jG jO (rp_var 0))) (zb0 4))))) (zjc (zc0 (zv7 (zt9 (l:=18) (by decide +kernel) (rj_int (rf_var 1) (zt9 (l:=14) (by decide +kernel) (rj_int (rf_var 2) rj_nil))))) ra_nil)) (re_of zr0))
   (re_seq (re_of (zyn (rp_fld jG jM (rp_var 0)) (rf_var 1) (rf_var 2)))
   (re_seq (re_of (zyn (rp_fld jG jO (rp_var 0)) (rf_var 4) (rf_var 2)))
   (re_seq (re_of (rs_asg (rf_tup (zc0 (rf_op r_add (RfP.v (rp_fld jG jL (rp_var 0))) (RfE.v (rf_op r_ix (RfE.v (rf_op r_ix (RfP.v (rp_fld jG jN (rp_var 0))) (zb0 1))) (RfE.v rf_int)))) (zc0 (rf_var 1) ra_nil))) (zj0 (i:=5) (n:=100) (by decide))))
   (re_seq (re_of (rs_put (rf_op r_add (RfE.v (zen (rp_fld jG jQ (rp_var 0)) (rf_var 5) rf_int)) (zb0 2)) (rp_fld jG jQ (rp_var 0)) (rf_var 5)))
   (re_of (rs_ret (RfE.c (rf_op r_ix (RfP.v (rp_fld jG jO (rp_var 0))) (zb0 4)))))))))))))),?_⟩
 rintro as Qd Xd a ⟨rooms,lying,ps,m,en,kvs,k,am,rfl,el,hok,hl,hkv,hai,k0,k1,a0,a1,hw,q0,q1,q2,q3,q⟩
 unfold letT pS at q
 unfold pS at q0 q1 q2 q3 ⊢
 walk_at "ds"
 refine ze0 λ J hJ=>?_
 walk_at "dd"
 refine ⟨rooms,lying,ps,m,en,kvs,k,rfl,el,λ p hp=>(hok p hp).1,hl,k0,k1,λ z=>⟨_,rfl,q0 (if_pos z)⟩,λ z1 z2=>hJ _ ?_⟩
 clear hJ
 obtain ⟨j,rfl⟩:=Int.eq_ofNat_of_zero_le z1
 have lk:j < ps.length:=by lia
 have ec:codeP ps m lying en (j:Int) am=if am < 1 then 1 else if wideP ps j m - en.getD j 0 < am then 2 else if lying.getD (startP ps j) 0 < am then 3 else 4:=by
  unfold codeP dueF
  rw [if_neg (by lia),Int.toNat_natCast]
 rw [ec] at q1 q2 q3 q
 rw [Int.toNat_natCast] at q ⊢
 obtain ⟨p,hk⟩:∃ p,ps[j]?=some p:=⟨_,List.getElem?_eq_getElem lk⟩
 obtain ⟨ok,hu⟩:=hok p (List.mem_of_getElem? hk)
 have es:startP ps j=p.u:=by unfold startP;rw [hk];rfl
 have epl:pl ps j=p.len:=by unfold pl;rw [hk];rfl
 obtain ⟨w0,w1⟩:=hw j lk
 rw [es] at q3 q
 rw [epl] at q
 generalize wideP ps j m - en.getD j 0=left at q1 q2 q3 q w0 w1 ⊢
 have he:en[j]?=some (en.getD j 0):=by rw [List.getD_eq_getElem?_getD,List.getElem?_eq_getElem (by lia)];rfl
 have hy:lying[p.u]?=some (lying.getD p.u 0):=by rw [List.getD_eq_getElem?_getD,List.getElem?_eq_getElem hu];rfl
 have hc:=cm_get hai ((m:Int)+(p.len:Int)) j
 generalize en.getD j 0=e at he q
 generalize lying.getD p.u 0=y at hy q3 q
 generalize cm kvs ((m:Int)+(p.len:Int)) j=c0 at hc q
 refine ze0 λ J hJ=>?_
 walk_at "dd"
 refine two (λ z=>⟨⟨a0,a1⟩,λ _ _=>⟨_,rfl,q1 (if_pos z)⟩⟩) λ z3=>hJ _ ?_
 clear hJ
 refine ze0 λ J hJ=>?_
 walk_at "dd"
 refine two (λ z=>⟨⟨k0,k1⟩,⟨w0,w1⟩,λ _ _=>⟨_,rfl,q2 (by rw [if_neg z3,if_pos z])⟩⟩) λ z4=>hJ _ ?_
 clear hJ
 have gp:atI (ps.map Pi.d) ((j:Nat):Int)=some (.tuple [.int (p.u:Int),.int (p.v:Int),.int (p.len:Int),.int p.pr,p.g.d]):=at_nat (by lia) (by rw [Int.toNat_natCast,List.getElem?_map,hk];rfl)
 have gy:atI (lying.map PyData.int) ((p.u:Nat):Int)=some (.int y):=at_nat (by lia) (by rw [Int.toNat_natCast,List.getElem?_map,hy];rfl)
 refine ze0 λ J hJ=>?_
 walk_at "dd"
 refine ⟨_,gp,?_⟩
 walk_at "dd"
 refine ⟨_,rfl,hJ _ ?_⟩
 clear hJ
 refine ze0 λ J hJ=>?_
 walk_at "dd"
 refine ⟨_,gy,?_⟩
 walk_at "dd"
 refine two (λ z=>⟨⟨k0,k1⟩,⟨a0,a1⟩,λ _ _=>⟨_,rfl,q3 (by rw [if_neg z3,if_neg z4,if_pos z])⟩⟩) λ z5=>hJ _ ?_
 clear hJ
 have q:=q (by rw [if_neg z3,if_neg z4,if_neg z5])
 refine ze0 λ J hJ=>?_
 walk_at "dd"
 refine ⟨by lia,_,by rw [Int.toNat_natCast,List.getElem?_map,he];rfl,?_⟩
 walk_at "dd"
 refine ⟨j,ixN_nt (by rw [List.length_map];lia),hJ _ ?_⟩
 clear hJ
 refine ze0 λ J hJ=>?_
 walk_at "dd"
 refine ⟨by lia,_,by rw [Int.toNat_natCast,List.getElem?_map,hy];rfl,?_⟩
 walk_at "dd"
 refine ⟨p.u,ixN_nt (by rw [List.length_map];exact hu),hJ _ ?_⟩
 clear hJ
 refine ze0 λ J hJ=>?_
 walk_at "dd"
 refine ⟨_,gp,?_⟩
 walk_at "dd"
 refine ⟨_,rfl,hJ _ ?_⟩
 clear hJ
 refine ze0 λ J hJ=>?_
 walk_at "dd"
 refine ⟨[.inl ((m:Int)+(p.len:Int)),.inl (j:Int)],rfl,?_⟩
 unfold kTI at hc q
 rw [hc]
 walk_at "dd"
 refine ⟨[.inl ((m:Int)+(p.len:Int)),.inl (j:Int)],rfl,by lia,hJ _ ?_⟩
 clear hJ
 walk_at "dd"
 rw [List.map_set,List.map_set] at q
 refine ⟨_,at_nat (by lia) (by rw [Int.toNat_natCast,List.getElem?_set_self (by rw [List.length_map];exact hu)]),_,rfl,q⟩
end
def zm0:DSp:=λ ds Q=>∃ (ns:List Int) (k:Nat),ds=[.list (ns.map .int),.int (k:Int)]/\k<=1000/\∀ m:Int,0<=m->m < 999999000001->Q (.int m)
def zt2:DSp:=λ ds Q=>∃ n:Int,ds=[.int n]/\0<=n/\∀ m:Int,0<=m->m<=1000000000000->Q (.int m)
def Gt.okk (g:Gt):Prop:=g.ok/\∀ m,0<=g.at m/\g.at m<=2000000000000
def zv9:DSp:=λ ds Q=>∃ (c d:Int),ds=[.int c,.int d]/\0<=c/\0<=d/\∀ g:Gt,g.okk->Q g.d
def zs9:DSp:=λ ds Q=>∃ (ns:List Int) (k n:Nat),ds=[.list (ns.map .int),.int (k:Int),.int (n:Int)]/\k < 24/\2<=n/\n<=12/\∀ p:Pi,p.u < n->p.v < n->1<=p.len->p.g.okk->Q p.d
theorem pick_map' {α β:Type} (f:α->β) (xs:List α) (lo hi st:Option Int):pickG (xs.map f) lo hi st=(pickG xs lo hi st).map f:=by
 unfold pickG
 rw [List.length_map,List.map_filterMap]
 congr 1
 funext j
 rw [List.getElem?_map]
def zr6:DSp:=λ ds Q=>∃ (g:Gt) (m:Nat),ds=[g.d,.int (m:Int)]/\g.ok/\Q (.int (g.at m))
theorem compE {α β:Type} {xs:List α} {enc:α->D} (ok:β->Prop) (en:β->D) {n:Nat} {ix:List Nat} {dg:DG} {de:DE} {δ:DSt} {Q:List D->Prop} (hz:xs.length<=sizeLine)
  (h:∀ x∈xs,dg (enc x) (cST n ix δ) λ δ'=>de δ' λ r=>∃ b,ok b/\r=en b) (q:∀ bs:List β,bs.length=xs.length->(∀ b∈bs,ok b)->Q (bs.map en)):CompB (xs.map enc) n ix dg dTrue de δ Q:=by
 refine ⟨by rw [List.length_map];exact hz,λ _ o=>∃ b,ok b/\o=some (en b),λ i d e=>?_,λ os hl hR=>?_⟩
 ·rw [List.getElem?_map] at e
  obtain ⟨x,hx,rfl⟩:=Option.map_eq_some_iff.mp e
  have:=h x (List.mem_of_getElem? hx)
  have e1:(λ r=>∃ b,ok b/\some r=some (en b))=λ r=>∃ b,ok b/\r=en b:=by funext r;simp
  show dg (enc x) (cST n ix δ) λ δ'=>if true=true then de δ' λ r=>∃ b,ok b/\some r=some (en b) else ∃ b,ok b/\none=some (en b)
  rw [e1]
  simp only [if_true]
  exact this
 ·have key:∀ os:List (Option D),(∀ o∈os,∃ b,ok b/\o=some (en b))->∃ bs:List β,bs.length=os.length/\(∀ b∈bs,ok b)/\os.filterMap id=bs.map en:=by
   intro os
   induction os with
  |nil=>intro _;exact ⟨[],rfl,(λ b hb=>by simp at hb),rfl⟩
  |cons o r ih =>
    intro k
    obtain ⟨b,h1,rfl⟩:=k o (by simp)
    obtain ⟨bs,k1,k2,k3⟩:=ih λ o ho=>k o (by simp [ho])
    refine ⟨b :: bs,by simp [k1],λ c hc=>?_,by simp [k3]⟩
    rcases List.mem_cons.mp hc with z|z
    ·rw [z];exact h1
    ·exact k2 c z
  obtain ⟨bs,b1,b2,b3⟩:=key os λ o ho=>by
   obtain ⟨j,hj⟩:=List.mem_iff_getElem?.mp ho
   exact hR j o hj
  rw [b3]
  exact q bs (by rw [b1,hl,List.length_map]) b2
def zl8:DSp:=λ ds Q=>∃ (n:Int) (k:Nat),ds=[.int n,.int (k:Int)]/\0<=n/\k<=100/\∀ x:Str,Q (.str x)
theorem zan (x:Str) (n:Nat):(repS x n).length=n * x.length:=by
 show (repS x n).cps.size=n * x.cps.size
 rw [<- Array.length_toList,zwj];simp
theorem zot (x y:Str):(x++y).length=x.length+y.length:=by
 show (x.cps++y.cps).size=_
 rw [Array.size_append];rfl
theorem len26:(Str.ofString "abcdefghijklmnopqrstuvwxyz").length<=16777216:=by decide +kernel
theorem let26 {i:Int} (h0:0<=i) (h1:i < 26):∃ c,atI (Str.ofString "abcdefghijklmnopqrstuvwxyz").cps.toList i=some c:=by
 have e:((Str.ofString "abcdefghijklmnopqrstuvwxyz").cps.toList.length:Int)=26:=by decide +kernel
 obtain ⟨x,_,h⟩:=at_of (xs:=(Str.ofString "abcdefghijklmnopqrstuvwxyz").cps.toList) h0 (by rw [e];exact h1)
 exact ⟨x,h⟩
section
variable {P:Program} {w:World} {K:Fg} {mg:Str->Option Value} {base:Heap}
theorem zl9:FnScope ["script", "k", "step", "found", "cell"] ["script", "k"] (zf0 ze6):=by walk_at "sc"
theorem zkf (M:Md K mg) (T:TopDef K "_law_draw" ze6) (kJ:mg "len"=none):Def P w K mg base "_law_draw" 1 ["script", "k"] (spD K zm0):=by
 refine def_of M T zl9 (λ _ _ _ _ _ _ us hl=>by obtain ⟨_,_,rfl⟩:=ar2 hl;rfl) (len_D λ ds Qd h=>by obtain ⟨_,_,rfl,_⟩:=h;rfl) (body_D ?_)
 intro f cdv A outer s H E hr
 have nd:=zl9.nd
 refine ⟨_,(dSeq (dAsg (dOp fAdd (dC (.int 1)) (dOp fDiv (dCB fLen (dCons (dVarV 0) dNil)) (dC (.int 8)))) (gN 2))
   (dSeq (dAsg (dOp fAdd (dOp fMul (dC (.int 31)) (dVarV 1)) (dC (.int 5))) (gN 3))
   (dSeq (dFor (dIt (dF (dSl3 (dVarV 0) (dPart (dOp fMod (dVarV 1) (dVarV 2))) zji (dPart (dVar 2))))) (gN 4) (dAsg (dOp fMod (dOp fAdd (dOp fMul (dVarV 3) (dOp fAdd (dOp fMul (dC (.int 2)) (dVarV 1)) (dC (.int 1013)))) (dVarV 4)) (dC (.int 999999000001))) (gN 3)))
   (dRet (cE (dOp fMod (dOp fMul (dVarV 3) (dOp fAdd (dOp fAdd (dOp fMod (dOp fDiv (dVarV 3) (dC (.int 7))) (dC (.int 99991))) (dOp fMul (dC (.int 3)) (dVarV 1))) (dC (.int 1)))) (dC (.int 999999000001)))))))),(zd0 (ps_set (i:=2) nd rfl (by first|exact Or.inl rfl|exact Or.inr rfl) (pe_op (zo0 (K:=K) rfl) pe_int (pe_op za1 (zl0 (zi1 (K:=K) rfl) rfl kJ bt_len (za0 (pv 0) pa_nil)) pe_int)))
   (zd0 (ps_set (i:=3) nd rfl (by first|exact Or.inl rfl|exact Or.inr rfl) (pe_op (zo0 (K:=K) rfl) (pe_op zm1 pe_int (pv 1)) pe_int))
   (zd0 (ps_for PassesOwn.never rfl (pi_W (K:=K) rfl (zkl (K:=K) rfl (pv 0) (zki (pe_op op_mod (pv 1) (pv 2))) zss (zki (pv 2)))) (ze1 (i:=4) nd rfl (by first|exact Or.inl rfl|exact Or.inr rfl)) (zh0 (ps_set (i:=3) nd rfl (by first|exact Or.inl rfl|exact Or.inr rfl) (pe_op op_mod (pe_op (zo0 (K:=K) rfl) (pe_op zm1 (pv 3) (pe_op (zo0 (K:=K) rfl) (pe_op zm1 pe_int (pv 1)) pe_int)) (pv 4)) pe_int))))
   (zh0 (ps_ret (pe_op op_mod (pe_op zm1 (pv 3) (pe_op (zo0 (K:=K) rfl) (pe_op (zo0 (K:=K) rfl) (pe_op op_mod (pe_op za1 (pv 3) pe_int) pe_int) (pe_op zm1 pe_int (pv 1))) pe_int)) pe_int)))))),(rs_seq (rs_asg (rf_op r_add (RfE.v rf_int) (RfE.v (rf_op r_div (RfE.v (rf_cb c_len (zx0 (zb0 0) rw_nil))) (RfE.v rf_int)))) (zj0 (i:=2) (n:=100) (by decide)))
   (rs_seq (rs_asg (rf_op r_add (RfE.v (rf_op r_mul (RfE.v rf_int) (zb0 1))) (RfE.v rf_int)) (zj0 (i:=3) (n:=100) (by decide)))
   (rs_seq (rs_for (ri_of (RfF.e (rf_sl3 (zb0 0) (zkn (rf_op r_mod (zb0 1) (zb0 2))) zfs (zkn (rf_var 2))))) (zj0 (i:=4) (n:=100) (by decide)) (rs_asg (rf_op r_mod (RfE.v (rf_op r_add (RfE.v (rf_op r_mul (zb0 3) (RfE.v (rf_op r_add (RfE.v (rf_op r_mul (RfE.v rf_int) (zb0 1))) (RfE.v rf_int))))) (zb0 4))) (RfE.v rf_int)) (zj0 (i:=3) (n:=100) (by decide))))
   (rs_ret (RfE.c (rf_op r_mod (RfE.v (rf_op r_mul (zb0 3) (RfE.v (rf_op r_add (RfE.v (rf_op r_add (RfE.v (rf_op r_mod (RfE.v (rf_op r_div (zb0 3) (RfE.v rf_int))) (RfE.v rf_int))) (RfE.v (rf_op r_mul (RfE.v rf_int) (zb0 1))))) (RfE.v rf_int))))) (RfE.v rf_int))))))),?_⟩
 rintro ds Qd ⟨ns,k,rfl,hk,q⟩
 walk_at "ds"
 walk_at "dn"
 refine ze0 λ J hJ=>?_
 walk_at "dd"
 refine ⟨.inl ⟨by decide,by decide⟩,hJ _ ?_⟩
 clear hJ
 refine ze0 λ J hJ=>?_
 walk_at "dd"
 rw [pick_map',List.length_map]
 have hst:0 < 1+(ns.length:Int) / 8:=by lia
 generalize 1+(ns.length:Int) / 8=st at hst ⊢
 refine ⟨by lia,by intro z;cases z;lia,?_⟩
 refine zib (λ _ δ=>∃ (f:Int) (s4:Sl),0<=f/\f < 999999000001/\δ=[.sh (.list (ns.map .int)),.sh (.int (k:Int)),.sh (.int st),.sh (.int f),s4]) ⟨31 * (k:Int)+5,.un,by lia,by lia,rfl⟩ ?_ ?_
 ·rintro i x δ hx ⟨f,s4,f0,f1,rfl⟩
  walk_at "dd"
  exact ⟨.inl ⟨by decide,by decide⟩,.inl ⟨by lia,by lia⟩,_,_,Int.emod_nonneg _ (by decide),Int.emod_lt_of_pos _ (by decide),rfl⟩
 ·rintro δ ⟨f,s4,f0,f1,rfl⟩
  refine hJ _ ?_
  clear hJ
  walk_at "dd"
  exact ⟨.inl ⟨by decide,by decide⟩,.inl ⟨by lia,by lia⟩,q _ (Int.emod_nonneg _ (by decide)) (Int.emod_lt_of_pos _ (by decide))⟩
theorem zt8:FnScope ["number"] ["number"] (zf0 zm6):=by walk_at "sc"
theorem zof (M:Md K mg) (T:TopDef K "_law_size" zm6) :Def P w K mg base "_law_size" 1 ["number"] (spD K zt2):=by
 refine def_of M T zt8 (λ _ _ _ _ _ _ us hl=>by obtain ⟨_,rfl⟩:=ar1 hl;rfl) (len_D λ ds Qd h=>by obtain ⟨_,rfl,_⟩:=h;rfl) (body_D ?_)
 intro f cdv A outer s H E hr
 have nd:=zt8.nd
 refine ⟨_,(dRet (cE (dOp fMod (dOp fMul (dOp fDiv (dVarV 0) (dC (.int 3))) (dC (.int 31))) (dOp fIx (dF (dLst (dCons (dC (.int 10)) (dCons (dC (.int 1001)) (dCons (dOp fAdd (dOp fPow (dC (.int 10)) (dC (.int 12))) (dC (.int 1))) dNil))))) (dOp fMod (dVarV 0) (dC (.int 3))))))),(zh0 (ps_ret (pe_op op_mod (pe_op zm1 (pe_op za1 (pv 0) pe_int) pe_int) (pe_ix (ix_V (w:=w) (K:=K) (Room.units hr) rfl rfl) (zl1 (za0 pe_int (za0 pe_int (za0 (pe_op (zo0 (K:=K) rfl) (pe_op op_pow pe_int pe_int) pe_int) pa_nil)))) (pe_op op_mod (pv 0) pe_int) (λ _ _=>rfl))))),(rs_ret (RfE.c (rf_op r_mod (RfE.v (rf_op r_mul (RfE.v (rf_op r_div (zb0 0) (RfE.v rf_int))) (RfE.v rf_int))) (RfE.v (rf_op r_ix (RfE.v (RfF.e (rf_lst (zc0 rf_int (zc0 rf_int (zc0 (rf_op r_add (RfE.v (rf_op r_pow (RfE.v rf_int) (RfE.v rf_int))) (RfE.v rf_int)) ra_nil)))))) (RfE.v (rf_op r_mod (zb0 0) (RfE.v rf_int)))))))),?_⟩
 rintro ds Qd ⟨n,rfl,hn,q⟩
 walk_at "ds"
 walk_at "dd"
 refine ⟨.inr ⟨by decide,by decide⟩,by decide,?_⟩
 have h3:n % 3=0 \/ n % 3=1 \/ n % 3=2:=by lia
 rcases h3 with h|h|h
 ·refine ⟨_,by rw [h];rfl,?_⟩
  walk_at "dd"
  exact q _ (by lia) (by lia)
 ·refine ⟨_,by rw [h];rfl,?_⟩
  walk_at "dd"
  exact q _ (by lia) (by lia)
 ·refine ⟨_,by rw [h];rfl,?_⟩
  walk_at "dd"
  exact q _ (by lia) (by lia)
theorem zz7:FnScope ["number", "k", "letters", "sign", "ahead"] ["number", "k"] (zf0 zf6):=by walk_at "sc"
theorem zye (M:Md K mg) (T:TopDef K "_law_name" zf6) :Def P w K mg base "_law_name" 1 ["number", "k"] (spD K zl8):=by
 refine def_of M T zz7 (λ _ _ _ _ _ _ us hl=>by obtain ⟨_,_,rfl⟩:=ar2 hl;rfl) (len_D λ ds Qd h=>by obtain ⟨_,_,rfl,_⟩:=h;rfl) (body_D ?_)
 intro f cdv A outer s H E hr
 have nd:=zz7.nd
 refine ⟨_,(dSeq (dAsg (dC (.str "abcdefghijklmnopqrstuvwxyz")) (gN 2))
   (dSeq (dAsg (dOp fIx (dVarV 2) (dOp fMod (dOp fAdd (dOp fDiv (dVarV 0) (dC (.int 20))) (dOp fMul (dC (.int 7)) (dVarV 1))) (dC (.int 26)))) (gN 3))
   (dSeq (dAsg (dOp fMul (dOp fIx (dVarV 2) (dOp fMod (dOp fDiv (dVarV 0) (dC (.int 520))) (dC (.int 26)))) (dOp fMod (dVarV 0) (dC (.int 4)))) (gN 4))
   (dRet (cE (dOp fAdd (dOp fAdd (dVarV 4) (dVarV 3)) (dOp fMul (dOp fIx (dVarV 2) (dOp fMod (dOp fDiv (dVarV 0) (dC (.int 13520))) (dC (.int 26)))) (dOp fMod (dOp fDiv (dVarV 0) (dC (.int 4))) (dC (.int 5)))))))))),(zd0 (ps_set (i:=2) nd rfl (by first|exact Or.inl rfl|exact Or.inr rfl) pe_str)
   (zd0 (ps_set (i:=3) nd rfl (by first|exact Or.inl rfl|exact Or.inr rfl) (pe_ix (ix_V (w:=w) (K:=K) (Room.units hr) rfl rfl) (pv 2) (pe_op op_mod (pe_op (zo0 (K:=K) rfl) (pe_op za1 (pv 0) pe_int) (pe_op zm1 pe_int (pv 1))) pe_int) (λ _ _=>rfl)))
   (zd0 (ps_set (i:=4) nd rfl (by first|exact Or.inl rfl|exact Or.inr rfl) (pe_op zm1 (pe_ix (ix_V (w:=w) (K:=K) (Room.units hr) rfl rfl) (pv 2) (pe_op op_mod (pe_op za1 (pv 0) pe_int) pe_int) (λ _ _=>rfl)) (pe_op op_mod (pv 0) pe_int)))
   (zh0 (ps_ret (pe_op (zo0 (K:=K) rfl) (pe_op (zo0 (K:=K) rfl) (pv 4) (pv 3)) (pe_op zm1 (pe_ix (ix_V (w:=w) (K:=K) (Room.units hr) rfl rfl) (pv 2) (pe_op op_mod (pe_op za1 (pv 0) pe_int) pe_int) (λ _ _=>rfl)) (pe_op op_mod (pe_op za1 (pv 0) pe_int) pe_int)))))))),(rs_seq (rs_asg rf_str (zj0 (i:=2) (n:=100) (by decide)))
   (rs_seq (rs_asg (rf_op r_ix (zb0 2) (RfE.v (rf_op r_mod (RfE.v (rf_op r_add (RfE.v (rf_op r_div (zb0 0) (RfE.v rf_int))) (RfE.v (rf_op r_mul (RfE.v rf_int) (zb0 1))))) (RfE.v rf_int)))) (zj0 (i:=3) (n:=100) (by decide)))
   (rs_seq (rs_asg (rf_op r_mul (RfE.v (rf_op r_ix (zb0 2) (RfE.v (rf_op r_mod (RfE.v (rf_op r_div (zb0 0) (RfE.v rf_int))) (RfE.v rf_int))))) (RfE.v (rf_op r_mod (zb0 0) (RfE.v rf_int)))) (zj0 (i:=4) (n:=100) (by decide)))
   (rs_ret (RfE.c (rf_op r_add (RfE.v (rf_op r_add (zb0 4) (zb0 3))) (RfE.v (rf_op r_mul (RfE.v (rf_op r_ix (zb0 2) (RfE.v (rf_op r_mod (RfE.v (rf_op r_div (zb0 0) (RfE.v rf_int))) (RfE.v rf_int))))) (RfE.v (rf_op r_mod (RfE.v (rf_op r_div (zb0 0) (RfE.v rf_int))) (RfE.v rf_int))))))))))),?_⟩
 rintro ds Qd ⟨n,k,rfl,hn,hk,q⟩
 walk_at "ds"
 walk_at "dn"
 refine ze0 λ J hJ=>?_
 walk_at "dd"
 obtain ⟨c,hc⟩:=let26 (i:=(n / 20+7 * (k:Int)) % 26) (by lia) (by lia)
 refine ⟨.inl ⟨by decide,by decide⟩,len26,c,hc,hJ _ ?_⟩
 clear hJ
 refine ze0 λ J hJ=>?_
 walk_at "dd"
 obtain ⟨c2,hc2⟩:=let26 (i:=n / 520 % 26) (by lia) (by lia)
 have l1:∀ c:Nat,(⟨#[c]⟩:Str).length=1:=λ _=>rfl
 refine ⟨len26,c2,hc2,by lia,by rw [l1];lia,by lia,hJ _ ?_⟩
 clear hJ
 walk_at "dd"
 obtain ⟨c3,hc3⟩:=let26 (i:=n / 13520 % 26) (by lia) (by lia)
 have l2:=zan ⟨#[c2]⟩ (n % 4).toNat
 have l3:=zan ⟨#[c3]⟩ (n / 4 % 5).toNat
 rw [l1] at l2 l3
 exact ⟨by rw [l2,l1];lia,len26,c3,hc3,by lia,by rw [l1];lia,by lia,by rw [zot,l2,l3,l1];lia,q _⟩
theorem ze9:FnScope ["c", "d", "wide"] ["c", "d"] (zf0 zu6):=by walk_at "sc"
theorem zqf (M:Md K mg) (T:TopDef K "_law_gate" zu6) (qF:Def P w K mg base "_law_size" 1 ["number"] (spD K zt2)):Def P w K mg base "_law_gate" 2 ["c", "d"] (spD K zv9):=by
 refine def_of M T ze9 (λ _ _ _ _ _ _ us hl=>by obtain ⟨_,_,rfl⟩:=ar2 hl;rfl) (len_D λ ds Qd h=>by obtain ⟨_,_,rfl,_⟩:=h;rfl) (body_D ?_)
 intro f cdv A outer s H E hr
 have nd:=ze9.nd
 refine ⟨_,(dSeq (dAsg (dOp fAdd (dC (.int 1)) (dOp fMod (dCall zt2 (dCons (dVar 1) dNil)) (dOp fPow (dC (.int 10)) (dC (.int 12))))) (gN 2))
   (dSeq (dIf (dTest (dOp fEq (dOp fMod (dVarV 0) (dC (.int 3))) (dC (.int 0)))) (dRet (cE (dTup (dCons (dC (.str "steady")) (dCons (dVar 2) dNil))))) dNext)
   (dSeq (dIf (dTest (dOp fEq (dOp fMod (dVarV 0) (dC (.int 3))) (dC (.int 1)))) (dRet (cE (dTup (dCons (dC (.str "late")) (dCons (dVar 2) (dCons (dOp fMod (dOp fDiv (dVarV 0) (dC (.int 3))) (dOp fIx (dF (dLst (dCons (dC (.int 4)) (dCons (dC (.int 61)) dNil)))) (dOp fMod (dOp fDiv (dVarV 0) (dC (.int 12))) (dC (.int 2))))) dNil)))))) dNext)
   (dRet (cE (dTup (dCons (dC (.str "tidal")) (dCons (dVar 2) (dCons (dOp fAdd (dC (.int 1)) (dOp fMod (dCall zt2 (dCons (dOp fDiv (dVarV 0) (dC (.int 24))) dNil)) (dOp fPow (dC (.int 10)) (dC (.int 12))))) (dCons (dOp fAdd (dC (.int 2)) (dOp fMod (dOp fDiv (dVarV 0) (dC (.int 3))) (dOp fIx (dF (dLst (dCons (dC (.int 4)) (dCons (dC (.int 19)) dNil)))) (dOp fMod (dOp fDiv (dVarV 0) (dC (.int 12))) (dC (.int 2)))))) dNil)))))))))),(zd0 (ps_set (i:=2) nd rfl (by first|exact Or.inl rfl|exact Or.inr rfl) (pe_op (zo0 (K:=K) rfl) pe_int (pe_op op_mod (zk0 qF (Room.mono hr (by decide)) rfl (za0 (pv 1) pa_nil)) (pe_op op_pow pe_int pe_int))))
   (zd0 (ps_if (zt0 (op_eqD (K:=K) rfl (Room.units hr)) (pe_op op_mod (pv 0) pe_int) pe_int (nomark _)) (zh0 (ps_ret (zm3 (za0 pe_str (za0 (pv 2) pa_nil))))) zq0)
   (zd0 (ps_if (zt0 (op_eqD (K:=K) rfl (Room.units hr)) (pe_op op_mod (pv 0) pe_int) pe_int (nomark _)) (zh0 (ps_ret (zm3 (za0 pe_str (za0 (pv 2) (za0 (pe_op op_mod (pe_op za1 (pv 0) pe_int) (pe_ix (ix_V (w:=w) (K:=K) (Room.units hr) rfl rfl) (zl1 (za0 pe_int (za0 pe_int pa_nil))) (pe_op op_mod (pe_op za1 (pv 0) pe_int) pe_int) (λ _ _=>rfl))) pa_nil)))))) zq0)
   (zh0 (ps_ret (zm3 (za0 pe_str (za0 (pv 2) (za0 (pe_op (zo0 (K:=K) rfl) pe_int (pe_op op_mod (zk0 qF (Room.mono hr (by decide)) rfl (za0 (pe_op za1 (pv 0) pe_int) pa_nil)) (pe_op op_pow pe_int pe_int))) (za0 (pe_op (zo0 (K:=K) rfl) pe_int (pe_op op_mod (pe_op za1 (pv 0) pe_int) (pe_ix (ix_V (w:=w) (K:=K) (Room.units hr) rfl rfl) (zl1 (za0 pe_int (za0 pe_int pa_nil))) (pe_op op_mod (pe_op za1 (pv 0) pe_int) pe_int) (λ _ _=>rfl)))) pa_nil)))))))))),(rs_seq (rs_asg (rf_op r_add (RfE.v rf_int) (RfE.v (rf_op r_mod (RfE.v (zw0 (zc0 (rf_var 1) ra_nil))) (RfE.v (rf_op r_pow (RfE.v rf_int) (RfE.v rf_int)))))) (zj0 (i:=2) (n:=100) (by decide)))
   (rs_seq (rs_if (zp0 (rf_opH q_eq (RfV.h (RfE.v (rf_op r_mod (zb0 0) (RfE.v rf_int)))) (RfV.h (RfE.v rf_int)))) (rs_ret (RfE.c (rf_tup (zc0 rf_str (zc0 (rf_var 2) ra_nil))))) zr0)
   (rs_seq (rs_if (zp0 (rf_opH q_eq (RfV.h (RfE.v (rf_op r_mod (zb0 0) (RfE.v rf_int)))) (RfV.h (RfE.v rf_int)))) (rs_ret (RfE.c (rf_tup (zc0 rf_str (zc0 (rf_var 2) (zc0 (rf_op r_mod (RfE.v (rf_op r_div (zb0 0) (RfE.v rf_int))) (RfE.v (rf_op r_ix (RfE.v (RfF.e (rf_lst (zc0 rf_int (zc0 rf_int ra_nil))))) (RfE.v (rf_op r_mod (RfE.v (rf_op r_div (zb0 0) (RfE.v rf_int))) (RfE.v rf_int)))))) ra_nil)))))) zr0)
   (rs_ret (RfE.c (rf_tup (zc0 rf_str (zc0 (rf_var 2) (zc0 (rf_op r_add (RfE.v rf_int) (RfE.v (rf_op r_mod (RfE.v (zw0 (zc0 (rf_op r_div (zb0 0) (RfE.v rf_int)) ra_nil))) (RfE.v (rf_op r_pow (RfE.v rf_int) (RfE.v rf_int)))))) (zc0 (rf_op r_add (RfE.v rf_int) (RfE.v (rf_op r_mod (RfE.v (rf_op r_div (zb0 0) (RfE.v rf_int))) (RfE.v (rf_op r_ix (RfE.v (RfF.e (rf_lst (zc0 rf_int (zc0 rf_int ra_nil))))) (RfE.v (rf_op r_mod (RfE.v (rf_op r_div (zb0 0) (RfE.v rf_int))) (RfE.v rf_int)))))))) ra_nil)))))))))),?_⟩
 rintro ds Qd ⟨c,d,rfl,hc,hd,q⟩
 walk_at "ds"
 refine ze0 λ J hJ=>?_
 walk_at "dd"
 refine ⟨d,rfl,hd,λ m m0 m1=>?_⟩
 walk_at "dd"
 refine ⟨by decide,hJ _ ?_⟩
 clear hJ
 have w1:1<=1+m % 1000000000000:=by lia
 have w2:1+m % 1000000000000<=1000000000000:=by lia
 generalize 1+m % 1000000000000=x at w1 w2
 refine ze0 λ J hJ=>?_
 walk_at "dd"
 refine two (λ _=>q (.st x) ⟨trivial,λ _=>by show 0<=x/\x<=_;lia⟩) λ _=>hJ _ ?_
 clear hJ
 refine ze0 λ J hJ=>?_
 walk_at "dd"
 have h2:c / 12 % 2=0 \/ c / 12 % 2=1:=by lia
 have at4:∀ a b:Int,∃ r:Nat,0 < r/\r < 1000/\atI [PyData.int 4,PyData.int 61] (c / 12 % 2)=some (.int (r:Int)):=λ _ _=>by
  rcases h2 with h|h
  ·exact ⟨4,by decide,by decide,by rw [h];rfl⟩
  ·exact ⟨61,by decide,by decide,by rw [h];rfl⟩
 have at19:∃ r:Nat,0 < r/\r < 900/\atI [PyData.int 4,PyData.int 19] (c / 12 % 2)=some (.int (r:Int)):=by
  rcases h2 with h|h
  ·exact ⟨4,by decide,by decide,by rw [h];rfl⟩
  ·exact ⟨19,by decide,by decide,by rw [h];rfl⟩
 obtain ⟨r,r0,r1,hr'⟩:=at4 0 0
 obtain ⟨t,t0,t1,ht⟩:=at19
 refine two (λ _=>⟨_,hr',?_⟩) λ _=>hJ _ ?_
 ·have e1:=Int.emod_nonneg (c / 3) (b:=(r:Int)) (by lia)
  obtain ⟨f,hf⟩:=Int.eq_ofNat_of_zero_le e1
  walk_at "dd"
  rw [hf]
  refine ⟨by lia,q (.la x f) ⟨trivial,λ m=>?_⟩⟩
  show 0<=(if f<=m then x else 0)/\(if f<=m then x else 0)<=_
  split <;> lia
 clear hJ
 walk_at "dd"
 refine ⟨_,rfl,by lia,λ m' m0' m1'=>?_⟩
 walk_at "dd"
 refine ⟨by decide,_,ht,?_⟩
 walk_at "dd"
 have e1:=Int.emod_nonneg (c / 3) (b:=(t:Int)) (by lia)
 have e2:=Int.emod_lt_of_pos (c / 3) (b:=(t:Int)) (by lia)
 obtain ⟨f,hf⟩:=Int.eq_ofNat_of_zero_le e1
 rw [hf] at e2 ⊢
 refine ⟨by lia,?_⟩
 have e3:(2:Int)+(f:Nat)=((2+f:Nat):Int):=by lia
 rw [e3]
 refine q (.ti x _ (2+f)) ⟨⟨by lia,by lia⟩,λ m=>?_⟩
 show 0<=(if m % (2+f)=0 then x else _)/\(if m % (2+f)=0 then x else _)<=_
 split <;> lia
theorem zx8:FnScope ["script", "k", "many", "number", "start", "goal", "length", "gate"] ["script", "k", "many"] (zf0 za6):=by walk_at "sc"
theorem zve (M:Md K mg) (T:TopDef K "_law_pipe" za6) (jI:Def P w K mg base "_law_draw" 1 ["script", "k"] (spD K zm0)) (uS:Def P w K mg base "_law_gate" 2 ["c", "d"] (spD K zv9)):Def P w K mg base "_law_pipe" 3 ["script", "k", "many"] (spD K zs9):=by
 refine def_of M T zx8 (λ _ _ _ _ _ _ us hl=>by obtain ⟨_,_,_,rfl⟩:=ar3 hl;rfl) (len_D λ ds Qd h=>by obtain ⟨_,_,_,rfl,_⟩:=h;rfl) (body_D ?_)
 intro f cdv A outer s H E hr
 have nd:=zx8.nd
 refine ⟨_,(dSeq (dAsg (dCall zm0 (dCons (dVar 0) (dCons (dOp fAdd (dC (.int 40)) (dOp fMul (dC (.int 4)) (dVarV 1))) dNil))) (gN 3))
   (dSeq (dAsg (dOp fMod (dVarV 3) (dVarV 2)) (gN 4))
   (dSeq (dAsg (dOp fMod (dOp fAdd (dOp fAdd (dVarV 4) (dC (.int 1))) (dOp fMod (dOp fDiv (dVarV 3) (dVarV 2)) (dOp fSub (dVarV 2) (dC (.int 1))))) (dVarV 2)) (gN 5))
   (dSeq (dAsg (dCall zm0 (dCons (dVar 0) (dCons (dOp fAdd (dC (.int 41)) (dOp fMul (dC (.int 4)) (dVarV 1))) dNil))) (gN 3))
   (dSeq (dAsg (dOp fAdd (dC (.int 1)) (dOp fMod (dVarV 3) (dC (.int 3)))) (gN 6))
   (dSeq (dIf (dTest (dOp fEq (dOp fMod (dOp fDiv (dVarV 3) (dC (.int 3))) (dC (.int 4))) (dC (.int 0)))) (dAsg (dOp fAdd (dC (.int 1)) (dOp fMod (dOp fDiv (dVarV 3) (dC (.int 12))) (dC (.int 20)))) (gN 6)) dNext)
   (dSeq (dAsg (dCall zv9 (dCons (dCall zm0 (dCons (dVar 0) (dCons (dOp fAdd (dC (.int 42)) (dOp fMul (dC (.int 4)) (dVarV 1))) dNil))) (dCons (dCall zm0 (dCons (dVar 0) (dCons (dOp fAdd (dC (.int 43)) (dOp fMul (dC (.int 4)) (dVarV 1))) dNil))) dNil))) (gN 7))
   (dRet (cE (dTup (dCons (dVar 4) (dCons (dVar 5) (dCons (dVar 6) (dCons (dOp fMod (dOp fDiv (dVarV 3) (dC (.int 1000))) (dC (.int 1000001))) (dCons (dVar 7) dNil))))))))))))))),(zd0 (ps_set (i:=3) nd rfl (by first|exact Or.inl rfl|exact Or.inr rfl) (zk0 jI (Room.mono hr (by decide)) rfl (za0 (pv 0) (za0 (pe_op (zo0 (K:=K) rfl) pe_int (pe_op zm1 pe_int (pv 1))) pa_nil))))
   (zd0 (ps_set (i:=4) nd rfl (by first|exact Or.inl rfl|exact Or.inr rfl) (pe_op op_mod (pv 3) (pv 2)))
   (zd0 (ps_set (i:=5) nd rfl (by first|exact Or.inl rfl|exact Or.inr rfl) (pe_op op_mod (pe_op (zo0 (K:=K) rfl) (pe_op (zo0 (K:=K) rfl) (pv 4) pe_int) (pe_op op_mod (pe_op za1 (pv 3) (pv 2)) (pe_op op_sub (pv 2) pe_int))) (pv 2)))
   (zd0 (ps_set (i:=3) nd rfl (by first|exact Or.inl rfl|exact Or.inr rfl) (zk0 jI (Room.mono hr (by decide)) rfl (za0 (pv 0) (za0 (pe_op (zo0 (K:=K) rfl) pe_int (pe_op zm1 pe_int (pv 1))) pa_nil))))
   (zd0 (ps_set (i:=6) nd rfl (by first|exact Or.inl rfl|exact Or.inr rfl) (pe_op (zo0 (K:=K) rfl) pe_int (pe_op op_mod (pv 3) pe_int)))
   (zd0 (ps_if (zt0 (op_eqD (K:=K) rfl (Room.units hr)) (pe_op op_mod (pe_op za1 (pv 3) pe_int) pe_int) pe_int (nomark _)) (zh0 (ps_set (i:=6) nd rfl (by first|exact Or.inl rfl|exact Or.inr rfl) (pe_op (zo0 (K:=K) rfl) pe_int (pe_op op_mod (pe_op za1 (pv 3) pe_int) pe_int)))) zq0)
   (zd0 (ps_set (i:=7) nd rfl (by first|exact Or.inl rfl|exact Or.inr rfl) (zk0 uS (Room.mono hr (by decide)) rfl (za0 (zk0 jI (Room.mono hr (by decide)) rfl (za0 (pv 0) (za0 (pe_op (zo0 (K:=K) rfl) pe_int (pe_op zm1 pe_int (pv 1))) pa_nil))) (za0 (zk0 jI (Room.mono hr (by decide)) rfl (za0 (pv 0) (za0 (pe_op (zo0 (K:=K) rfl) pe_int (pe_op zm1 pe_int (pv 1))) pa_nil))) pa_nil))))
   (zh0 (ps_ret (zm3 (za0 (pv 4) (za0 (pv 5) (za0 (pv 6) (za0 (pe_op op_mod (pe_op za1 (pv 3) pe_int) pe_int) (za0 (pv 7) pa_nil))))))))))))))),(rs_seq (rs_asg (zw0 (zc0 (rf_var 0) (zc0 (rf_op r_add (RfE.v rf_int) (RfE.v (rf_op r_mul (RfE.v rf_int) (zb0 1)))) ra_nil))) (zj0 (i:=3) (n:=100) (by decide)))
   (rs_seq (rs_asg (rf_op r_mod (zb0 3) (zb0 2)) (zj0 (i:=4) (n:=100) (by decide)))
   (rs_seq (rs_asg (rf_op r_mod (RfE.v (rf_op r_add (RfE.v (rf_op r_add (zb0 4) (RfE.v rf_int))) (RfE.v (rf_op r_mod (RfE.v (rf_op r_div (zb0 3) (zb0 2))) (RfE.v (rf_op r_sub (zb0 2) (RfE.v rf_int))))))) (zb0 2)) (zj0 (i:=5) (n:=100) (by decide)))
   (rs_seq (rs_asg (zw0 (zc0 (rf_var 0) (zc0 (rf_op r_add (RfE.v rf_int) (RfE.v (rf_op r_mul (RfE.v rf_int) (zb0 1)))) ra_nil))) (zj0 (i:=3) (n:=100) (by decide)))
   (rs_seq (rs_asg (rf_op r_add (RfE.v rf_int) (RfE.v (rf_op r_mod (zb0 3) (RfE.v rf_int)))) (zj0 (i:=6) (n:=100) (by decide)))
   (rs_seq (rs_if (zp0 (rf_opH q_eq (RfV.h (RfE.v (rf_op r_mod (RfE.v (rf_op r_div (zb0 3) (RfE.v rf_int))) (RfE.v rf_int)))) (RfV.h (RfE.v rf_int)))) (rs_asg (rf_op r_add (RfE.v rf_int) (RfE.v (rf_op r_mod (RfE.v (rf_op r_div (zb0 3) (RfE.v rf_int))) (RfE.v rf_int)))) (zj0 (i:=6) (n:=100) (by decide))) zr0)
   (rs_seq (rs_asg (zw0 (zc0 (zw0 (zc0 (rf_var 0) (zc0 (rf_op r_add (RfE.v rf_int) (RfE.v (rf_op r_mul (RfE.v rf_int) (zb0 1)))) ra_nil))) (zc0 (zw0 (zc0 (rf_var 0) (zc0 (rf_op r_add (RfE.v rf_int) (RfE.v (rf_op r_mul (RfE.v rf_int) (zb0 1)))) ra_nil))) ra_nil))) (zj0 (i:=7) (n:=100) (by decide)))
   (rs_ret (RfE.c (rf_tup (zc0 (rf_var 4) (zc0 (rf_var 5) (zc0 (rf_var 6) (zc0 (rf_op r_mod (RfE.v (rf_op r_div (zb0 3) (RfE.v rf_int))) (RfE.v rf_int)) (zc0 (rf_var 7) ra_nil))))))))))))))),?_⟩
 rintro ds Qd ⟨ns,k,n,rfl,hk,hn,hn2,q⟩
 walk_at "ds"
 refine ze0 λ J hJ=>?_
 walk_at "dd"
 refine ⟨.inl ⟨by decide,by decide⟩,ns,40+4 * k,by congr 2,by lia,λ m m0 m1=>hJ _ ?_⟩
 clear hJ
 refine ze0 λ J hJ=>?_
 walk_at "dd"
 refine ⟨by lia,hJ _ ?_⟩
 clear hJ
 refine ze0 λ J hJ=>?_
 walk_at "dd"
 have u0:=Int.emod_nonneg m (b:=(n:Int)) (by lia)
 have u1:=Int.emod_lt_of_pos m (b:=(n:Int)) (by lia)
 have v1:=Int.emod_lt_of_pos (m % (n:Int)+1+m / (n:Int) % ((n:Int) - 1)) (b:=(n:Int)) (by lia)
 have v0:=Int.emod_nonneg (m % (n:Int)+1+m / (n:Int) % ((n:Int) - 1)) (b:=(n:Int)) (by lia)
 obtain ⟨u,hu⟩:=Int.eq_ofNat_of_zero_le u0
 obtain ⟨v,hv⟩:=Int.eq_ofNat_of_zero_le v0
 refine ⟨⟨by lia,by lia⟩,by lia,by lia,hJ _ ?_⟩
 rw [hv,hu]
 rw [hv] at v1
 rw [hu] at u1
 clear hJ hv hu v0 u0
 refine ze0 λ J hJ=>?_
 walk_at "dd"
 refine ⟨.inl ⟨by decide,by decide⟩,ns,41+4 * k,by congr 2,by lia,λ m2 m20 m21=>hJ _ ?_⟩
 clear hJ
 walk_at "dn"
 refine zn2 (λ δ=>∃ l:Nat,1<=l/\δ=[.sh (.list (ns.map .int)),.sh (.int (k:Int)),.sh (.int (n:Int)),.sh (.int m2),.sh (.int (u:Int)),.sh (.int (v:Int)),.sh (.int (l:Int)),.un]) ?_ ?_
 ·walk_at "dd"
  refine two (λ _=>⟨(1+m2 / 12 % 20).toNat,by lia,?_⟩) λ _=>⟨(1+m2 % 3).toNat,by lia,?_⟩
  ·rw [show ((1+m2 / 12 % 20).toNat:Int)=1+m2 / 12 % 20 by lia]
  ·rw [show ((1+m2 % 3).toNat:Int)=1+m2 % 3 by lia]
 rintro δ ⟨l,l1,rfl⟩
 refine ze0 λ J hJ=>?_
 walk_at "dd"
 refine ⟨.inl ⟨by decide,by decide⟩,ns,42+4 * k,by congr 2,by lia,λ m3 m30 m31=>?_⟩
 walk_at "dd"
 refine ⟨.inl ⟨by decide,by decide⟩,ns,43+4 * k,by congr 2,by lia,λ m4 m40 m41=>⟨m3,m4,rfl,m30,m40,λ g hg=>hJ _ ?_⟩⟩
 clear hJ
 walk_at "dd"
 exact q ⟨u,v,l,_,g⟩ (by show u < n;lia) (by show v < n;lia) l1 hg
theorem zf7:FnScope ["gate", "now"] ["gate", "now"] (zf0 zc5):=by walk_at "sc"
theorem zwd (M:Md K mg) (T:TopDef K "_law_width" zc5) :Def P w K mg base "_law_width" 1 ["gate", "now"] (spD K zr6):=by
 refine def_of M T zf7 (λ _ _ _ _ _ _ us hl=>by obtain ⟨_,_,rfl⟩:=ar2 hl;rfl) (len_D λ ds Qd h=>by obtain ⟨_,_,rfl,_⟩:=h;rfl) (body_D ?_)
 intro f cdv A outer s H E hr
 have nd:=zf7.nd
 refine ⟨_,(dSeq (dIf (dAnd (dTest (dOp fEq (dOp fIx (dVarV 0) (dC (.int 0))) (dC (.str "late")))) (dTest (dOp fLt (dVarV 1) (dOp fIx (dVarV 0) (dC (.int 2)))))) (dRet (cE (dC (.int 0)))) dNext)
   (dSeq (dIf (dAnd (dTest (dOp fEq (dOp fIx (dVarV 0) (dC (.int 0))) (dC (.str "tidal")))) (dTest (dOp fNe (dOp fMod (dVarV 1) (dOp fIx (dVarV 0) (dC (.int 3)))) (dC (.int 0))))) (dRet (cE (dOp fIx (dVarV 0) (dC (.int 2))))) dNext)
   (dRet (cE (dOp fIx (dVarV 0) (dC (.int 1))))))),(zd0 (ps_if (PW.pt (pw_and (zt0 (op_eqD (K:=K) rfl (Room.units hr)) (pe_ix (ix_V (w:=w) (K:=K) (Room.units hr) rfl rfl) (pv 0) pe_int (λ _ _=>rfl)) pe_str (nomark _)) (zjn (zt0 op_lt (pv 1) (pe_ix (ix_V (w:=w) (K:=K) (Room.units hr) rfl rfl) (pv 0) pe_int (λ _ _=>rfl)) (nomark _))))) (zh0 (ps_ret pe_int)) zq0)
   (zd0 (ps_if (PW.pt (pw_and (zt0 (op_eqD (K:=K) rfl (Room.units hr)) (pe_ix (ix_V (w:=w) (K:=K) (Room.units hr) rfl rfl) (pv 0) pe_int (λ _ _=>rfl)) pe_str (nomark _)) (zjn (zt0 (op_neD (K:=K) rfl (Room.units hr)) (pe_op op_mod (pv 1) (pe_ix (ix_V (w:=w) (K:=K) (Room.units hr) rfl rfl) (pv 0) pe_int (λ _ _=>rfl))) pe_int (nomark _))))) (zh0 (ps_ret (pe_ix (ix_V (w:=w) (K:=K) (Room.units hr) rfl rfl) (pv 0) pe_int (λ _ _=>rfl)))) zq0)
   (zh0 (ps_ret (pe_ix (ix_V (w:=w) (K:=K) (Room.units hr) rfl rfl) (pv 0) pe_int (λ _ _=>rfl)))))),(rs_seq (rs_if (rf_and (zp0 (rf_opH q_eq (RfV.h (RfE.v (rf_op r_ix (zb0 0) (RfE.v rf_int)))) (RfV.h (RfE.v rf_str)))) (zp0 (rf_op r_lt (zb0 1) (RfE.v (rf_op r_ix (zb0 0) (RfE.v rf_int)))))) (rs_ret (RfE.c rf_int)) zr0)
   (rs_seq (rs_if (rf_and (zp0 (rf_opH q_eq (RfV.h (RfE.v (rf_op r_ix (zb0 0) (RfE.v rf_int)))) (RfV.h (RfE.v rf_str)))) (zp0 (rf_opH q_ne (RfV.h (RfE.v (rf_op r_mod (zb0 1) (RfE.v (rf_op r_ix (zb0 0) (RfE.v rf_int)))))) (RfV.h (RfE.v rf_int))))) (rs_ret (RfE.c (rf_op r_ix (zb0 0) (RfE.v rf_int)))) zr0)
   (rs_ret (RfE.c (rf_op r_ix (zb0 0) (RfE.v rf_int)))))),?_⟩
 rintro ds Qd ⟨g,m,rfl,ok,q⟩
 walk_at "ds"
 cases g with
|st x =>
  unfold Gt.d
  refine ze0 λ J hJ=>?_
  walk_at "dd"
  refine ⟨_,rfl,?_⟩
  walk_at "dd"
  rw [if_neg (by decide +kernel)]
  refine hJ _ ?_
  clear hJ
  refine ze0 λ J hJ=>?_
  walk_at "dd"
  refine ⟨_,rfl,?_⟩
  walk_at "dd"
  rw [if_neg (by decide +kernel)]
  refine hJ _ ?_
  clear hJ
  walk_at "dd"
  exact ⟨_,rfl,q⟩
|la x f =>
  unfold Gt.d
  refine ze0 λ J hJ=>?_
  walk_at "dd"
  refine ⟨_,rfl,?_⟩
  walk_at "dd"
  refine ⟨_,rfl,?_⟩
  walk_at "dd"
  refine two (λ h=>?_) λ h=>hJ _ ?_
  ·have e:Gt.at (.la x f) m=0:=if_neg (by lia)
   rw [e] at q;exact q
  clear hJ
  refine ze0 λ J hJ=>?_
  walk_at "dd"
  refine ⟨_,rfl,?_⟩
  walk_at "dd"
  rw [if_neg (by decide +kernel)]
  refine hJ _ ?_
  clear hJ
  walk_at "dd"
  have e:Gt.at (.la x f) m=x:=if_pos (by lia)
  rw [e] at q
  exact ⟨_,rfl,q⟩
|ti x y t =>
  obtain ⟨o1,o2⟩:=ok
  unfold Gt.d
  refine ze0 λ J hJ=>?_
  walk_at "dd"
  refine ⟨_,rfl,?_⟩
  walk_at "dd"
  rw [if_neg (by decide +kernel)]
  refine hJ _ ?_
  clear hJ
  refine ze0 λ J hJ=>?_
  walk_at "dd"
  refine ⟨_,rfl,?_⟩
  walk_at "dd"
  refine ⟨_,rfl,?_⟩
  walk_at "dd"
  refine ⟨by lia,two (λ h=>⟨_,rfl,?_⟩) λ h=>hJ _ ?_⟩
  ·have e:Gt.at (.ti x y t) m=y:=if_neg (by lia)
   rw [e] at q;exact q
  clear hJ
  walk_at "dd"
  have e:Gt.at (.ti x y t) m=x:=if_pos (by lia)
  rw [e] at q
  exact ⟨_,rfl,q⟩
end
def zf1:DSp:=λ ds Q=>∃ i:Int,ds=[.int i,.int i]/\Q (.bool true)
def zp1:DSp:=λ ds Q=>∃ xs:List Int,ds=[.list (xs.map .int),.list (xs.map .int)]/\xs.length<=1000/\Q (.bool true)
def zz3:DSp:=λ ds Q=>∃ xs:List (List Int),ds=[.list (xs.map rowD),.list (xs.map rowD)]/\xs.length<=1000/\(∀ l∈xs,l.length<=1000)/\Q (.bool true)
theorem zs {α:Type}:∀ {xs:List α} {p:α×α},p∈xs.zip xs->p.1=p.2/\p.1∈xs
|[],_,h=>by simp at h
|x :: r,p,h=>by
  rw [List.zip_cons_cons] at h
  rcases List.mem_cons.mp h with e|e
  ·subst e;exact ⟨rfl,List.mem_cons_self⟩
  ·exact ⟨(zs e).1,List.mem_cons_of_mem _ (zs e).2⟩
section
variable {P:Program} {w:World} {K:Fg} {mg:Str->Option Value} {base:Heap}
theorem za7:FnScope ["found", "due"] ["found", "due"] (zf0 zf5):=by walk_at "sc"
theorem zle (M:Md K mg) (T:TopDef K "_law_whole" zf5) (kt:Kit K) (vT:mg "bool"=none) (vQ:mg "int"=none) (jE:mg "isinstance"=none):Def P w K mg base "_law_whole" 1 ["found", "due"] (spD K zf1):=by
 refine def_of M T za7 (λ _ _ _ _ _ _ us hl=>by obtain ⟨_,_,rfl⟩:=ar2 hl;rfl) (len_D λ ds Qd h=>by obtain ⟨_,rfl,_⟩:=h;rfl) (body_D ?_)
 intro f cdv A outer s H E hr
 have nd:=za7.nd
 refine ⟨_,(dRet (cE (dAndV (dIs "int" (dVarV 0)) (dAndV (dNotV (dIs "bool" (dVarV 0))) (dOp fEq (dVarV 0) (dVarV 1)))))),(zh0 (ps_ret (pe_and (zl0 (zq8 (K:=K) rfl) rfl jE zi0 (za0 (pv 0) (za0 (zj9 (v:=.ty "int") rfl vQ bt_int rfl) pa_nil))) (pe_and (pe_not (zl0 (zq8 (K:=K) rfl) rfl jE zi0 (za0 (pv 0) (za0 (zj9 (v:=.ty "bool") rfl vT zrs rfl) pa_nil)))) (pe_one (zeb (op_eqD (K:=K) rfl (Room.units hr)) (pv 0) (pv 1) (nomark _))))))),(rs_ret (RfE.c (zhm (rf_is kt (by simp) (zb0 0)) (zhm (zti (rf_is kt (by simp) (zb0 0))) (rf_opH q_eq (RfV.h (zb0 0)) (RfV.h (zb0 1))))))),?_⟩
 rintro ds Qd ⟨i,rfl,q⟩
 walk_at "ds"
 walk_at "dd"
 exact ⟨λ _=>trivial,λ _=>trivial,q⟩
theorem zr5:FnScope ["found", "due"] ["found", "due"] (zf0 zi2):=by walk_at "sc"
theorem zcc (M:Md K mg) (T:TopDef K "_law_wholes" zi2) (kt:Kit K) (jE:mg "isinstance"=none) (kJ:mg "len"=none) (qA:mg "list"=none) (vR:mg "zip"=none) (jY:Def P w K mg base "_law_whole" 1 ["found", "due"] (spD K zf1)):Def P w K mg base "_law_wholes" 2 ["found", "due"] (spD K zp1):=by
 refine def_of M T zr5 (λ _ _ _ _ _ _ us hl=>by obtain ⟨_,_,rfl⟩:=ar2 hl;rfl) (len_D λ ds Qd h=>by obtain ⟨_,rfl,_⟩:=h;rfl) (body_D ?_)
 intro f cdv A outer s H E hr
 have nd:=zr5.nd
 refine ⟨_,(dSeq (dIf (dOr (dNot (dTru (dIs "list" (dVarV 0)))) (dTest (dOp fNe (dCB fLen (dCons (dVarV 0) dNil)) (dCB fLen (dCons (dVarV 1) dNil))))) (dRet (cE (dC (.bool false)))) dNext)
   (dRet (cE (dOp fEq (dF (dComp (dZip (dCons (dVarV 0) (dCons (dVarV 1) dNil))) 2 [] (gT 2 (gsCons (gN 0) (gsCons (gN 1) gsNil))) (dNot (dTru (dCall zf1 (dCons (dVar 0) (dCons (dVar 1) dNil))))) (dC (.int 1)))) (dF (dLst dNil)))))),(zd0 (ps_if (PW.pt (pw_or (pt_not (zh2 (K:=K) rfl (zl0 (zq8 (K:=K) rfl) rfl jE zi0 (za0 (pv 0) (za0 (zj9 (v:=.ty "list") rfl qA zg7 rfl) pa_nil))) (λ _=>rfl))) (pw_or1 (zt0 (op_neD (K:=K) rfl (Room.units hr)) (zl0 (zi1 (K:=K) rfl) rfl kJ bt_len (za0 (pv 0) pa_nil)) (zl0 (zi1 (K:=K) rfl) rfl kJ bt_len (za0 (pv 1) pa_nil)) (nomark _))))) (zh0 (ps_ret pe_bl)) zq0)
   (zh0 (ps_ret (zeb (op_eqD (K:=K) rfl (Room.units hr)) (zx3 (sc:=zf0 zi2) (N:=["found", "due"]) (own:=["one", "other"]) (ix:=[]) rfl rfl rfl (by walk_at "csc") (pi_zip (K:=K) rfl rfl vR (za0 (pv 0) (za0 (pv 1) pa_nil))) (λ _ _ _ _=>⟨(zbe (K:=K) (n:=2) rfl rfl (zj2 (ze1 (i:=0) (show (["one", "other"]:List Str).Nodup by decide +kernel) rfl (by first|exact Or.inl rfl|exact Or.inr rfl)) (zj2 (ze1 (i:=1) (show (["one", "other"]:List Str).Nodup by decide +kernel) rfl (by first|exact Or.inl rfl|exact Or.inr rfl)) zfe))),(zwn (pt_not (zh2 (K:=K) rfl (zk0 jY (Room.mono hr (by decide)) rfl (za0 (pv 0) (za0 (pv 1) pa_nil))) (λ _=>rfl)))),pe_int⟩)) (zl1 pa_nil) (nomark _))))),(rs_seq (rs_if (rf_or (rf_not (rf_tru (RfE.v (rf_is kt (by simp) (zb0 0))))) (zp0 (rf_opH q_ne (RfV.h (RfE.v (rf_cb c_len (zx0 (zb0 0) rw_nil)))) (RfV.h (RfE.v (rf_cb c_len (zx0 (zb0 1) rw_nil))))))) (rs_ret (RfE.c rf_bl)) zr0)
   (rs_ret (RfE.c (rf_opH q_eq (RfV.h (RfE.v (RfF.e (zs4 (rj_zip (zx0 (zb0 0) (zx0 (zb0 1) rw_nil))) (rg_tup (zs3 (zj0 (i:=0) (n:=2) (by decide)) (zs3 (zj0 (i:=1) (n:=2) (by decide)) zcg))) (rf_not (rf_tru (RfE.v (zw0 (zc0 (rf_var 0) (zc0 (rf_var 1) ra_nil)))))) rf_int)))) (rh_lst rh_nil))))),?_⟩
 rintro ds Qd ⟨xs,rfl,hl,q⟩
 walk_at "ds"
 refine ze0 λ J hJ=>?_
 walk_at "dd"
 refine ⟨λ _=>trivial,hJ _ ?_⟩
 clear hJ
 walk_at "dd"
 rw [zfi]
 refine compF (λ _=>none) (by rw [List.length_zip,sizeLine_eq];lia) (λ x hx=>?_) ?_
 ·obtain ⟨a,b⟩:=x
  obtain ⟨e,_⟩:=zs hx
  dsimp only at e
  subst e
  walk_at "cs"
  walk_at "dd"
  refine ⟨a,rfl,?_⟩
  walk_at "dd"
  done
 ·have:∀ l:List (Int×Int),l.filterMap (λ _=>(none:Option D))=[]:=λ l=>by simp
  rw [this];exact ⟨rfl,rfl,q⟩
theorem zj4:FnScope ["found", "due", "one", "other"] ["found", "due"] (zf0 zz2):=by walk_at "sc"
theorem zha (M:Md K mg) (T:TopDef K "_law_comings" zz2) (kt:Kit K) (jE:mg "isinstance"=none) (kJ:mg "len"=none) (qA:mg "list"=none) (vN:mg "tuple"=none) (vR:mg "zip"=none) (kY:Def P w K mg base "_law_wholes" 2 ["found", "due"] (spD K zp1)):Def P w K mg base "_law_comings" 3 ["found", "due"] (spD K zz3):=by
 refine def_of M T zj4 (λ _ _ _ _ _ _ us hl=>by obtain ⟨_,_,rfl⟩:=ar2 hl;rfl) (len_D λ ds Qd h=>by obtain ⟨_,rfl,_⟩:=h;rfl) (body_D ?_)
 intro f cdv A outer s H E hr
 have nd:=zj4.nd
 refine ⟨_,(dSeq (dIf (dOr (dNot (dTru (dIs "list" (dVarV 0)))) (dTest (dOp fNe (dCB fLen (dCons (dVarV 0) dNil)) (dCB fLen (dCons (dVarV 1) dNil))))) (dRet (cE (dC (.bool false)))) dNext)
   (dSeq (dFor (dZip (dCons (dVar 0) (dCons (dVar 1) dNil))) (gT 2 (gsCons (gN 2) (gsCons (gN 3) gsNil))) (dIf (dOr (dNot (dTru (dIs "tuple" (dVarV 2)))) (dNot (dTru (dCallB zp1 (dCons (dF (dCF fList (dCons (dVarV 2) dNil))) (dCons (dF (dCF fList (dCons (dVarV 3) dNil))) dNil)))))) (dRet (cE (dC (.bool false)))) dNext))
   (dRet (cE (dC (.bool true)))))),(zd0 (ps_if (PW.pt (pw_or (pt_not (zh2 (K:=K) rfl (zl0 (zq8 (K:=K) rfl) rfl jE zi0 (za0 (pv 0) (za0 (zj9 (v:=.ty "list") rfl qA zg7 rfl) pa_nil))) (λ _=>rfl))) (pw_or1 (zt0 (op_neD (K:=K) rfl (Room.units hr)) (zl0 (zi1 (K:=K) rfl) rfl kJ bt_len (za0 (pv 0) pa_nil)) (zl0 (zi1 (K:=K) rfl) rfl kJ bt_len (za0 (pv 1) pa_nil)) (nomark _))))) (zh0 (ps_ret pe_bl)) zq0)
   (zd0 (ps_for PassesOwn.never rfl (pi_zip (K:=K) rfl rfl vR (za0 (pv 0) (za0 (pv 1) pa_nil))) (zbe (K:=K) (n:=2) rfl rfl (zj2 (ze1 (i:=2) nd rfl (by first|exact Or.inl rfl|exact Or.inr rfl)) (zj2 (ze1 (i:=3) nd rfl (by first|exact Or.inl rfl|exact Or.inr rfl)) zfe))) (zh0 (ps_if (PW.pt (pw_or (pt_not (zh2 (K:=K) rfl (zl0 (zq8 (K:=K) rfl) rfl jE zi0 (za0 (pv 2) (za0 (zj9 (v:=.ty "tuple") rfl vN zzn rfl) pa_nil))) (λ _=>rfl))) (pw_or1 (pt_not (zh2 (K:=K) rfl (zk0 kY (Room.mono hr (by decide)) rfl (za0 (zw2 (zq2 (K:=K) rfl) rfl qA zg7 (za0 (pv 2) pa_nil)) (za0 (zw2 (zq2 (K:=K) rfl) rfl qA zg7 (za0 (pv 3) pa_nil)) pa_nil))) (λ _=>rfl)))))) (zh0 (ps_ret pe_bl)) zq0)))
   (zh0 (ps_ret pe_bl)))),(rs_seq (rs_if (rf_or (rf_not (rf_tru (RfE.v (rf_is kt (by simp) (zb0 0))))) (zp0 (rf_opH q_ne (RfV.h (RfE.v (rf_cb c_len (zx0 (zb0 0) rw_nil)))) (RfV.h (RfE.v (rf_cb c_len (zx0 (zb0 1) rw_nil))))))) (rs_ret (RfE.c rf_bl)) zr0)
   (rs_seq (rs_for (ri_zip (zc0 (rf_var 0) (zc0 (rf_var 1) ra_nil))) (rg_tup (zs3 (zj0 (i:=2) (n:=100) (by decide)) (zs3 (zj0 (i:=3) (n:=100) (by decide)) zcg))) (rs_if (rf_or (rf_not (rf_tru (RfE.v (rf_is kt (by simp) (zb0 2))))) (rf_not (rf_tru (RfE.v (zue (zx0 (RfE.v (RfF.e (rf_cf c_list (zx0 (zb0 2) rw_nil)))) (zx0 (RfE.v (RfF.e (rf_cf c_list (zx0 (zb0 3) rw_nil)))) rw_nil))))))) (rs_ret (RfE.c rf_bl)) zr0))
   (rs_ret (RfE.c rf_bl)))),?_⟩
 rintro ds Qd ⟨xs,rfl,hl,hl2,q⟩
 walk_at "ds"
 refine ze0 λ J hJ=>?_
 walk_at "dd"
 refine ⟨λ _=>trivial,hJ _ ?_⟩
 clear hJ
 refine ze0 λ J hJ=>?_
 walk_at "dd"
 rw [zfi]
 refine zib (λ _ δ=>∃ s2 s3:Sl,δ=[.sh (.list (xs.map rowD)),.sh (.list (xs.map rowD)),s2,s3]) ⟨.un,.un,rfl⟩ ?_ ?_
 ·rintro i x δ hx ⟨s2,s3,rfl⟩
  obtain ⟨a,b⟩:=x
  obtain ⟨e,hm⟩:=zs (List.mem_of_getElem? hx)
  dsimp only at e hm
  subst e
  unfold rowD
  walk_at "dd"
  refine ⟨λ _=>trivial,a,rfl,hl2 a hm,?_⟩
  walk_at "dd"
  exact ⟨_,_,rfl⟩
 ·rintro δ ⟨s2,s3,rfl⟩
  refine hJ _ ?_
  clear hJ
  walk_at "dd"
  exact q
end
structure Yd (vs:List Va) (ps:List Pi):Prop where
 v12:vs.length<=12
 p24:ps.length<=24
 va:∀ v∈vs,0<=v.fill/\v.fill<=v.room/\v.room<=1000000000000
 pu:∀ p∈ps,p.u < vs.length/\p.v < vs.length/\1<=p.len/\p.g.okk
abbrev dYard (vs:List Va) (ps:List Pi):D:=.tuple [.list (vs.map Va.d),.list (ps.map Pi.d)]
def zb9:DSp:=λ ds Q=>∃ ns:List Int,ds=[.list (ns.map .int)]/\∀ vs ps,Yd vs ps->Q (dYard vs ps)
section
variable {P:Program} {w:World} {K:Fg} {mg:Str->Option Value} {base:Heap}
theorem zw9:FnScope ["script", "many", "vats", "k", "room", "fill", "count"] ["script"] (zf0 zd4):=by walk_at "sc"
theorem zff (M:Md K mg) (T:TopDef K "_law_yard" zd4) (kF:mg "range"=none) (jI:Def P w K mg base "_law_draw" 1 ["script", "k"] (spD K zm0)) (qF:Def P w K mg base "_law_size" 1 ["number"] (spD K zt2)) (uT:Def P w K mg base "_law_name" 1 ["number", "k"] (spD K zl8)) (uU:Def P w K mg base "_law_pipe" 3 ["script", "k", "many"] (spD K zs9)):Def P w K mg base "_law_yard" 4 ["script"] (spD K zb9):=by
 refine def_of M T zw9 (λ _ _ _ _ _ _ us hl=>by obtain ⟨_,rfl⟩:=ar1 hl;rfl) (len_D λ ds Qd h=>by obtain ⟨_,rfl,_⟩:=h;rfl) (body_D ?_)
 intro f cdv A outer s H E hr
 have nd:=zw9.nd
 refine ⟨_,(dSeq (dAsg (dOp fAdd (dC (.int 1)) (dOp fMod (dCall zm0 (dCons (dVar 0) (dCons (dC (.int 0)) dNil))) (dC (.int 4)))) (gN 1))
   (dSeq (dIf (dTest (dOp fEq (dOp fMod (dCall zm0 (dCons (dVar 0) (dCons (dC (.int 1)) dNil))) (dC (.int 8))) (dC (.int 0)))) (dAsg (dC (.int 12)) (gN 1)) dNext)
   (dSeq (dSet 2 (cF (dLst dNil)))
   (dSeq (dFor (dRng1 (dCons (dVar 1) dNil)) (gN 3) (dSeq (dAsg (dCall zt2 (dCons (dCall zm0 (dCons (dVar 0) (dCons (dOp fAdd (dC (.int 10)) (dOp fMul (dC (.int 2)) (dVarV 3))) dNil))) dNil)) (gN 4))
   (dSeq (dAsg (dCall zm0 (dCons (dVar 0) (dCons (dOp fAdd (dC (.int 11)) (dOp fMul (dC (.int 2)) (dVarV 3))) dNil))) (gN 5))
   (dSeq (dIf (dTest (dOp fEq (dOp fMod (dVarV 5) (dC (.int 3))) (dC (.int 0)))) (dAsg (dVar 4) (gN 5)) dNext)
   (dDrop (cBM "list" mApp (pVar 2) (dCons (dTup (dCons (dCall zl8 (dCons (dCall zm0 (dCons (dVar 0) (dCons (dC (.int 9)) dNil))) (dCons (dVar 3) dNil))) (dCons (dVar 4) (dCons (dOp fMod (dVarV 5) (dOp fAdd (dVarV 4) (dC (.int 1)))) dNil)))) dNil)))))))
   (dSeq (dAsg (dOp fMod (dCall zm0 (dCons (dVar 0) (dCons (dC (.int 2)) dNil))) (dC (.int 7))) (gN 6))
   (dSeq (dIf (dTest (dOp fEq (dOp fMod (dOp fDiv (dCall zm0 (dCons (dVar 0) (dCons (dC (.int 1)) dNil))) (dC (.int 8))) (dC (.int 8))) (dC (.int 0)))) (dAsg (dC (.int 24)) (gN 6)) dNext)
   (dSeq (dIf (dTest (dOp fEq (dVarV 1) (dC (.int 1)))) (dAsg (dC (.int 0)) (gN 6)) dNext)
   (dFrz 2 [] (dRet (cE (dTup (dCons (dVar 2) (dCons (dF (dComp (dRng1 (dCons (dVar 6) dNil)) 1 [0,1] (gN 0) dTrue (dCall zs9 (dCons (dVar 1) (dCons (dVar 0) (dCons (dVar 2) dNil)))))) dNil))))))))))))),(zd0 (ps_set (i:=1) nd rfl (by first|exact Or.inl rfl|exact Or.inr rfl) (pe_op (zo0 (K:=K) rfl) pe_int (pe_op op_mod (zk0 jI (Room.mono hr (by decide)) rfl (za0 (pv 0) (za0 pe_int pa_nil))) pe_int)))
   (zd0 (ps_if (zt0 (op_eqD (K:=K) rfl (Room.units hr)) (pe_op op_mod (zk0 jI (Room.mono hr (by decide)) rfl (za0 (pv 0) (za0 pe_int pa_nil))) pe_int) pe_int (nomark _)) (zh0 (ps_set (i:=1) nd rfl (by first|exact Or.inl rfl|exact Or.inr rfl) pe_int)) zq0)
   (zd0 (ps_set (i:=2) nd rfl (by first|exact Or.inl rfl|exact Or.inr rfl) (zl1 pa_nil))
   (zd0 (ps_for PassesOwn.never rfl (zv2 rfl kF (za0 (pv 1) pa_nil)) (ze1 (i:=3) nd rfl (by first|exact Or.inl rfl|exact Or.inr rfl)) (zd0 (ps_set (i:=4) nd rfl (by first|exact Or.inl rfl|exact Or.inr rfl) (zk0 qF (Room.mono hr (by decide)) rfl (za0 (zk0 jI (Room.mono hr (by decide)) rfl (za0 (pv 0) (za0 (pe_op (zo0 (K:=K) rfl) pe_int (pe_op zm1 pe_int (pv 3))) pa_nil))) pa_nil)))
   (zd0 (ps_set (i:=5) nd rfl (by first|exact Or.inl rfl|exact Or.inr rfl) (zk0 jI (Room.mono hr (by decide)) rfl (za0 (pv 0) (za0 (pe_op (zo0 (K:=K) rfl) pe_int (pe_op zm1 pe_int (pv 3))) pa_nil))))
   (zd0 (ps_if (zt0 (op_eqD (K:=K) rfl (Room.units hr)) (pe_op op_mod (pv 5) pe_int) pe_int (nomark _)) (zh0 (ps_set (i:=5) nd rfl (by first|exact Or.inl rfl|exact Or.inr rfl) (pv 4))) zq0)
   (zh0 (zvn (pe_bmU (K:=K) rfl PySem.F.plainAttrs_list PySem.F.slot_list_append PySem.F.type_list_append zdg (pv 2) (za0 (zm3 (za0 (zk0 uT (Room.mono hr (by decide)) rfl (za0 (zk0 jI (Room.mono hr (by decide)) rfl (za0 (pv 0) (za0 pe_int pa_nil))) (za0 (pv 3) pa_nil))) (za0 (pv 4) (za0 (pe_op op_mod (pv 5) (pe_op (zo0 (K:=K) rfl) (pv 4) pe_int)) pa_nil)))) pa_nil))))))))
   (zd0 (ps_set (i:=6) nd rfl (by first|exact Or.inl rfl|exact Or.inr rfl) (pe_op op_mod (zk0 jI (Room.mono hr (by decide)) rfl (za0 (pv 0) (za0 pe_int pa_nil))) pe_int))
   (zd0 (ps_if (zt0 (op_eqD (K:=K) rfl (Room.units hr)) (pe_op op_mod (pe_op za1 (zk0 jI (Room.mono hr (by decide)) rfl (za0 (pv 0) (za0 pe_int pa_nil))) pe_int) pe_int) pe_int (nomark _)) (zh0 (ps_set (i:=6) nd rfl (by first|exact Or.inl rfl|exact Or.inr rfl) pe_int)) zq0)
   (zd0 (ps_if (zt0 (op_eqD (K:=K) rfl (Room.units hr)) (pv 1) pe_int (nomark _)) (zh0 (ps_set (i:=6) nd rfl (by first|exact Or.inl rfl|exact Or.inr rfl) pe_int)) zq0)
   (zh0 (ps_ret (zm3 (za0 (pv 2) (za0 (zx3 (sc:=zf0 zd4) (N:=["script", "many", "vats", "k", "room", "fill", "count"]) (own:=["k"]) (ix:=[0,1]) rfl rfl rfl (by walk_at "csc") (zv2 rfl kF (za0 (pv 6) pa_nil)) (λ _ _ _ _=>⟨(ze1 (i:=0) (show (["k", "script", "many"]:List Str).Nodup by decide +kernel) rfl (by first|exact Or.inl rfl|exact Or.inr rfl)),zp3,(zk0 uU (Room.mono hr (by decide)) rfl (za0 (pv 1) (za0 (pv 0) (za0 (pv 2) pa_nil))))⟩)) pa_nil)))))))))))),(rs_seq (rs_asg (rf_op r_add (RfE.v rf_int) (RfE.v (rf_op r_mod (RfE.v (zw0 (zc0 (rf_var 0) (zc0 rf_int ra_nil)))) (RfE.v rf_int)))) (zj0 (i:=1) (n:=100) (by decide)))
   (rs_seq (rs_if (zp0 (rf_opH q_eq (RfV.h (RfE.v (rf_op r_mod (RfE.v (zw0 (zc0 (rf_var 0) (zc0 rf_int ra_nil)))) (RfE.v rf_int)))) (RfV.h (RfE.v rf_int)))) (rs_asg rf_int (zj0 (i:=1) (n:=100) (by decide))) zr0)
   (rs_seq (rs_set (RfF.c (rf_lst ra_nil)))
   (rs_seq (rs_for (zd8 (zc0 (rf_var 1) ra_nil)) (zj0 (i:=3) (n:=100) (by decide)) (rs_seq (rs_asg (zw0 (zc0 (zw0 (zc0 (rf_var 0) (zc0 (rf_op r_add (RfE.v rf_int) (RfE.v (rf_op r_mul (RfE.v rf_int) (zb0 3)))) ra_nil))) ra_nil)) (zj0 (i:=4) (n:=100) (by decide)))
   (rs_seq (rs_asg (zw0 (zc0 (rf_var 0) (zc0 (rf_op r_add (RfE.v rf_int) (RfE.v (rf_op r_mul (RfE.v rf_int) (zb0 3)))) ra_nil))) (zj0 (i:=5) (n:=100) (by decide)))
   (rs_seq (rs_if (zp0 (rf_opH q_eq (RfV.h (RfE.v (rf_op r_mod (zb0 5) (RfE.v rf_int)))) (RfV.h (RfE.v rf_int)))) (rs_asg (rf_var 4) (zj0 (i:=5) (n:=100) (by decide))) zr0)
   (zrm (rc_bm mo_app (rp_var 2) (zc0 (rf_tup (zc0 (zw0 (zc0 (zw0 (zc0 (rf_var 0) (zc0 rf_int ra_nil))) (zc0 (rf_var 3) ra_nil))) (zc0 (rf_var 4) (zc0 (rf_op r_mod (zb0 5) (RfE.v (rf_op r_add (zb0 4) (RfE.v rf_int)))) ra_nil)))) ra_nil)))))))
   (rs_seq (rs_asg (rf_op r_mod (RfE.v (zw0 (zc0 (rf_var 0) (zc0 rf_int ra_nil)))) (RfE.v rf_int)) (zj0 (i:=6) (n:=100) (by decide)))
   (rs_seq (rs_if (zp0 (rf_opH q_eq (RfV.h (RfE.v (rf_op r_mod (RfE.v (rf_op r_div (RfE.v (zw0 (zc0 (rf_var 0) (zc0 rf_int ra_nil)))) (RfE.v rf_int))) (RfE.v rf_int)))) (RfV.h (RfE.v rf_int)))) (rs_asg rf_int (zj0 (i:=6) (n:=100) (by decide))) zr0)
   (rs_seq (rs_if (zp0 (rf_opH q_eq (RfV.h (zb0 1)) (RfV.h (RfE.v rf_int)))) (rs_asg rf_int (zj0 (i:=6) (n:=100) (by decide))) zr0)
   (rs_frz 2 [] (rs_ret (RfE.c (rf_tup (zc0 (rf_var 2) (zc0 (RfF.e (zs4 (RfI.j (zd8 (zc0 (rf_var 6) ra_nil))) (zj0 (i:=0) (n:=1) (by decide)) zb7 (zw0 (zc0 (rf_var 1) (zc0 (rf_var 0) (zc0 (rf_var 2) ra_nil)))))) ra_nil))))))))))))),?_⟩
 rintro ds Qd ⟨ns,rfl,q⟩
 walk_at "ds"
 refine ze0 λ J hJ=>?_
 walk_at "dd"
 refine ⟨ns,0,rfl,by lia,λ m m0 m1=>?_⟩
 walk_at "dd"
 refine hJ _ ?_
 clear hJ
 refine zn2 (λ δ=>∃ n:Nat,1<=n/\n<=12/\δ=[.sh (.list (ns.map .int)),.sh (.int (n:Int)),.un,.un,.un,.un,.un]) ?_ ?_
 ·walk_at "dd"
  refine ⟨ns,1,rfl,by lia,λ m' m0' m1'=>?_⟩
  walk_at "dd"
  refine two (λ _=>⟨12,by lia,by lia,rfl⟩) λ _=>⟨(1+m % 4).toNat,by lia,by lia,?_⟩
  rw [show ((1+m % 4).toNat:Int)=1+m % 4 by lia]
 rintro δ ⟨n,n1,n2,rfl⟩
 walk_at "dn"
 refine ze0 λ J hJ=>?_
 walk_at "dd"
 refine ⟨by lia,by lia,?_⟩
 rw [Int.toNat_natCast]
 unfold rngD
 refine zib (λ i δ=>∃ (vs:List Va) (s3 s4 s5:Sl),vs.length=i/\(∀ v∈vs,0<=v.fill/\v.fill<=v.room/\v.room<=1000000000000)/\δ=[.sh (.list (ns.map .int)),.sh (.int (n:Int)),.ow (.li (vs.map Va.d)),s3,s4,s5,.un]) ⟨[],.un,.un,.un,rfl,by simp,rfl⟩ ?_ ?_
 ·rintro i x δ hx ⟨vs,s3,s4,s5,hl,hv,rfl⟩
  obtain ⟨h1,h2⟩:=List.getElem?_eq_some_iff.mp hx
  simp at h1 h2
  subst h2
  rw [show (0:Int)+(i:Int)=(i:Int) by lia]
  walk_at "dd"
  refine ze0 λ J hJ=>?_
  walk_at "dd"
  refine ⟨.inl ⟨by decide,by decide⟩,ns,10+2 * i,by congr 2,by lia,λ a a0 a1=>⟨a,rfl,a0,λ r r0 r1=>hJ _ ?_⟩⟩
  clear hJ
  refine ze0 λ J hJ=>?_
  walk_at "dd"
  refine ⟨.inl ⟨by decide,by decide⟩,ns,11+2 * i,by congr 2,by lia,λ b b0 b1=>hJ _ ?_⟩
  clear hJ
  refine zn2 (λ δ=>∃ f:Int,0<=f/\δ=[.sh (.list (ns.map .int)),.sh (.int (n:Int)),.ow (.li (vs.map Va.d)),.sh (.int (i:Int)),.sh (.int r),.sh (.int f),.un]) ?_ ?_
  ·walk_at "dd"
   exact two (λ _=>⟨r,r0,rfl⟩) λ _=>⟨b,b0,rfl⟩
  rintro δ ⟨f,f0,rfl⟩
  walk_at "dd"
  refine ⟨ns,9,rfl,by lia,λ c c0 c1=>⟨c,i,rfl,c0,by lia,λ x=>⟨by lia,by rw [List.length_map];lia,vs++[⟨x,r,f % (r+1)⟩],.sh (.int (i:Int)),.sh (.int r),.sh (.int f),by simp [hl],λ v hv'=>?_,?_⟩⟩⟩
  ·rcases List.mem_append.mp hv' with z|z
   ·exact hv v z
   ·simp at z
    subst z
    have e1:=Int.emod_nonneg f (b:=r+1) (by lia)
    have e2:=Int.emod_lt_of_pos f (b:=r+1) (by lia)
    exact ⟨e1,by show f % (r+1)<=r;lia,r1⟩
  ·rw [List.map_append];rfl
 ·rintro δ ⟨vs,s3,s4,s5,hl,hv,rfl⟩
  rw [List.length_range] at hl
  refine hJ _ ?_
  clear hJ
  refine ze0 λ J hJ=>?_
  walk_at "dd"
  refine ⟨ns,2,rfl,by lia,λ c c0 c1=>?_⟩
  walk_at "dd"
  refine hJ _ ?_
  clear hJ
  refine zn2 (λ δ=>∃ k:Nat,k<=24/\δ=[.sh (.list (ns.map .int)),.sh (.int (n:Int)),.ow (.li (vs.map Va.d)),s3,s4,s5,.sh (.int (k:Int))]) ?_ ?_
  ·walk_at "dd"
   refine ⟨ns,1,rfl,by lia,λ m' m0' m1'=>?_⟩
   walk_at "dd"
   refine two (λ _=>⟨24,by lia,rfl⟩) λ _=>⟨(c % 7).toNat,by lia,?_⟩
   rw [show ((c % 7).toNat:Int)=c % 7 by lia]
  rintro δ ⟨k,k1,rfl⟩
  refine zn2 (λ δ=>∃ k:Nat,k<=24/\(k=0 \/ 2<=n)/\δ=[.sh (.list (ns.map .int)),.sh (.int (n:Int)),.ow (.li (vs.map Va.d)),s3,s4,s5,.sh (.int (k:Int))]) ?_ ?_
  ·walk_at "dd"
   exact two (λ _=>⟨0,by lia,.inl rfl,rfl⟩) λ _=>⟨k,k1,.inr (by lia),rfl⟩
  rintro δ ⟨k,k1,k2,rfl⟩
  walk_at "dd"
  refine ⟨_,_,rfl,rfl,by lia,by lia,?_⟩
  rw [Int.toNat_natCast]
  unfold rngD
  refine compE (λ p:Pi=>p.u < n/\p.v < n/\1<=p.len/\p.g.okk) Pi.d (by rw [sizeLine_eq,List.length_range];lia) (λ x hx=>?_) λ ps hp1 hp2=>q vs ps ⟨by lia,by rw [hp1,List.length_range];exact k1,hv,λ p hp=>by rw [hl];exact hp2 p hp⟩
  simp at hx
  rw [show (0:Int)+(x:Int)=(x:Int) by lia]
  walk_at "cs"
  walk_at "dd"
  exact ⟨ns,x,n,rfl,by lia,by lia,n2,λ p h1 h2 h3 h4=>⟨p,⟨h1,h2,h3,h4⟩,rfl⟩⟩
end
def kRow (kv:List Key×D):List Int:=match kv with
|([.inl a,.inl b],.int c)=>[a,b,c]
|_=>[0]
theorem zht (kv:List Key×D):kRow kv≠[]:=by
 unfold kRow
 split <;> simp
theorem zyh:∀ {a b:List (List Int)},a.Perm b->a.Pairwise (λ x y=>lexB y x=false)->b.Pairwise (λ x y=>lexB y x=false)->a=b
|[],_,p,_,_=>p.nil_eq
|x :: r,[],p,_,_=>by simp at p
|x :: r,y :: t,p,ha,hb=>by
  have hx:x∈y :: t:=p.mem_iff.mp List.mem_cons_self
  have hy:y∈x :: r:=p.mem_iff.mpr List.mem_cons_self
  have e:x=y:=by
   rcases List.mem_cons.mp hx with h|h
   ·exact h
   ·rcases List.mem_cons.mp hy with h'|h'
    ·exact h'.symm
    ·exact zwg ((List.pairwise_cons.mp hb).1 x h) ((List.pairwise_cons.mp ha).1 y h')
  subst e
  rw [zyh (List.Perm.cons_inv p) (List.pairwise_cons.mp ha).2 (List.pairwise_cons.mp hb).2]
abbrev Ways:=List (Nat×Int)
def putW (W:Ways) (j:Nat) (c:Int):Ways:=if (W.any λ x=>decide (x.1=j))=true then W.map (λ x=>if x.1=j then (x.1,c) else x) else W++[(j,c)]
def getW (W:Ways) (j:Nat):Int:=((W.find? λ x=>decide (x.1=j)).map (·.2)).getD 0
def encW {κ:Type} (g:Nat->κ) (W:Ways):List (κ×D):=W.map λ x=>(g x.1,.int x.2)
theorem zvm {κ:Type} [DecidableEq κ] {g:Nat->κ} (hg:∀ a b,g a=g b->a=b) (W:Ways) (j:Nat) (c:Int):putD (encW g W) (g j) (.int c)=encW g (putW W j c):=by
 have e:∀ a,decide (g a=g j)=decide (a=j):=λ a=>decide_eq_decide.mpr ⟨hg a j,λ z=>by rw [z]⟩
 unfold putD putW encW
 rw [List.any_map]
 have e2:((λ kv:κ×D=>decide (kv.1=g j)) ∘ λ x:Nat×Int=>(g x.1,PyData.int x.2))=λ x=>decide (x.1=j):=by
  funext x;exact e x.1
 rw [e2]
 split
 ·rw [List.map_map,List.map_map]
  refine List.map_congr_left λ x _=>?_
  show (if g x.1=g j then (g x.1,PyData.int c) else (g x.1,PyData.int x.2))=_
  by_cases z:x.1=j
  ·rw [if_pos (by rw [z])]
   show _=((λ x:Nat×Int=>(g x.1,PyData.int x.2)) (if x.1=j then (x.1,c) else x))
   rw [if_pos z]
  ·rw [if_neg (λ y=>z (hg _ _ y))]
   show _=((λ x:Nat×Int=>(g x.1,PyData.int x.2)) (if x.1=j then (x.1,c) else x))
   rw [if_neg z]
 ·rw [List.map_append];rfl
theorem zmi {κ:Type} [DecidableEq κ] {g:Nat->κ} (hg:∀ a b,g a=g b->a=b) (j:Nat):∀ W:Ways,(getA (encW g W) (g j)).getD (.int 0)=.int (getW W j)
|[]=>rfl
|(a,c) :: r=>by
  have ih:=zmi hg j r
  show (getA ((g a,PyData.int c) :: encW g r) (g j)).getD (.int 0)=_
  rw [zw5]
  by_cases z:a=j
  ·subst z
   rw [if_pos rfl]
   unfold getW
   rw [List.find?_cons_of_pos (by simp)];rfl
  ·rw [if_neg (λ y=>z (hg _ _ y)),ih]
   unfold getW
   rw [List.find?_cons_of_neg (by simpa using z)]
theorem zmq {W:Ways} {j:Nat} {c:Int} {x:Nat×Int} (h:x∈putW W j c):x.1=j \/ ∃ y∈W,y.1=x.1:=by
 unfold putW at h
 split at h
 ·obtain ⟨y,hy,rfl⟩:=List.mem_map.mp h
  refine .inr ⟨y,hy,?_⟩
  split <;> rfl
 ·rcases List.mem_append.mp h with z|z
  ·exact .inr ⟨x,z,rfl⟩
  ·simp at z;subst z;exact .inl rfl
theorem zmo (W:Ways) (j:Nat) (c:Int):(putW W j c).length<=W.length+1:=by
 unfold putW
 split
 ·rw [List.length_map];lia
 ·rw [List.length_append];exact Nat.le_refl _
theorem zsr {W:Ways} (h:(W.map (·.1)).Nodup) (j:Nat) (c:Int):((putW W j c).map (·.1)).Nodup:=by
 unfold putW
 split
 ·rw [List.map_map]
  have:((λ x:Nat×Int=>x.1) ∘ λ x:Nat×Int=>if x.1=j then (x.1,c) else x)=λ x=>x.1:=by
   funext x
   show (if x.1=j then (x.1,c) else x).1=x.1
   split <;> rfl
  rw [this];exact h
 ·rename_i z
  rw [List.map_append]
  refine List.nodup_append.mpr ⟨h,by simp,λ a ha b hb e=>?_⟩
  simp at hb
  subst hb
  subst e
  obtain ⟨x,hx,e2⟩:=List.mem_map.mp ha
  exact z (List.any_eq_true.mpr ⟨x,hx,by simpa using e2⟩)
def gP (ps:List Pi) (now:Nat) (j:Nat):List Key:=kTI ((now:Int)+(pl ps j:Int)) j
def gK (j:Nat):Key:=.inl (j:Int)
theorem gP_inj {ps:List Pi} {now:Nat} (a b:Nat) (h:gP ps now a=gP ps now b):a=b:=(zwm h).2
theorem gK_inj (a b:Nat) (h:gK a=gK b):a=b:=by
 unfold gK at h
 injection h with h
 lia
theorem zyf {ps:List Pi} {now:Nat}:∀ W:Ways,AllI (encW (gP ps now) W)
|[]=>λ k d e=>by simp [encW,getA] at e
|(a,c) :: r=>λ k d e=>by
  have e:getA ((gP ps now a,PyData.int c) :: encW (gP ps now) r) k=some d:=e
  rw [zw5] at e
  split at e
  ·cases e;exact ⟨c,rfl⟩
  ·exact zyf r k d e
theorem cm_enc {ps:List Pi} {now:Nat} (W:Ways) (j:Nat):cm (encW (gP ps now) W) ((now:Int)+(pl ps j:Int)) j=getW W j:=by
 have h1:=cm_get (zyf (ps:=ps) (now:=now) W) ((now:Int)+(pl ps j:Int)) j
 have h2:=zmi (g:=gP ps now) gP_inj j W
 have h3:gP ps now j=kTI ((now:Int)+(pl ps j:Int)) j:=rfl
 rw [h3,h1] at h2
 injection h2
def rowW (ps:List Pi) (now:Nat) (x:Nat×Int):List Int:=[(now:Int)+(pl ps x.1:Int),(x.1:Int),x.2]
theorem zwi {ps:List Pi} {now:Nat} (W:Ways):(encW (gP ps now) W).map kRow=W.map (rowW ps now):=by
 unfold encW
 rw [List.map_map];rfl
theorem zgr {ps:List Pi} {now:Nat} (W:Ways):plD (encW (gP ps now) W)=((encW (gP ps now) W).map kRow).map rowD:=by
 rw [zwi,List.map_map]
 unfold plD encW
 rw [List.map_map];rfl
def zu9 (C C1 C2 C3:Addr):DSpT:=λ as Q=>∃ (rooms lying:List Int) (ps:List Pi) (m:Nat) (en:List Int) (kvs:List (List Key×D)),as=[.b (pS C C1 C2 C3 rooms lying ps m en kvs)]/\Q (.fz (.int (m:Int))) (.fz .none)
def zc2 (C C1 C2 C3:Addr):DSpT:=λ as Q=>∃ (rooms lying:List Int) (ps:List Pi) (m:Nat) (en:List Int) (kvs:List (List Key×D)),as=[.b (pS C C1 C2 C3 rooms lying ps m en kvs)]/\kvs.length < 64/\(∀ kv∈kvs,kv.1.length=2)/\plD kvs=(kvs.map kRow).map rowD /\
 ∀ W:List (List Int),W.Perm (kvs.map kRow)->W.Pairwise (λ a b=>lexB b a=false)->Q (.fz (.list (W.map rowD))) (.fz .none)
structure Lw (vs:List Va) (ps:List Pi) (now:Nat) (ly en left:List Int) (W:Ways):Prop where
 yl:ly.length=vs.length
 el:en.length=ps.length
 ll:left.length=ps.length
 lf:∀ k,k < ps.length->left.getD k 0=wideP ps k now - en.getD k 0
 lb:∀ k,k < ps.length->0<=left.getD k 0/\left.getD k 0<=2000000000000
 yb:∀ k,0<=ly.getD k 0/\ly.getD k 0<=1000000000000
 wk:∀ x∈W,x.1 < ps.length
 nd:(W.map (·.1)).Nodup
def zi8 (C C1 C2 C3:Addr):DSpT:=λ as Q=>∃ (vs:List Va) (ps:List Pi) (now:Nat) (ly en left:List Int) (W:Ways),as=[.b (pS C C1 C2 C3 (vs.map Va.room) ly ps now en (encW (gP ps now) W)),.d (.int (now:Int)),.b (.li (ly.map .int)),.d (.list ((W.map (rowW ps now)).map rowD)),.b (.li (left.map .int))]/\vs.length<=12/\ps.length<=24/\(∀ p∈ps,p.g.ok)/\W.length<=60/\Lw vs ps now ly en left W/\Q (.fz (.bool true)) (.fz .none)
theorem zcp (l:List Int):(List.range l.length).map (λ k=>PyData.int (l.getD k 0))=l.map .int:=by
 refine List.ext_getElem (by simp) λ i h1 h2=>?_
 simp at h1
 simp [List.getD_eq_getElem?_getD,List.getElem?_eq_getElem h1]
section
variable {P:Program} {w:World} {K:Fg} {mg:Str->Option Value} {base:Heap} {jB jD jC jA:Addr}
theorem zfb:FnScope ["self"] ["self"] (zf0 za9):=by walk_at "sc"
theorem zph (jG:Cls K jA) (T:TopMeth K jA "now" "Play.now" za9) (jL:NoAttr K jA "moment"):MethD P w K mg base jA "now" 1 ["self"] (spT K (zu9 jA jB jD jC)):=by
 refine zt5 jG T zfb (λ _ _ _ _ _ _ us hl=>by obtain ⟨_,rfl⟩:=ar1 hl;rfl) (len_T λ as Qd h=>by obtain ⟨_,_,_,_,_,_,rfl,_⟩:=h;rfl) (body_T ?_)
 intro f cdv A outer s H E hr
 have nd:=zfb.nd
 refine ⟨_,(dRet (cE (dPE (pFld jA "moment" (pVar 0))))),(zh0 (ps_ret (zs0 (K:=K) rfl (pv 0) rfl))),(rs_ret (RfE.c (RfP.e (rp_fld jG jL (rp_var 0))))),?_⟩
 rintro as Qd a ⟨rooms,lying,ps,m,en,kvs,rfl,q⟩
 unfold pS
 walk_at "ds"
 walk_at "dd"
 exact q
theorem zb3:FnScope ["self"] ["self"] (zf0 zk1):=by walk_at "sc"
theorem zq7 (jG:Cls K jA) (T:TopMeth K jA "under_way" "Play.under_way" zk1) (qS:mg "sorted"=none) (jQ:NoAttr K jA "coming"):MethD P w K mg base jA "under_way" 1 ["self"] (spT K (zc2 jA jB jD jC)):=by
 refine zt5 jG T zb3 (λ _ _ _ _ _ _ us hl=>by obtain ⟨_,rfl⟩:=ar1 hl;rfl) (len_T λ as Qd h=>by obtain ⟨_,_,_,_,_,_,rfl,_⟩:=h;rfl) (body_T ?_)
 intro f cdv A outer s H E hr
 have nd:=zb3.nd
 refine ⟨_,(dRet (cE (dF (dCF fSortT (dCons (dF (zkj (pFld jA "coming" (pVar 0)))) dNil))))),(zh0 (ps_ret (zl0 (zde (K:=K) rfl) rfl qS ztg (za0 (zfn (zx3 (sc:=zf0 zk1) (N:=["self"]) (own:=["place", "amount"]) (ix:=[]) rfl rfl rfl (by walk_at "csc") (zwo (zs0 (K:=K) rfl (pv 0) rfl)) (λ _ _ _ _=>⟨(zbe (K:=K) (n:=2) rfl rfl (zj2 (ze1 (i:=0) (show (["place", "amount"]:List Str).Nodup by decide +kernel) rfl (by first|exact Or.inl rfl|exact Or.inr rfl)) (zj2 (ze1 (i:=1) (show (["place", "amount"]:List Str).Nodup by decide +kernel) rfl (by first|exact Or.inl rfl|exact Or.inr rfl)) zfe))),zp3,(pe_op (zo0 (K:=K) rfl) (pv 0) (zm3 (za0 (pv 1) pa_nil)))⟩))) pa_nil)))),(rs_ret (RfE.c (RfF.e (rf_cf znm (zx0 (RfE.v (RfF.e (zol (rp_fld jG jQ (rp_var 0))))) rw_nil))))),?_⟩
 rintro as Qd a ⟨rooms,lying,ps,m,en,kvs,rfl,hk,hk2,hk3,q⟩
 unfold pS
 walk_at "ds"
 walk_at "dd"
 refine ⟨by lia,λ kv hkv=>?_,_,hk3,λ r hr=>?_,by rw [List.length_map];exact hk,q⟩
 ·have:=hk2 kv hkv
  exact ⟨λ z=>by rw [z] at this;simp at this,by lia⟩
 ·obtain ⟨kv,_,rfl⟩:=List.mem_map.mp hr
  exact zht kv
theorem zp8:FnScope ["play", "now", "held", "way", "left"] ["play", "now", "held", "way", "left"] (zf0 zh4):=by walk_at "sc"
theorem zbf (M:Md K mg) (T:TopDef K "_law_seen" zh4) (kJ:mg "len"=none) (kF:mg "range"=none) (qS:mg "sorted"=none) (jY:Def P w K mg base "_law_whole" 1 ["found", "due"] (spD K zf1)) (kY:Def P w K mg base "_law_wholes" 2 ["found", "due"] (spD K zp1)) (qX:Def P w K mg base "_law_comings" 3 ["found", "due"] (spD K zz3)) (jG:Cls K jA) (qM:MethD P w K mg base jA "under_way" 1 ["self"] (spT K (zc2 jA jB jD jC))) (vG:MethD P w K mg base jA "now" 1 ["self"] (spT K (zu9 jA jB jD jC))) (uI:MethD P w K mg base jA "holds" 1 ["self"] (spT K (zy4 jA jB jD jC))) (qY:MethD P w K mg base jA "room_in" 2 ["self", "pipe"] (spT K (zx2 jA jB jD jC))):Def P w K mg base "_law_seen" 4 ["play", "now", "held", "way", "left"] (spT K (zi8 jA jB jD jC)):=by
 refine def_of M T zp8 (λ _ _ _ _ _ _ us hl=>by obtain ⟨_,_,_,_,_,rfl⟩:=ar5 hl;rfl) (len_T λ as Qd h=>by obtain ⟨_,_,_,_,_,_,_,rfl,_⟩:=h;rfl) (body_T ?_)
 intro f cdv A outer s H E hr
 have nd:=zp8.nd
 refine ⟨_,(dSeq (dIf (dOr (dNot (dTru (dCall zf1 (dCons (eN (nMeth jA "now" (zu9 jA jB jD jC) (pVar 0) aNil)) (dCons (dVar 1) dNil))))) (dNot (dTru (dCallB zp1 (dCons (eN (nMeth jA "holds" (zy4 jA jB jD jC) (pVar 0) aNil)) (dCons (dVarV 2) dNil)))))) (dRet (cE (dC (.bool false)))) dNext)
   (dSeq (dIf (dNot (dTru (dCallB zp1 (dCons (dF (dComp (dRng1 (dCons (dCB fLen (dCons (dVarV 4) dNil)) dNil)) 1 [0] (gN 0) dTrue (eN (nMeth jA "room_in" (zx2 jA jB jD jC) (pVar 1) (aD (dVar 0) aNil))))) (dCons (dVarV 4) dNil))))) (dRet (cE (dC (.bool false)))) dNext)
   (dRet (cE (dCall zz3 (dCons (eN (nMeth jA "under_way" (zc2 jA jB jD jC) (pVar 0) aNil)) (dCons (dF (dCF fSortT (dCons (dVarV 3) dNil))) dNil))))))),(zd0 (ps_if (PW.pt (pw_or (pt_not (zh2 (K:=K) rfl (zk0 jY (Room.mono hr (by decide)) rfl (za0 (zi5 vG (Room.mono hr (by decide)) (pv 0)) (za0 (pv 1) pa_nil))) (λ _=>rfl))) (pw_or1 (pt_not (zh2 (K:=K) rfl (zk0 kY (Room.mono hr (by decide)) rfl (za0 (zi5 uI (Room.mono hr (by decide)) (pv 0)) (za0 (pv 2) pa_nil))) (λ _=>rfl)))))) (zh0 (ps_ret pe_bl)) zq0)
   (zd0 (ps_if (pt_not (zh2 (K:=K) rfl (zk0 kY (Room.mono hr (by decide)) rfl (za0 (zx3 (sc:=zf0 zh4) (N:=["play", "now", "held", "way", "left"]) (own:=["k"]) (ix:=[0]) rfl rfl rfl (by walk_at "csc") (zv2 rfl kF (za0 (zl0 (zi1 (K:=K) rfl) rfl kJ bt_len (za0 (pv 4) pa_nil)) pa_nil)) (λ _ _ _ _=>⟨(ze1 (i:=0) (show (["k", "play"]:List Str).Nodup by decide +kernel) rfl (by first|exact Or.inl rfl|exact Or.inr rfl)),zp3,(zvp qY (Room.mono hr (by decide)) (pv 1) (za0 (pv 0) pa_nil))⟩)) (za0 (pv 4) pa_nil))) (λ _=>rfl))) (zh0 (ps_ret pe_bl)) zq0)
   (zh0 (ps_ret (zk0 qX (Room.mono hr (by decide)) rfl (za0 (zi5 qM (Room.mono hr (by decide)) (pv 0)) (za0 (zl0 (zde (K:=K) rfl) rfl qS ztg (za0 (pv 3) pa_nil)) pa_nil))))))),(rs_seq (rs_if (rf_or (rf_not (rf_tru (RfE.v (zw0 (zc0 (RfN.ex (zjh (rp_var 0) at_nil)) (zc0 (rf_var 1) ra_nil)))))) (rf_not (rf_tru (RfE.v (zue (zx0 (RfE.v (RfN.ex (zjh (rp_var 0) at_nil))) (zx0 (zb0 2) rw_nil))))))) (rs_ret (RfE.c rf_bl)) zr0)
   (rs_seq (rs_if (rf_not (rf_tru (RfE.v (zue (zx0 (RfE.v (RfF.e (zs4 (RfI.j (zd8 (zc0 (rf_cb c_len (zx0 (zb0 4) rw_nil)) ra_nil))) (zj0 (i:=0) (n:=1) (by decide)) zb7 (RfN.ex (zjh (rp_var 1) (at_d (rf_var 0) at_nil)))))) (zx0 (zb0 4) rw_nil)))))) (rs_ret (RfE.c rf_bl)) zr0)
   (rs_ret (RfE.c (zw0 (zc0 (RfN.ex (zjh (rp_var 0) at_nil)) (zc0 (RfF.e (rf_cf znm (zx0 (zb0 3) rw_nil))) ra_nil))))))),?_⟩
 rintro as Qd a ⟨vs,ps,now,ly,en,left,W,rfl,h12,h24,hok,hW,L,q⟩
 have hly:=L.yl
 have hll:=L.ll
 walk_at "ds"
 refine ze0 λ J hJ=>?_
 unfold pS
 walk_at "dd"
 refine ⟨_,ly,ps,now,en,_,rfl,?_⟩
 walk_at "dd"
 refine ⟨now,rfl,?_⟩
 walk_at "dd"
 refine ⟨_,ly,ps,now,en,_,rfl,?_⟩
 walk_at "dd"
 refine ⟨ly,rfl,by lia,?_⟩
 walk_at "dd"
 refine hJ _ ?_
 clear hJ
 refine ze0 λ J hJ=>?_
 walk_at "dd"
 rw [List.length_map,Int.toNat_natCast]
 unfold rngD
 refine ⟨by lia,by lia,compM (λ k=>.int (left.getD k 0)) (by rw [List.length_range,sizeLine_eq];lia) (λ k hk=>?_) ?_⟩
 ·simp at hk
  rw [show (0:Int)+(k:Int)=(k:Int) by lia]
  walk_at "cs"
  walk_at "dd"
  have hp:ps[k]?=some ps[k]:=List.getElem?_eq_getElem (by lia)
  have he:en[k]?=some (en.getD k 0):=by rw [List.getD_eq_getElem?_getD,List.getElem?_eq_getElem (by rw [L.el];lia)];rfl
  refine ⟨_,ly,ps,now,en,_,k,_,_,rfl,hp,he,hok _ (List.getElem_mem _),h24,?_⟩
  walk_at "dd"
  have ew:wideP ps k now=ps[k].g.at now:=by unfold wideP;rw [hp];rfl
  rw [L.lf k (by lia),ew]
 rw [zcp]
 refine ⟨left,rfl,by lia,?_⟩
 walk_at "dd"
 refine hJ _ ?_
 clear hJ
 walk_at "dd"
 refine ⟨_,ly,ps,now,en,_,rfl,by unfold encW;rw [List.length_map];lia,λ kv hkv=>?_,zgr W,λ W1 a1 a2=>?_⟩
 ·unfold encW at hkv
  obtain ⟨x,_,rfl⟩:=List.mem_map.mp hkv
  rfl
 rw [zwi] at a1
 have hWl:W1.length<=60:=by
  have:=a1.length_eq
  rw [List.length_map] at this
  lia
 walk_at "dd"
 refine ⟨_,rfl,λ r hr=>?_,by rw [List.length_map];lia,λ W2 b1 b2=>?_⟩
 ·obtain ⟨x,_,rfl⟩:=List.mem_map.mp hr
  unfold rowW;simp
 obtain rfl:W1=W2:=zyh (a1.trans b1.symm) a2 b2
 refine ⟨W1,rfl,by lia,λ l hl=>?_,?_⟩
 ·obtain ⟨x,_,rfl⟩:=List.mem_map.mp (a1.mem_iff.mp hl)
  unfold rowW;simp
 walk_at "dd"
 exact q
end
theorem zh7:bootBuiltins "ValueError"=some (.type "ValueError"):=by decide +kernel
def bools (c:Nat):List D:=(List.range 10).map λ j=>.bool (c == j)
def zvb (C C1 C2 C3:Addr):DSpT:=λ as Q=>∃ (rooms lying:List Int) (ps:List Pi) (m:Nat) (en:List Int) (kvs:List (List Key×D)) (k am:Int),as=[.o (pS C C1 C2 C3 rooms lying ps m en kvs),.d (.int k),.d (.int am)]/\en.length=ps.length/\(∀ p∈ps,p.g.ok/\p.u < lying.length)/\ps.length<=24/\kvs.length<=1000/\AllI kvs/\-10000000000000000000000000000000000000000 < k/\k < 10000000000000000000000000000000000000000/\-10000000000000000000000000000000000000000 < am/\am < 10000000000000000000000000000000000000000/\(∀ j,j < ps.length->-10000000000000000000000000000000000000000 < wideP ps j m - en.getD j 0/\wideP ps j m - en.getD j 0 < 10000000000000000000000000000000000000000) /\
 (codeP ps m lying en k am < 4->Q (.fz (.list (bools (codeP ps m lying en k am)))) (pS C C1 C2 C3 rooms lying ps m en kvs))/\(codeP ps m lying en k am=4->Q (.fz (.int (lying.getD (startP ps k.toNat) 0 - am))) (letT C C1 C2 C3 rooms lying ps m en kvs k.toNat am))
def zy3 (C C1 C2 C3:Addr):DSpT:=λ as Q=>∃ (rooms lying:List Int) (ps:List Pi) (m:Nat) (en:List Int) (kvs:List (List Key×D)) (k:Int),as=[.b (pS C C1 C2 C3 rooms lying ps m en kvs),.d (.int k)]/\en.length=ps.length/\(∀ p∈ps,p.g.ok)/\ps.length<=24/\-10000000000000000000000000000000000000000 < k/\k < 10000000000000000000000000000000000000000/\(k < 0 \/ (ps.length:Int)<=k)/\Q (.fz (.bool true)) (.fz .none)
theorem zz8 {Ds:List Addr} (h:Ds.Nodup) (hl:Ds.length=9) {c:Nat} {C:Addr} (hc:Ds[c]?=some C):(Ds.map λ D=>PyData.bool (C == D))++[.bool false]=bools c:=by
 obtain ⟨h9,rfl⟩:=List.getElem?_eq_some_iff.mp hc
 unfold bools
 refine List.ext_getElem (by simp [hl]) λ i h1 h2=>?_
 simp at h2
 rw [List.getElem_map,List.getElem_range]
 rcases Nat.lt_or_ge i 9 with z|z
 ·rw [List.getElem_append_left (by simpa [hl] using z),List.getElem_map]
  congr 1
  by_cases e:c=i
  ·subst e;simp
  ·have ne:Ds[c]≠Ds[i]'(by lia):=by
    rcases Nat.lt_or_gt_of_ne e with y|y
    ·exact (List.pairwise_iff_getElem.mp h) c i _ _ y
    ·exact λ w=>(List.pairwise_iff_getElem.mp h) i c _ _ y w.symm
   rw [beq_eq_false_iff_ne.mpr ne,beq_eq_false_iff_ne.mpr e]
 ·obtain rfl:i=9:=by lia
  rw [List.getElem_append_right (by simp [hl])]
  simp
  lia
theorem zmn (c j:Nat):decide ((c:Int)=(j:Int))=(c == j):=by
 by_cases h:c=j
 ·subst h;simp
 ·rw [beq_eq_false_iff_ne.mpr h,decide_eq_false (by lia)]
theorem zmg (c:Nat):Fit 1 (.list (bools c)):=Fit.lst λ d hd=>by
 unfold bools at hd
 obtain ⟨j,_,rfl⟩:=List.mem_map.mp hd
 exact Fit.bl _
section
variable {P:Program} {w:World} {K:Fg} {mg:Str->Option Value} {base:Heap} {jB jD jC jA jP jJ jH jK jF jX jS kL kB jR:Addr}
theorem zgb:FnScope ["play", "pipe", "amount", "told", "e"] ["play", "pipe", "amount"] (zf0 zi9):=by walk_at "sc"
theorem zth (M:Md K mg) (T:TopDef K "_law_let" zi9) (kt:Kit K) (kU:mg "ValueError"=none) (jE:mg "isinstance"=none) (jG:Cls K jA) (uV:Meth1 P w K mg base jA "let" 3 ["self", "pipe", "amount"] (spX K (zt6 jA jB jD jC jJ jH jK jF))) (kW:XCls K "YardError" jP) (qB:XCls K "NoPipe" jJ) (kC:XCls K "NoAmount" jH) (kK:XCls K "TooWide" jK) (kA:XCls K "TooLittle" jF) (qG:XCls K "TooFull" jX) (qE:XCls K "NoMoment" jS) (qT:XCls K "NoRow" kL) (qI:XCls K "NoName" kB) (kX:XCls K "NoMeasure" jR) (jU:PySem.W.exmOne K (.ref jJ) (.ref jP)=some true) (jV:PySem.W.exmOne K (.ref jH) (.ref jP)=some true) (jW:PySem.W.exmOne K (.ref jK) (.ref jP)=some true) (jT:PySem.W.exmOne K (.ref jF) (.ref jP)=some true) (kx:KxT K [jJ,jH,jK,jF] [jJ,jH,jK,jF,jX,jS,kL,kB,jR]):Def P w K mg base "_law_let" 4 ["play", "pipe", "amount"] (spT K (zvb jA jB jD jC)):=by
 refine def_of M T zgb (λ _ _ _ _ _ _ us hl=>by obtain ⟨_,_,_,rfl⟩:=ar3 hl;rfl) (len_T λ as Qd h=>by obtain ⟨_,_,_,_,_,_,_,_,rfl,_⟩:=h;rfl) (body_T ?_)
 intro f cdv A outer s H E hr
 have nd:=zgb.nd
 refine ⟨_,(dSeq (dTryN K (λ ex=>(dSetX 3 (xMeth true jA "let" (zt6 jA jB jD jC jJ jH jK jF) (pVar 0) (aD (dVar 1) (aD (dVar 2) aNil))) ex)) [(.ref jP,λ C=>dAs 4 (dG [jJ,jH,jK,jF] C (dSeq (dAsg (dF (dLst (dCons (dC (.bool (C == jJ))) (dCons (dC (.bool (C == jH))) (dCons (dC (.bool (C == jK))) (dCons (dC (.bool (C == jF))) dNil)))))) (gN 3))
   (dSeq (dAsg (dOp fAdd (dVarV 3) (dF (dLst (dCons (dC (.bool (C == jX))) (dCons (dC (.bool (C == jS))) (dCons (dC (.bool (C == kL))) dNil)))))) (gN 3))
   (dAsg (dOp fAdd (dVarV 3) (dF (dLst (dCons (dC (.bool (C == kB))) (dCons (dC (.bool (C == jR))) (dCons (dNotV (dC (.bool true))) dNil)))))) (gN 3))))))])
   (dRet (cE (dVar 3)))),(zd0 (znn rfl rfl (λ pn xe=>(HandsN.cons (i:=4) (t:=λ C ea=>(tSeq (tAsg (tLstU (tCons (tCB (rIsE K ea C) (tCons (tVar 4) (tCons (tC (.ref jJ)) tNil))) (tCons (tCB (rIsE K ea C) (tCons (tVar 4) (tCons (tC (.ref jH)) tNil))) (tCons (tCB (rIsE K ea C) (tCons (tVar 4) (tCons (tC (.ref jK)) tNil))) (tCons (tCB (rIsE K ea C) (tCons (tVar 4) (tCons (tC (.ref jF)) tNil))) tNil))))) (gName 3)) (tSeq (tAsg (tOp (rAddW K) (tVar 3) (tLstU (tCons (tCB (rIsE K ea C) (tCons (tVar 4) (tCons (tC (.ref jX)) tNil))) (tCons (tCB (rIsE K ea C) (tCons (tVar 4) (tCons (tC (.ref jS)) tNil))) (tCons (tCB (rIsE K ea C) (tCons (tVar 4) (tCons (tC (.ref kL)) tNil))) tNil))))) (gName 3)) (tAsg (tOp (rAddW K) (tVar 3) (tLstU (tCons (tCB (rIsE K ea C) (tCons (tVar 4) (tCons (tC (.ref kB)) tNil))) (tCons (tCB (rIsE K ea C) (tCons (tVar 4) (tCons (tC (.ref jR)) tNil))) (tCons (tNotV (tCB (rIsE K ea C) (tCons (tVar 4) (tCons (tC (.ty "ValueError")) tNil)))) tNil))))) (gName 3))))) rfl (.inl (M.got kW.at_)) (by decide) nd rfl rfl (λ ea oe C hC=>(zd0 (ps_set (i:=3) nd rfl (by first|exact Or.inl rfl|exact Or.inr rfl) (zl1 (za0 (zl0 (zb1 rfl hC) rfl jE zi0 (za0 (pv 4) (za0 (zo1 (v:=.ref jJ) rfl (M.got qB.at_) rfl) pa_nil))) (za0 (zl0 (zb1 rfl hC) rfl jE zi0 (za0 (pv 4) (za0 (zo1 (v:=.ref jH) rfl (M.got kC.at_) rfl) pa_nil))) (za0 (zl0 (zb1 rfl hC) rfl jE zi0 (za0 (pv 4) (za0 (zo1 (v:=.ref jK) rfl (M.got kK.at_) rfl) pa_nil))) (za0 (zl0 (zb1 rfl hC) rfl jE zi0 (za0 (pv 4) (za0 (zo1 (v:=.ref jF) rfl (M.got kA.at_) rfl) pa_nil))) pa_nil))))))
   (zd0 (ps_set (i:=3) nd rfl (by first|exact Or.inl rfl|exact Or.inr rfl) (pe_op (zo0 (K:=K) rfl) (pv 3) (zl1 (za0 (zl0 (zb1 rfl hC) rfl jE zi0 (za0 (pv 4) (za0 (zo1 (v:=.ref jX) rfl (M.got qG.at_) rfl) pa_nil))) (za0 (zl0 (zb1 rfl hC) rfl jE zi0 (za0 (pv 4) (za0 (zo1 (v:=.ref jS) rfl (M.got qE.at_) rfl) pa_nil))) (za0 (zl0 (zb1 rfl hC) rfl jE zi0 (za0 (pv 4) (za0 (zo1 (v:=.ref kL) rfl (M.got qT.at_) rfl) pa_nil))) pa_nil))))))
   (zh0 (ps_set (i:=3) nd rfl (by first|exact Or.inl rfl|exact Or.inr rfl) (pe_op (zo0 (K:=K) rfl) (pv 3) (zl1 (za0 (zl0 (zb1 rfl hC) rfl jE zi0 (za0 (pv 4) (za0 (zo1 (v:=.ref kB) rfl (M.got qI.at_) rfl) pa_nil))) (za0 (zl0 (zb1 rfl hC) rfl jE zi0 (za0 (pv 4) (za0 (zo1 (v:=.ref jR) rfl (M.got kX.at_) rfl) pa_nil))) (za0 (pe_not (zl0 (zb1 rfl hC) rfl jE zi0 (za0 (pv 4) (za0 (zj9 (v:=.ty "ValueError") rfl kU zh7 rfl) pa_nil)))) pa_nil)))))))))) HandsN.nil)) (λ D pn xe hx=>(zh0 (ps_set (i:=3) nd rfl (by first|exact Or.inl rfl|exact Or.inr rfl) (zze (k:=3) rfl rfl rfl rfl rfl (Room.mono hr (by decide)) hx (pv 0) (za0 (pv 1) (za0 (pv 2) pa_nil)))))))
   (zh0 (ps_ret (pv 3)))),(rs_seq (zdn (λ D ex=>(re_set (i:=3) (zhj true uV (rp_var 0) (at_d (rf_var 1) (at_d (rf_var 2) at_nil))))) (RfHsN.cons (Cs:=[jJ,jH,jK,jF]) (i:=4) (λ C hC ea=>(zpg (i:=4) (j:=3) (by decide) (zdb (zu0 (zh1 (cV:=.ref jJ) (kx.ex C hC) rfl (kx.one C hC jJ (by simp))) (zu0 (zh1 (cV:=.ref jH) (kx.ex C hC) rfl (kx.one C hC jH (by simp))) (zu0 (zh1 (cV:=.ref jK) (kx.ex C hC) rfl (kx.one C hC jK (by simp))) (zu0 (zh1 (cV:=.ref jF) (kx.ex C hC) rfl (kx.one C hC jF (by simp))) zv6))))) (zpg (i:=4) (j:=3) (by decide) (zlg (zdb (zu0 (zh1 (cV:=.ref jX) (kx.ex C hC) rfl (kx.one C hC jX (by simp))) (zu0 (zh1 (cV:=.ref jS) (kx.ex C hC) rfl (kx.one C hC jS (by simp))) (zu0 (zh1 (cV:=.ref kL) (kx.ex C hC) rfl (kx.one C hC kL (by simp))) zv6))))) (zpm (zlg (zdb (zu0 (zh1 (cV:=.ref kB) (kx.ex C hC) rfl (kx.one C hC kB (by simp))) (zu0 (zh1 (cV:=.ref jR) (kx.ex C hC) rfl (kx.one C hC jR (by simp))) (zu0 (zyj (zh1 (cV:=.ty "ValueError") (kx.ex C hC) rfl (kx.ve C hC))) zv6))))))))) (λ C hC=>(rs_seq (rs_asg (RfF.e (rf_lst (zc0 rf_bl (zc0 rf_bl (zc0 rf_bl (zc0 rf_bl ra_nil)))))) (zj0 (i:=3) (n:=100) (by decide)))
   (rs_seq (rs_asg (rf_op r_add (zb0 3) (RfE.v (RfF.e (rf_lst (zc0 rf_bl (zc0 rf_bl (zc0 rf_bl ra_nil))))))) (zj0 (i:=3) (n:=100) (by decide)))
   (rs_asg (rf_op r_add (zb0 3) (RfE.v (RfF.e (rf_lst (zc0 rf_bl (zc0 rf_bl (zc0 (zti rf_bl) ra_nil))))))) (zj0 (i:=3) (n:=100) (by decide)))))) RfHsN.nil))
   (rs_ret (RfE.c (rf_var 3)))),?_⟩
 rintro as Qd a ⟨rooms,lying,ps,m,en,kvs,k,am,rfl,el,hok,hl,hkv,hai,k0,k1,a0,a1,hw,qx,q⟩
 unfold letT pS at q
 unfold pS at qx ⊢
 walk_at "ds"
 refine ze0 λ J hJ=>?_
 walk_at "dd"
 refine ⟨rooms,lying,ps,m,en,kvs,k,am,rfl,el,hok,hl,hkv,hai,k0,k1,a0,a1,hw,λ z=>?_,λ z=>?_,λ z=>?_,λ z=>?_,λ z=>hJ _ ?_⟩
 ·have:=qx (by lia)
  rw [z] at this
  have e:=zz8 kx.nd rfl (c:=0) rfl
  simp only [List.map_cons,List.map_nil,beq_self_eq_true,List.cons_append,List.nil_append] at e
  refine ⟨true,jU,?_⟩
  rw [if_pos rfl]
  refine ⟨by simp,?_⟩
  walk_at "dn"
  walk_at "dn"
  walk_at "dd"
  refine hJ _ ?_
  clear hJ
  walk_at "dd"
  rw [e]
  exact ⟨_,rfl,this⟩
 ·have:=qx (by lia)
  rw [z] at this
  have e:=zz8 kx.nd rfl (c:=1) rfl
  simp only [List.map_cons,List.map_nil,beq_self_eq_true,List.cons_append,List.nil_append] at e
  refine ⟨true,jV,?_⟩
  rw [if_pos rfl]
  refine ⟨by simp,?_⟩
  walk_at "dn"
  walk_at "dn"
  walk_at "dd"
  refine hJ _ ?_
  clear hJ
  walk_at "dd"
  rw [e]
  exact ⟨_,rfl,this⟩
 ·have:=qx (by lia)
  rw [z] at this
  have e:=zz8 kx.nd rfl (c:=2) rfl
  simp only [List.map_cons,List.map_nil,beq_self_eq_true,List.cons_append,List.nil_append] at e
  refine ⟨true,jW,?_⟩
  rw [if_pos rfl]
  refine ⟨by simp,?_⟩
  walk_at "dn"
  walk_at "dn"
  walk_at "dd"
  refine hJ _ ?_
  clear hJ
  walk_at "dd"
  rw [e]
  exact ⟨_,rfl,this⟩
 ·have:=qx (by lia)
  rw [z] at this
  have e:=zz8 kx.nd rfl (c:=3) rfl
  simp only [List.map_cons,List.map_nil,beq_self_eq_true,List.cons_append,List.nil_append] at e
  refine ⟨true,jT,?_⟩
  rw [if_pos rfl]
  refine ⟨by simp,?_⟩
  walk_at "dn"
  walk_at "dn"
  walk_at "dd"
  refine hJ _ ?_
  clear hJ
  walk_at "dd"
  rw [e]
  exact ⟨_,rfl,this⟩
 ·clear hJ
  have:=q z
  unfold letT pS
  walk_at "dd"
  exact ⟨_,rfl,this⟩
theorem zi4:FnScope ["play", "pipe", "told", "e"] ["play", "pipe"] (zf0 zy1):=by walk_at "sc"
theorem zta (M:Md K mg) (T:TopDef K "_law_no_room" zy1) (kt:Kit K) (kU:mg "ValueError"=none) (jE:mg "isinstance"=none) (kF:mg "range"=none) (jG:Cls K jA) (kN:Meth1 P w K mg base jA "room_in" 2 ["self", "pipe"] (spX K (zg1 jA jB jD jC jJ))) (kW:XCls K "YardError" jP) (qB:XCls K "NoPipe" jJ) (kC:XCls K "NoAmount" jH) (kK:XCls K "TooWide" jK) (kA:XCls K "TooLittle" jF) (qG:XCls K "TooFull" jX) (qE:XCls K "NoMoment" jS) (qT:XCls K "NoRow" kL) (qI:XCls K "NoName" kB) (kX:XCls K "NoMeasure" jR) (jU:PySem.W.exmOne K (.ref jJ) (.ref jP)=some true) (jV:PySem.W.exmOne K (.ref jH) (.ref jP)=some true) (jW:PySem.W.exmOne K (.ref jK) (.ref jP)=some true) (jT:PySem.W.exmOne K (.ref jF) (.ref jP)=some true) (kx:KxT K [jJ,jH,jK,jF] [jJ,jH,jK,jF,jX,jS,kL,kB,jR]):Def P w K mg base "_law_no_room" 3 ["play", "pipe"] (spT K (zy3 jA jB jD jC)):=by
 refine def_of M T zi4 (λ _ _ _ _ _ _ us hl=>by obtain ⟨_,_,rfl⟩:=ar2 hl;rfl) (len_T λ as Qd h=>by obtain ⟨_,_,_,_,_,_,_,rfl,_⟩:=h;rfl) (body_T ?_)
 intro f cdv A outer s H E hr
 have nd:=zi4.nd
 refine ⟨_,(dSeq (dTryN K (λ ex=>(dSetX 2 (xMeth false jA "room_in" (zg1 jA jB jD jC jJ) (pVar 0) (aD (dVar 1) aNil)) ex)) [(.ref jP,λ C=>dAs 3 (dG [jJ,jH,jK,jF] C (dSeq (dAsg (dF (dLst (dCons (dC (.bool (C == jJ))) (dCons (dC (.bool (C == jH))) (dCons (dC (.bool (C == jK))) (dCons (dC (.bool (C == jF))) dNil)))))) (gN 2))
   (dSeq (dAsg (dOp fAdd (dVarV 2) (dF (dLst (dCons (dC (.bool (C == jX))) (dCons (dC (.bool (C == jS))) (dCons (dC (.bool (C == kL))) dNil)))))) (gN 2))
   (dAsg (dOp fAdd (dVarV 2) (dF (dLst (dCons (dC (.bool (C == kB))) (dCons (dC (.bool (C == jR))) (dCons (dNotV (dC (.bool true))) dNil)))))) (gN 2))))))])
   (dRet (cE (dOp fEq (dVarV 2) (dF (dComp (dRng1 (dCons (dC (.int 10)) dNil)) 1 [] (gN 0) dTrue (dOp fEq (dVarV 0) (dC (.int 0))))))))),(zd0 (znn rfl rfl (λ pn xe=>(HandsN.cons (i:=3) (t:=λ C ea=>(tSeq (tAsg (tLstU (tCons (tCB (rIsE K ea C) (tCons (tVar 3) (tCons (tC (.ref jJ)) tNil))) (tCons (tCB (rIsE K ea C) (tCons (tVar 3) (tCons (tC (.ref jH)) tNil))) (tCons (tCB (rIsE K ea C) (tCons (tVar 3) (tCons (tC (.ref jK)) tNil))) (tCons (tCB (rIsE K ea C) (tCons (tVar 3) (tCons (tC (.ref jF)) tNil))) tNil))))) (gName 2)) (tSeq (tAsg (tOp (rAddW K) (tVar 2) (tLstU (tCons (tCB (rIsE K ea C) (tCons (tVar 3) (tCons (tC (.ref jX)) tNil))) (tCons (tCB (rIsE K ea C) (tCons (tVar 3) (tCons (tC (.ref jS)) tNil))) (tCons (tCB (rIsE K ea C) (tCons (tVar 3) (tCons (tC (.ref kL)) tNil))) tNil))))) (gName 2)) (tAsg (tOp (rAddW K) (tVar 2) (tLstU (tCons (tCB (rIsE K ea C) (tCons (tVar 3) (tCons (tC (.ref kB)) tNil))) (tCons (tCB (rIsE K ea C) (tCons (tVar 3) (tCons (tC (.ref jR)) tNil))) (tCons (tNotV (tCB (rIsE K ea C) (tCons (tVar 3) (tCons (tC (.ty "ValueError")) tNil)))) tNil))))) (gName 2))))) rfl (.inl (M.got kW.at_)) (by decide) nd rfl rfl (λ ea oe C hC=>(zd0 (ps_set (i:=2) nd rfl (by first|exact Or.inl rfl|exact Or.inr rfl) (zl1 (za0 (zl0 (zb1 rfl hC) rfl jE zi0 (za0 (pv 3) (za0 (zo1 (v:=.ref jJ) rfl (M.got qB.at_) rfl) pa_nil))) (za0 (zl0 (zb1 rfl hC) rfl jE zi0 (za0 (pv 3) (za0 (zo1 (v:=.ref jH) rfl (M.got kC.at_) rfl) pa_nil))) (za0 (zl0 (zb1 rfl hC) rfl jE zi0 (za0 (pv 3) (za0 (zo1 (v:=.ref jK) rfl (M.got kK.at_) rfl) pa_nil))) (za0 (zl0 (zb1 rfl hC) rfl jE zi0 (za0 (pv 3) (za0 (zo1 (v:=.ref jF) rfl (M.got kA.at_) rfl) pa_nil))) pa_nil))))))
   (zd0 (ps_set (i:=2) nd rfl (by first|exact Or.inl rfl|exact Or.inr rfl) (pe_op (zo0 (K:=K) rfl) (pv 2) (zl1 (za0 (zl0 (zb1 rfl hC) rfl jE zi0 (za0 (pv 3) (za0 (zo1 (v:=.ref jX) rfl (M.got qG.at_) rfl) pa_nil))) (za0 (zl0 (zb1 rfl hC) rfl jE zi0 (za0 (pv 3) (za0 (zo1 (v:=.ref jS) rfl (M.got qE.at_) rfl) pa_nil))) (za0 (zl0 (zb1 rfl hC) rfl jE zi0 (za0 (pv 3) (za0 (zo1 (v:=.ref kL) rfl (M.got qT.at_) rfl) pa_nil))) pa_nil))))))
   (zh0 (ps_set (i:=2) nd rfl (by first|exact Or.inl rfl|exact Or.inr rfl) (pe_op (zo0 (K:=K) rfl) (pv 2) (zl1 (za0 (zl0 (zb1 rfl hC) rfl jE zi0 (za0 (pv 3) (za0 (zo1 (v:=.ref kB) rfl (M.got qI.at_) rfl) pa_nil))) (za0 (zl0 (zb1 rfl hC) rfl jE zi0 (za0 (pv 3) (za0 (zo1 (v:=.ref jR) rfl (M.got kX.at_) rfl) pa_nil))) (za0 (pe_not (zl0 (zb1 rfl hC) rfl jE zi0 (za0 (pv 3) (za0 (zj9 (v:=.ty "ValueError") rfl kU zh7 rfl) pa_nil)))) pa_nil)))))))))) HandsN.nil)) (λ D pn xe hx=>(zh0 (ps_set (i:=2) nd rfl (by first|exact Or.inl rfl|exact Or.inr rfl) (zze (k:=2) rfl rfl rfl rfl rfl (Room.mono hr (by decide)) hx (pv 0) (za0 (pv 1) pa_nil))))))
   (zh0 (ps_ret (zeb (op_eqD (K:=K) rfl (Room.units hr)) (pv 2) (zx3 (sc:=zf0 zy1) (N:=["play", "pipe", "told", "e"]) (own:=["k"]) (ix:=[]) rfl rfl rfl (by walk_at "csc") (zv2 rfl kF (za0 pe_int pa_nil)) (λ _ _ _ _=>⟨(ze1 (i:=0) (show (["k"]:List Str).Nodup by decide +kernel) rfl (by first|exact Or.inl rfl|exact Or.inr rfl)),zp3,(zeb (op_eqD (K:=K) rfl (Room.units hr)) (pv 0) pe_int (nomark _))⟩)) (nomark _))))),(rs_seq (zdn (λ D ex=>(re_set (i:=2) (zhj false kN (rp_var 0) (at_d (rf_var 1) at_nil)))) (RfHsN.cons (Cs:=[jJ,jH,jK,jF]) (i:=3) (λ C hC ea=>(zpg (i:=3) (j:=2) (by decide) (zdb (zu0 (zh1 (cV:=.ref jJ) (kx.ex C hC) rfl (kx.one C hC jJ (by simp))) (zu0 (zh1 (cV:=.ref jH) (kx.ex C hC) rfl (kx.one C hC jH (by simp))) (zu0 (zh1 (cV:=.ref jK) (kx.ex C hC) rfl (kx.one C hC jK (by simp))) (zu0 (zh1 (cV:=.ref jF) (kx.ex C hC) rfl (kx.one C hC jF (by simp))) zv6))))) (zpg (i:=3) (j:=2) (by decide) (zlg (zdb (zu0 (zh1 (cV:=.ref jX) (kx.ex C hC) rfl (kx.one C hC jX (by simp))) (zu0 (zh1 (cV:=.ref jS) (kx.ex C hC) rfl (kx.one C hC jS (by simp))) (zu0 (zh1 (cV:=.ref kL) (kx.ex C hC) rfl (kx.one C hC kL (by simp))) zv6))))) (zpm (zlg (zdb (zu0 (zh1 (cV:=.ref kB) (kx.ex C hC) rfl (kx.one C hC kB (by simp))) (zu0 (zh1 (cV:=.ref jR) (kx.ex C hC) rfl (kx.one C hC jR (by simp))) (zu0 (zyj (zh1 (cV:=.ty "ValueError") (kx.ex C hC) rfl (kx.ve C hC))) zv6))))))))) (λ C hC=>(rs_seq (rs_asg (RfF.e (rf_lst (zc0 rf_bl (zc0 rf_bl (zc0 rf_bl (zc0 rf_bl ra_nil)))))) (zj0 (i:=2) (n:=100) (by decide)))
   (rs_seq (rs_asg (rf_op r_add (zb0 2) (RfE.v (RfF.e (rf_lst (zc0 rf_bl (zc0 rf_bl (zc0 rf_bl ra_nil))))))) (zj0 (i:=2) (n:=100) (by decide)))
   (rs_asg (rf_op r_add (zb0 2) (RfE.v (RfF.e (rf_lst (zc0 rf_bl (zc0 rf_bl (zc0 (zti rf_bl) ra_nil))))))) (zj0 (i:=2) (n:=100) (by decide)))))) RfHsN.nil))
   (rs_ret (RfE.c (rf_opH q_eq (RfV.h (zb0 2)) (RfV.h (RfE.v (RfF.e (zs4 (RfI.j (zd8 (zc0 rf_int ra_nil))) (zj0 (i:=0) (n:=1) (by decide)) zb7 (rf_opH q_eq (RfV.h (zb0 0)) (RfV.h (RfE.v rf_int))))))))))),?_⟩
 rintro as Qd a ⟨rooms,lying,ps,m,en,kvs,k,rfl,el,hok,hl,k0,k1,hn,q⟩
 unfold pS
 walk_at "ds"
 refine ze0 λ J hJ=>?_
 walk_at "dd"
 refine ⟨rooms,lying,ps,m,en,kvs,k,rfl,el,hok,hl,k0,k1,λ z=>?_,λ z1 z2=>by lia⟩
 have e:=zz8 kx.nd rfl (c:=0) rfl
 simp only [List.map_cons,List.map_nil,beq_self_eq_true,List.cons_append,List.nil_append] at e
 refine ⟨true,jU,?_⟩
 rw [if_pos rfl]
 refine ⟨by simp,?_⟩
 walk_at "dn"
 walk_at "dn"
 walk_at "dd"
 refine hJ _ ?_
 clear hJ
 walk_at "dd"
 rw [e]
 unfold rngD
 refine compM (λ j=>.bool (0 == j)) (by rw [sizeLine_eq];simp) (λ j hj=>?_) ?_
 ·walk_at "cs"
  walk_at "dd"
  rw [<- zmn 0 j]
  congr 1
  by_cases y:j=0
  ·subst y;rfl
  ·rw [decide_eq_false (by lia),decide_eq_false (by lia)]
 ·have fb:=zmg 0
  refine ⟨fb.shaped (by decide),fb.shaped (by decide),?_⟩
  have:=eqv_refl fb
  unfold bools at this ⊢
  rw [this]
  exact q
end
def zt3:DSp:=λ ds Q=>∃ (ns:List Int) (k n:Nat),ds=[.list (ns.map .int),.int (k:Int),.int (n:Int)]/\k<=100/\n<=24/\∀ a:Int,-10000000000000000000000000000000000000000 < a->a < 10000000000000000000000000000000000000000->Q (.int a)
def zo2:DSp:=λ ds Q=>∃ (ns:List Int) (k:Nat) (l h:Int),ds=[.list (ns.map .int),.int (k:Int),.int l,.int h]/\k<=100/\0<=l/\l<=2000000000000/\0<=h/\h<=2000000000000/\∀ a:Int,-10000000000000000000000000000000000000000 < a->a < 10000000000000000000000000000000000000000->Q (.int a)
def zrc:DSp:=λ ds Q=>∃ (n:Nat) (k am l h:Int),ds=[.int (n:Int),.int k,.int am,.int l,.int h]/\Q (.int (dueF n k am l h:Nat))
def zh6 (C C1 C2 C3:Addr):DSpT:=λ as Q=>∃ (rooms ly:List Int) (ps:List Pi) (ns:List Int),as=[.o (pS C C1 C2 C3 rooms ly ps 0 (List.replicate ps.length 0) []),.d (.list (ns.map .int))]/\NoOver rooms ly/\ps.length<=24/\(∀ p∈ps,p.v < ly.length)/\∀ n:Nat,Q (.fz (.int (n:Int))) (pS C C1 C2 C3 rooms ly ps n (List.replicate ps.length 0) [])
theorem zum {ps:List Pi} {t:Int} {l:List Int}:∀ n,arrL ps [] t n l=l
|0=>rfl
|n+1=>by
  show inc (arrL ps [] t n l) _ (cm [] t n)=l
  rw [zum n]
  have:cm [] t n=0:=rfl
  rw [this]
  unfold inc
  rw [Int.add_zero]
  refine List.ext_getElem (by simp) λ i h1 h2=>?_
  rw [List.getElem_set]
  split
  ·rename_i e
   subst e
   rw [List.getD_eq_getElem?_getD,List.getElem?_eq_getElem h2];rfl
  ·rfl
theorem zbn {t:Int}:∀ n,arrK [] t n=[]
|0=>rfl
|n+1=>by
  show dropA (arrK [] t n) _=[]
  rw [zbn n];rfl
section
variable {P:Program} {w:World} {K:Fg} {mg:Str->Option Value} {base:Heap} {jB jD jC jA:Addr}
theorem zp4:FnScope ["script", "k", "count", "number"] ["script", "k", "count"] (zf0 zy2):=by walk_at "sc"
theorem zaa (M:Md K mg) (T:TopDef K "_law_pipe_by" zy2) (jI:Def P w K mg base "_law_draw" 1 ["script", "k"] (spD K zm0)):Def P w K mg base "_law_pipe_by" 2 ["script", "k", "count"] (spD K zt3):=by
 refine def_of M T zp4 (λ _ _ _ _ _ _ us hl=>by obtain ⟨_,_,_,rfl⟩:=ar3 hl;rfl) (len_D λ ds Qd h=>by obtain ⟨_,_,_,rfl,_⟩:=h;rfl) (body_D ?_)
 intro f cdv A outer s H E hr
 have nd:=zp4.nd
 refine ⟨_,(dSeq (dAsg (dCall zm0 (dCons (dVar 0) (dCons (dOp fAdd (dC (.int 200)) (dVarV 1)) dNil))) (gN 3))
   (dSeq (dIf (dTest (dOp fEq (dOp fMod (dVarV 3) (dC (.int 8))) (dC (.int 0)))) (dRet (cE (dOp fIx (dF (dLst (dCons (dOp fAdd (dOp fPow (dC (.int 10)) (dC (.int 29))) (dVarV 3)) (dCons (dOp fSub (dUn fNeg (dOp fPow (dC (.int 10)) (dC (.int 29)))) (dVarV 3)) dNil)))) (dOp fMod (dOp fDiv (dVarV 3) (dC (.int 8))) (dC (.int 2)))))) dNext)
   (dRet (cE (dOp fSub (dOp fMod (dOp fDiv (dVarV 3) (dC (.int 8))) (dOp fAdd (dVarV 2) (dC (.int 4)))) (dC (.int 2))))))),(zd0 (ps_set (i:=3) nd rfl (by first|exact Or.inl rfl|exact Or.inr rfl) (zk0 jI (Room.mono hr (by decide)) rfl (za0 (pv 0) (za0 (pe_op (zo0 (K:=K) rfl) pe_int (pv 1)) pa_nil))))
   (zd0 (ps_if (zt0 (op_eqD (K:=K) rfl (Room.units hr)) (pe_op op_mod (pv 3) pe_int) pe_int (nomark _)) (zh0 (ps_ret (pe_ix (ix_V (w:=w) (K:=K) (Room.units hr) rfl rfl) (zl1 (za0 (pe_op (zo0 (K:=K) rfl) (pe_op op_pow pe_int pe_int) (pv 3)) (za0 (pe_op op_sub (pe_un un_neg (pe_op op_pow pe_int pe_int)) (pv 3)) pa_nil))) (pe_op op_mod (pe_op za1 (pv 3) pe_int) pe_int) (λ _ _=>rfl)))) zq0)
   (zh0 (ps_ret (pe_op op_sub (pe_op op_mod (pe_op za1 (pv 3) pe_int) (pe_op (zo0 (K:=K) rfl) (pv 2) pe_int)) pe_int))))),(rs_seq (rs_asg (zw0 (zc0 (rf_var 0) (zc0 (rf_op r_add (RfE.v rf_int) (zb0 1)) ra_nil))) (zj0 (i:=3) (n:=100) (by decide)))
   (rs_seq (rs_if (zp0 (rf_opH q_eq (RfV.h (RfE.v (rf_op r_mod (zb0 3) (RfE.v rf_int)))) (RfV.h (RfE.v rf_int)))) (rs_ret (RfE.c (rf_op r_ix (RfE.v (RfF.e (rf_lst (zc0 (rf_op r_add (RfE.v (rf_op r_pow (RfE.v rf_int) (RfE.v rf_int))) (zb0 3)) (zc0 (rf_op r_sub (RfE.v (rf_neg (rf_op r_pow (RfE.v rf_int) (RfE.v rf_int)))) (zb0 3)) ra_nil))))) (RfE.v (rf_op r_mod (RfE.v (rf_op r_div (zb0 3) (RfE.v rf_int))) (RfE.v rf_int)))))) zr0)
   (rs_ret (RfE.c (rf_op r_sub (RfE.v (rf_op r_mod (RfE.v (rf_op r_div (zb0 3) (RfE.v rf_int))) (RfE.v (rf_op r_add (zb0 2) (RfE.v rf_int))))) (RfE.v rf_int)))))),?_⟩
 rintro ds Qd ⟨ns,k,n,rfl,hk,hn,q⟩
 walk_at "ds"
 refine ze0 λ J hJ=>?_
 walk_at "dd"
 refine ⟨ns,200+k,by congr 2,by lia,λ m m0 m1=>hJ _ ?_⟩
 clear hJ
 refine ze0 λ J hJ=>?_
 walk_at "dd"
 refine two (λ _=>?_) λ _=>hJ _ ?_
 ·have h2:m / 8 % 2=0 \/ m / 8 % 2=1:=by lia
  rcases h2 with h|h
  ·exact ⟨by decide,by decide,_,by rw [h];rfl,q _ (by lia) (by lia)⟩
  ·exact ⟨by decide,by decide,_,by rw [h];rfl,q _ (by lia) (by lia)⟩
 clear hJ
 walk_at "dd"
 have e0:=Int.emod_nonneg (m / 8) (b:=(n:Int)+4) (by lia)
 have e1:=Int.emod_lt_of_pos (m / 8) (b:=(n:Int)+4) (by lia)
 exact ⟨by lia,q _ (by lia) (by lia)⟩
theorem za3:FnScope ["script", "k", "left", "held", "number", "most", "some"] ["script", "k", "left", "held"] (zf0 ze2):=by walk_at "sc"
theorem zo7 (M:Md K mg) (T:TopDef K "_law_amount_by" ze2) (vV:mg "max"=none) (vW:mg "min"=none) (jI:Def P w K mg base "_law_draw" 1 ["script", "k"] (spD K zm0)):Def P w K mg base "_law_amount_by" 2 ["script", "k", "left", "held"] (spD K zo2):=by
 refine def_of M T za3 (λ _ _ _ _ _ _ us hl=>by obtain ⟨_,_,_,_,rfl⟩:=ar4 hl;rfl) (len_D λ ds Qd h=>by obtain ⟨_,_,_,_,rfl,_⟩:=h;rfl) (body_D ?_)
 intro f cdv A outer s H E hr
 have nd:=za3.nd
 refine ⟨_,(dSeq (dAsg (dCall zm0 (dCons (dVar 0) (dCons (dOp fAdd (dC (.int 210)) (dVarV 1)) dNil))) (gN 4))
   (dSeq (dAsg (dCB fMin2 (dCons (dVarV 2) (dCons (dVarV 3) dNil))) (gN 5))
   (dSeq (dAsg (dF (dLst (dCons (dC (.int 0)) (dCons (dOp fSub (dUn fNeg (dC (.int 1))) (dOp fMul (dVarV 4) (dOp fPow (dC (.int 10)) (dC (.int 17))))) (dCons (dOp fAdd (dVarV 2) (dC (.int 1))) (dCons (dOp fAdd (dVarV 3) (dC (.int 1))) (dCons (dVar 5) (dCons (dOp fAdd (dC (.int 1)) (dOp fMod (dOp fDiv (dVarV 4) (dC (.int 16))) (dCB fMax2 (dCons (dC (.int 1)) (dCons (dVarV 5) dNil))))) dNil)))))))) (gN 6))
   (dSeq (dAsg (dOp fAdd (dVarV 6) (dF (dLst (dCons (dVar 2) (dCons (dOp fAdd (dOp fPow (dC (.int 10)) (dC (.int 29))) (dVarV 4)) dNil))))) (gN 6))
   (dRet (cE (dOp fIx (dVarV 6) (dOp fMod (dVarV 4) (dC (.int 8)))))))))),(zd0 (ps_set (i:=4) nd rfl (by first|exact Or.inl rfl|exact Or.inr rfl) (zk0 jI (Room.mono hr (by decide)) rfl (za0 (pv 0) (za0 (pe_op (zo0 (K:=K) rfl) pe_int (pv 1)) pa_nil))))
   (zd0 (ps_set (i:=5) nd rfl (by first|exact Or.inl rfl|exact Or.inr rfl) (zl0 (zgl rfl) rfl vW bt_min (za0 (pv 2) (za0 (pv 3) pa_nil))))
   (zd0 (ps_set (i:=6) nd rfl (by first|exact Or.inl rfl|exact Or.inr rfl) (zl1 (za0 pe_int (za0 (pe_op op_sub (pe_un un_neg pe_int) (pe_op zm1 (pv 4) (pe_op op_pow pe_int pe_int))) (za0 (pe_op (zo0 (K:=K) rfl) (pv 2) pe_int) (za0 (pe_op (zo0 (K:=K) rfl) (pv 3) pe_int) (za0 (pv 5) (za0 (pe_op (zo0 (K:=K) rfl) pe_int (pe_op op_mod (pe_op za1 (pv 4) pe_int) (zl0 (zuk rfl) rfl vV bt_max (za0 pe_int (za0 (pv 5) pa_nil))))) pa_nil))))))))
   (zd0 (ps_set (i:=6) nd rfl (by first|exact Or.inl rfl|exact Or.inr rfl) (pe_op (zo0 (K:=K) rfl) (pv 6) (zl1 (za0 (pv 2) (za0 (pe_op (zo0 (K:=K) rfl) (pe_op op_pow pe_int pe_int) (pv 4)) pa_nil)))))
   (zh0 (ps_ret (pe_ix (ix_V (w:=w) (K:=K) (Room.units hr) rfl rfl) (pv 6) (pe_op op_mod (pv 4) pe_int) (λ _ _=>rfl)))))))),(rs_seq (rs_asg (zw0 (zc0 (rf_var 0) (zc0 (rf_op r_add (RfE.v rf_int) (zb0 1)) ra_nil))) (zj0 (i:=4) (n:=100) (by decide)))
   (rs_seq (rs_asg (rf_cb c_min2 (zx0 (zb0 2) (zx0 (zb0 3) rw_nil))) (zj0 (i:=5) (n:=100) (by decide)))
   (rs_seq (rs_asg (RfF.e (rf_lst (zc0 rf_int (zc0 (rf_op r_sub (RfE.v (rf_neg rf_int)) (RfE.v (rf_op r_mul (zb0 4) (RfE.v (rf_op r_pow (RfE.v rf_int) (RfE.v rf_int)))))) (zc0 (rf_op r_add (zb0 2) (RfE.v rf_int)) (zc0 (rf_op r_add (zb0 3) (RfE.v rf_int)) (zc0 (rf_var 5) (zc0 (rf_op r_add (RfE.v rf_int) (RfE.v (rf_op r_mod (RfE.v (rf_op r_div (zb0 4) (RfE.v rf_int))) (RfE.v (rf_cb c_max2 (zx0 (RfE.v rf_int) (zx0 (zb0 5) rw_nil))))))) ra_nil)))))))) (zj0 (i:=6) (n:=100) (by decide)))
   (rs_seq (rs_asg (rf_op r_add (zb0 6) (RfE.v (RfF.e (rf_lst (zc0 (rf_var 2) (zc0 (rf_op r_add (RfE.v (rf_op r_pow (RfE.v rf_int) (RfE.v rf_int))) (zb0 4)) ra_nil)))))) (zj0 (i:=6) (n:=100) (by decide)))
   (rs_ret (RfE.c (rf_op r_ix (zb0 6) (RfE.v (rf_op r_mod (zb0 4) (RfE.v rf_int)))))))))),?_⟩
 rintro ds Qd ⟨ns,k,l,h,rfl,hk,l0,l1,h0,h1,q⟩
 walk_at "ds"
 refine ze0 λ J hJ=>?_
 walk_at "dd"
 refine ⟨ns,210+k,by congr 2,by lia,λ m m0 m1=>hJ _ ?_⟩
 clear hJ
 refine ze0 λ J hJ=>?_
 walk_at "dd"
 have em:0<=(if h < l then h else l)/\(if h < l then h else l)<=2000000000000:=by split <;> lia
 generalize (if h < l then h else l)=most at em ⊢
 refine hJ _ ?_
 clear hJ
 obtain ⟨o0,o1⟩:=em
 refine ze0 λ J hJ=>?_
 walk_at "dd"
 have ex:1<=(if 1 < most then most else 1)/\(if 1 < most then most else 1)<=2000000000000:=by split <;> lia
 generalize (if 1 < most then most else 1)=mx at ex ⊢
 obtain ⟨x0,x1⟩:=ex
 have f0:=Int.emod_nonneg (m / 16) (b:=mx) (by lia)
 have f1:=Int.emod_lt_of_pos (m / 16) (b:=mx) (by lia)
 refine ⟨by decide,.inr ⟨by decide,by decide⟩,by lia,hJ _ ?_⟩
 clear hJ
 generalize m / 16 % mx=r at f0 f1 ⊢
 refine ze0 λ J hJ=>?_
 walk_at "dd"
 refine ⟨by decide,hJ _ ?_⟩
 clear hJ
 walk_at "dd"
 have h8:m % 8=0 \/ m % 8=1 \/ m % 8=2 \/ m % 8=3 \/ m % 8=4 \/ m % 8=5 \/ m % 8=6 \/ m % 8=7:=by lia
 rcases h8 with e|e|e|e|e|e|e|e
 all_goals exact ⟨_,by rw [e];rfl,q _ (by lia) (by lia)⟩
theorem zjb:FnScope ["count", "pipe", "amount", "left", "held"] ["count", "pipe", "amount", "left", "held"] (zf0 zo9):=by walk_at "sc"
theorem zsh (M:Md K mg) (T:TopDef K "_law_due" zo9) (vQ:mg "int"=none):Def P w K mg base "_law_due" 1 ["count", "pipe", "amount", "left", "held"] (spD K zrc):=by
 refine def_of M T zjb (λ _ _ _ _ _ _ us hl=>by obtain ⟨_,_,_,_,_,rfl⟩:=ar5 hl;rfl) (len_D λ ds Qd h=>by obtain ⟨_,_,_,_,_,rfl,_⟩:=h;rfl) (body_D ?_)
 intro f cdv A outer s H E hr
 have nd:=zjb.nd
 refine ⟨_,(dSeq (dIf (dOr (dTest (dOp fLt (dVarV 1) (dC (.int 0)))) (dTest (dOp fGe (dVarV 1) (dVarV 0)))) (dRet (cE (dC (.int 0)))) dNext)
   (dSeq (dIf (dTest (dOp fLt (dVarV 2) (dC (.int 1)))) (dRet (cE (dC (.int 1)))) dNext)
   (dSeq (dIf (dTest (dOp fGt (dVarV 2) (dVarV 3))) (dRet (cE (dC (.int 2)))) dNext)
   (dRet (cE (dOp fIx (dF (dLst (dCons (dC (.int 4)) (dCons (dC (.int 3)) dNil)))) (dCB fInt (dCons (dOp fGt (dVarV 2) (dVarV 4)) dNil)))))))),(zd0 (ps_if (PW.pt (pw_or (zt0 op_lt (pv 1) pe_int (nomark _)) (pw_or1 (zt0 op_ge (pv 1) (pv 0) (nomark _))))) (zh0 (ps_ret pe_int)) zq0)
   (zd0 (ps_if (zt0 op_lt (pv 2) pe_int (nomark _)) (zh0 (ps_ret pe_int)) zq0)
   (zd0 (ps_if (zt0 op_gt (pv 2) (pv 3) (nomark _)) (zh0 (ps_ret pe_int)) zq0)
   (zh0 (ps_ret (pe_ix (ix_V (w:=w) (K:=K) (Room.units hr) rfl rfl) (zl1 (za0 pe_int (za0 pe_int pa_nil))) (zw2 zcl rfl vQ bt_int (za0 (zeb op_gt (pv 2) (pv 4) (nomark _)) pa_nil)) (λ _ _=>rfl))))))),(rs_seq (rs_if (rf_or (zp0 (rf_op r_lt (zb0 1) (RfE.v rf_int))) (zp0 (rf_op r_ge (zb0 1) (zb0 0)))) (rs_ret (RfE.c rf_int)) zr0)
   (rs_seq (rs_if (zp0 (rf_op r_lt (zb0 2) (RfE.v rf_int))) (rs_ret (RfE.c rf_int)) zr0)
   (rs_seq (rs_if (zp0 (rf_op r_gt (zb0 2) (zb0 3))) (rs_ret (RfE.c rf_int)) zr0)
   (rs_ret (RfE.c (rf_op r_ix (RfE.v (RfF.e (rf_lst (zc0 rf_int (zc0 rf_int ra_nil))))) (RfE.v (rf_cb c_int (zx0 (RfE.v (rf_op r_gt (zb0 2) (zb0 4))) rw_nil))))))))),?_⟩
 rintro ds Qd ⟨n,k,am,l,h,rfl,q⟩
 unfold dueF at q
 walk_at "ds"
 refine ze0 λ J hJ=>?_
 walk_at "dd"
 refine two (λ z=>by rw [if_pos (.inl z)] at q;exact q) λ z1=>two (λ z=>by rw [if_pos (.inr z)] at q;exact q) λ z2=>hJ _ ?_
 clear hJ
 rw [if_neg (λ z=>z.elim z1 z2)] at q
 refine ze0 λ J hJ=>?_
 walk_at "dd"
 refine two (λ z=>by rw [if_pos z] at q;exact q) λ z3=>hJ _ ?_
 clear hJ
 rw [if_neg z3] at q
 refine ze0 λ J hJ=>?_
 walk_at "dd"
 refine two (λ z=>by rw [if_pos z] at q;exact q) λ z4=>hJ _ ?_
 clear hJ
 rw [if_neg z4] at q
 walk_at "dd"
 by_cases z:h < am
 ·rw [if_pos z] at q ⊢
  exact ⟨_,rfl,q⟩
 ·rw [if_neg z] at q ⊢
  exact ⟨_,rfl,q⟩
theorem zd7:FnScope ["play", "script", "wait", "now"] ["play", "script"] (zf0 zd5):=by walk_at "sc"
theorem zqe (M:Md K mg) (T:TopDef K "_law_begun" zd5) (kF:mg "range"=none) (jI:Def P w K mg base "_law_draw" 1 ["script", "k"] (spD K zm0)) (jY:Def P w K mg base "_law_whole" 1 ["found", "due"] (spD K zf1)) (jG:Cls K jA) (uJ:MethD P w K mg base jA "go_on" 3 ["self"] (spT K (zz4 jA jB jD jC))):Def P w K mg base "_law_begun" 4 ["play", "script"] (spT K (zh6 jA jB jD jC)):=by
 refine def_of M T zd7 (λ _ _ _ _ _ _ us hl=>by obtain ⟨_,_,rfl⟩:=ar2 hl;rfl) (len_T λ as Qd h=>by obtain ⟨_,_,_,_,rfl,_⟩:=h;rfl) (body_T ?_)
 intro f cdv A outer s H E hr
 have nd:=zd7.nd
 refine ⟨_,(dSeq (dAsg (dOp fMod (dCall zm0 (dCons (dVar 1) (dCons (dC (.int 6)) dNil))) (dC (.int 4))) (gN 2))
   (dSeq (dIf (dTest (dOp fEq (dOp fMod (dCall zm0 (dCons (dVar 1) (dCons (dC (.int 7)) dNil))) (dC (.int 8))) (dC (.int 0)))) (dAsg (dOp fMod (dOp fDiv (dCall zm0 (dCons (dVar 1) (dCons (dC (.int 7)) dNil))) (dC (.int 8))) (dC (.int 201))) (gN 2)) dNext)
   (dSeq (dFor (dRng1 (dCons (dVar 2) dNil)) (gN 3) (dIfU (uNot (uC (cCall1 zf1 (cMeth true jA "go_on" (zz4 jA jB jD jC) (pVar 0) aNil) (dCons (dOp fAdd (dVarV 3) (dC (.int 1))) dNil)))) (dRet (cE (dUn fNeg (dC (.int 1))))) dNext))
   (dRet (cE (dVar 2)))))),(zd0 (ps_set (i:=2) nd rfl (by first|exact Or.inl rfl|exact Or.inr rfl) (pe_op op_mod (zk0 jI (Room.mono hr (by decide)) rfl (za0 (pv 1) (za0 pe_int pa_nil))) pe_int))
   (zd0 (ps_if (zt0 (op_eqD (K:=K) rfl (Room.units hr)) (pe_op op_mod (zk0 jI (Room.mono hr (by decide)) rfl (za0 (pv 1) (za0 pe_int pa_nil))) pe_int) pe_int (nomark _)) (zh0 (ps_set (i:=2) nd rfl (by first|exact Or.inl rfl|exact Or.inr rfl) (pe_op op_mod (pe_op za1 (zk0 jI (Room.mono hr (by decide)) rfl (za0 (pv 1) (za0 pe_int pa_nil))) pe_int) pe_int))) zq0)
   (zd0 (ps_for PassesOwn.never rfl (zv2 rfl kF (za0 (pv 2) pa_nil)) (ze1 (i:=3) nd rfl (by first|exact Or.inl rfl|exact Or.inr rfl)) (zh0 (ps_if (pt_not (zh2 (K:=K) rfl (zk0 jY (Room.mono hr (by decide)) rfl (za0 (zi5 uJ (Room.mono hr (by decide)) (pv 0)) (za0 (pe_op (zo0 (K:=K) rfl) (pv 3) pe_int) pa_nil))) (λ _=>rfl))) (zh0 (ps_ret (pe_un un_neg pe_int))) zq0)))
   (zh0 (ps_ret (pv 2)))))),(rs_seq (rs_asg (rf_op r_mod (RfE.v (zw0 (zc0 (rf_var 1) (zc0 rf_int ra_nil)))) (RfE.v rf_int)) (zj0 (i:=2) (n:=100) (by decide)))
   (rs_seq (rs_if (zp0 (rf_opH q_eq (RfV.h (RfE.v (rf_op r_mod (RfE.v (zw0 (zc0 (rf_var 1) (zc0 rf_int ra_nil)))) (RfE.v rf_int)))) (RfV.h (RfE.v rf_int)))) (rs_asg (rf_op r_mod (RfE.v (rf_op r_div (RfE.v (zw0 (zc0 (rf_var 1) (zc0 rf_int ra_nil)))) (RfE.v rf_int))) (RfE.v rf_int)) (zj0 (i:=2) (n:=100) (by decide))) zr0)
   (rs_seq (rs_for (zd8 (zc0 (rf_var 2) ra_nil)) (zj0 (i:=3) (n:=100) (by decide)) (rs_ifU (ru_not (ru_c (zho (zgn true (rp_var 0) at_nil) (zc0 (rf_op r_add (zb0 3) (RfE.v rf_int)) ra_nil)))) (rs_ret (RfE.c (rf_neg rf_int))) zr0))
   (rs_ret (RfE.c (rf_var 2)))))),?_⟩
 rintro as Qd a ⟨rooms,ly,ps,ns,rfl,no,h24,hv,q⟩
 walk_at "ds"
 refine ze0 λ J hJ=>?_
 walk_at "dd"
 refine ⟨ns,6,rfl,by lia,λ m m0 m1=>?_⟩
 walk_at "dd"
 refine hJ _ ?_
 clear hJ
 refine zn2 (λ δ=>∃ n:Nat,n<=200/\δ=[.io a (pS jA jB jD jC rooms ly ps 0 (List.replicate ps.length 0) []),.sh (.list (ns.map .int)),.sh (.int (n:Int)),.un]) ?_ ?_
 ·walk_at "dd"
  refine ⟨ns,7,rfl,by lia,λ m' m0' m1'=>?_⟩
  walk_at "dd"
  refine two (λ _=>⟨ns,7,rfl,by lia,λ m2 m20 m21=>?_⟩) λ _=>⟨(m % 4).toNat,by lia,?_⟩
  ·walk_at "dd"
   refine ⟨(m2 / 8 % 201).toNat,by lia,?_⟩
   rw [show ((m2 / 8 % 201).toNat:Int)=m2 / 8 % 201 by lia]
  rw [show ((m % 4).toNat:Int)=m % 4 by lia]
 rintro δ ⟨n,hn,rfl⟩
 refine ze0 λ J hJ=>?_
 walk_at "dd"
 rw [Int.toNat_natCast]
 unfold rngD
 refine ⟨by lia,by lia,zib (λ i δ=>∃ s3:Sl,δ=[.io a (pS jA jB jD jC rooms ly ps i (List.replicate ps.length 0) []),.sh (.list (ns.map .int)),.sh (.int (n:Int)),s3]) ⟨.un,rfl⟩ ?_ ?_⟩
 ·rintro i x δ hx ⟨s3,rfl⟩
  obtain ⟨h1,h2⟩:=List.getElem?_eq_some_iff.mp hx
  simp at h1 h2
  subst h2
  rw [show (0:Int)+(i:Int)=(i:Int) by lia]
  unfold pS
  walk_at "dd"
  refine ⟨rooms,ly,ps,i,List.replicate ps.length 0,[],rfl,no,h24,hv,λ k d e=>by simp [getA] at e,?_⟩
  rw [zum,zbn]
  unfold pS
  walk_at "dd"
  refine ⟨_,rfl,_,rfl,?_⟩
  walk_at "dd"
  exact ⟨true,rfl,by rw [if_neg (by decide)];exact ⟨_,rfl⟩⟩
 ·rintro δ ⟨s3,rfl⟩
  rw [List.length_range]
  refine hJ _ ?_
  clear hJ
  walk_at "dd"
  exact ⟨_,rfl,q n⟩
end
theorem zv1 (h:List Int) (v:Nat) (c:Int) (hv:v < h.length) (x:Nat):(h.set v c).getD x 0=if v=x then c else h.getD x 0:=by
 rw [List.getD_eq_getElem?_getD,List.getElem?_set]
 by_cases e:v=x
 ·subst e;rw [if_pos rfl,if_pos hv,if_pos rfl];rfl
 ·rw [if_neg e,if_neg e,<- List.getD_eq_getElem?_getD]
theorem due4 {n:Nat} {k am l h:Int} (e:dueF n k am l h=4):0<=k/\k < (n:Int)/\1<=am/\am<=l/\am<=h:=by
 unfold dueF at e
 split at e
 ·cases e
 ·split at e
  ·cases e
  ·split at e
   ·cases e
   ·split at e
    ·cases e
    ·lia
theorem due_le (n:Nat) (k am l h:Int):dueF n k am l h<=4:=by
 unfold dueF
 repeat' split
 all_goals lia
theorem due0 {n:Nat} {k am l h:Int} (e:k < 0 \/ (n:Int)<=k):dueF n k am l h=0:=if_pos e
variable {vs:List Va} {ps:List Pi} {now:Nat} {ly en left:List Int} {W:Ways}
theorem Lw.let_ (L:Lw vs ps now ly en left W) {j:Nat} {am:Int} (hj:j < ps.length) (hu:startP ps j < ly.length) (h1:1<=am) (h2:am<=left.getD j 0) (h3:am<=ly.getD (startP ps j) 0) :
  Lw vs ps now (ly.set (startP ps j) (ly.getD (startP ps j) 0 - am)) (en.set j (en.getD j 0+am)) (left.set j (left.getD j 0 - am)) (putW W j (getW W j+am)):=by
 refine ⟨by rw [List.length_set];exact L.yl,by rw [List.length_set];exact L.el,by rw [List.length_set];exact L.ll,λ k hk=>?_,λ k hk=>?_,λ k=>?_,λ x hx=>?_,zsr L.nd _ _⟩
 ·rw [zv1 _ _ _ (by rw [L.ll];exact hj),zv1 _ _ _ (by rw [L.el];exact hj)]
  have:=L.lf k hk
  by_cases e:j=k
  ·subst e;rw [if_pos rfl,if_pos rfl];lia
  ·rw [if_neg e,if_neg e];exact this
 ·rw [zv1 _ _ _ (by rw [L.ll];exact hj)]
  have:=L.lb k hk
  by_cases e:j=k
  ·subst e;rw [if_pos rfl];lia
  ·rw [if_neg e];exact this
 ·rw [zv1 _ _ _ hu]
  have:=L.yb k
  by_cases e:startP ps j=k
  ·subst e;rw [if_pos rfl];lia
  ·rw [if_neg e];exact this
 ·rcases zmq hx with z|⟨y,hy,z⟩
  ·rw [z];exact hj
  ·rw [<- z];exact L.wk y hy
theorem zop {C C1 C2 C3:Addr} {rooms:List Int} (j:Nat) (am:Int):letT C C1 C2 C3 rooms ly ps now en (encW (gP ps now) W) j am=pS C C1 C2 C3 rooms (ly.set (startP ps j) (ly.getD (startP ps j) 0 - am)) ps now (en.set j (en.getD j 0+am)) (encW (gP ps now) (putW W j (getW W j+am))):=by
 unfold letT
 rw [cm_enc,<- zvm gP_inj];rfl
theorem Lw.init (yd:Yd vs ps):Lw vs ps now (vs.map Va.fill) (List.replicate ps.length 0) (ps.map λ p=>p.g.at now) []:=by
 refine ⟨by simp,by simp,by simp,λ k hk=>?_,λ k hk=>?_,λ k=>?_,λ x hx=>by simp at hx,by simp⟩
 ·unfold wideP
  rw [List.getD_eq_getElem?_getD,List.getElem?_map,List.getD_eq_getElem?_getD,List.getElem?_replicate,if_pos hk]
  show _=_ - (0:Int)
  lia
 ·rw [List.getD_eq_getElem?_getD,List.getElem?_map,List.getElem?_eq_getElem hk]
  exact (yd.pu _ (List.getElem_mem _)).2.2.2.2 now
 ·rw [List.getD_eq_getElem?_getD,List.getElem?_map]
  cases e:vs[k]? with
 |none=>exact ⟨Int.le_refl _,by decide⟩
 |some v =>
   have:=yd.va v (List.mem_of_getElem? e)
   show 0<=v.fill/\v.fill<=_
   lia
def gW (ps:List Pi) (n:Nat):Key->D
|.inl j=>.int ((n:Int)+(pl ps j.toNat:Int))
|.inr _=>.none
theorem zfg (ps:List Pi) (n:Nat) (W:Ways):(encW gK W).map (λ kv=>PyData.tuple [gW ps n kv.1,kD kv.1,kv.2])=(W.map (rowW ps n)).map rowD:=by
 unfold encW
 rw [List.map_map,List.map_map]
 refine List.map_congr_left λ x _=>?_
 show PyData.tuple [.int ((n:Int)+(pl ps ((x.1:Nat):Int).toNat:Int)),.int (x.1:Int),.int x.2]=_
 rw [Int.toNat_natCast];rfl
theorem enc_nd {W:Ways} (h:(W.map (·.1)).Nodup):((encW gK W).map (·.1)).Nodup:=by
 unfold encW
 rw [List.map_map]
 exact List.pairwise_map.mpr ((List.pairwise_map.mp h).imp λ h e=>h (gK_inj _ _ e))
def lawS (C C1 C2 C3:Addr) (ns:List Int) (vs:List Va) (ps:List Pi) (n:Nat) (ly en left:List Int) (W:Ways) (r:List Sl):DSt :=
 .sh (.list (ns.map .int)) :: .sh (dYard vs ps) :: .ow (pS C C1 C2 C3 (vs.map Va.room) ly ps n en (encW (gP ps n) W)) :: .sh (.int (n:Int)) :: .ow (.li (ly.map .int)) :: .ow (.li (left.map .int)) :: .ow (.dk (encW gK W)) :: .sh (.int (ps.length:Int)) :: r
section
variable {P:Program} {w:World} {K:Fg} {mg:Str->Option Value} {base:Heap} {jB jD jC jA jP jJ jH jK jF jX jS kL kB jR:Addr}
theorem sc_law:FnScope ["script", "yard", "play", "now", "held", "left", "way", "count", "at", "amount", "k", "good", "start", "here", "due", "found"] ["script"] (zf0 s_law):=by walk_at "sc"
theorem zbq (kJ:mg "len"=none) (qA:mg "list"=none) (kF:mg "range"=none) (jI:Def P w K mg base "_law_draw" 1 ["script", "k"] (spD K zm0)) (uW:Def P w K mg base "_law_yard" 4 ["script"] (spD K zb9)) (uK:Def P w K mg base "_law_width" 1 ["gate", "now"] (spD K zr6)) (jY:Def P w K mg base "_law_whole" 1 ["found", "due"] (spD K zf1)) (vH:Def P w K mg base "_law_let" 4 ["play", "pipe", "amount"] (spT K (zvb jA jB jD jC))) (qZ:Def P w K mg base "_law_no_room" 3 ["play", "pipe"] (spT K (zy3 jA jB jD jC))) (uX:Def P w K mg base "_law_seen" 4 ["play", "now", "held", "way", "left"] (spT K (zi8 jA jB jD jC))) (uA:Def P w K mg base "_law_pipe_by" 2 ["script", "k", "count"] (spD K zt3)) (qN:Def P w K mg base "_law_amount_by" 2 ["script", "k", "left", "held"] (spD K zo2)) (vI:Def P w K mg base "_law_due" 1 ["count", "pipe", "amount", "left", "held"] (spD K zrc)) (uL:Def P w K mg base "_law_begun" 4 ["play", "script"] (spT K (zh6 jA jB jD jC))) (vY:MakeD P w K mg base "Play" jA 4 ["self", "yard"] (spT K (zm2 jA jB jD jC))) :
  ∀ (f:Addr) (cdv:Value) (A:Around) (outer:List Env) (s:Shared) (H:Hp) (E:XK),Room 5 (A.deeper (envOfC "law" (zf0 s_law) s.heap.objs.size f cdv)) ->
   ∃ t d,PSs (cxOf CX0 P w K mg base ["script", "yard", "play", "now", "held", "left", "way", "count", "at", "amount", "k", "good", "start", "here", "due", "found"] "law" (zf0 s_law) f cdv A outer s H E).nox (zr1 s_law) t/\RfS K t d/\∀ (ns:List Int) (Qd:D->Prop),ns.length<=63->Qd (.bool true)->d { nx:=λ _=>Qd .none,rt:=rD Qd } (dStart ["script", "yard", "play", "now", "held", "left", "way", "count", "at", "amount", "k", "good", "start", "here", "due", "found"] [.list (ns.map .int)]):=by
 intro f cdv A outer s H E hr
 have nd:=sc_law.nd
 refine ⟨_,(dSeq (dAsg (dCall zb9 (dCons (dVar 0) dNil)) (gN 1))
   (dSeq (dSet 2 (cN (nMake jA (zm2 jA jB jD jC) (aD (dTup (dCons (dF (dCF fList (dCons (dOp fIx (dVarV 1) (dC (.int 0))) dNil))) (dCons (dF (dCF fList (dCons (dOp fIx (dVarV 1) (dC (.int 1))) dNil))) dNil))) aNil))))
   (dSeq (dSet 3 (cCall (zh6 jA jB jD jC) (aO (pVar 2) (aD (dVar 0) aNil))))
   (dSeq (dIf (dTest (dOp fLt (dVarV 3) (dC (.int 0)))) (dRet (cE (dC (.bool false)))) dNext)
   (dSeq (dSet 4 (cF (dComp (dIt (dOp fIx (dVarV 1) (dC (.int 0)))) 1 [] (gN 0) dTrue (dOp fIx (dVarV 0) (dC (.int 2))))))
   (dSeq (dSet 5 (cF (dComp (dIt (dOp fIx (dVarV 1) (dC (.int 1)))) 1 [3] (gN 0) dTrue (dCall zr6 (dCons (dOp fIx (dVarV 0) (dC (.int 4))) (dCons (dVar 1) dNil))))))
   (dSeq (dSet 6 cDK)
   (dSeq (dAsg (dCB fLen (dCons (dOp fIx (dVarV 1) (dC (.int 1))) dNil)) (gN 7))
   (dSeq (dAsg (dC (.int 0)) (gN 8))
   (dSeq (dAsg (dC (.int 0)) (gN 9))
   (dSeq (dFor (dRng1 (dCons (dC (.int 4)) dNil)) (gN 10) (dSeq (dIf (dOr (dTest (dOp fEq (dVarV 10) (dC (.int 0)))) (dTest (dOp fGt (dOp fMod (dCall zm0 (dCons (dVar 0) (dCons (dOp fAdd (dC (.int 220)) (dVarV 10)) dNil))) (dC (.int 3))) (dC (.int 0))))) (dAsg (dCall zt3 (dCons (dVar 0) (dCons (dVar 10) (dCons (dVar 7) dNil)))) (gN 8)) dNext)
   (dSeq (dAsg (dChain fLe fLt (dC (.int 0)) (dVar 8) (dVar 7)) (gN 11))
   (dSeq (dAsg (dC (.int 0)) (gN 12))
   (dSeq (dAsg (dF (dLst (dCons (dC (.int 0)) (dCons (dC (.int 0)) dNil)))) (gN 13))
   (dSeq (dIf (dTru (dVarV 11)) (dSeq (dAsg (dOp fIx (dOp fIx (dOp fIx (dVarV 1) (dC (.int 1))) (dVarV 8)) (dC (.int 0))) (gN 12))
   (dAsg (dF (dLst (dCons (dOp fIx (dVarV 5) (dVarV 8)) (dCons (dOp fIx (dVarV 4) (dVarV 12)) dNil)))) (gN 13))) (dIf (dNot (dTru (eN (nCall (zy3 jA jB jD jC) (aB (pVar 2) (aD (dVar 8) aNil)))))) (dRet (cE (dC (.bool false)))) dNext))
   (dSeq (dIf (dOr (dTest (dOp fEq (dVarV 10) (dC (.int 0)))) (dTest (dOp fGt (dOp fMod (dCall zm0 (dCons (dVar 0) (dCons (dOp fAdd (dC (.int 220)) (dVarV 10)) dNil))) (dC (.int 3))) (dC (.int 0))))) (dAsg (dCall zo2 (dCons (dVar 0) (dCons (dVar 10) (dCons (dOp fIx (dVarV 13) (dC (.int 0))) (dCons (dOp fIx (dVarV 13) (dC (.int 1))) dNil))))) (gN 9)) dNext)
   (dSeq (dAsg (dCall zrc (dCons (dVar 7) (dCons (dVar 8) (dCons (dVar 9) (dCons (dOp fIx (dVarV 13) (dC (.int 0))) (dCons (dOp fIx (dVarV 13) (dC (.int 1))) dNil)))))) (gN 14))
   (dSeq (dSet 15 (cCall (zvb jA jB jD jC) (aO (pVar 2) (aD (dVar 8) (aD (dVar 9) aNil)))))
   (dSeq (dIf (dTest (dOp fEq (dVarV 14) (dC (.int 4)))) (dSeq (dPut (pVar 5) (dVar 8) (dOp fSub (dOp fIx (dVarV 5) (dVarV 8)) (dVarV 9)))
   (dSeq (dPut (pVar 4) (dVar 12) (dOp fSub (dOp fIx (dVarV 4) (dVarV 12)) (dVarV 9)))
   (dSeq (dPut (pVar 6) (dVar 8) (dOp fAdd (nGet2 (pVar 6) (dVar 8) (dC (.int 0))) (dVarV 9)))
   (dIf (dNot (dTru (dCall zf1 (dCons (dVar 15) (dCons (dOp fIx (dVarV 4) (dVarV 12)) dNil))))) (dRet (cE (dC (.bool false)))) dNext)))) (dIf (dTest (dOp fNe (dVarV 15) (dF (dComp (dRng1 (dCons (dC (.int 10)) dNil)) 1 [14] (gN 0) dTrue (dOp fEq (dVarV 1) (dVarV 0)))))) (dRet (cE (dC (.bool false)))) dNext))
   (dIf (dNot (dTru (eN (nCall (zi8 jA jB jD jC) (aB (pVar 2) (aD (dVar 3) (aB (pVar 4) (aD (dF (zzi [3,6,1] (dOp fAdd (dVarV 1) (dOp fIx (dOp fIx (dOp fIx (dVarV 3) (dC (.int 1))) (dVarV 0)) (dC (.int 2)))) (pVar 6))) (aB (pVar 5) aNil))))))))) (dRet (cE (dC (.bool false)))) dNext)))))))))))
   (dRet (cE (dC (.bool true))))))))))))))),(zd0 (ps_set (i:=1) nd rfl (by first|exact Or.inl rfl|exact Or.inr rfl) (zk0 uW (Room.mono hr (by decide)) rfl (za0 (pv 0) pa_nil)))
   (zd0 (ps_set (i:=2) nd rfl (by first|exact Or.inl rfl|exact Or.inr rfl) (zed vY (Room.mono hr (by decide)) rfl (za0 (zm3 (za0 (zw2 (zq2 (K:=K) rfl) rfl qA zg7 (za0 (pe_ix (ix_V (w:=w) (K:=K) (Room.units hr) rfl rfl) (pv 1) pe_int (λ _ _=>rfl)) pa_nil)) (za0 (zw2 (zq2 (K:=K) rfl) rfl qA zg7 (za0 (pe_ix (ix_V (w:=w) (K:=K) (Room.units hr) rfl rfl) (pv 1) pe_int (λ _ _=>rfl)) pa_nil)) pa_nil))) pa_nil)))
   (zd0 (ps_set (i:=3) nd rfl (by first|exact Or.inl rfl|exact Or.inr rfl) (zk0 uL (Room.mono hr (by decide)) rfl (za0 (pv 2) (za0 (pv 0) pa_nil))))
   (zd0 (ps_if (zt0 op_lt (pv 3) pe_int (nomark _)) (zh0 (ps_ret pe_bl)) zq0)
   (zd0 (zod (i:=4) (sc:=zf0 s_law) (N:=["script", "yard", "play", "now", "held", "left", "way", "count", "at", "amount", "k", "good", "start", "here", "due", "found"]) (own:=["vat"]) (ix:=[]) rfl rfl rfl (by walk_at "csc") nd rfl rfl (pi_W (K:=K) rfl (pe_ix (ix_V (w:=w) (K:=K) (Room.units hr) rfl rfl) (pv 1) pe_int (λ _ _=>rfl))) (λ _ _ _ _=>⟨(ze1 (i:=0) (show (["vat"]:List Str).Nodup by decide +kernel) rfl (by first|exact Or.inl rfl|exact Or.inr rfl)),zp3,(pe_ix (ix_V (w:=w) (K:=K) (Room.units hr) rfl rfl) (pv 0) pe_int (λ _ _=>rfl))⟩))
   (zd0 (zod (i:=5) (sc:=zf0 s_law) (N:=["script", "yard", "play", "now", "held", "left", "way", "count", "at", "amount", "k", "good", "start", "here", "due", "found"]) (own:=["pipe"]) (ix:=[3]) rfl rfl rfl (by walk_at "csc") nd rfl rfl (pi_W (K:=K) rfl (pe_ix (ix_V (w:=w) (K:=K) (Room.units hr) rfl rfl) (pv 1) pe_int (λ _ _=>rfl))) (λ _ _ _ _=>⟨(ze1 (i:=0) (show (["pipe", "now"]:List Str).Nodup by decide +kernel) rfl (by first|exact Or.inl rfl|exact Or.inr rfl)),zp3,(zk0 uK (Room.mono hr (by decide)) rfl (za0 (pe_ix (ix_V (w:=w) (K:=K) (Room.units hr) rfl rfl) (pv 0) pe_int (λ _ _=>rfl)) (za0 (pv 1) pa_nil)))⟩))
   (zd0 (ps_set (i:=6) nd rfl (by first|exact Or.inl rfl|exact Or.inr rfl) zko)
   (zd0 (ps_set (i:=7) nd rfl (by first|exact Or.inl rfl|exact Or.inr rfl) (zl0 (zi1 (K:=K) rfl) rfl kJ bt_len (za0 (pe_ix (ix_V (w:=w) (K:=K) (Room.units hr) rfl rfl) (pv 1) pe_int (λ _ _=>rfl)) pa_nil)))
   (zd0 (ps_set (i:=8) nd rfl (by first|exact Or.inl rfl|exact Or.inr rfl) pe_int)
   (zd0 (ps_set (i:=9) nd rfl (by first|exact Or.inl rfl|exact Or.inr rfl) pe_int)
   (zd0 (ps_for PassesOwn.never rfl (zv2 rfl kF (za0 pe_int pa_nil)) (ze1 (i:=10) nd rfl (by first|exact Or.inl rfl|exact Or.inr rfl)) (zd0 (ps_if (PW.pt (pw_or (zt0 (op_eqD (K:=K) rfl (Room.units hr)) (pv 10) pe_int (nomark _)) (pw_or1 (zt0 op_gt (pe_op op_mod (zk0 jI (Room.mono hr (by decide)) rfl (za0 (pv 0) (za0 (pe_op (zo0 (K:=K) rfl) pe_int (pv 10)) pa_nil))) pe_int) pe_int (nomark _))))) (zh0 (ps_set (i:=8) nd rfl (by first|exact Or.inl rfl|exact Or.inr rfl) (zk0 uA (Room.mono hr (by decide)) rfl (za0 (pv 0) (za0 (pv 10) (za0 (pv 7) pa_nil)))))) zq0)
   (zd0 (ps_set (i:=11) nd rfl (by first|exact Or.inl rfl|exact Or.inr rfl) (zaq op_le op_lt pe_int (pv 8) (pv 7)))
   (zd0 (ps_set (i:=12) nd rfl (by first|exact Or.inl rfl|exact Or.inr rfl) pe_int)
   (zd0 (ps_set (i:=13) nd rfl (by first|exact Or.inl rfl|exact Or.inr rfl) (zl1 (za0 pe_int (za0 pe_int pa_nil))))
   (zd0 (ps_if (zh2 (K:=K) rfl (pv 11) (λ _=>rfl)) (zd0 (ps_set (i:=12) nd rfl (by first|exact Or.inl rfl|exact Or.inr rfl) (pe_ix (ix_V (w:=w) (K:=K) (Room.units hr) rfl rfl) (pe_ix (ix_V (w:=w) (K:=K) (Room.units hr) rfl rfl) (pe_ix (ix_V (w:=w) (K:=K) (Room.units hr) rfl rfl) (pv 1) pe_int (λ _ _=>rfl)) (pv 8) (λ _ _=>rfl)) pe_int (λ _ _=>rfl)))
   (zh0 (ps_set (i:=13) nd rfl (by first|exact Or.inl rfl|exact Or.inr rfl) (zl1 (za0 (pe_ix (ix_V (w:=w) (K:=K) (Room.units hr) rfl rfl) (pv 5) (pv 8) (λ _ _=>rfl)) (za0 (pe_ix (ix_V (w:=w) (K:=K) (Room.units hr) rfl rfl) (pv 4) (pv 12) (λ _ _=>rfl)) pa_nil)))))) (zh0 (ps_if (pt_not (zh2 (K:=K) rfl (zk0 qZ (Room.mono hr (by decide)) rfl (za0 (pv 2) (za0 (pv 8) pa_nil))) (λ _=>rfl))) (zh0 (ps_ret pe_bl)) zq0)))
   (zd0 (ps_if (PW.pt (pw_or (zt0 (op_eqD (K:=K) rfl (Room.units hr)) (pv 10) pe_int (nomark _)) (pw_or1 (zt0 op_gt (pe_op op_mod (zk0 jI (Room.mono hr (by decide)) rfl (za0 (pv 0) (za0 (pe_op (zo0 (K:=K) rfl) pe_int (pv 10)) pa_nil))) pe_int) pe_int (nomark _))))) (zh0 (ps_set (i:=9) nd rfl (by first|exact Or.inl rfl|exact Or.inr rfl) (zk0 qN (Room.mono hr (by decide)) rfl (za0 (pv 0) (za0 (pv 10) (za0 (pe_ix (ix_V (w:=w) (K:=K) (Room.units hr) rfl rfl) (pv 13) pe_int (λ _ _=>rfl)) (za0 (pe_ix (ix_V (w:=w) (K:=K) (Room.units hr) rfl rfl) (pv 13) pe_int (λ _ _=>rfl)) pa_nil))))))) zq0)
   (zd0 (ps_set (i:=14) nd rfl (by first|exact Or.inl rfl|exact Or.inr rfl) (zk0 vI (Room.mono hr (by decide)) rfl (za0 (pv 7) (za0 (pv 8) (za0 (pv 9) (za0 (pe_ix (ix_V (w:=w) (K:=K) (Room.units hr) rfl rfl) (pv 13) pe_int (λ _ _=>rfl)) (za0 (pe_ix (ix_V (w:=w) (K:=K) (Room.units hr) rfl rfl) (pv 13) pe_int (λ _ _=>rfl)) pa_nil)))))))
   (zd0 (ps_set (i:=15) nd rfl (by first|exact Or.inl rfl|exact Or.inr rfl) (zk0 vH (Room.mono hr (by decide)) rfl (za0 (pv 2) (za0 (pv 8) (za0 (pv 9) pa_nil)))))
   (zd0 (ps_if (zt0 (op_eqD (K:=K) rfl (Room.units hr)) (pv 14) pe_int (nomark _)) (zd0 (ps_asg (pe_op op_sub (pe_ix (ix_V (w:=w) (K:=K) (Room.units hr) rfl rfl) (pv 5) (pv 8) (λ _ _=>rfl)) (pv 9)) (pg_sub (pv 5) (pv 8) (set_V (Room.units hr))))
   (zd0 (ps_asg (pe_op op_sub (pe_ix (ix_V (w:=w) (K:=K) (Room.units hr) rfl rfl) (pv 4) (pv 12) (λ _ _=>rfl)) (pv 9)) (pg_sub (pv 4) (pv 12) (set_V (Room.units hr))))
   (zd0 (ps_asg (pe_op (zo0 (K:=K) rfl) (pe_bmU (K:=K) rfl PySem.F.plainAttrs_dict PySem.F.slot_dict_get PySem.F.type_dict_get (ztm (Room.units hr)) (pv 6) (za0 (pv 8) (za0 pe_int pa_nil))) (pv 9)) (pg_sub (pv 6) (pv 8) (set_V (Room.units hr))))
   (zh0 (ps_if (pt_not (zh2 (K:=K) rfl (zk0 jY (Room.mono hr (by decide)) rfl (za0 (pv 15) (za0 (pe_ix (ix_V (w:=w) (K:=K) (Room.units hr) rfl rfl) (pv 4) (pv 12) (λ _ _=>rfl)) pa_nil))) (λ _=>rfl))) (zh0 (ps_ret pe_bl)) zq0))))) (zh0 (ps_if (zt0 (op_neD (K:=K) rfl (Room.units hr)) (pv 15) (zx3 (sc:=zf0 s_law) (N:=["script", "yard", "play", "now", "held", "left", "way", "count", "at", "amount", "k", "good", "start", "here", "due", "found"]) (own:=["j"]) (ix:=[14]) rfl rfl rfl (by walk_at "csc") (zv2 rfl kF (za0 pe_int pa_nil)) (λ _ _ _ _=>⟨(ze1 (i:=0) (show (["j", "due"]:List Str).Nodup by decide +kernel) rfl (by first|exact Or.inl rfl|exact Or.inr rfl)),zp3,(zeb (op_eqD (K:=K) rfl (Room.units hr)) (pv 1) (pv 0) (nomark _))⟩)) (nomark _)) (zh0 (ps_ret pe_bl)) zq0)))
   (zh0 (ps_if (pt_not (zh2 (K:=K) rfl (zk0 uX (Room.mono hr (by decide)) rfl (za0 (pv 2) (za0 (pv 3) (za0 (pv 4) (za0 (zfn (zx3 (sc:=zf0 s_law) (N:=["script", "yard", "play", "now", "held", "left", "way", "count", "at", "amount", "k", "good", "start", "here", "due", "found"]) (own:=["j"]) (ix:=[3,6,1]) rfl rfl rfl (by walk_at "csc") (zzp (pv 6)) (λ _ _ _ _=>⟨(ze1 (i:=0) (show (["j", "now", "way", "yard"]:List Str).Nodup by decide +kernel) rfl (by first|exact Or.inl rfl|exact Or.inr rfl)),zp3,(zm3 (za0 (pe_op (zo0 (K:=K) rfl) (pv 1) (pe_ix (ix_V (w:=w) (K:=K) (Room.units hr) rfl rfl) (pe_ix (ix_V (w:=w) (K:=K) (Room.units hr) rfl rfl) (pe_ix (ix_V (w:=w) (K:=K) (Room.units hr) rfl rfl) (pv 3) pe_int (λ _ _=>rfl)) (pv 0) (λ _ _=>rfl)) pe_int (λ _ _=>rfl))) (za0 (pv 0) (za0 (pe_ix (ix_V (w:=w) (K:=K) (Room.units hr) rfl rfl) (pv 2) (pv 0) (λ _ _=>rfl)) pa_nil))))⟩))) (za0 (pv 5) pa_nil)))))) (λ _=>rfl))) (zh0 (ps_ret pe_bl)) zq0))))))))))))
   (zh0 (ps_ret pe_bl))))))))))))),(rs_seq (rs_asg (zw0 (zc0 (rf_var 0) ra_nil)) (zj0 (i:=1) (n:=100) (by decide)))
   (rs_seq (rs_set (RfN.c (zyg (at_d (rf_tup (zc0 (RfF.e (rf_cf c_list (zx0 (RfE.v (rf_op r_ix (zb0 1) (RfE.v rf_int))) rw_nil))) (zc0 (RfF.e (rf_cf c_list (zx0 (RfE.v (rf_op r_ix (zb0 1) (RfE.v rf_int))) rw_nil))) ra_nil))) at_nil))))
   (rs_seq (rs_set (zni (at_o (rp_var 2) (at_d (rf_var 0) at_nil))))
   (rs_seq (rs_if (zp0 (rf_op r_lt (zb0 3) (RfE.v rf_int))) (rs_ret (RfE.c rf_bl)) zr0)
   (rs_seq (rs_set (RfF.c (zs4 (rj_of (RfE.v (rf_op r_ix (zb0 1) (RfE.v rf_int)))) (zj0 (i:=0) (n:=1) (by decide)) zb7 (rf_op r_ix (zb0 0) (RfE.v rf_int)))))
   (rs_seq (rs_set (RfF.c (zs4 (rj_of (RfE.v (rf_op r_ix (zb0 1) (RfE.v rf_int)))) (zj0 (i:=0) (n:=1) (by decide)) zb7 (zw0 (zc0 (rf_op r_ix (zb0 0) (RfE.v rf_int)) (zc0 (rf_var 1) ra_nil))))))
   (rs_seq (rs_set rc_dk)
   (rs_seq (rs_asg (rf_cb c_len (zx0 (RfE.v (rf_op r_ix (zb0 1) (RfE.v rf_int))) rw_nil)) (zj0 (i:=7) (n:=100) (by decide)))
   (rs_seq (rs_asg rf_int (zj0 (i:=8) (n:=100) (by decide)))
   (rs_seq (rs_asg rf_int (zj0 (i:=9) (n:=100) (by decide)))
   (rs_seq (rs_for (zd8 (zc0 rf_int ra_nil)) (zj0 (i:=10) (n:=100) (by decide)) (rs_seq (rs_if (rf_or (zp0 (rf_opH q_eq (RfV.h (zb0 10)) (RfV.h (RfE.v rf_int)))) (zp0 (rf_op r_gt (RfE.v (rf_op r_mod (RfE.v (zw0 (zc0 (rf_var 0) (zc0 (rf_op r_add (RfE.v rf_int) (zb0 10)) ra_nil)))) (RfE.v rf_int))) (RfE.v rf_int)))) (rs_asg (zw0 (zc0 (rf_var 0) (zc0 (rf_var 10) (zc0 (rf_var 7) ra_nil)))) (zj0 (i:=8) (n:=100) (by decide))) zr0)
   (rs_seq (rs_asg (zse r_le r_lt rf_int (rf_var 8) (rf_var 7)) (zj0 (i:=11) (n:=100) (by decide)))
   (rs_seq (rs_asg rf_int (zj0 (i:=12) (n:=100) (by decide)))
   (rs_seq (rs_asg (RfF.e (rf_lst (zc0 rf_int (zc0 rf_int ra_nil)))) (zj0 (i:=13) (n:=100) (by decide)))
   (rs_seq (rs_if (rf_tru (zb0 11)) (rs_seq (rs_asg (rf_op r_ix (RfE.v (rf_op r_ix (RfE.v (rf_op r_ix (zb0 1) (RfE.v rf_int))) (zb0 8))) (RfE.v rf_int)) (zj0 (i:=12) (n:=100) (by decide)))
   (rs_asg (RfF.e (rf_lst (zc0 (rf_op r_ix (zb0 5) (zb0 8)) (zc0 (rf_op r_ix (zb0 4) (zb0 12)) ra_nil)))) (zj0 (i:=13) (n:=100) (by decide)))) (rs_if (rf_not (rf_tru (RfE.v (RfN.ex (zvi (at_b (rp_var 2) (at_d (rf_var 8) at_nil))))))) (rs_ret (RfE.c rf_bl)) zr0))
   (rs_seq (rs_if (rf_or (zp0 (rf_opH q_eq (RfV.h (zb0 10)) (RfV.h (RfE.v rf_int)))) (zp0 (rf_op r_gt (RfE.v (rf_op r_mod (RfE.v (zw0 (zc0 (rf_var 0) (zc0 (rf_op r_add (RfE.v rf_int) (zb0 10)) ra_nil)))) (RfE.v rf_int))) (RfE.v rf_int)))) (rs_asg (zw0 (zc0 (rf_var 0) (zc0 (rf_var 10) (zc0 (rf_op r_ix (zb0 13) (RfE.v rf_int)) (zc0 (rf_op r_ix (zb0 13) (RfE.v rf_int)) ra_nil))))) (zj0 (i:=9) (n:=100) (by decide))) zr0)
   (rs_seq (rs_asg (zw0 (zc0 (rf_var 7) (zc0 (rf_var 8) (zc0 (rf_var 9) (zc0 (rf_op r_ix (zb0 13) (RfE.v rf_int)) (zc0 (rf_op r_ix (zb0 13) (RfE.v rf_int)) ra_nil)))))) (zj0 (i:=14) (n:=100) (by decide)))
   (rs_seq (rs_set (zni (at_o (rp_var 2) (at_d (rf_var 8) (at_d (rf_var 9) at_nil)))))
   (rs_seq (rs_if (zp0 (rf_opH q_eq (RfV.h (zb0 14)) (RfV.h (RfE.v rf_int)))) (rs_seq (rs_put (rf_op r_sub (RfE.v (rf_op r_ix (zb0 5) (zb0 8))) (zb0 9)) (rp_var 5) (rf_var 8))
   (rs_seq (rs_put (rf_op r_sub (RfE.v (rf_op r_ix (zb0 4) (zb0 12))) (zb0 9)) (rp_var 4) (rf_var 12))
   (rs_seq (rs_put (rf_op r_add (RfE.v (zen (rp_var 6) (rf_var 8) rf_int)) (zb0 9)) (rp_var 6) (rf_var 8))
   (rs_if (rf_not (rf_tru (RfE.v (zw0 (zc0 (rf_var 15) (zc0 (rf_op r_ix (zb0 4) (zb0 12)) ra_nil)))))) (rs_ret (RfE.c rf_bl)) zr0)))) (rs_if (zp0 (rf_opH q_ne (RfV.h (zb0 15)) (RfV.h (RfE.v (RfF.e (zs4 (RfI.j (zd8 (zc0 rf_int ra_nil))) (zj0 (i:=0) (n:=1) (by decide)) zb7 (rf_opH q_eq (RfV.h (zb0 1)) (RfV.h (zb0 0))))))))) (rs_ret (RfE.c rf_bl)) zr0))
   (rs_if (rf_not (rf_tru (RfE.v (RfN.ex (zvi (at_b (rp_var 2) (at_d (rf_var 3) (at_b (rp_var 4) (at_d (RfF.e (zzk (ix:=[3,6,1]) 6 1 rfl (rf_op r_add (zb0 1) (RfE.v (rf_op r_ix (RfE.v (rf_op r_ix (RfE.v (rf_op r_ix (zb0 3) (RfE.v rf_int))) (zb0 0))) (RfE.v rf_int)))))) (at_b (rp_var 5) at_nil)))))))))) (rs_ret (RfE.c rf_bl)) zr0)))))))))))
   (rs_ret (RfE.c rf_bl))))))))))))),?_⟩
 intro ns Qd hns q
 walk_at "ds"
 refine ze0 λ J hJ=>?_
 walk_at "dd"
 refine ⟨ns,rfl,λ vs ps yd=>hJ _ ?_⟩
 clear hJ
 have h12:=yd.v12
 have h24:=yd.p24
 refine ze0 λ J hJ=>?_
 walk_at "dd"
 refine ⟨_,rfl,?_⟩
 walk_at "dd"
 refine ⟨_,rfl,?_⟩
 walk_at "dd"
 refine ⟨vs,ps,rfl,h12,h24,trivial,hJ _ ?_⟩
 clear hJ
 refine ze0 λ J hJ=>?_
 unfold pS
 walk_at "dd"
 refine ⟨vs.map Va.room,vs.map Va.fill,ps,ns,rfl,⟨by simp,by rw [List.length_map];exact h12,λ i r y e1 e2=>?_⟩,h24,λ p hp=>by rw [List.length_map];exact (yd.pu p hp).2.1,λ n=>hJ _ ?_⟩
 ·rw [List.getElem?_map] at e1 e2
  obtain ⟨v,hv,rfl⟩:=Option.map_eq_some_iff.mp e1
  rw [hv] at e2
  cases e2
  exact (yd.va v (List.mem_of_getElem? hv)).2.1
 clear hJ
 refine ze0 λ J hJ=>?_
 walk_at "dd"
 rw [if_neg (by lia)]
 refine hJ _ ?_
 clear hJ
 refine ze0 λ J hJ=>?_
 walk_at "dd"
 refine ⟨_,rfl,?_⟩
 walk_at "dd"
 refine compM (λ v=>.int v.fill) (by rw [sizeLine_eq];lia) (λ v _=>?_) ?_
 ·unfold Va.d
  walk_at "cs"
  walk_at "dd"
  exact ⟨_,rfl,rfl⟩
 rw [show (vs.map λ v=>PyData.int v.fill)=(vs.map Va.fill).map .int by rw [List.map_map];rfl]
 refine hJ _ ?_
 clear hJ
 refine ze0 λ J hJ=>?_
 walk_at "dd"
 refine ⟨_,rfl,?_⟩
 walk_at "dd"
 refine compM (λ p=>.int (p.g.at n)) (by rw [sizeLine_eq];lia) (λ p hp=>?_) ?_
 ·unfold Pi.d
  walk_at "cs"
  walk_at "dd"
  exact ⟨_,rfl,p.g,n,rfl,(yd.pu p hp).2.2.2.1,rfl⟩
 rw [show (ps.map λ p=>PyData.int (p.g.at n))=(ps.map λ p=>p.g.at n).map .int by rw [List.map_map];rfl]
 refine hJ _ ?_
 clear hJ
 walk_at "dn"
 refine ze0 λ J hJ=>?_
 walk_at "dd"
 refine ⟨_,rfl,?_⟩
 walk_at "dd"
 rw [List.length_map]
 refine hJ _ ?_
 clear hJ
 walk_at "dn"
 walk_at "dn"
 refine ze0 λ J hJ=>?_
 walk_at "dd"
 unfold rngD
 refine zib (λ i δ=>∃ (ly en left:List Int) (W:Ways) (at_ am:Int) (s10 s11 s12 s13 s14 s15:Sl),Lw vs ps n ly en left W/\W.length<=i/\(-10000000000000000000000000000000000000000 < at_/\at_ < 10000000000000000000000000000000000000000)/\(-10000000000000000000000000000000000000000 < am/\am < 10000000000000000000000000000000000000000)/\δ=lawS jA jB jD jC ns vs ps n ly en left W [.sh (.int at_),.sh (.int am),s10,s11,s12,s13,s14,s15])
  ⟨_,_,_,[],0,0,.un,.un,.un,.un,.un,.un,Lw.init yd,by simp,by decide,by decide,rfl⟩ ?_ ?_
 ·rintro i x δ hx ⟨ly,en,left,W,at0,am0,s10,s11,s12,s13,s14,s15,L,hW,ba0,bm0,rfl⟩
  obtain ⟨h1,h2⟩:=List.getElem?_eq_some_iff.mp hx
  simp at h1 h2
  subst h2
  rw [show (0:Int)+(i:Int)=(i:Int) by lia]
  have hly:=L.yl
  have hen:=L.el
  have hll:=L.ll
  unfold lawS
  walk_at "dd"
  refine zn2 (λ δ=>∃ at_:Int,(-10000000000000000000000000000000000000000 < at_/\at_ < 10000000000000000000000000000000000000000)/\δ=lawS jA jB jD jC ns vs ps n ly en left W [.sh (.int at_),.sh (.int am0),.sh (.int (i:Int)),s11,s12,s13,s14,s15]) ?_ ?_
  ·walk_at "dd"
   refine two (λ _=>⟨ns,i,ps.length,rfl,by lia,h24,λ a a0 a1=>⟨a,⟨a0,a1⟩,rfl⟩⟩) λ _=>⟨ns,220+i,by congr 2,by lia,λ m m0 m1=>?_⟩
   walk_at "dd"
   exact two (λ _=>⟨ns,i,ps.length,rfl,by lia,h24,λ a a0 a1=>⟨a,⟨a0,a1⟩,rfl⟩⟩) λ _=>⟨at0,ba0,rfl⟩
  rintro δ ⟨at_,ba,rfl⟩
  clear ba0
  refine zn2 (λ δ=>∃ g:Bool,(g=true ↔ 0<=at_/\at_ < (ps.length:Int))/\δ=lawS jA jB jD jC ns vs ps n ly en left W [.sh (.int at_),.sh (.int am0),.sh (.int (i:Int)),.sh (.bool g),s12,s13,s14,s15]) ?_ ?_
  ·unfold lawS
   walk_at "dd"
   refine two (λ z=>⟨_,?_,rfl⟩) λ z=>⟨_,?_,rfl⟩
   ·simp [z]
   ·simp [z]
  rintro δ ⟨g,hg,rfl⟩
  unfold lawS
  walk_at "dn"
  walk_at "dn"
  refine zn2 (λ δ=>∃ (s:Nat) (l h:Int),(∀ am,dueF ps.length at_ am l h=codeP ps n ly en at_ am)/\(0<=at_->at_ < (ps.length:Int)->s=startP ps at_.toNat)/\(0<=l/\l<=2000000000000)/\(0<=h/\h<=2000000000000)/\δ=lawS jA jB jD jC ns vs ps n ly en left W [.sh (.int at_),.sh (.int am0),.sh (.int (i:Int)),.sh (.bool g),.sh (.int (s:Int)),.sh (.list [.int l,.int h]),s14,s15]) ?_ ?_
  ·walk_at "dd"
   cases g with
  |true =>
    rw [if_pos rfl]
    obtain ⟨z1,z2⟩:=hg.mp rfl
    obtain ⟨j,rfl⟩:=Int.eq_ofNat_of_zero_le z1
    have hj:j < ps.length:=by lia
    obtain ⟨p,hp⟩:∃ p,ps[j]?=some p:=⟨_,List.getElem?_eq_getElem hj⟩
    have hpp:=yd.pu p (List.mem_of_getElem? hp)
    have es:startP ps j=p.u:=by unfold startP;rw [hp];rfl
    have gp:atI (ps.map Pi.d) ((j:Nat):Int)=some (.tuple [.int (p.u:Int),.int (p.v:Int),.int (p.len:Int),.int p.pr,p.g.d]):=at_nat (by lia) (by rw [Int.toNat_natCast,List.getElem?_map,hp];rfl)
    have ga:∀ (h:List Int) (v:Nat),v < h.length->atI (h.map PyData.int) ((v:Nat):Int)=some (.int (h.getD v 0)):=λ h v hv=>at_nat (by lia) (by rw [Int.toNat_natCast,List.getElem?_map,List.getD_eq_getElem?_getD,List.getElem?_eq_getElem hv];rfl)
    refine ze0 λ J hJ=>?_
    walk_at "dd"
    refine ⟨_,rfl,?_⟩
    walk_at "dd"
    refine ⟨_,gp,?_⟩
    walk_at "dd"
    refine ⟨_,rfl,hJ _ ?_⟩
    clear hJ
    walk_at "dd"
    refine ⟨_,ga left j (by lia),_,ga ly p.u (by lia),p.u,left.getD j 0,ly.getD p.u 0,λ am=>?_,λ _ _=>by rw [Int.toNat_natCast,es],L.lb j hj,?_,rfl⟩
    ·unfold codeP
     rw [Int.toNat_natCast,es,L.lf j hj]
    ·have:=L.yb p.u
     lia
  |false =>
    rw [if_neg (by decide)]
    have hn:at_ < 0 \/ (ps.length:Int)<=at_:=by
     have:¬ (0<=at_/\at_ < (ps.length:Int)):=λ z=>by have:=hg.mpr z;cases this
     lia
    refine ⟨vs.map Va.room,ly,ps,n,en,_,at_,rfl,hen,λ p hp=>(yd.pu p hp).2.2.2.1,h24,ba.1,ba.2,hn,?_⟩
    walk_at "dd"
    refine ⟨0,0,0,λ am=>?_,λ _ _=>by lia,by decide,by decide,rfl⟩
    unfold codeP
    rw [due0 hn,due0 hn]
  rintro δ ⟨s,l,h,e4,hs,bl,bh,rfl⟩
  refine zn2 (λ δ=>∃ am:Int,(-10000000000000000000000000000000000000000 < am/\am < 10000000000000000000000000000000000000000)/\δ=lawS jA jB jD jC ns vs ps n ly en left W [.sh (.int at_),.sh (.int am),.sh (.int (i:Int)),.sh (.bool g),.sh (.int (s:Int)),.sh (.list [.int l,.int h]),s14,s15]) ?_ ?_
  ·unfold lawS
   walk_at "dd"
   refine two (λ _=>⟨_,rfl,?_⟩) λ _=>⟨ns,220+i,by congr 2,by lia,λ m m0 m1=>?_⟩
   ·exact ⟨_,rfl,ns,i,l,h,rfl,by lia,bl.1,bl.2,bh.1,bh.2,λ a a0 a1=>⟨a,⟨a0,a1⟩,rfl⟩⟩
   walk_at "dd"
   refine two (λ _=>⟨_,rfl,?_⟩) λ _=>⟨am0,bm0,rfl⟩
   exact ⟨_,rfl,ns,i,l,h,rfl,by lia,bl.1,bl.2,bh.1,bh.2,λ a a0 a1=>⟨a,⟨a0,a1⟩,rfl⟩⟩
  rintro δ ⟨am,bm,rfl⟩
  clear bm0
  unfold lawS
  refine ze0 λ J hJ=>?_
  walk_at "dd"
  refine ⟨_,rfl,_,rfl,ps.length,at_,am,l,h,rfl,?_⟩
  rw [e4 am]
  refine hJ _ ?_
  clear hJ
  refine ze0 λ J hJ=>?_
  unfold pS
  walk_at "dd"
  have hle:=due_le ps.length at_ am (wideP ps at_.toNat n - en.getD at_.toNat 0) (ly.getD (startP ps at_.toNat) 0)
  have hle:codeP ps n ly en at_ am<=4:=hle
  refine ⟨vs.map Va.room,ly,ps,n,en,_,at_,am,rfl,hen,λ p hp=>⟨(yd.pu p hp).2.2.2.1,by rw [hly];exact (yd.pu p hp).1⟩,h24,by unfold encW;rw [List.length_map];lia,zyf W,ba.1,ba.2,bm.1,bm.2,λ j hj=>?_,λ z=>hJ _ ?_,λ z=>hJ _ ?_⟩
  ·have h1:=L.lf j hj
   have h2:=L.lb j hj
   rw [<- h1]
   constructor
   ·show (-10000000000000000000000000000000000000000:Int) < _
    lia
   ·show _ < (10000000000000000000000000000000000000000:Int)
    lia
  ·clear hJ
   generalize codeP ps n ly en at_ am=c at hle z ⊢
   refine ze0 λ J hJ=>?_
   walk_at "dd"
   rw [if_neg (by lia)]
   unfold rngD
   refine compM (λ j=>.bool (c == j)) (by rw [sizeLine_eq];simp) (λ j hj=>?_) ?_
   ·walk_at "cs"
    walk_at "dd"
    rw [<- zmn c j,Int.zero_add]
   have fb:=zmg c
   refine ⟨fb.shaped (by decide),fb.shaped (by decide),?_⟩
   have e1:=eqv_refl fb
   unfold bools at e1 ⊢
   rw [e1,if_neg (by decide)]
   refine hJ _ ?_
   clear hJ
   walk_at "dd"
   refine ⟨by unfold encW;rw [List.length_map];lia,enc_nd L.nd,gW ps n,λ kv hkv=>?_,?_⟩
   ·unfold encW at hkv
    obtain ⟨x,hx,rfl⟩:=List.mem_map.mp hkv
    obtain ⟨p,hp⟩:∃ p,ps[x.1]?=some p:=⟨_,List.getElem?_eq_getElem (L.wk x hx)⟩
    have gp:atI (ps.map Pi.d) ((x.1:Nat):Int)=some (.tuple [.int (p.u:Int),.int (p.v:Int),.int (p.len:Int),.int p.pr,p.g.d]):=at_nat (by lia) (by rw [Int.toNat_natCast,List.getElem?_map,hp];rfl)
    have epl:pl ps x.1=p.len:=by unfold pl;rw [hp];rfl
    rw [show kD (gK x.fst,PyData.int x.snd).fst=PyData.int ((x.fst:Nat):Int) from rfl]
    walk_at "cs"
    refine ⟨_,rfl,?_⟩
    try walk_at "dd"
    refine ⟨_,gp,?_⟩
    try walk_at "dd"
    refine ⟨_,rfl,?_⟩
    show PyData.int ((n:Int)+(p.len:Int))=.int ((n:Int)+(pl ps ((x.1:Nat):Int).toNat:Int))
    rw [Int.toNat_natCast,epl]
   rw [zfg]
   refine ⟨vs,ps,n,_,_,_,_,rfl,h12,h24,λ p hp=>(yd.pu p hp).2.2.2.1,by lia,L,?_⟩
   walk_at "dd"
   exact ⟨_,_,_,_,at_,am,_,_,_,_,_,_,L,by lia,ba,bm,rfl⟩
  ·clear hJ
   obtain ⟨g1,g2,g3,g4,g5⟩:=due4 z
   obtain ⟨j,rfl⟩:=Int.eq_ofNat_of_zero_le g1
   rw [Int.toNat_natCast] at g4 g5 hs ⊢
   have hj:j < ps.length:=by lia
   obtain rfl:=hs g1 g2
   rw [zop]
   have hu:startP ps j < ly.length:=by
    unfold startP
    rw [List.getElem?_eq_getElem hj]
    show (ps[j]).u < _
    rw [hly];exact (yd.pu _ (List.getElem_mem _)).1
   have L2:=L.let_ hj hu g3 (by rw [L.lf j hj];exact g4) g5
   have hW2:=zmo W j (getW W j+am)
   have ga:∀ (h:List Int) (v:Nat),v < h.length->atI (h.map PyData.int) ((v:Nat):Int)=some (.int (h.getD v 0)):=λ h v hv=>at_nat (by lia) (by rw [Int.toNat_natCast,List.getElem?_map,List.getD_eq_getElem?_getD,List.getElem?_eq_getElem hv];rfl)
   rw [z,show ((4:Nat):Int)=4 from rfl]
   generalize startP ps j=u at hu L2 ⊢
   refine ze0 λ J hJ=>?_
   walk_at "dd"
   refine ze0 λ J2 hJ2=>?_
   walk_at "dd"
   refine ⟨_,ga left j (by lia),?_⟩
   walk_at "dd"
   refine ⟨j,ixN_nt (by rw [List.length_map];lia),?_⟩
   rw [<- List.map_set]
   refine hJ2 _ ?_
   clear hJ2
   refine ze0 λ J2 hJ2=>?_
   walk_at "dd"
   refine ⟨_,ga ly u hu,?_⟩
   walk_at "dd"
   refine ⟨u,ixN_nt (by rw [List.length_map];lia),?_⟩
   rw [<- List.map_set]
   refine hJ2 _ ?_
   clear hJ2
   refine ze0 λ J2 hJ2=>?_
   walk_at "dd"
   have e5:=zmi (g:=gK) gK_inj j W
   have e6:=zvm (g:=gK) gK_inj W j (getW W j+am)
   rw [show gK j=Sum.inl (j:Int) from rfl] at e5 e6
   rw [e5]
   walk_at "dd"
   refine ⟨by unfold encW;rw [List.length_map];lia,?_⟩
   rw [e6]
   refine hJ2 _ ?_
   clear hJ2
   walk_at "dd"
   refine ⟨_,ga _ u (by rw [List.length_set];exact hu),?_⟩
   rw [zv1 _ _ _ hu,if_pos rfl]
   refine ⟨_,rfl,?_⟩
   walk_at "dd"
   refine hJ _ ?_
   clear hJ
   walk_at "dd"
   refine ⟨by unfold encW;rw [List.length_map];lia,enc_nd L2.nd,gW ps n,λ kv hkv=>?_,?_⟩
   ·unfold encW at hkv
    obtain ⟨x,hx,rfl⟩:=List.mem_map.mp hkv
    obtain ⟨p,hp⟩:∃ p,ps[x.1]?=some p:=⟨_,List.getElem?_eq_getElem (L2.wk x hx)⟩
    have gp:atI (ps.map Pi.d) ((x.1:Nat):Int)=some (.tuple [.int (p.u:Int),.int (p.v:Int),.int (p.len:Int),.int p.pr,p.g.d]):=at_nat (by lia) (by rw [Int.toNat_natCast,List.getElem?_map,hp];rfl)
    have epl:pl ps x.1=p.len:=by unfold pl;rw [hp];rfl
    rw [show kD (gK x.fst,PyData.int x.snd).fst=PyData.int ((x.fst:Nat):Int) from rfl]
    walk_at "cs"
    refine ⟨_,rfl,?_⟩
    try walk_at "dd"
    refine ⟨_,gp,?_⟩
    try walk_at "dd"
    refine ⟨_,rfl,?_⟩
    show PyData.int ((n:Int)+(p.len:Int))=.int ((n:Int)+(pl ps ((x.1:Nat):Int).toNat:Int))
    rw [Int.toNat_natCast,epl]
   rw [zfg]
   refine ⟨vs,ps,n,_,_,_,_,rfl,h12,h24,λ p hp=>(yd.pu p hp).2.2.2.1,by lia,L2,?_⟩
   walk_at "dd"
   exact ⟨_,_,_,_,(j:Int),am,_,_,_,_,_,_,L2,by lia,ba,bm,rfl⟩
 ·rintro δ ⟨ly,en,left,W,at0,am0,s10,s11,s12,s13,s14,s15,L,hW,ba0,bm0,rfl⟩
  refine hJ _ ?_
  clear hJ
  unfold lawS
  walk_at "dd"
  exact q
end
end K09
namespace K09
open PySem PySem.Spec PyProof.Rows L2 L3 L4 L5
theorem all_mk {l:PySem.W.OpenLaw} {w:World} {K:Fg} {h:Heap} {mg:Str->Option Value} {fa:Addr} {jB jD jC jA jJ jH jK jF jP jX jS kL kB jR:Addr} (X:K.In h) (G:h.Ns mainGlobals mg) (hfa:mg "law"=some (.ref fa))
  (kZ:TopCls K "Steady" jB)
  (qH:TopCls K "Late" jD)
  (kS:TopCls K "Tidal" jC)
  (jG:TopCls K "Play" jA)
  (kG:PySem.W.findIn K (.ref jB) "wide"=some none)
  (qC:PySem.W.findIn K (.ref jD) "wide"=some none)
  (kO:PySem.W.findIn K (.ref jD) "since"=some none)
  (kQ:PySem.W.findIn K (.ref jC) "wide"=some none)
  (kH:PySem.W.findIn K (.ref jC) "other"=some none)
  (kR:PySem.W.findIn K (.ref jC) "turn"=some none)
  (jL:PySem.W.findIn K (.ref jA) "moment"=some none)
  (jM:PySem.W.findIn K (.ref jA) "entered"=some none)
  (jN:PySem.W.findIn K (.ref jA) "pipes"=some none)
  (jZ:PySem.W.findIn K (.ref jA) "gates"=some none)
  (jO:PySem.W.findIn K (.ref jA) "lying"=some none)
  (jQ:PySem.W.findIn K (.ref jA) "coming"=some none)
  (kT:PySem.W.findIn K (.ref jA) "rooms"=some none)
  (uY:TopDef K "_law_draw" ze6)
  (uZ:TopDef K "_law_size" zm6)
  (vA:TopDef K "_law_name" zf6)
  (vB:TopDef K "_law_gate" zu6)
  (vC:TopDef K "_law_pipe" za6)
  (vD:TopDef K "_law_yard" zd4)
  (uM:TopDef K "_law_width" zc5)
  (uN:TopDef K "_law_whole" zf5)
  (qJ:TopMeth K jB "width_at" "Steady.width_at" zs1)
  (qU:TopMeth K jD "width_at" "Late.width_at" zp2)
  (qO:TopMeth K jC "width_at" "Tidal.width_at" zd2)
  (qK:TopMeth K jA "room_in" "Play.room_in" zx1)
  (vJ:TopMeth K jA "let" "Play.let" zn9)
  (vK:TopDef K "_law_let" zi9)
  (uB:TopDef K "_law_no_room" zy1)
  (uG:TopDef K "_law_wholes" zi2)
  (uD:TopDef K "_law_comings" zz2)
  (qP:TopMeth K jA "under_way" "Play.under_way" zk1)
  (vL:TopMeth K jA "now" "Play.now" za9)
  (uO:TopMeth K jA "holds" "Play.holds" zg5)
  (vE:TopDef K "_law_seen" zh4)
  (uE:TopDef K "_law_pipe_by" zy2)
  (qQ:TopDef K "_law_amount_by" ze2)
  (vM:TopDef K "_law_due" zo9)
  (vF:TopMeth K jA "full" "Play.full" zf4)
  (uH:TopDef K "refuse_full" zq3)
  (uP:TopMeth K jA "go_on" "Play.go_on" ze5)
  (uQ:TopDef K "_law_begun" zd5)
  (qR:TopMeth K jC "__init__" "Tidal.__init__" zz1)
  (qL:TopMeth K jB "__init__" "Steady.__init__" zu1)
  (qV:TopMeth K jD "__init__" "Late.__init__" zl2)
  (vP:TopDef K "gate_of" zoc)
  (qW:TopMeth K jA "__init__" "Play.__init__" zc1)
  (vZ:TopDef K "law" s_law)
  (qB:XCls K "NoPipe" jJ)
  (kC:XCls K "NoAmount" jH)
  (kK:XCls K "TooWide" jK)
  (kA:XCls K "TooLittle" jF)
  (kW:XCls K "YardError" jP)
  (qG:XCls K "TooFull" jX)
  (qE:XCls K "NoMoment" jS)
  (qT:XCls K "NoRow" kL)
  (qI:XCls K "NoName" kB)
  (kX:XCls K "NoMeasure" jR)
  (kx:KxT K [jJ,jH,jK,jF] [jJ,jH,jK,jF,jX,jS,kL,kB,jR])
  (jU:PySem.W.exmOne K (.ref jJ) (.ref jP)=some true)
  (jV:PySem.W.exmOne K (.ref jH) (.ref jP)=some true)
  (jW:PySem.W.exmOne K (.ref jK) (.ref jP)=some true)
  (jT:PySem.W.exmOne K (.ref jF) (.ref jP)=some true)
  (kU:PySem.W.nsIn K mainGlobals "ValueError"=some none)
  (vT:PySem.W.nsIn K mainGlobals "bool"=some none)
  (qD:PySem.W.nsIn K mainGlobals "enumerate"=some none)
  (vQ:PySem.W.nsIn K mainGlobals "int"=some none)
  (jE:PySem.W.nsIn K mainGlobals "isinstance"=some none)
  (kJ:PySem.W.nsIn K mainGlobals "len"=some none)
  (qA:PySem.W.nsIn K mainGlobals "list"=some none)
  (vV:PySem.W.nsIn K mainGlobals "max"=some none)
  (vW:PySem.W.nsIn K mainGlobals "min"=some none)
  (kF:PySem.W.nsIn K mainGlobals "range"=some none)
  (qS:PySem.W.nsIn K mainGlobals "sorted"=some none)
  (vN:PySem.W.nsIn K mainGlobals "tuple"=some none)
  (vR:PySem.W.nsIn K mainGlobals "zip"=some none) (kt:Kit K)
 :∃ fd:FuncData,(∀ (s:Shared) (v:Value),BindsTo s fd ⟨[v],[]⟩ [("script",v)])/\∀ base:Heap,K.In base->base.Ns mainGlobals mg->FnOk l.prog w K mg base CX0 6 fa fd ["script"] (spLaw K):=by
 have M:Md K mg:=⟨⟨h,X,G⟩⟩
 refine law_D M vZ hfa sc_law (λ _ _ _ _ _ _ us hl=>by obtain ⟨_,rfl⟩:=ar1 hl;rfl) λ base kb nb=>?_
 have jI:=zkf (P:=l.prog) (w:=w) (K:=K) (mg:=mg) (base:=base) M uY (M.not kJ)
 have qF:=zof (P:=l.prog) (w:=w) (K:=K) (mg:=mg) (base:=base) M uZ
 have uT:=zye (P:=l.prog) (w:=w) (K:=K) (mg:=mg) (base:=base) M vA
 have uS:=zqf (P:=l.prog) (w:=w) (K:=K) (mg:=mg) (base:=base) M vB qF
 have uU:=zve (P:=l.prog) (w:=w) (K:=K) (mg:=mg) (base:=base) M vC jI uS
 have uW:=zff (P:=l.prog) (w:=w) (K:=K) (mg:=mg) (base:=base) M vD (M.not kF) jI qF uT uU
 have uK:=zwd (P:=l.prog) (w:=w) (K:=K) (mg:=mg) (base:=base) M uM
 have jY:=zle (P:=l.prog) (w:=w) (K:=K) (mg:=mg) (base:=base) M uN kt (M.not vT) (M.not vQ) (M.not jE)
 have kE:=zb6 (P:=l.prog) (w:=w) (K:=K) (mg:=mg) (base:=base) kZ.cls qJ kG
 have kM:=zr9 (P:=l.prog) (w:=w) (K:=K) (mg:=mg) (base:=base) qH.cls qU qC kO
 have kI:=zp7 (P:=l.prog) (w:=w) (K:=K) (mg:=mg) (base:=base) kS.cls qO kQ kH kR
 have qY:=zda (P:=l.prog) (w:=w) (K:=K) (mg:=mg) (base:=base) (jD:=jD) (jA:=jA) (jB:=jB) (jC:=jC) jG.cls qK (M.not kJ) qH.cls kZ.cls kS.cls jL jM jN jZ kE kM kI
 have kN:=zm9 (P:=l.prog) (w:=w) (K:=K) (mg:=mg) (base:=base) (jD:=jD) (jJ:=jJ) (jA:=jA) (jB:=jB) (jC:=jC) jG.cls qK (M.not kJ) qH.cls kZ.cls kS.cls jL jM jN jZ kE kM kI qB
 have uV:=zef (P:=l.prog) (w:=w) (K:=K) (mg:=mg) (base:=base) (jD:=jD) (jH:=jH) (jJ:=jJ) (jA:=jA) (jB:=jB) (jC:=jC) (jF:=jF) (jK:=jK) jG.cls vJ jM jO jQ jN jL kN kC kK kA
 have vH:=zth (P:=l.prog) (w:=w) (K:=K) (mg:=mg) (base:=base) (jD:=jD) (jA:=jA) (jB:=jB) (jC:=jC) M vK kt (M.not kU) (M.not jE) jG.cls uV kW qB kC kK kA qG qE qT qI kX jU jV jW jT kx
 have qZ:=zta (P:=l.prog) (w:=w) (K:=K) (mg:=mg) (base:=base) (jD:=jD) (jA:=jA) (jB:=jB) (jC:=jC) M uB kt (M.not kU) (M.not jE) (M.not kF) jG.cls kN kW qB kC kK kA qG qE qT qI kX jU jV jW jT kx
 have kY:=zcc (P:=l.prog) (w:=w) (K:=K) (mg:=mg) (base:=base) M uG kt (M.not jE) (M.not kJ) (M.not qA) (M.not vR) jY
 have qX:=zha (P:=l.prog) (w:=w) (K:=K) (mg:=mg) (base:=base) M uD kt (M.not jE) (M.not kJ) (M.not qA) (M.not vN) (M.not vR) kY
 have qM:=zq7 (P:=l.prog) (w:=w) (K:=K) (mg:=mg) (base:=base) (jD:=jD) (jA:=jA) (jB:=jB) (jC:=jC) jG.cls qP (M.not qS) jQ
 have vG:=zph (P:=l.prog) (w:=w) (K:=K) (mg:=mg) (base:=base) (jD:=jD) (jA:=jA) (jB:=jB) (jC:=jC) jG.cls vL jL
 have uI:=zld (P:=l.prog) (w:=w) (K:=K) (mg:=mg) (base:=base) (jD:=jD) (jA:=jA) (jB:=jB) (jC:=jC) jG.cls uO (M.not qA) jO
 have uX:=zbf (P:=l.prog) (w:=w) (K:=K) (mg:=mg) (base:=base) (jD:=jD) (jA:=jA) (jB:=jB) (jC:=jC) M vE (M.not kJ) (M.not kF) (M.not qS) jY kY qX jG.cls qM vG uI qY
 have uA:=zaa (P:=l.prog) (w:=w) (K:=K) (mg:=mg) (base:=base) M uE jI
 have qN:=zo7 (P:=l.prog) (w:=w) (K:=K) (mg:=mg) (base:=base) M qQ (M.not vV) (M.not vW) jI
 have vI:=zsh (P:=l.prog) (w:=w) (K:=K) (mg:=mg) (base:=base) M vM (M.not vQ)
 have uR:=zwf (P:=l.prog) (w:=w) (K:=K) (mg:=mg) (base:=base) (jD:=jD) (jA:=jA) (jB:=jB) (jC:=jC) jG.cls vF (M.not qD) kT jO
 have uF:=zbc (P:=l.prog) (w:=w) (K:=K) (mg:=mg) (base:=base) (jD:=jD) (jA:=jA) (jB:=jB) (jC:=jC) M uH jG.cls uR
 have uJ:=znd (P:=l.prog) (w:=w) (K:=K) (mg:=mg) (base:=base) (jD:=jD) (jA:=jA) (jB:=jB) (jC:=jC) jG.cls uP (M.not qD) (M.not kJ) uF jL jM jN jO jQ
 have uL:=zqe (P:=l.prog) (w:=w) (K:=K) (mg:=mg) (base:=base) (jD:=jD) (jA:=jA) (jB:=jB) (jC:=jC) M uQ (M.not kF) jI jY jG.cls uJ
 have vU:=zt7 (P:=l.prog) (w:=w) (K:=K) (mg:=mg) (base:=base) M kS qR kQ kH kR
 have vS:=zs6 (P:=l.prog) (w:=w) (K:=K) (mg:=mg) (base:=base) M kZ qL kG
 have vX:=zk8 (P:=l.prog) (w:=w) (K:=K) (mg:=mg) (base:=base) M qH qV qC kO
 have vO:=zjj (P:=l.prog) (w:=w) (K:=K) (mg:=mg) (base:=base) (jD:=jD) (jB:=jB) (jC:=jC) M vP vU vS vX
 have vY:=zf9 (P:=l.prog) (w:=w) (K:=K) (mg:=mg) (base:=base) (jD:=jD) (jA:=jA) (jB:=jB) (jC:=jC) M jG qW (M.not kJ) (M.not qA) vO kT jO jN jZ jL jM jQ
 exact zbq (M.not kJ) (M.not qA) (M.not kF) jI uW uK jY vH qZ uX uA qN vI uL vY
end K09
local macro_rules|`(tactic| walk_at "top")=>`(tactic| (refine' zjk ?a ?l ?c ?k;(case a=>k_is);(case l=>k_is);(case c=>k_is);(case k=>k_is)))
local macro_rules|`(tactic| walk_at "topn")=>`(tactic| (refine' zuj ?a ?l ?c ?k ?t ?d;(case a=>k_is);(case l=>k_is);(case c=>k_is);(case k=>k_is);(case t=>k_is);(case d=>rfl)))
local macro_rules|`(tactic| walk_at "meth")=>`(tactic| (refine' zwh ?a ?i ?l ?c ?k;(case a=>k_is);(case i=>k_is);(case l=>k_is);(case c=>k_is);(case k=>k_is)))
local macro_rules|`(tactic| walk_at "cls")=>`(tactic| (refine' zwl ?a ?pg ?hd ?po ?sa ?mk ?kc;(case a=>k_is);(case pg=>k_is);(case hd=>k_is);(case po=>k_is);(case sa=>k_is);(case mk=>k_is);(case kc=>k_is)))
local macro_rules|`(tactic| walk_at "xcl")=>`(tactic| (refine' ⟨?a,?b⟩;(case a=>k_is);(case b=>first|k_exc|k_is)))
local macro_rules|`(tactic| walk_at "exk")=>`(tactic| (refine' ⟨?a,?b,?c,?d,?e,?f,?g,?h⟩;(case a=>first|k_is|rfl);(case b=>k_is);(case c=>k_is);(case d=>k_is);(case e=>k_is);(case f=>k_is);(case g=>k_is);(case h=>k_is)))
local macro_rules|`(tactic| walk_at "kxt")=>`(tactic| (refine' Eq.trans (b:=some true) ?p ?q;(case p=>kit_is);(case q=>rfl)))
local macro_rules|`(tactic| walk_at "kxf")=>`(tactic| (refine' Eq.trans (b:=some false) ?p ?q;(case p=>kit_is);(case q=>rfl)))
def PySem.W.Fast.tw4241978238043672393 : Nat := 0
def PySem.W.Fast.tw4043010223277701551 : Nat := 0
def PySem.W.Fast.tw10968674783981549951 : Nat := 0
def PySem.W.Fast.tw10105562510160933913 : Nat := 0
def PySem.W.Fast.tw9240823691150839379 : Nat := 0
def PySem.W.Fast.tw13179120351471985962 : Nat := 0
def PySem.W.Fast.tw3495942248150601668 : Nat := 0
def PySem.W.Fast.tw380545838586325478 : Nat := 0
def PySem.W.Fast.tw5207935195153444828 : Nat := 0
def PySem.W.Fast.tw7817331231084062972 : Nat := 0
def PySem.W.Fast.tw6717877066928891438 : Nat := 0
def PySem.W.Fast.tw10134102683898807393 : Nat := 0
def PySem.W.Fast.tw393775609896478567 : Nat := 0
def PySem.W.Fast.tw5857748128977620533 : Nat := 0
def PySem.W.Fast.tw4037624351796878884 : Nat := 0
def PySem.W.Fast.tw414145842208531148 : Nat := 0
def PySem.W.Fast.tw13494218576822976851 : Nat := 0
def PySem.W.Fast.tw14705454194588621743 : Nat := 0
def PySem.W.Fast.tw16573786043416309253 : Nat := 0
def PySem.W.Fast.tw3074354868269747577 : Nat := 0
def PySem.W.Fast.tw11584545485505341225 : Nat := 0
def PySem.W.Fast.tw7060054930899217913 : Nat := 0
def PySem.W.Fast.tw8067915385567913948 : Nat := 0
def PySem.W.Fast.tw11347862020457744443 : Nat := 0
def PySem.W.Fast.tw17685783102547796106 : Nat := 0
def PySem.W.Fast.tw3248520509633490527 : Nat := 0
def PySem.W.Fast.tw12331041613075693137 : Nat := 0
def PySem.W.Fast.tw420843391027011248 : Nat := 0
def PySem.W.Fast.tw13868411293661137199 : Nat := 0
def PySem.W.Fast.tw12896196650501314359 : Nat := 0
def PySem.W.Fast.tw11585004491784098442 : Nat := 0
def PySem.W.Fast.tw7558369359245947271 : Nat := 0
def PySem.W.Fast.tw9474230350525301596 : Nat := 0
def PySem.W.Fast.tw11475681945018505659 : Nat := 0
def PySem.W.Fast.tw12833441900959776423 : Nat := 0
def PySem.W.Fast.tw13851824770354885004 : Nat := 0
def PySem.W.Fast.tw15765588490682038315 : Nat := 0
def PySem.W.Fast.tw8832627188625370545 : Nat := 0
def PySem.W.Fast.tw10894730476525672772 : Nat := 0
def PySem.W.Fast.tw18173936528733511869 : Nat := 0
def PySem.W.Fast.tw17146058622293386301 : Nat := 0
def PySem.W.Fast.tw1911301116005728059 : Nat := 0
def PySem.W.Fast.tw1591538561089666594 : Nat := 0
def PySem.W.Fast.tw6074211649501152724 : Nat := 0
def PySem.W.Fast.tw2926192057601748706 : Nat := 0
def PySem.W.Fast.tw14649380742397571575 : Nat := 0
def PySem.W.Fast.tw9407848991744487234 : Nat := 0
def PySem.W.Fast.tw8761770020564445455 : Nat := 0
def PySem.W.Fast.tw9164405083761739395 : Nat := 0
def PySem.W.Fast.tw14567082182678262020 : Nat := 0
def PySem.W.Fast.tw4638970223686456046 : Nat := 0
def PySem.W.Fast.tw11721822889514472507 : Nat := 0
def PySem.W.Fast.tw4351403100449576649 : Nat := 0
def PySem.W.Fast.tw14687838672206213320 : Nat := 0
def PySem.W.Fast.tw1250038422836021427 : Nat := 0
def PySem.W.Fast.tw12839522854389364217 : Nat := 0
def PySem.W.Fast.tw7274002724016522319 : Nat := 0
def PySem.W.Fast.tw5707501073268836717 : Nat := 0
def PySem.W.Fast.tw8317228483393077186 : Nat := 0
def PySem.W.Fast.tw2004761592749968 : Nat := 0
def PySem.W.Fast.tw1125831544752580045 : Nat := 0
def PySem.W.Fast.tw13072998901691185882 : Nat := 0
def PySem.W.Fast.tw7560256762709521280 : Nat := 0
def PySem.W.Fast.tw9364381021641256050 : Nat := 0
def PySem.W.Fast.tw11422294194822715636 : Nat := 0
def PySem.W.Fast.tw5389886921812136527 : Nat := 0
def PySem.W.Fast.tw2166467163366751065 : Nat := 0
def PySem.W.Fast.tw14099700933781967176 : Nat := 0
def PySem.W.Fast.tw14698713267995466158 : Nat := 0
def PySem.W.Fast.tw10969587194446526353 : Nat := 0
def PySem.W.Fast.tw4382316476618364851 : Nat := 0
def PySem.W.Fast.tw5839031944240723848 : Nat := 0
def PySem.W.Fast.tw5069982405630147374 : Nat := 0
def PySem.W.Fast.tw8361989455773374018 : Nat := 0
def PySem.W.Fast.tw17174089282796193589 : Nat := 0
def PySem.W.Fast.tw12692241030823800014 : Nat := 0
def PySem.W.Fast.tw12139052102227478234 : Nat := 0
def PySem.W.Fast.tw8275922811816283590 : Nat := 0
def PySem.W.Fast.tw18064739150008307 : Nat := 0
def PySem.W.Fast.tw1443276443957962234 : Nat := 0
def PySem.W.Fast.tw7809396118835228980 : Nat := 0
def PySem.W.Fast.tw5846675269744882143 : Nat := 0
def PySem.W.Fast.tw11759080615721228515 : Nat := 0
def PySem.W.Fast.tw7339556175043349684 : Nat := 0
def PySem.W.Fast.tw13797619712906618986 : Nat := 0
open PySem PySem.W PyProof.Rows L3 L4
set_option maxRecDepth 100000 in
set_option maxHeartbeats 0 in
theorem PySem.Challenge.cw_vatyard_k09_letting_refused_holds : PySem.Challenge.rw_vatyard_k09_letting_refused.Holds := by
  w_on; o_law; k_head; (case hw => w_witness2)
  k_fill
  refine L3.law_walk (k := 6) (l := PySem.Challenge.rw_vatyard_k09_letting_refused) ⟨rfl, by decide, rfl, by decide⟩ rfl rfl (fun w h Y => PySem.W.kIn_of Y) ?F
  case F =>
    intro w mg fa h KX G hmg
    refine' K09.all_mk KX G hmg ?kZ ?qH ?kS ?jG ?kG ?qC ?kO ?kQ ?kH ?kR ?jL ?jM ?jN ?jZ ?jO ?jQ ?kT ?uY ?uZ ?vA ?vB ?vC ?vD ?uM ?uN ?qJ ?qU ?qO ?qK ?vJ ?vK ?uB ?uG ?uD ?qP ?vL ?uO ?vE ?uE ?qQ ?vM ?vF ?uH ?uP ?uQ ?qR ?qL ?qV ?vP ?qW ?vZ ?qB ?kC ?kK ?kA ?kW ?qG ?qE ?qT ?qI ?kX ?kx ?jU ?jV ?jW ?jT ?kU ?vT ?qD ?vQ ?jE ?kJ ?qA ?vV ?vW ?kF ?qS ?vN ?vR ?kt
    (case kZ => walk_at "cls")
    (case qH => walk_at "cls")
    (case kS => walk_at "cls")
    (case jG => walk_at "cls")
    (case kG => k_is)
    (case qC => k_is)
    (case kO => k_is)
    (case kQ => k_is)
    (case kH => k_is)
    (case kR => k_is)
    (case jL => k_is)
    (case jM => k_is)
    (case jN => k_is)
    (case jZ => k_is)
    (case jO => k_is)
    (case jQ => k_is)
    (case kT => k_is)
    (case uY => walk_at "top")
    (case uZ => walk_at "top")
    (case vA => walk_at "top")
    (case vB => walk_at "top")
    (case vC => walk_at "top")
    (case vD => walk_at "top")
    (case uM => walk_at "top")
    (case uN => walk_at "top")
    (case qJ => walk_at "meth")
    (case qU => walk_at "meth")
    (case qO => walk_at "meth")
    (case qK => walk_at "meth")
    (case vJ => walk_at "meth")
    (case vK => walk_at "top")
    (case uB => walk_at "top")
    (case uG => walk_at "top")
    (case uD => walk_at "top")
    (case qP => walk_at "meth")
    (case vL => walk_at "meth")
    (case uO => walk_at "meth")
    (case vE => walk_at "top")
    (case uE => walk_at "top")
    (case qQ => walk_at "top")
    (case vM => walk_at "top")
    (case vF => walk_at "meth")
    (case uH => walk_at "top")
    (case uP => walk_at "meth")
    (case uQ => walk_at "top")
    (case qR => walk_at "meth")
    (case qL => walk_at "meth")
    (case qV => walk_at "meth")
    (case vP => walk_at "top")
    (case qW => walk_at "meth")
    (case vZ => walk_at "top")
    (case qB => walk_at "xcl")
    (case kC => walk_at "xcl")
    (case kK => walk_at "xcl")
    (case kA => walk_at "xcl")
    (case kW => walk_at "xcl")
    (case qG => walk_at "xcl")
    (case qE => walk_at "xcl")
    (case qT => walk_at "xcl")
    (case qI => walk_at "xcl")
    (case kX => walk_at "xcl")
    (case jU => first | kts_exm | k_is)
    (case jV => first | kts_exm | k_is)
    (case jW => first | kts_exm | k_is)
    (case jT => first | kts_exm | k_is)
    (case kx => exact ⟨(zn0 (by walk_at "exk") (zn0 (by walk_at "exk") (zn0 (by walk_at "exk") (zn0 (by walk_at "exk") fm_nil)))), (zn0 (zn0 (by walk_at "kxt") (zn0 (by walk_at "kxf") (zn0 (by walk_at "kxf") (zn0 (by walk_at "kxf") (zn0 (by walk_at "kxf") (zn0 (by walk_at "kxf") (zn0 (by walk_at "kxf") (zn0 (by walk_at "kxf") (zn0 (by walk_at "kxf") fm_nil))))))))) (zn0 (zn0 (by walk_at "kxf") (zn0 (by walk_at "kxt") (zn0 (by walk_at "kxf") (zn0 (by walk_at "kxf") (zn0 (by walk_at "kxf") (zn0 (by walk_at "kxf") (zn0 (by walk_at "kxf") (zn0 (by walk_at "kxf") (zn0 (by walk_at "kxf") fm_nil))))))))) (zn0 (zn0 (by walk_at "kxf") (zn0 (by walk_at "kxf") (zn0 (by walk_at "kxt") (zn0 (by walk_at "kxf") (zn0 (by walk_at "kxf") (zn0 (by walk_at "kxf") (zn0 (by walk_at "kxf") (zn0 (by walk_at "kxf") (zn0 (by walk_at "kxf") fm_nil))))))))) (zn0 (zn0 (by walk_at "kxf") (zn0 (by walk_at "kxf") (zn0 (by walk_at "kxf") (zn0 (by walk_at "kxt") (zn0 (by walk_at "kxf") (zn0 (by walk_at "kxf") (zn0 (by walk_at "kxf") (zn0 (by walk_at "kxf") (zn0 (by walk_at "kxf") fm_nil))))))))) fm_nil)))), (zn0 (by kit_is) (zn0 (by kit_is) (zn0 (by kit_is) (zn0 (by kit_is) fm_nil)))), by decide⟩)
    (case kU => k_is)
    (case vT => k_is)
    (case qD => k_is)
    (case vQ => k_is)
    (case jE => k_is)
    (case kJ => k_is)
    (case qA => k_is)
    (case vV => k_is)
    (case vW => k_is)
    (case kF => k_is)
    (case qS => k_is)
    (case vN => k_is)
    (case vR => k_is)
    (case kt => exact ⟨fun t ht T hT => by simp only [List.mem_cons, List.not_mem_nil, or_false] at ht hT; rcases ht with rfl | rfl | rfl | rfl | rfl | rfl <;> rcases hT with rfl | rfl | rfl | rfl | rfl <;> rfl⟩)
