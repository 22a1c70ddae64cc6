import PyProof.Rows.All
import Wide.All
import OpenK.AllK
import Wide.FinOn
import Lean
import PyProof.EqAt
import PyProof.EqKinds
import PyProof.TupleCall
import PyProof.StrLawsIn
import PyProof.StrLawsJoin
import PyProof.ZipIter
import PyProof.EnumFor
import PyProof.EnumMake
import PyProof.EnumStmt
import PyProof.DictItems
import KE.KPairComp
import KE.KSortTup
import PyProof.DictWalks
import PyProof.Rows.SortWalk
import PyProof.Rows.SortRuns
import PyProof.ReprRoads
import PyProof.ReprLen
import PyProof.NsDelKeeps
import PyProof.RulesAs
import PyProof.AttrMissHeap
import KE.KDictOf
import PyProof.MinMaxWalk
import PyProof.ConsumeWalk
import PyProof.ListRange
import KE.KDictLaws
import KE.KRevIter
import PyProof.Rows.RuleM_int
import PySem.Challenge.RW_vatyard_k26_what_a_part_lets_in
set_option Elab.async false
set_option genSizeOf false
set_option linter.all false
set_option maxRecDepth 100000
set_option maxHeartbeats 4000000
abbrev Fg:=PySem.W.Frag
namespace L2
open PySem PySem.Spec PyProof.Rows
abbrev Key:=Sum Int Str
def keyIs:Key->Value->Bool
|.inl k,v=>Value.isInt k v
|.inr x,v=>Value.isStrOf x v
def keyH (w:World):Key->Int
|.inl k=>hashInt k
|.inr x=>hashStr w x
theorem keyIs_shape:∀ {k:Key} {v:Value},keyIs k v=true->(∃ i t,k=Sum.inl i/\v=Value.int i t) \/ (∃ x t,k=Sum.inr x/\v=Value.str x t)
|.inl i,v,h=>by
  obtain ⟨t,e⟩:=Value.isInt_shape (k:=i) (v:=v) h
  exact .inl ⟨i,t,rfl,e⟩
|.inr x,v,h=>by
  obtain ⟨t,e⟩:=Value.isStrOf_shape (x:=x) (v:=v) h
  exact .inr ⟨x,t,rfl,e⟩
theorem keyIs_int (i:Int) (t:Tok):keyIs (.inl i) (.int i t)=true:=by simp [keyIs,Value.isInt]
theorem keyIs_str (x:Str) (t:Tok):keyIs (.inr x) (.str x t)=true:=by simp [keyIs,Value.isStrOf]
theorem key_ll (a b:Int):decide ((Sum.inl a:Key)=Sum.inl b)=(a == b):=by
 by_cases e:a=b
 ·subst e;simp
 ·have h:¬ (Sum.inl a:Key)=Sum.inl b:=λ q=>e (Sum.inl.inj q)
  rw [decide_eq_false h]
  exact (beq_eq_false_iff_ne.mpr e).symm
theorem key_rr (a b:Str):decide ((Sum.inr a:Key)=Sum.inr b)=decide (a=b):=by
 by_cases e:a=b
 ·subst e;simp
 ·have h:¬ (Sum.inr a:Key)=Sum.inr b:=λ q=>e (Sum.inr.inj q)
  rw [decide_eq_false h,decide_eq_false e]
theorem key_lr (a:Int) (b:Str):decide ((Sum.inl a:Key)=Sum.inr b)=false:=decide_eq_false (λ q=>nomatch q)
theorem key_rl (a:Str) (b:Int):decide ((Sum.inr a:Key)=Sum.inl b)=false:=decide_eq_false (λ q=>nomatch q)
def mixKind (prog:Program) (w:World):PySem.KeyKind prog w Key where
 is:=keyIs
 hash:=keyH w
 inj:=λ v a b ha hb=>by
  rcases keyIs_shape ha with ⟨i,t,rfl,rfl⟩|⟨x,t,rfl,rfl⟩
  ·rcases keyIs_shape hb with ⟨j,u,rfl,e⟩|⟨y,u,rfl,e⟩
   ·injection e with e1 _;rw [e1]
   ·exact nomatch e
  ·rcases keyIs_shape hb with ⟨j,u,rfl,e⟩|⟨y,u,rfl,e⟩
   ·exact nomatch e
   ·injection e with e1 _;rw [e1]
 byValue:=λ k v h=>by
  rcases keyIs_shape h with ⟨i,t,rfl,rfl⟩|⟨x,t,rfl,rfl⟩ <;> rfl
 pyHash:=λ hv h=>by
  rcases keyIs_shape hv with ⟨i,t,rfl,rfl⟩|⟨x,t,rfl,rfl⟩
  ·exact wpAny_pyHash_int h
  ·exact wpAny_pyHash_str h
 eqBool:=λ hu hv h=>by
  rcases keyIs_shape hu with ⟨i,t,rfl,rfl⟩|⟨x,t,rfl,rfl⟩
  ·rcases keyIs_shape hv with ⟨j,u,rfl,rfl⟩|⟨y,u,rfl,rfl⟩
   ·rw [key_ll] at h;exact wpAny_eqBool_int h
   ·rw [key_lr] at h;exact SeqAt.EqAt.int_str i t y u _ _ _ _ h
  ·rcases keyIs_shape hv with ⟨j,u,rfl,rfl⟩|⟨y,u,rfl,rfl⟩
   ·rw [key_rl] at h;exact SeqAt.EqAt.str_int x t j u _ _ _ _ h
   ·rw [key_rr] at h;exact wpAny_eqBool_str h
 «strs»:=λ k x t v h=>by
  rcases keyIs_shape h with ⟨i,u,rfl,e⟩|⟨y,u,rfl,e⟩
  ·exact nomatch e
  ·injection e with e1 _
   subst e1
   cases v <;> rfl
theorem mixKind_int (prog:Program) (w:World) (i:Int) (t:Tok):(mixKind prog w).is (.inl i) (.int i t)=true:=keyIs_int i t
theorem mixKind_str (prog:Program) (w:World) (x:Str) (t:Tok):(mixKind prog w).is (.inr x) (.str x t)=true:=keyIs_str x t
inductive V where
|non|bl (b:Bool)|int (i:Int)|str (x:Str)|byt (b:Array UInt8)|flt (b:UInt64)|ref (a:Addr)|ty (n:String)
 deriving DecidableEq
def RelV:V->Value->Prop
|.non,u=>u=Value.none
|.bl b,u=>u=Value.bool b
|.int i,u=>∃ t,u=Value.int i t
|.str x,u=>∃ t,u=Value.str x t
|.byt b,u=>∃ t,u=Value.bytes b t
|.flt b,u=>∃ t,u=Value.float b t
|.ref a,u=>u=Value.ref a
|.ty n,u=>u=Value.type n
abbrev Vals:List V->List Value->Prop:=Paired RelV
theorem Vals.length {xs:List V} {us:List Value} (r:Vals xs us):xs.length=us.length:=Paired.length r
theorem Vals.get:∀ {xs:List V} {us:List Value} {i:Nat} {x:V},Vals xs us->xs[i]?=some x->∃ u,us[i]?=some u/\RelV x u
|_,_,_,_,.nil,e=>by simp at e
|_,_,0,_,.cons r _,e=>by simp at e;subst e;exact ⟨_,rfl,r⟩
|_,_,i+1,x,.cons _ t,e=>by
  obtain ⟨u,h1,h2⟩:=Vals.get (i:=i) (x:=x) t (by simpa using e)
  exact ⟨u,by simpa using h1,h2⟩
theorem Vals.set {x:V} {u:Value} (r:RelV x u):∀ {xs:List V} {us:List Value} (i:Nat),Vals xs us->Vals (xs.set i x) (us.set i u)
|_,_,_,.nil=>.nil
|_,_,0,.cons _ t=>.cons r t
|_,_,i+1,.cons q t=>.cons q (Vals.set r i t)
theorem Vals.append:∀ {xs ys:List V} {us ws:List Value},Vals xs us->Vals ys ws->Vals (xs++ys) (us++ws)
|_,_,_,_,.nil,s=>s
|_,_,_,_,.cons r t,s=>.cons r (Vals.append t s)
theorem Vals.take:∀ {xs:List V} {us:List Value} (n:Nat),Vals xs us->Vals (xs.take n) (us.take n)
|_,_,0,_=>.nil
|_,_,_+1,.nil=>.nil
|_,_,n+1,.cons r t=>.cons r (Vals.take n t)
theorem Vals.drop:∀ {xs:List V} {us:List Value} (n:Nat),Vals xs us->Vals (xs.drop n) (us.drop n)
|_,_,0,r=>r
|_,_,_+1,.nil=>.nil
|_,_,n+1,.cons _ t=>Vals.drop n t
def RelO:Option V->Option Value->Prop
|some v,some u=>RelV v u
|none,none=>True
|_,_=>False
def KV {κ:Type}:List (κ×V)->List (κ×Value)->Prop:=Paired λ (p:κ×V) (q:κ×Value)=>p.1=q.1/\RelV p.2 q.2
def kV:Key->V
|.inl i=>.int i
|.inr x=>.str x
inductive HO where
 /-- a list -/
|lst (xs:List V)
 /-- a tuple (never changes) -/
|tup (xs:List V)
 /-- a dict whose keys are ints and texts;one whose keys are tuples of ints and texts (the empty one is both) -/
|dK (kvs:List (Key×V))|dT (kvs:List (List Key×V))
 /-- a set of ints: its members,its size -/
|set (S:Int->Bool) (n:Nat)
 /-- an instance of the class at C,its dict at dx,its attributes -/
|ins (C dx:Addr) (fs:List (Str×V))
 /-- the dict of the instance at x -/
|own (x:Addr)
 /-- the dict of an exception -/
|xd (fs:List (Str×V))
 /-- a bound method,f of x -/
|met (f x:Addr)
 /-- a range object lo,lo+1,.. below hi -/
|rng (lo hi:Int)
 /-- a thing that is known to the object (the script;a dict while a loop walks it): read,never written while it is so -/
|frz (o:Obj) (u:HO)
 /-- a code object's table -/
|tbl (ps:Array Value)
 /-- any other thing,by what is true of its one object (a def of one's own: SetO a S n:=HO.ext λ h=>..) -/
|ext (φ:Heap->Prop)
abbrev Hp:=Addr->Option HO
def upd (H:Hp) (a:Addr) (o:HO):Hp:=λ b=>if b=a then some o else H b
theorem upd_same {H:Hp} {a:Addr} {o:HO}:upd H a o a=some o:=by unfold upd;rw [if_pos rfl]
theorem upd_ne {H:Hp} {a b:Addr} {o:HO} (h:b≠a):upd H a o b=H b:=by unfold upd;rw [if_neg h]
theorem ne_of {H:Hp} {a b:Addr} {o u:HO} (h:H a=some o) (h':H b=some u) (d:o≠u):a≠b:=by
 intro e;subst e;rw [h] at h';exact d (Option.some.inj h')
theorem ne_of_none {H:Hp} {a b:Addr} {o:HO} (h:H a=some o) (h':H b=none):a≠b:=by
 intro e;subst e;rw [h] at h';cases h'
section
variable (P:Program) (w:World)
def ObjOk (H:Hp) (h:Heap) (a:Addr):HO->Prop
|.lst xs=>xs.length<=sizeLine/\∃ (its:List Value) (n:Nat),Vals xs its/\h.get? a=some { cls:=.type "list",data:=.seq its.toArray n }
|.tup xs=>xs.length<=sizeLine/\∃ its:List Value,Vals xs its/\IsTup h a its.toArray
|.dK kvs=>kvs.length<=sizeLine/\(a == sysModules)=false/\∃ vs,KV kvs vs/\h.DictOf (mixKind P w) a vs
|.dT kvs=>kvs.length<=sizeLine/\(a == sysModules)=false/\∃ xs:List (List Key×Addr×Value),
   Paired (λ (p:List Key×V) (q:List Key×Addr×Value)=>p.1=q.1/\H q.2.1=some (.tup (p.1.map kV))/\RelV p.2 q.2.2) kvs xs /\
   ∃ o es ep,h.get? a=some o/\o.ExactDict/\o.data=.dict es ep/\es.toList=xs.map (entryOfKey (tupleKind (mixKind P w)))/\(xs.map (·.1)).Nodup
|.set S n=>h.SetOf (intKind P w) a S n
|.ins C dx fs=>H dx=some (.own a)/\fs.length<=1000/\dx≠a/\h.get? a=some (PySem.W.instObj C dx) /\
   ∃ mA,h.Ns1 dx mA/\(∀ f,RelO (fs.lookup f) (mA f))/\PySem.Within mA (fs.map (·.1))
|.own _=>∃ o,h.get? a=some o
|.xd fs=>∃ mA,h.Ns1 a mA/\∀ f,RelO (fs.lookup f) (mA f)
|.rng lo hi=>∃ t u v,h.get? a=some { cls:=.type "range",data:=.fields #[.int lo t,.int hi u,.int 1 v] }
|.frz o u=>h.get? a=some o/\ObjOk H h a u
|.tbl ps=>h.get? a=some { cls:=.none,data:=.fields ps }
|.met f x=>h.get? a=some (PySem.W.methodObj (.ref f) (.ref x))
|.ext φ=>φ h/\(∃ o,h.get? a=some o)/\∀ h1 h2:Heap,φ h1->(∀ o,h1.get? a=some o->h2.get? a=some o)->φ h2
def HOk (H:Hp) (h:Heap):Prop:=∀ a o,H a=some o->ObjOk P w H h a o
end
section
variable {P:Program} {w:World} {H H':Hp} {h h':Heap} {a:Addr} {o:HO}
theorem ObjOk.lt (x:ObjOk P w H h a o):a < h.objs.size:=by
 cases o with
|lst xs=>obtain ⟨_,_,_,_,e⟩:=x;exact Heap.lt_size e
|tup xs=>obtain ⟨_,_,_,p⟩:=x;exact p.lt
|dK kvs=>obtain ⟨_,_,_,_,o,_,_,e,_⟩:=x;exact Heap.lt_size e
|dT kvs=>obtain ⟨_,_,_,_,o,_,_,e,_⟩:=x;exact Heap.lt_size e
|set S n=>obtain ⟨o,_,_,_,e,_⟩:=x;exact Heap.lt_size e
|ins C dx fs=>obtain ⟨_,_,_,e,_⟩:=x;exact Heap.lt_size e
|own y=>obtain ⟨_,e⟩:=x;exact Heap.lt_size e
|xd fs=>obtain ⟨_,⟨_,_,_,e,_⟩,_⟩:=x;exact Heap.lt_size e
|rng lo hi=>obtain ⟨_,_,_,e⟩:=x;exact Heap.lt_size e
|frz ob u=>obtain ⟨e,_⟩:=x;exact Heap.lt_size e
|tbl ps=>exact Heap.lt_size (show h.get? a=some _ from x)
|met f y=>exact Heap.lt_size (show h.get? a=some _ from x)
|ext φ=>obtain ⟨_,⟨_,e⟩,_⟩:=x;exact Heap.lt_size e
theorem Paired.mapP {α β:Type} {F G:α->β->Prop}:∀ {l₁:List α} {l₂:List β},Paired F l₁ l₂->(∀ a b,F a b->G a b)->Paired G l₁ l₂
|_,_,.nil,_=>.nil
|_,_,.cons r t,f=>.cons (f _ _ r) (Paired.mapP t f)
theorem ObjOk.stay (x:ObjOk P w H h a o) (k:∀ b u,(b=a \/ H b=some (.own a))->h.get? b=some u->h'.get? b=some u)
  (ho:∀ b,H b=some (.own a)->H' b=some (.own a)) (ht:∀ b xs,H b=some (.tup xs)->H' b=some (.tup xs)):ObjOk P w H' h' a o:=by
 induction o with
|lst xs=>obtain ⟨z,its,n,r,e⟩:=x;exact ⟨z,its,n,r,k _ _ (.inl rfl) e⟩
|tup xs=>obtain ⟨z,its,r,ob,e,c⟩:=x;exact ⟨z,its,r,ob,k _ _ (.inl rfl) e,c⟩
|dK kvs=>obtain ⟨z,y,vs,r,ob,es,ep,e,c⟩:=x;exact ⟨z,y,vs,r,ob,es,ep,k _ _ (.inl rfl) e,c⟩
|dT kvs =>
  obtain ⟨z,y,xs,r,ob,es,ep,e,c⟩:=x
  exact ⟨z,y,xs,Paired.mapP r λ p q z=>⟨z.1,ht _ _ z.2.1,z.2.2⟩,ob,es,ep,k _ _ (.inl rfl) e,c⟩
|set S n=>obtain ⟨ob,es,ep,t,e,c⟩:=x;exact ⟨ob,es,ep,t,k _ _ (.inl rfl) e,c⟩
|ins C dx fs =>
  obtain ⟨d,z,ne,e,mA,⟨od,es,ep,e2,c⟩,r⟩:=x
  exact ⟨ho _ d,z,ne,k _ _ (.inl rfl) e,mA,⟨od,es,ep,k _ _ (.inr d) e2,c⟩,r⟩
|own y=>obtain ⟨ob,e⟩:=x;exact ⟨ob,k _ _ (.inl rfl) e⟩
|xd fs=>obtain ⟨mA,⟨od,es,ep,e,c⟩,r⟩:=x;exact ⟨mA,⟨od,es,ep,k _ _ (.inl rfl) e,c⟩,r⟩
|rng lo hi=>obtain ⟨t,u,v,e⟩:=x;exact ⟨t,u,v,k _ _ (.inl rfl) e⟩
|frz ob u ih=>obtain ⟨e,q⟩:=x;exact ⟨k _ _ (.inl rfl) e,ih q⟩
|tbl ps =>
  have e:h.get? a=some { cls:=.none,data:=.fields ps }:=x
  show h'.get? a=some { cls:=.none,data:=.fields ps }
  exact k a _ (.inl rfl) e
|met f y =>
  have e:h.get? a=some (PySem.W.methodObj (.ref f) (.ref y)):=x
  show h'.get? a=some (PySem.W.methodObj (.ref f) (.ref y))
  exact k a _ (.inl rfl) e
|ext φ=>obtain ⟨p,⟨o,e⟩,st⟩:=x;exact ⟨st _ _ p λ o q=>k _ _ (.inl rfl) q,⟨o,k _ _ (.inl rfl) e⟩,st⟩
theorem HOk.lt (x:HOk P w H h) (e:H a=some o):a < h.objs.size:=(x a o e).lt
theorem HOk.fresh (x:HOk P w H h) (e:h.objs.size<=a):H a=none:=by
 cases q:H a with
|none=>rfl
|some u=>exact absurd (Nat.lt_of_lt_of_le (x.lt q) e) (Nat.lt_irrefl _)
theorem HOk.kept (x:HOk P w H h) (k:∀ b u,h.get? b=some u->h'.get? b=some u):HOk P w H h':=λ a o e =>
 (x a o e).stay (λ b u _ q=>k b u q) (λ _ q=>q) λ _ _ q=>q
theorem HOk.laid (x:HOk P w H h) (k:∀ b u,h.get? b=some u->h'.get? b=some u) (hp:h.objs.size<=a) (new:ObjOk P w (upd H a o) h' a o):HOk P w (upd H a o) h':=λ b u e=>by
 have hn:=x.fresh hp
 by_cases hb:b=a
 ·subst hb;rw [upd_same] at e;cases e;exact new
 ·rw [upd_ne hb] at e
  exact (x b u e).stay (λ c v _ q=>k c v q) (λ c q=>by rw [upd_ne (ne_of_none q hn)];exact q) λ c xs q=>by rw [upd_ne (ne_of_none q hn)];exact q
end
def Rd (H:Hp) (a:Addr) (u:HO):Prop:=H a=some u \/ ∃ o,H a=some (.frz o u)
theorem Rd.ok {P:Program} {w:World} {H:Hp} {h:Heap} {a:Addr} {u:HO} (r:Rd H a u) (x:HOk P w H h):ObjOk P w H h a u:=by
 rcases r with r|⟨o,r⟩
 ·exact x a u r
 ·obtain ⟨_,q⟩:=x a _ r
  exact q
def Mut:Option HO->Prop
|some (.lst _)=>True
|some (.dK _)=>True
|some (.dT _)=>True
|some (.set _ _)=>True
|some (.ins _ _ _)=>True
|some (.ext _)=>True
|_=>False
section
variable {P:Program} {w:World} {H:Hp} {h h':Heap} {x e:Addr} {o':HO}
theorem HOk.write (ok:HOk P w H h) (mu:Mut (H x)) (he:e=x \/ H e=some (.own x)) (k:∀ b u,b≠e->h.get? b=some u->h'.get? b=some u) (heo:∃ u,h'.get? e=some u)
  (new:ObjOk P w (upd H x o') h' x o'):HOk P w (upd H x o') h':=λ b u q=>by
 have nown:∀ c y,H c=some (.own y)->c≠x:=λ c y r z=>by subst z;rw [r] at mu;exact mu
 have ntup:∀ c xs,H c=some (.tup xs)->c≠x:=λ c xs r z=>by subst z;rw [r] at mu;exact mu
 by_cases hb:b=x
 ·subst hb;rw [upd_same] at q;cases q;exact new
 ·rw [upd_ne hb] at q
  by_cases hbe:b=e
  ·have q':H b=some (.own x):=by
    rcases he with z|z
    ·exact absurd (hbe.trans z) hb
    ·rw [hbe];exact z
   rw [q] at q';cases q'
   obtain ⟨v,hv⟩:=heo
   exact ⟨v,by rw [hbe];exact hv⟩
  ·refine (ok b u q).stay (λ c v hc r=>k c v ?_ r) (λ c r=>by rw [upd_ne (nown c b r)];exact r) λ c xs r=>by rw [upd_ne (ntup c xs r)];exact r
   rcases hc with rfl|hc
   ·exact hbe
   ·rintro rfl
    rcases he with z|z
    ·exact nown c b hc z
    ·rw [hc] at z;cases z;exact hb rfl
end
structure Un (fs ex:List Addr) (H H':Hp) (h h':Heap):Prop where
 keep:∀ b o,h.get? b=some o->H b=none->b ∉ fs->b ∉ ex->h'.get? b=some o
 slot:∀ b o,h.get? b=some o->H b=none->b∈fs->b ∉ ex->∃ sl,h'.get? b=some { o with slots:=sl }
 free:∀ b o,h.get? b=some o->H b=none->b ∉ ex->H' b=none
 there:∀ b o,h.get? b=some o->b ∉ ex->∃ o',h'.get? b=some o'
 tups:∀ b xs,H b=some (.tup xs)->H' b=some (.tup xs)
 frzs:∀ b o u,H b=some (.frz o u)->H' b=some (.frz o u)
 tbls:∀ b ps,H b=some (.tbl ps)->∃ more,H' b=some (.tbl (ps++more))
section
variable {fs fs' ex ex':List Addr} {H H1 H2:Hp} {h h1 h2 h':Heap} {a x e:Addr} {o:HO}
theorem Un.any (u:Un fs ex H H1 h h1) {b:Addr} {ob:Obj} (q:h.get? b=some ob) (n:H b=none) (hx:b ∉ ex):∃ sl,h1.get? b=some { ob with slots:=sl }:=by
 by_cases hb:b∈fs
 ·exact u.slot b ob q n hb hx
 ·exact ⟨ob.slots,u.keep b ob q n hb hx⟩
theorem Un.trans (a:Un fs ex H H1 h h1) (b:Un fs ex H1 H2 h1 h2):Un fs ex H H2 h h2 where
 keep:=λ c ob q n hc hx=>b.keep c ob (a.keep c ob q n hc hx) (a.free c ob q n hx) hc hx
 slot:=λ c ob q n hc hx=>by
  obtain ⟨sl,e1⟩:=a.slot c ob q n hc hx
  obtain ⟨sl',e2⟩:=b.slot c _ e1 (a.free c ob q n hx) hc hx
  exact ⟨sl',e2⟩
 free:=λ c ob q n hx=>by
  obtain ⟨o',e1⟩:=a.there c ob q hx
  exact b.free c o' e1 (a.free c ob q n hx) hx
 there:=λ c ob q hx=>by
  obtain ⟨o',e1⟩:=a.there c ob q hx
  exact b.there c o' e1 hx
 tups:=λ c xs q=>b.tups c xs (a.tups c xs q)
 frzs:=λ c ob xs q=>b.frzs c ob xs (a.frzs c ob xs q)
 tbls:=λ c ps q=>by
  obtain ⟨m1,e1⟩:=a.tbls c ps q
  obtain ⟨m2,e2⟩:=b.tbls c _ e1
  exact ⟨m1++m2,by rw [e2,Array.append_assoc]⟩
theorem Un.kept (k:∀ b u,h.get? b=some u->h'.get? b=some u):Un fs ex H H h h' :=
 ⟨λ b ob q _ _ _=>k b ob q,λ b ob q _ _ _=>⟨ob.slots,k b ob q⟩,λ _ _ _ n _=>n,λ b ob q _=>⟨ob,k b ob q⟩,λ _ _ q=>q,λ _ _ _ q=>q,λ _ ps q=>⟨#[],by rw [q];simp⟩⟩
theorem Un.refl:Un fs ex H H h h:=Un.kept λ _ _ q=>q
theorem Un.laid (k:∀ b u,h.get? b=some u->h'.get? b=some u) (hp:h.objs.size<=a) (hn:H a=none):Un fs ex H (upd H a o) h h' where
 keep:=λ b u q _ _ _=>k b u q
 slot:=λ b u q _ _ _=>⟨u.slots,k b u q⟩
 free:=λ b u q n _=>by rw [upd_ne (Nat.ne_of_lt (Nat.lt_of_lt_of_le (Heap.lt_size q) hp))];exact n
 there:=λ b u q _=>⟨u,k b u q⟩
 tups:=λ b xs q=>by rw [upd_ne (ne_of_none q hn)];exact q
 frzs:=λ b u xs q=>by rw [upd_ne (ne_of_none q hn)];exact q
 tbls:=λ b ps q=>⟨#[],by rw [upd_ne (ne_of_none q hn),q];simp⟩
theorem Un.write (mu:Mut (H x)) (he:e=x \/ H e=some (.own x)) (k:∀ b u,b≠e->h.get? b=some u->h'.get? b=some u) (heo:∃ u,h'.get? e=some u):Un fs ex H (upd H x o) h h':=by
 have hx:∀ b,H b=none->b≠x:=λ b n z=>by subst z;rw [n] at mu;exact mu
 have hb:∀ b,H b=none->b≠e:=λ b n z=>by
  subst z
  rcases he with r|r
  ·exact hx b n r
  ·rw [n] at r;cases r
 have hm:∀ b u,H b=some u->¬ Mut (some u)->b≠x:=λ b u q nm z=>by subst z;rw [q] at mu;exact nm mu
 refine ⟨λ b u q n _ _=>k b u (hb b n) q,λ b u q n _ _=>⟨u.slots,k b u (hb b n) q⟩,λ b u q n _=>by rw [upd_ne (hx b n)];exact n,λ b u q _=>?_,
  λ b xs q=>by rw [upd_ne (hm b _ q λ z=>z)];exact q,λ b u xs q=>by rw [upd_ne (hm b _ q λ z=>z)];exact q,λ b ps q=>⟨#[],by rw [upd_ne (hm b _ q λ z=>z),q];simp⟩⟩
 by_cases hbe:b=e
 ·subst hbe;exact heo
 ·exact ⟨u,k b u hbe q⟩
end
def trk (h:Heap) (H:Hp):List Addr:=(List.range h.objs.size).filter λ a=>(H a).isSome
def hidT (h:Heap) (H:Hp):Heap:=PySem.W.hideAll h (trk h H)
theorem hidT_size (h:Heap) (H:Hp):(hidT h H).objs.size=h.objs.size:=PySem.W.hideAll_size _ _
theorem hidT_get {h:Heap} {H:Hp} {b:Addr} {o:Obj} (e:h.get? b=some o) (n:H b=none):(hidT h H).get? b=some o :=
 PySem.W.hideAll_get _ e λ hm=>by
  have q:(H b).isSome=true:=(List.mem_filter.mp hm).2
  rw [n] at q;simp at q
theorem of_hidT {h:Heap} {H:Hp} {b:Addr} {o:Obj} (e:(hidT h H).get? b=some o):h.get? b=some o/\H b=none:=by
 have e':h.get? b=some o:=PySem.W.of_hideAll (trk h H) e
 refine ⟨e',?_⟩
 cases q:H b with
|none=>rfl
|some x =>
  have hm:b∈trk h H:=List.mem_filter.mpr ⟨List.mem_range.mpr (Heap.lt_size e'),by simp [q]⟩
  have z:(hidT h H).get? b=none:=PySem.W.hideAll_none (trk h H) hm
  rw [z] at e;cases e
def allNews (g h:Heap) (L:Addr):List (Addr×Obj):=(List.range h.objs.size).filterMap λ a=>if a=L \/ (g.get? a).isSome=true then none else (h.get? a).map λ o=>(a,o)
def rest (g h:Heap) (L d:Addr):List (Addr×Obj):=(allNews g h L).filter λ p=>decide (p.1≠d)
structure Mod (K:Fg) (mg:Str->Option Value) (base:Heap):Prop where
 kin:K.In base
 glob:base.Ns mainGlobals mg
 blt:∃ mb,base.Ns builtinsNs mb/\∀ x:Str,x ≠ "__name__"->mb x=bootBuiltins x
 nolimit:base.NoLimit
structure Cx where
 prog:Program
 w:World
 K:Fg
 mg:Str->Option Value
 base:Heap
 A:Around
 N:List Str
 s₀:Shared
 H₀:Hp
 env:Env
 outer:List Env
 stack:List Env
 ex:List Addr
 fn:Str->Bool
 calm:Bool
 pn:List (Addr×Obj)
 xe:Value->Shared->Prop
def frs (l:List Env):List Addr:=l.filterMap (·.frame)
abbrev Cx.fs (X:Cx):List Addr:=frs X.outer
def Vis (sc:Scope) (x:Str):Prop:=sc.names.lookup x=some .local \/ sc.names.lookup x=some .cell \/ sc.names.lookup x=some .free
def Loc (sc:Scope) (x:Str):Prop:=sc.names.lookup x=some .local \/ sc.names.lookup x=some .cell
def Look (env:Env) (h:Heap) (m:Str->Option Value) (x:Str) (u:Value):Prop :=
 (env.kindOf x=some .local/\m x=some u) \/ ((env.kindOf x=some .cell \/ env.kindOf x=some .free)/\∃ c,env.cells.lookup x=some c/\h.IsCell c (some u))
structure Cx.Ok (X:Cx):Prop where
 mod:Mod X.K X.mg X.base
 kind:X.env.scope.kind=.function
 glob:X.env.globals=mainGlobals
 blt:X.env.builtins=builtinsNs
 above:X.s₀.heap.objs.size<=X.env.locals
 inj:∀ x y c,X.env.cells.lookup x=some c->X.env.cells.lookup y=some c->x=y
 has:∀ x,(X.env.kindOf x=some .cell \/ X.env.kindOf x=some .free)->∃ c,X.env.cells.lookup x=some c
 cab:∀ x c,X.fn x=true->X.env.cells.lookup x=some c->X.s₀.heap.objs.size<=c
 hd:X.calm=true->X.A.handled=none
 frames:X.A.frames=some X.stack
 stk:X.stack=X.outer \/ (X.stack=X.env :: X.outer/\X.env.frame=some X.env.locals)
 exf:∀ b∈X.ex,b≠X.env.locals/\∀ x c,X.env.cells.lookup x=some c->c≠b
 bs:∀ b o,X.base.get? b=some o->X.s₀.heap.get? b=some o/\X.H₀ b=none
 bsz:X.base.objs.size<=X.s₀.heap.objs.size
 noex:∀ b o,X.base.get? b=some o->b ∉ X.ex
 exfs:∀ b∈X.ex,b ∉ X.fs
 funs:X.s₀.heap.FunFrames X.base X.outer
 frf:∀ b∈X.fs,X.H₀ b=none
structure Inv (X:Cx) (pins:List (Addr×Obj)) (σ:List (Option V)) (H:Hp) (s:Shared):Prop where
 ok:X.Ok
 os:s.os=X.s₀.os
 bare:AllBare s.gens
 base:Un X.fs X.ex X.H₀ H X.s₀.heap s.heap
 loc:∃ m,s.heap.Ns X.env.locals m/\∀ (i:Nat) (x:Str) (v:V),X.N[i]?=some x->σ[i]?=some (some v)->Vis X.env.scope x->∃ u,RelV v u/\Look X.env s.heap m x u
 cell:∀ x c,X.env.cells.lookup x=some c->∃ v,s.heap.IsCell c v
 free:H X.env.locals=none
 freeC:∀ x c,X.env.cells.lookup x=some c->H c=none
 pin:∀ p∈X.pn++pins,s.heap.get? p.1=some p.2/\H p.1=none/\p.1≠X.env.locals/\p.1 ∉ X.fs/\∀ v,p.2.data≠.cell v
 hok:HOk X.prog X.w H s.heap
 len:σ.length=X.N.length
section
variable {X:Cx} {pins:List (Addr×Obj)} {σ:List (Option V)} {H H':Hp} {s:Shared} {h':Heap}
theorem Cx.Ok.nofr (ok:X.Ok) {b:Addr} {o:Obj} (e:X.base.get? b=some o):b ∉ X.fs:=λ hb=>by
 have:=(ok.funs.mem hb).1
 rw [e] at this;cases this
theorem Inv.bs (I:Inv X pins σ H s):∀ b o,X.base.get? b=some o->s.heap.get? b=some o/\H b=none:=λ b o e =>
 ⟨I.base.keep b o (I.ok.bs b o e).1 (I.ok.bs b o e).2 (I.ok.nofr e) (I.ok.noex b o e),I.base.free b o (I.ok.bs b o e).1 (I.ok.bs b o e).2 (I.ok.noex b o e)⟩
theorem Inv.bk (I:Inv X pins σ H s):∀ b o,X.base.get? b=some o->s.heap.get? b=some o:=λ b o e=>(I.bs b o e).1
theorem Inv.mod (I:Inv X pins σ H s):Mod X.K X.mg X.base:=I.ok.mod
theorem Inv.kIn (I:Inv X pins σ H s):X.K.In s.heap:=I.ok.mod.kin.keeps I.bk
theorem Inv.lt (I:Inv X pins σ H s):X.env.locals < s.heap.objs.size:=let ⟨_,hn,_⟩:=I.loc;hn.lt
theorem Inv.sz (I:Inv X pins σ H s):X.s₀.heap.objs.size<=s.heap.objs.size:=Nat.le_trans I.ok.above (Nat.le_of_lt I.lt)
theorem Inv.nofs (I:Inv X pins σ H s) {a:Addr} (h:s.heap.objs.size<=a):a ∉ X.fs:=λ hb=>by
 obtain ⟨_,o,ho,_⟩:=I.ok.funs.mem hb
 exact absurd (Nat.lt_of_lt_of_le (Heap.lt_size ho) (Nat.le_trans I.sz h)) (Nat.lt_irrefl _)
theorem Inv.cne (I:Inv X pins σ H s):∀ x c,X.env.cells.lookup x=some c->c≠X.env.locals:=λ x c e z=>by
 obtain ⟨v,o,ho,hd⟩:=I.cell x c e
 obtain ⟨m,⟨o',es,ep,ho',hd',_⟩,_⟩:=I.loc
 rw [z,ho'] at ho;cases ho;rw [hd'] at hd;cases hd
theorem Inv.funs (I:Inv X pins σ H s):s.heap.FunFrames X.base X.outer:=by
 have all:∀ (l:List Env),(∀ b∈frs l,b∈X.fs)->X.s₀.heap.FunFrames X.base l->s.heap.FunFrames X.base l:=by
  intro l
  induction l with
 |nil=>intro _ _;trivial
 |cons env r ih =>
   intro hs hl
   obtain ⟨hk,⟨L,o,hf,hn,ho,hd⟩,hr⟩:=hl
   have hL:L∈X.fs:=hs L (by unfold frs;rw [List.filterMap_cons,hf];exact List.mem_cons_self)
   obtain ⟨sl,e⟩:=I.base.slot L o ho (I.ok.frf L hL) hL λ z=>I.ok.exfs L z hL
   exact ⟨hk,⟨L,_,hf,hn,e,hd⟩,ih (λ b hb=>hs b (by unfold frs;rw [List.filterMap_cons,hf];exact List.mem_cons_of_mem _ hb)) hr⟩
 exact all X.outer (λ _ hb=>hb) I.ok.funs
theorem Inv.stack (I:Inv X pins σ H s):s.heap.FunFrames X.base X.stack:=by
 rcases I.ok.stk with e|⟨e,hf⟩
 ·rw [e];exact I.funs
 ·rw [e]
  obtain ⟨m,hn,_⟩:=I.loc
  refine .cons (by rw [I.ok.kind];decide) hf hn ?_ I.funs
  exact Heap.get?_none_of_le (Nat.le_trans I.ok.bsz I.ok.above)
theorem Inv.stkSub (I:Inv X pins σ H s):∀ b∈frs X.stack,b∈X.env.locals :: X.fs:=λ b hb=>by
 rcases I.ok.stk with e|⟨e,hf⟩
 ·rw [e] at hb;exact List.mem_cons_of_mem _ hb
 ·rw [e] at hb
  unfold frs at hb
  rw [List.filterMap_cons,hf] at hb
  exact hb
theorem Inv.stkFree (I:Inv X pins σ H s):∀ b∈frs X.stack,H b=none:=λ b hb=>by
 rcases List.mem_cons.mp (I.stkSub b hb) with e|hb
 ·rw [e];exact I.free
 ·obtain ⟨_,o,ho,_⟩:=I.ok.funs.mem hb
  exact I.base.free b o ho (I.ok.frf b hb) λ z=>I.ok.exfs b z hb
theorem Inv.step {g':Array GenState} {t':Nat} {d':Drawn} {ch:List Addr} (I:Inv X pins σ H s)
  (hch:∀ b∈ch,(b∈X.ex \/ X.s₀.heap.objs.size<=b)/\b≠X.env.locals/\(∀ x c,X.env.cells.lookup x=some c->c≠b)/\∀ p∈X.pn++pins,p.1≠b)
  (keep:∀ b o,b≠X.env.locals->b ∉ X.fs->b ∉ ch->s.heap.get? b=some o->H b=none->h'.get? b=some o)
  (slot:∀ b o,b≠X.env.locals->b∈X.fs->b ∉ ch->s.heap.get? b=some o->H b=none->∃ sl,h'.get? b=some { o with slots:=sl }) (free:∀ b o,b ∉ ch->s.heap.get? b=some o->H b=none->H' b=none)
  (there:∀ b o,b ∉ ch->s.heap.get? b=some o->∃ o',h'.get? b=some o')
  (tups:∀ b xs,H b=some (.tup xs)->H' b=some (.tup xs)) (frzs:∀ b o u,H b=some (.frz o u)->H' b=some (.frz o u)) (tbls:∀ b ps,H b=some (.tbl ps)->∃ more,H' b=some (.tbl (ps++more)))
  (ns:∀ m,s.heap.Ns X.env.locals m->h'.Ns X.env.locals m) (hok:HOk X.prog X.w H' h') (hg:AllBare g') :
  Inv X pins σ H' { s with heap:=h',gens:=g',drawn:=d',toks:=t' }:=by
 have neL:∀ b o,X.s₀.heap.get? b=some o->b≠X.env.locals:=λ b o e=>Nat.ne_of_lt (Nat.lt_of_lt_of_le (Heap.lt_size e) I.ok.above)
 have neC:∀ b o,X.s₀.heap.get? b=some o->b ∉ X.ex->b ∉ ch:=λ b o e hx hb=>by
  rcases (hch b hb).1 with z|z
  ·exact hx z
  ·exact absurd (Nat.lt_of_lt_of_le (Heap.lt_size e) z) (Nat.lt_irrefl _)
 have cellK:∀ x c,X.env.cells.lookup x=some c->∀ v,s.heap.IsCell c v->h'.IsCell c v:=λ x c e v ⟨o,ho,hd⟩=>by
  have nch:c ∉ ch:=λ z=>(hch c z).2.2.1 x c e rfl
  by_cases hc:c∈X.fs
  ·obtain ⟨sl,q⟩:=slot c o (I.cne x c e) hc nch ho (I.freeC x c e)
   exact ⟨_,q,hd⟩
  ·exact ⟨o,keep c o (I.cne x c e) hc nch ho (I.freeC x c e),hd⟩
 refine ⟨I.ok,I.os,hg,⟨λ b o e n hb hx=>?_,λ b o e n hb hx=>?_,λ b o e n hx=>?_,λ b o e hx=>?_,λ b xs e=>tups b xs (I.base.tups b xs e),λ b o xs e=>frzs b o xs (I.base.frzs b o xs e),λ b ps e=>?_⟩,?_,λ x c e=>?_,?_,λ x c e=>?_,λ p hp=>?_,hok,I.len⟩
 ·exact keep b o (neL b o e) hb (neC b o e hx) (I.base.keep b o e n hb hx) (I.base.free b o e n hx)
 ·obtain ⟨sl,e1⟩:=I.base.slot b o e n hb hx
  obtain ⟨sl',e2⟩:=slot b _ (neL b o e) hb (neC b o e hx) e1 (I.base.free b o e n hx)
  exact ⟨sl',e2⟩
 ·obtain ⟨o',e1⟩:=I.base.there b o e hx
  exact free b o' (neC b o e hx) e1 (I.base.free b o e n hx)
 ·obtain ⟨o',e1⟩:=I.base.there b o e hx
  exact there b o' (neC b o e hx) e1
 ·obtain ⟨m1,e1⟩:=I.base.tbls b ps e
  obtain ⟨m2,e2⟩:=tbls b _ e1
  exact ⟨m1++m2,by rw [e2,Array.append_assoc]⟩
 ·obtain ⟨m,hn,hl⟩:=I.loc
  refine ⟨m,ns m hn,λ i x v e1 e2 e3=>?_⟩
  obtain ⟨u,r,l⟩:=hl i x v e1 e2 e3
  refine ⟨u,r,?_⟩
  rcases l with l|⟨k,c,e,z⟩
  ·exact .inl l
  ·exact .inr ⟨k,c,e,cellK x c e _ z⟩
 ·obtain ⟨v,z⟩:=I.cell x c e
  exact ⟨v,cellK x c e v z⟩
 ·obtain ⟨m,⟨o,_,_,ho,_⟩,_⟩:=I.loc
  exact free _ o (λ z=>(hch _ z).2.1 rfl) ho I.free
 ·obtain ⟨v,o,ho,hd⟩:=I.cell x c e
  exact free c o (λ z=>(hch c z).2.2.1 x c e rfl) ho (I.freeC x c e)
 ·obtain ⟨e,n,ne,nf,d⟩:=I.pin p hp
  have nch:p.1 ∉ ch:=λ z=>(hch p.1 z).2.2.2 p hp rfl
  exact ⟨keep p.1 p.2 ne nf nch e n,free p.1 p.2 nch e n,ne,nf,d⟩
theorem Inv.un {t':Nat} (I:Inv X pins σ H s) (u:Un X.fs [] H H' s.heap h') (hok:HOk X.prog X.w H' h'):Inv X pins σ H' { s with heap:=h',toks:=t' }:=by
 obtain ⟨m,⟨o,es,ep,ho,r⟩,_⟩:=id I.loc
 obtain ⟨sl,hL⟩:=u.any ho I.free (by simp)
 exact I.step (g':=s.gens) (d':=s.drawn) (ch:=[]) (λ _ z=>nomatch z) (λ b o _ hb _ e n=>u.keep b o e n hb (by simp)) (λ b o _ hb _ e n=>u.slot b o e n hb (by simp)) (λ b o _ e n=>u.free b o e n (by simp)) (λ b o _ e=>u.there b o e (by simp)) u.tups u.frzs u.tbls (λ m' hm=>by
  obtain ⟨o',es',ep',ho',r'⟩:=hm
  rw [ho] at ho';cases ho'
  exact ⟨_,es',ep',hL,r'⟩) hok I.bare
theorem Inv.call {g':Array GenState} {t':Nat} {d':Drawn} {ch:List Addr} (I:Inv X pins σ H s) (u:Un (frs X.stack) ch H H' s.heap h') (hok:HOk X.prog X.w H' h') (hg:AllBare g')
  (hch:∀ b∈ch,(b∈X.ex \/ X.s₀.heap.objs.size<=b)/\b≠X.env.locals/\(∀ x c,X.env.cells.lookup x=some c->c≠b)/\∀ p∈X.pn++pins,p.1≠b) :
  Inv X pins σ H' { s with heap:=h',gens:=g',drawn:=d',toks:=t' }:=by
 obtain ⟨m,⟨o,es,ep,ho,r⟩,_⟩:=id I.loc
 obtain ⟨sl,hL⟩:=u.any ho I.free λ z=>(hch _ z).2.1 rfl
 exact I.step (ch:=ch) hch (λ b o hL hb hc e n=>u.keep b o e n (λ z=>(List.mem_cons.mp (I.stkSub b z)).elim hL hb) hc) (λ b o _ _ hc e n=>u.any e n hc) (λ b o hc e n=>u.free b o e n hc) (λ b o hc e=>u.there b o e hc) u.tups u.frzs u.tbls (λ m' hm=>by
  obtain ⟨o',es',ep',ho',r'⟩:=hm
  rw [ho] at ho';cases ho'
  exact ⟨_,es',ep',hL,r'⟩) hok hg
theorem Inv.turned {t':Nat} {it:Addr} (I:Inv X pins σ H s) (k:∀ b o,b≠it->s.heap.get? b=some o->h'.get? b=some o) (hn:H it=none) (hL:it≠X.env.locals)
  (h1:it∈X.ex \/ X.s₀.heap.objs.size<=it) (h2:∀ x c,X.env.cells.lookup x=some c->c≠it) (h3:∀ p∈X.pn++pins,p.1≠it):Inv X pins σ H { s with heap:=h',toks:=t' }:=by
 have nit:∀ b u,H b=some u->b≠it:=λ b u e z=>by rw [z,hn] at e;cases e
 refine I.step (g':=s.gens) (d':=s.drawn) (ch:=[it]) (λ b hb=>?_) (λ b o _ _ hc e _=>k b o (λ z=>hc (by simp [z])) e) (λ b o _ _ hc e _=>⟨o.slots,k b o (λ z=>hc (by simp [z])) e⟩) (λ _ _ _ _ n=>n)
  (λ b o hc e=>⟨o,k b o (λ z=>hc (by simp [z])) e⟩) (λ _ _ e=>e) (λ _ _ _ e=>e) (λ b ps e=>⟨#[],by rw [e];simp⟩) (λ m hm=>?_) (λ b u e=>?_) I.bare
 ·have e:b=it:=by simpa using hb
  subst e
  exact ⟨h1,hL,h2,h3⟩
 ·obtain ⟨o,es,ep,ho,r⟩:=hm
  exact ⟨o,es,ep,k _ o (Ne.symm hL) ho,r⟩
 ·refine (I.hok b u e).stay (λ c v hc q=>k c v ?_ q) (λ _ q=>q) λ _ _ q=>q
  rcases hc with z|z
  ·rw [z];exact nit b u e
  ·exact nit c _ z
theorem Inv.tok (I:Inv X pins σ H s) (t:Nat):Inv X pins σ H { s with toks:=t }:=I.un (h':=s.heap) (t':=t) Un.refl I.hok
theorem Inv.kept {t':Nat} (I:Inv X pins σ H s) (k:∀ b u,s.heap.get? b=some u->h'.get? b=some u):Inv X pins σ H { s with heap:=h',toks:=t' }:=I.un (Un.kept k) (I.hok.kept k)
theorem Inv.laid {a:Addr} {o:HO} {t':Nat} (I:Inv X pins σ H s) (k:∀ b u,s.heap.get? b=some u->h'.get? b=some u) (hp:s.heap.objs.size<=a) (new:ObjOk X.prog X.w (upd H a o) h' a o) :
  Inv X pins σ (upd H a o) { s with heap:=h',toks:=t' }:=I.un (Un.laid k hp (I.hok.fresh hp)) (I.hok.laid k hp new)
theorem Inv.write {x e:Addr} {o:HO} {t':Nat} (I:Inv X pins σ H s) (mu:Mut (H x)) (he:e=x \/ H e=some (.own x)) (k:∀ b u,b≠e->s.heap.get? b=some u->h'.get? b=some u) (heo:∃ u,h'.get? e=some u)
  (new:ObjOk X.prog X.w (upd H x o) h' x o):Inv X pins σ (upd H x o) { s with heap:=h',toks:=t' }:=I.un (Un.write mu he k heo) (I.hok.write mu he k heo new)
theorem Inv.pins_of {pins':List (Addr×Obj)} (I:Inv X pins σ H s) (h:∀ p∈pins',s.heap.get? p.1=some p.2/\H p.1=none/\p.1≠X.env.locals/\p.1 ∉ X.fs/\∀ v,p.2.data≠.cell v):Inv X pins' σ H s :=
 ⟨I.ok,I.os,I.bare,I.base,I.loc,I.cell,I.free,I.freeC,λ p hp=>(List.mem_append.mp hp).elim (λ z=>I.pin p (List.mem_append_left _ z)) (h p),I.hok,I.len⟩
theorem nodup_ix {N:List Str} (hN:N.Nodup) {i j:Nat} {x:Str} (a:N[i]?=some x) (b:N[j]?=some x):i=j:=by
 obtain ⟨h1,e1⟩:=List.getElem?_eq_some_iff.mp a
 obtain ⟨h2,e2⟩:=List.getElem?_eq_some_iff.mp b
 exact (List.getElem_inj hN).mp (e1.trans e2.symm)
theorem store_ok2 {M:Model} {A:Around} {E:Value->Shared->Prop} {i:Nat} {x:Str} {v:V} {u:Value} {Q:Unit->Shared->Prop} (I:Inv X pins σ H s) (hN:X.N.Nodup) (hi:X.N[i]?=some x) (hx:Loc X.env.scope x) (r:RelV v u)
  (h:∀ s',Inv X pins (σ.set i (some v)) H s'->(∃ a,Heap.SameBut a s.heap s'.heap/\(a=X.env.locals \/ X.env.cells.lookup x=some a))->Q () s') (hf:X.fn x=true \/ X.env.scope.names.lookup x=some .local:=by first|exact .inl rfl|exact .inr rfl|assumption):wpAny M A (storeName X.env x u) Q E s:=by
 obtain ⟨m,hn,hl⟩:=id I.loc
 have hcls:(X.env.scope.kind == .class || (X.env.scope.kind == .module && X.env.locals != X.env.globals))=false:=by rw [I.ok.kind];rfl
 have hiσ:i < σ.length:=by rw [I.len];exact (List.getElem?_eq_some_iff.mp hi).1
 have cne:=I.cne
 have tracked:∀ {a:Addr} {h':Heap},(∃ o,s.heap.get? a=some o/\H a=none)->Heap.SameBut a s.heap h'->HOk X.prog X.w H h':=λ {a h'} ha hs b ob e=>by
  obtain ⟨_,_,hfree⟩:=ha
  refine (I.hok b ob e).stay (λ c w' hc q=>(hs.2 c ?_).trans q) (λ _ q=>q) λ _ _ q=>q
  rintro rfl
  rcases hc with rfl|hc
  ·rw [hfree] at e;cases e
  ·rw [hfree] at hc;cases hc
 rcases hx with hk|hk
 ·refine wpAny_storeName_local hk hn (λ h' hn' hs=>?_) hcls
  obtain ⟨oL,_,_,hoL,_⟩:=id hn
  refine h _ ⟨I.ok,I.os,I.bare,⟨λ b o e n hb hx=>?_,λ b o e n hb hx=>?_,I.base.free,λ b o e hx=>?_,I.base.tups,I.base.frzs,I.base.tbls⟩,⟨_,hn',λ j y v' e1 e2 e3=>?_⟩,λ y c e=>?_,I.free,I.freeC,λ p hp=>?_,tracked ⟨oL,hoL,I.free⟩ hs,by simpa using I.len⟩ ⟨_,hs,.inl rfl⟩
  ·exact (hs.2 b (Nat.ne_of_lt (Nat.lt_of_lt_of_le (Heap.lt_size e) I.ok.above))).trans (I.base.keep b o e n hb hx)
  ·obtain ⟨sl,e1⟩:=I.base.slot b o e n hb hx
   exact ⟨sl,(hs.2 b (Nat.ne_of_lt (Nat.lt_of_lt_of_le (Heap.lt_size e) I.ok.above))).trans e1⟩
  ·obtain ⟨o',e1⟩:=I.base.there b o e hx
   exact ⟨o',(hs.2 b (Nat.ne_of_lt (Nat.lt_of_lt_of_le (Heap.lt_size e) I.ok.above))).trans e1⟩
  ·by_cases hj:j=i
   ·subst hj
    rw [hi] at e1;cases e1
    rw [List.getElem?_set_self hiσ] at e2
    cases e2
    exact ⟨u,r,.inl ⟨hk,by simp⟩⟩
   ·rw [List.getElem?_set_ne (Ne.symm hj)] at e2
    obtain ⟨u',r',q⟩:=hl j y v' e1 e2 e3
    refine ⟨u',r',?_⟩
    rcases q with ⟨k,e⟩|⟨k,c,e,z⟩
    ·refine .inl ⟨k,?_⟩
     have:y≠x:=λ e=>hj (nodup_ix hN e1 (e ▸ hi))
     simp [this,e]
    ·exact .inr ⟨k,c,e,z.sameBut hs (cne y c e)⟩
  ·obtain ⟨w',z⟩:=I.cell y c e
   exact ⟨w',z.sameBut hs (cne y c e)⟩
  ·obtain ⟨e,n,ne,nf,d⟩:=I.pin p hp
   exact ⟨(hs.2 p.1 ne).trans e,n,ne,nf,d⟩
 ·have hfn:X.fn x=true:=by
   rcases hf with z|z
   ·exact z
   ·rw [z] at hk;cases hk
  obtain ⟨c,hc⟩:=I.ok.has x (.inl hk)
  obtain ⟨w',z⟩:=I.cell x c hc
  refine wpAny_storeName_cell I.ok.kind hk hc z (λ h' hc' hs=>?_)
  obtain ⟨oc,hoc,hocd⟩:=id z
  refine h { s with heap:=h' } ⟨I.ok,I.os,I.bare,⟨λ b o e n hb hx=>?_,λ b o e n hb hx=>?_,I.base.free,λ b o e hx=>?_,I.base.tups,I.base.frzs,I.base.tbls⟩,⟨m,hn.sameBut hs (Ne.symm (cne x c hc)),λ j y v' e1 e2 e3=>?_⟩,λ y c' e=>?_,I.free,I.freeC,λ p hp=>?_,tracked ⟨oc,hoc,I.freeC x c hc⟩ hs,by simpa using I.len⟩ ⟨c,hs,.inr hc⟩
  ·exact (hs.2 b (Nat.ne_of_lt (Nat.lt_of_lt_of_le (Heap.lt_size e) (I.ok.cab x c hfn hc)))).trans (I.base.keep b o e n hb hx)
  ·obtain ⟨sl,e1⟩:=I.base.slot b o e n hb hx
   exact ⟨sl,(hs.2 b (Nat.ne_of_lt (Nat.lt_of_lt_of_le (Heap.lt_size e) (I.ok.cab x c hfn hc)))).trans e1⟩
  ·obtain ⟨o',e1⟩:=I.base.there b o e hx
   exact ⟨o',(hs.2 b (Nat.ne_of_lt (Nat.lt_of_lt_of_le (Heap.lt_size e) (I.ok.cab x c hfn hc)))).trans e1⟩
  ·by_cases hj:j=i
   ·subst hj
    rw [hi] at e1;cases e1
    rw [List.getElem?_set_self hiσ] at e2
    cases e2
    exact ⟨u,r,.inr ⟨.inl hk,c,hc,hc'⟩⟩
   ·rw [List.getElem?_set_ne (Ne.symm hj)] at e2
    obtain ⟨u',r',q⟩:=hl j y v' e1 e2 e3
    refine ⟨u',r',?_⟩
    rcases q with q|⟨k,c',e,z'⟩
    ·exact .inl q
    ·refine .inr ⟨k,c',e,z'.sameBut hs ?_⟩
     rintro rfl
     exact hj (nodup_ix hN e1 (I.ok.inj _ _ _ e hc ▸ hi))
  ·by_cases hcc:c'=c
   ·subst hcc;exact ⟨_,hc'⟩
   ·obtain ⟨w2,z2⟩:=I.cell y c' e
    exact ⟨w2,z2.sameBut hs hcc⟩
  ·obtain ⟨e,n,ne,nf,d⟩:=I.pin p hp
   refine ⟨(hs.2 p.1 ?_).trans e,n,ne,nf,d⟩
   intro q
   rw [q,hoc] at e
   have q':oc=p.2:=Option.some.inj e
   exact d w' (by rw [<- q'];exact hocd)
theorem store_ok {M:Model} {A:Around} {E:Value->Shared->Prop} {i:Nat} {x:Str} {v:V} {u:Value} {Q:Unit->Shared->Prop} (I:Inv X pins σ H s) (hN:X.N.Nodup) (hi:X.N[i]?=some x) (hx:Loc X.env.scope x) (r:RelV v u)
  (h:∀ s',Inv X pins (σ.set i (some v)) H s'->Q () s') (hf:X.fn x=true \/ X.env.scope.names.lookup x=some .local:=by first|exact .inl rfl|exact .inr rfl|assumption):wpAny M A (storeName X.env x u) Q E s :=
 store_ok2 I hN hi hx r (λ s' I' _=>h s' I') hf
theorem Inv.call' {s':Shared} {ch:List Addr} (I:Inv X pins σ H s) (ho:s'.os=s.os) (u:Un (frs X.stack) ch H H' s.heap s'.heap) (hok:HOk X.prog X.w H' s'.heap) (hg:AllBare s'.gens)
  (hch:∀ b∈ch,(b∈X.ex \/ X.s₀.heap.objs.size<=b)/\b≠X.env.locals/\(∀ x c,X.env.cells.lookup x=some c->c≠b)/\∀ p∈X.pn++pins,p.1≠b):Inv X pins σ H' s':=by
 obtain ⟨h',g',d',t',o'⟩:=s'
 have e:o'=s.os:=ho
 subst e
 exact I.call (g':=g') (t':=t') (d':=d') u hok hg hch
end
abbrev XK:=Value->Option Addr->Hp->Prop
abbrev St:=List (Option V)
abbrev VK:=V->Hp->Prop
abbrev TE:=St->Hp->VK->Prop
abbrev TT:=St->Hp->(Bool->Hp->Prop)->Prop
abbrev TA:=St->Hp->(List V->Hp->Prop)->Prop
structure Ends where
 nx:St->Hp->Prop
 rt:VK
 bk:St->Hp->Prop:=λ _ _=>False
 ct:St->Hp->Prop:=λ _ _=>False
abbrev TS:=Ends->St->Hp->Prop
def EP (X:Cx) (pins:List (Addr×Obj)) (σ:St) (Q:VK) (u:Value) (s':Shared):Prop:=∃ v H',Inv X pins σ H' s'/\RelV v u/\Q v H'
def TP (X:Cx) (pins:List (Addr×Obj)) (σ:St) (Q:Bool->Hp->Prop) (b:Bool) (s':Shared):Prop:=∃ H',Inv X pins σ H' s'/\Q b H'
def AP (X:Cx) (pins:List (Addr×Obj)) (σ:St) (Q:List V->Hp->Prop) (us:List Value) (s':Shared):Prop:=∃ vs H',Inv X pins σ H' s'/\Vals vs us/\Q vs H'
def SP (X:Cx) (pins:List (Addr×Obj)) (D:Ends) (f:Flow) (s':Shared):Prop :=
 match f with
|.next=>∃ σ' H',Inv X pins σ' H' s'/\D.nx σ' H'
|.brk=>∃ σ' H',Inv X pins σ' H' s'/\D.bk σ' H'
|.cont=>∃ σ' H',Inv X pins σ' H' s'/\D.ct σ' H'
|.ret u=>∃ v σ' H',Inv X pins σ' H' s'/\RelV v u/\D.rt v H'
def PE (X:Cx) (e:Expr) (t:TE):Prop :=
 ∀ (pins:List (Addr×Obj)) (s:Shared) (σ:St) (H:Hp) (Q:VK),Inv X pins σ H s->t σ H Q->wpAny (model X.prog X.w) X.A (eval e X.env) (EP X pins σ Q) X.xe s
def PT (X:Cx) (e:Expr) (t:TT):Prop :=
 ∀ (pins:List (Addr×Obj)) (s:Shared) (σ:St) (H:Hp) (Q:Bool->Hp->Prop),Inv X pins σ H s->t σ H Q->wpAny (model X.prog X.w) X.A (isTrue e X.env (eval e X.env)) (TP X pins σ Q) X.xe s
def PW (X:Cx) (e:Expr) (t:TT):Prop :=
 ∀ (whole:Sem Value) (pins:List (Addr×Obj)) (s:Shared) (σ:St) (H:Hp) (Q:Bool->Hp->Prop),Inv X pins σ H s->t σ H Q->wpAny (model X.prog X.w) X.A (isTrue e X.env whole) (TP X pins σ Q) X.xe s
theorem PW.pt {X:Cx} {e:Expr} {t:TT} (h:PW X e t):PT X e t:=h _
def PA (X:Cx) (es:List Expr) (t:TA):Prop :=
 ∀ (pos:Pos) (pins:List (Addr×Obj)) (s:Shared) (σ:St) (H:Hp) (Q:List V->Hp->Prop),Inv X pins σ H s->t σ H Q->wpAny (model X.prog X.w) X.A (spliced (backTo pos (starEach es X.env))) (AP X pins σ Q) X.xe s
def PS (X:Cx) (st:Stmt) (t:TS):Prop :=
 ∀ (pins:List (Addr×Obj)) (s:Shared) (σ:St) (H:Hp) (D:Ends),Inv X pins σ H s->t D σ H->wpAny (model X.prog X.w) X.A (exec st X.env) (SP X pins D) X.xe s
def PSs (X:Cx) (st:List Stmt) (t:TS):Prop :=
 ∀ (pins:List (Addr×Obj)) (s:Shared) (σ:St) (H:Hp) (D:Ends),Inv X pins σ H s->t D σ H->wpAny (model X.prog X.w) X.A (execs st X.env) (SP X pins D) X.xe s
theorem thn {α:Type} {t:Sem α} {Q Q':α->Shared->Prop} {M:Model} {A:Around} {E:Value->Shared->Prop} {s:Shared} (h:wpAny M A t Q E s) (hQ:∀ a s,Q a s->Q' a s):wpAny M A t Q' E s:=wpAny_mono h hQ λ _ _ x=>x
section
variable {X:Cx}
theorem bin {a b:Expr} {ta tb:TE} (ha:PE X a ta) (hb:PE X b tb) {pins:List (Addr×Obj)} {s:Shared} {σ:St} {H:Hp} {R:V->V->Hp->Prop} (I:Inv X pins σ H s) (h:ta σ H λ x H1=>tb σ H1 λ y H2=>R x y H2)
  {α:Type} {Q:α->Shared->Prop} {f:Value->Value->Sem α}
  (hf:∀ v u s2 x y H2,Inv X pins σ H2 s2->RelV x v->RelV y u->R x y H2->wpAny (model X.prog X.w) X.A (f v u) Q X.xe s2) :
  wpAny (model X.prog X.w) X.A (eval a X.env) (λ v s₁=>wpAny (model X.prog X.w) X.A (eval b X.env) (λ u s₂=>wpAny (model X.prog X.w) X.A (f v u) Q X.xe s₂) X.xe s₁) X.xe s:=by
 refine thn (ha pins s σ H _ I h) λ v s1 ⟨x,H1,I1,r1,q1⟩=>?_
 refine thn (hb pins s1 σ H1 _ I1 q1) λ u s2 ⟨y,H2,I2,r2,q2⟩=>?_
 exact hf v u s2 x y H2 I2 r1 r2 q2
def tVar (i:Nat):TE:=λ σ H Q=>∃ v,σ[i]?=some (some v)/\Q v H
def tC (v:V):TE:=λ _ H Q=>Q v H
theorem pe_var {i:Nat} {x:Str} {pos:Pos} (hN:X.N[i]?=some x) (hv:Vis X.env.scope x) (hd:(x == ("__debug__":Str))=false:=by decide) (hcd:(x == ("__classdict__":Str))=false:=by decide):PE X (.Name x pos) (tVar i):=by
 intro pins s σ H Q I h
 obtain ⟨v,e,h⟩:=h
 obtain ⟨m,hn,hl⟩:=I.loc
 obtain ⟨u,r,l⟩:=hl i x v hN e hv
 have fin:EP X pins σ Q u s:=⟨v,H,I,r,h⟩
 rcases l with ⟨hk,hm⟩|⟨hk,c,hc,hcell⟩
 ·exact wpAny_Name (wpAny_loadName_local I.ok.kind hk hn hm fin) hd
 ·rcases hk with hk|hk
  ·exact wpAny_Name (wpAny_loadName_cell I.ok.kind hk hc hcell fin) hd
  ·exact wpAny_Name (wpAny_loadName_free I.ok.kind hk hc hcell fin hcd) hd
theorem pe_int {i j pos}:PE X (.Constant (.int i) j pos) (tC (.int i)):=λ _ _ _ H _ I h=>wpAny_Constant_int ⟨.int i,H,I.tok _,⟨_,rfl⟩,h⟩
theorem pe_bl {b j pos}:PE X (.Constant (.bool b) j pos) (tC (.bl b)):=λ _ _ _ H _ I h=>Constant_bool ⟨.bl b,H,I,rfl,h⟩
theorem pe_str {x j pos}:PE X (.Constant (.str x) j pos) (tC (.str x)):=λ _ _ _ H _ I h=>Calls.Constant_str ⟨.str x,H,I.tok _,⟨_,rfl⟩,h⟩
def Gl (X:Cx) (x:Str):Prop:=X.env.kindOf x=some .globalImplicit
theorem ld_glob {E:Value->Shared->Prop} {pins:List (Addr×Obj)} {s:Shared} {σ:St} {H:Hp} {x:Str} {u:Value} {pos:Pos} {Q:Value->Shared->Prop} (I:Inv X pins σ H s) (hg:Gl X x) (hm:X.mg x=some u) (h:Q u s)
  (hd:(x == ("__debug__":Str))=false:=by decide):wpAny (model X.prog X.w) X.A (eval (.Name x pos) X.env) Q E s :=
 Calls.Name_function_global I.ok.kind hg (Calls.loadGlobal_global (by rw [I.ok.glob];exact I.mod.glob.keeps I.bk) hm h) hd
theorem ld_blt {E:Value->Shared->Prop} {pins:List (Addr×Obj)} {s:Shared} {σ:St} {H:Hp} {x:Str} {u:Value} {pos:Pos} {Q:Value->Shared->Prop} (I:Inv X pins σ H s) (hg:Gl X x) (hm:X.mg x=none) (hv:bootBuiltins x=some u) (h:Q u s)
  (hn:x ≠ "__name__":=by decide) (hd:(x == ("__debug__":Str))=false:=by decide):wpAny (model X.prog X.w) X.A (eval (.Name x pos) X.env) Q E s:=by
 obtain ⟨mb,h1,h2⟩:=I.mod.blt
 exact Calls.Name_function_global I.ok.kind hg (Calls.loadGlobal_builtin (by rw [I.ok.glob];exact I.mod.glob.keeps I.bk) hm (by rw [I.ok.blt];exact h1.keeps I.bk) ((h2 x hn).trans hv) h) hd
theorem pe_bltn {x:Str} {v:V} {u:Value} {pos:Pos} (hg:Gl X x) (hm:X.mg x=none) (hv:bootBuiltins x=some u) (r:RelV v u) (hn:x ≠ "__name__":=by decide) (hd:(x == ("__debug__":Str))=false:=by decide):PE X (.Name x pos) (tC v) :=
 λ _ _ _ H _ I h=>ld_blt I hg hm hv ⟨v,H,I,r,h⟩ hn hd
variable {a b:Expr} {ta tb:TE} {pos:Pos}
variable {tA tB':TT} {rest:List Expr}
def tAnd (t u:TT):TT:=λ σ H Q=>t σ H λ c H1=>if c=true then u σ H1 Q else Q false H1
def tOr (t u:TT):TT:=λ σ H Q=>t σ H λ c H1=>if c=true then Q true H1 else u σ H1 Q
def tNot (t:TT):TT:=λ σ H Q=>t σ H λ c H1=>Q (!c) H1
theorem pw_and1 (ha:PT X a tA):PW X (.BoolOp .And [a] pos) tA:=by
 intro wh pins s σ H Q I h
 refine isTrue_and (thn (ha pins s σ H Q I h) λ c s1 e=>?_)
 cases c with
|true=>exact isTrue_and_nil e
|false=>exact e
theorem pw_or1 (ha:PT X a tA):PW X (.BoolOp .Or [a] pos) tA:=by
 intro wh pins s σ H Q I h
 refine isTrue_or (thn (ha pins s σ H Q I h) λ c s1 e=>?_)
 cases c with
|false=>exact isTrue_or_nil e
|true=>exact e
theorem pw_and (ha:PT X a tA) (hb:PW X (.BoolOp .And (b :: rest) pos) tB'):PW X (.BoolOp .And (a :: b :: rest) pos) (tAnd tA tB'):=by
 intro wh pins s σ H Q I h
 refine isTrue_and (thn (ha pins s σ H _ I h) λ c s1 ⟨H1,I1,q1⟩=>?_)
 cases c with
|true=>exact hb wh pins s1 σ H1 Q I1 q1
|false=>exact ⟨H1,I1,q1⟩
theorem pw_or (ha:PT X a tA) (hb:PW X (.BoolOp .Or (b :: rest) pos) tB'):PW X (.BoolOp .Or (a :: b :: rest) pos) (tOr tA tB'):=by
 intro wh pins s σ H Q I h
 refine isTrue_or (thn (ha pins s σ H _ I h) λ c s1 ⟨H1,I1,q1⟩=>?_)
 cases c with
|true=>exact ⟨H1,I1,q1⟩
|false=>exact hb wh pins s1 σ H1 Q I1 q1
theorem pt_not (ha:PT X a tA):PT X (.UnaryOp .Not a pos) (tNot tA):=by
 intro pins s σ H Q I h
 exact isTrue_not (ha pins s σ H (λ c H1=>Q (!c) H1) I h)
def tAndV (ta tb:TE):TE:=λ σ H Q=>ta σ H λ x H1=>∃ c,x=.bl c/\if c=true then tb σ H1 Q else Q (.bl false) H1
def tNotV (ta:TE):TE:=λ σ H Q=>ta σ H λ x H1=>∃ c,x=.bl c/\Q (.bl (!c)) H1
theorem pe_one {op} {t:TE} (h:PE X a t):PE X (.BoolOp op [a] pos) t:=λ pins s σ H Q I hw=>BoolOp_one (h pins s σ H Q I hw)
theorem pe_and (ha:PE X a ta) (hb:PE X (.BoolOp .And (b :: rest) pos) tb):PE X (.BoolOp .And (a :: b :: rest) pos) (tAndV ta tb):=by
 intro pins s σ H Q I h
 refine BoolOp_and (thn (ha pins s σ H _ I h) λ v s1 ⟨x,H1,I1,r1,q1⟩=>?_)
 obtain ⟨c,rfl,q1⟩:=q1
 cases r1
 refine wpAny_truthy_bool ?_
 cases c with
|true=>exact hb pins s1 σ H1 Q I1 q1
|false=>exact ⟨.bl false,H1,I1,rfl,q1⟩
theorem pe_not (ha:PE X a ta):PE X (.UnaryOp .Not a pos) (tNotV ta):=by
 intro pins s σ H Q I h
 refine UnaryOp_ (thn (ha pins s σ H _ I h) λ v s1 ⟨x,H1,I1,r1,q1⟩=>?_)
 obtain ⟨c,rfl,q1⟩:=q1
 cases r1
 exact not_of (wpAny_truthy_bool ⟨.bl (!c),H1,I1,rfl,q1⟩)
def tIf (t:TT) (ta tb:TE):TE:=λ σ H Q=>t σ H λ c H1=>if c=true then ta σ H1 Q else tb σ H1 Q
theorem pe_ifExp {c:Expr} (hc:PT X c tA) (ha:PE X a ta) (hb:PE X b tb):PE X (.IfExp c a b pos) (tIf tA ta tb):=by
 intro pins s σ H Q I h
 refine wpAny_IfExp (thn (hc pins s σ H _ I h) λ d s1 ⟨H1,I1,q1⟩=>?_)
 cases d with
|true=>exact ha pins s1 σ H1 Q I1 q1
|false=>exact hb pins s1 σ H1 Q I1 q1
end
def SqL (K:Fg) (H:Hp) (a:Addr) (xs:List V):Prop :=
 Rd H a (.lst xs) \/
  ∃ (o:Obj) (its:Array Value) (n:Nat),K.lookup a=some o/\o.cls=.type "list"/\o.dict=none/\o.data=.seq its n/\its.size<=sizeLine/\Vals xs its.toList
def SqT (K:Fg) (H:Hp) (a:Addr) (xs:List V):Prop :=
 Rd H a (.tup xs) \/
  ∃ (o:Obj) (its:Array Value) (n:Nat),K.lookup a=some o/\o.cls=.type "tuple"/\o.data=.seq its n/\its.size<=sizeLine/\Vals xs its.toList
def absV:Value->Option V
|.none=>some .non
|.bool b=>some (.bl b)
|.int i _=>some (.int i)
|.str x _=>some (.str x)
|.bytes b _=>some (.byt b)
|.float b _=>some (.flt b)
|.ref a=>some (.ref a)
|.type n=>some (.ty n)
|_=>none
theorem RelV.abs {x:V} {u:Value} (r:RelV x u):absV u=some x:=by
 cases x with
|non=>cases r;rfl
|bl _=>cases r;rfl
|int _=>obtain ⟨t,rfl⟩:=r;rfl
|str _=>obtain ⟨t,rfl⟩:=r;rfl
|byt _=>obtain ⟨t,rfl⟩:=r;rfl
|flt _=>obtain ⟨t,rfl⟩:=r;rfl
|ref _=>cases r;rfl
|ty _=>cases r;rfl
theorem RelV.inj {x y:V} {u:Value} (r:RelV x u) (q:RelV y u):x=y:=Option.some.inj (r.abs.symm.trans q.abs)
theorem Vals.inj:∀ {xs ys:List V} {us:List Value},Vals xs us->Vals ys us->xs=ys
|_,_,_,.nil,.nil=>rfl
|_,_,_,.cons r t,.cons r' t'=>by rw [r.inj r',Vals.inj t t']
section
variable {X:Cx} {pins:List (Addr×Obj)} {σ:St} {H:Hp} {s:Shared} {a:Addr} {xs ys:List V}
theorem SqL.of {K:Fg} (h:H a=some (.lst xs)):SqL K H a xs:=.inl (.inl h)
theorem SqT.of {K:Fg} (h:H a=some (.tup xs)):SqT K H a xs:=.inl (.inl h)
theorem Inv.list (I:Inv X pins σ H s) (h:SqL X.K H a xs):∃ its:List Value,Vals xs its/\PlainL s.heap a its.toArray/\xs.length<=sizeLine:=by
 rcases h with h|⟨o,its,n,hk,hc,hd,hs,hz,r⟩
 ·obtain ⟨z,its,n,r,e⟩:=h.ok I.hok
  exact ⟨its,r,⟨_,n,e,rfl,rfl,rfl⟩,z⟩
 ·refine ⟨its.toList,r,⟨o,n,I.kIn a o hk,hc,hd,by simpa using hs⟩,?_⟩
  have e:=r.length
  simp only [Array.length_toList] at e
  lia
theorem Inv.tuple (I:Inv X pins σ H s) (h:SqT X.K H a xs):∃ its:List Value,Vals xs its/\IsTup s.heap a its.toArray/\xs.length<=sizeLine:=by
 rcases h with h|⟨o,its,n,hk,hc,hs,hz,r⟩
 ·obtain ⟨z,its,r,p⟩:=h.ok I.hok
  exact ⟨its,r,p,z⟩
 ·refine ⟨its.toList,r,⟨o,I.kIn a o hk,hc,n,by simpa using hs⟩,?_⟩
  have e:=r.length
  simp only [Array.length_toList] at e
  lia
theorem Inv.list_inj (I:Inv X pins σ H s) (h:SqL X.K H a xs) (h':SqL X.K H a ys):xs=ys:=by
 obtain ⟨its,r,⟨o,n,e,_,_,d⟩,_⟩:=I.list h
 obtain ⟨its',r',⟨o',n',e',_,_,d'⟩,_⟩:=I.list h'
 rw [e] at e';cases e'
 rw [d] at d'
 injection d' with d1 _
 have:its=its':=by simpa using congrArg Array.toList d1
 subst this
 exact r.inj r'
theorem Inv.tuple_inj (I:Inv X pins σ H s) (h:SqT X.K H a xs) (h':SqT X.K H a ys):xs=ys:=by
 obtain ⟨its,r,⟨o,e,_,n,d⟩,_⟩:=I.tuple h
 obtain ⟨its',r',⟨o',e',_,n',d'⟩,_⟩:=I.tuple h'
 rw [e] at e';cases e'
 rw [d] at d'
 injection d' with d1 _
 have:its=its':=by simpa using congrArg Array.toList d1
 subst this
 exact r.inj r'
end
abbrev Cx.wish (X:Cx) (E:Value->Shared->Prop):Cx:={ X with xe:=E }
abbrev Cx.nox (X:Cx):Cx:=X.wish λ _ _=>False
theorem Cx.Ok.wish {X:Cx} (ok:X.Ok) (E:Value->Shared->Prop):(X.wish E).Ok :=
 ⟨ok.mod,ok.kind,ok.glob,ok.blt,ok.above,ok.inj,ok.has,ok.cab,ok.hd,ok.frames,ok.stk,ok.exf,ok.bs,ok.bsz,ok.noex,ok.exfs,ok.funs,ok.frf⟩
theorem Cx.Ok.unwish {X:Cx} {E:Value->Shared->Prop} (ok:(X.wish E).Ok):X.Ok :=
 ⟨ok.mod,ok.kind,ok.glob,ok.blt,ok.above,ok.inj,ok.has,ok.cab,ok.hd,ok.frames,ok.stk,ok.exf,ok.bs,ok.bsz,ok.noex,ok.exfs,ok.funs,ok.frf⟩
section
variable {X:Cx} {pins:List (Addr×Obj)} {σ:St} {H:Hp} {s:Shared} {E:Value->Shared->Prop}
theorem Inv.wish (I:Inv X pins σ H s) (E:Value->Shared->Prop):Inv (X.wish E) pins σ H s:=⟨I.ok.wish E,I.os,I.bare,I.base,I.loc,I.cell,I.free,I.freeC,I.pin,I.hok,I.len⟩
theorem Inv.unwish (I:Inv (X.wish E) pins σ H s):Inv X pins σ H s:=⟨I.ok.unwish,I.os,I.bare,I.base,I.loc,I.cell,I.free,I.freeC,I.pin,I.hok,I.len⟩
theorem SP.unwish {D:Ends} {f:Flow} {s':Shared} (h:SP (X.wish E) pins D f s'):SP X pins D f s':=by
 cases f with
|next=>obtain ⟨σ',H',I,q⟩:=h;exact ⟨σ',H',I.unwish,q⟩
|brk=>obtain ⟨σ',H',I,q⟩:=h;exact ⟨σ',H',I.unwish,q⟩
|cont=>obtain ⟨σ',H',I,q⟩:=h;exact ⟨σ',H',I.unwish,q⟩
|ret u=>obtain ⟨v,σ',H',I,r,q⟩:=h;exact ⟨v,σ',H',I.unwish,r,q⟩
theorem PE.nox {e:Expr} {t:TE} (h:PE X.nox e t):PE X e t:=λ pins s σ H Q I hw =>
 wpAny_mono (h pins s σ H Q (I.wish _) hw) (λ _ _ ⟨v,H',I',r,q⟩=>⟨v,H',I'.unwish,r,q⟩) λ _ _ z=>False.elim z
theorem PT.nox {e:Expr} {t:TT} (h:PT X.nox e t):PT X e t:=λ pins s σ H Q I hw =>
 wpAny_mono (h pins s σ H Q (I.wish _) hw) (λ _ _ ⟨H',I',q⟩=>⟨H',I'.unwish,q⟩) λ _ _ z=>False.elim z
theorem PSs.nox {st:List Stmt} {t:TS} (h:PSs X.nox st t):PSs X st t:=λ pins s σ H D I hw =>
 wpAny_mono (h pins s σ H D (I.wish _) hw) (λ _ _ q=>q.unwish) λ _ _ z=>False.elim z
end
section
variable {X:Cx} {st:Stmt} {rest:List Stmt} {t u:TS} {e:Expr} {te:TE} {pos:Pos}
def tNext:TS:=λ D σ H=>D.nx σ H
def tSeq (t u:TS):TS:=λ D σ H=>t { D with nx:=u D } σ H
theorem pss_nil:PSs X [] tNext:=λ _ _ σ H _ I h=>wpAny_execs_nil ⟨σ,H,I,h⟩
theorem pss_cons (h1:PS X st t) (h2:PSs X rest u):PSs X (st :: rest) (tSeq t u):=by
 intro pins s σ H D I h
 refine wpAny_execs_cons (thn (h1 pins s σ H { D with nx:=u D } I h) λ f s1 q=>?_)
 cases f with
|next =>
  obtain ⟨σ',H',I',q⟩:=q
  exact h2 pins s1 σ' H' D I' q
|ret v=>exact q
|brk=>exact q
|cont=>exact q
theorem pss_one (h1:PS X st t):PSs X [st] t:=by
 intro pins s σ H D I h
 refine wpAny_execs_cons (thn (h1 pins s σ H D I h) λ f s1 q=>?_)
 cases f with
|next=>exact wpAny_execs_nil q
|ret v=>exact q
|brk=>exact q
|cont=>exact q
theorem Inv.quiet {pins:List (Addr×Obj)} {σ:St} {H:Hp} {s:Shared} (I:Inv X pins σ H s):interactive X.env=false:=by simp [interactive,I.ok.kind]
def tDrop (te:TE):TS:=λ D σ H=>te σ H λ _ H1=>D.nx σ H1
theorem ps_expr (he:PE X e te) (hs:swapsWith e none pos.line X.env=pure false:=by rfl):PS X (.Expr e pos) (tDrop te):=by
 intro pins s σ H D I h
 exact wpAny_Expr_any (thn (he pins s σ H _ I h) λ v s1 ⟨x,H1,I1,r1,q1⟩=>⟨σ,H1,I1,q1⟩) I.quiet hs
def tRet (te:TE):TS:=λ D σ H=>te σ H D.rt
theorem ps_ret (he:PE X e te):PS X (.Return (some e) pos) (tRet te):=by
 intro pins s σ H D I h
 exact wpAny_Return_some (thn (he pins s σ H _ I h) λ v s1 ⟨x,H1,I1,r1,q1⟩=>⟨x,σ,H1,I1,r1,q1⟩)
def tIfS (c:TT) (t u:TS):TS:=λ D σ H=>c σ H λ b H1=>if b=true then t D σ H1 else u D σ H1
theorem ps_if {c:Expr} {a b:List Stmt} {tc:TT} (hc:PT X c tc) (ha:PSs X a t) (hb:PSs X b u):PS X (.If c a b pos) (tIfS tc t u):=by
 intro pins s σ H D I h
 refine wpAny_If (thn (hc pins s σ H _ I h) λ d s1 ⟨H1,I1,q1⟩=>?_)
 cases d with
|true=>exact ha pins s1 σ H1 D I1 q1
|false=>exact hb pins s1 σ H1 D I1 q1
end
abbrev TG:=V->St->Hp->(St->Hp->Prop)->Prop
abbrev TGs:=List V->St->Hp->(St->Hp->Prop)->Prop
def PG (X:Cx) (target:Expr) (t:TG):Prop :=
 ∀ (pins:List (Addr×Obj)) (s:Shared) (σ:St) (H:Hp) (v:V) (u:Value) (Q:St->Hp->Prop),Inv X pins σ H s->RelV v u->t v σ H Q ->
  wpAny (model X.prog X.w) X.A (assign target X.env u) (λ _ s'=>∃ σ' H',Inv X pins σ' H' s'/\Q σ' H') X.xe s
def PGs (X:Cx) (ts:List Expr) (t:TGs):Prop :=
 ∀ (pins:List (Addr×Obj)) (s:Shared) (σ:St) (H:Hp) (vs:List V) (us:List Value) (Q:St->Hp->Prop),Inv X pins σ H s->Vals vs us->t vs σ H Q ->
  wpAny (model X.prog X.w) X.A (assignInOrder ((assignEach ts X.env).map (·.2)) us) (λ _ s'=>∃ σ' H',Inv X pins σ' H' s'/\Q σ' H') X.xe s
abbrev TSet:=V->V->V->Hp->(Hp->Prop)->Prop
def PSet (X:Cx) (t:TSet):Prop :=
 ∀ (pins:List (Addr×Obj)) (s:Shared) (σ:St) (H:Hp) (o i v:V) (ov iv u:Value) (Q:Hp->Prop),Inv X pins σ H s->RelV o ov->RelV i iv->RelV v u->t o i v H Q ->
  wpAny (model X.prog X.w) X.A (setItem ov iv u) (λ _ s'=>∃ H',Inv X pins σ H' s'/\Q H') X.xe s
abbrev TIp:=V->V->Hp->VK->Prop
def PIp (X:Cx) (op:Operator) (t:TIp):Prop :=
 ∀ (pins:List (Addr×Obj)) (s:Shared) (σ:St) (H:Hp) (x y:V) (v u:Value) (Q:VK),Inv X pins σ H s->RelV x v->RelV y u->t x y H Q ->
  wpAny (model X.prog X.w) X.A (inplaceOp op v u) (EP X pins σ Q) X.xe s
section
variable {X:Cx} {pos:Pos}
def gName (i:Nat):TG:=λ v σ H Q=>Q (σ.set i (some v)) H
theorem pg_name {i:Nat} {x:Str} (hN:X.N.Nodup) (hi:X.N[i]?=some x) (hx:Loc X.env.scope x) (hf:X.fn x=true \/ X.env.scope.names.lookup x=some .local:=by first|exact .inl rfl|exact .inr rfl|assumption):PG X (.Name x pos) (gName i):=by
 intro pins s σ H v u Q I r h
 exact wpAny_assign_Name (store_ok I hN hi hx r (λ s' I'=>⟨_,H,I',h⟩) hf)
def gNil:TGs:=λ vs σ H Q=>vs=[]/\Q σ H
def gCons (t:TG) (u:TGs):TGs:=λ vs σ H Q=>∃ v r,vs=v :: r/\t v σ H λ σ' H'=>u r σ' H' Q
theorem pgs_nil:PGs X [] gNil:=by
 intro pins s σ H vs us Q I r h
 obtain ⟨e,h⟩:=h
 subst e
 cases r
 exact assignInOrder_nil ⟨σ,H,I,h⟩
theorem pgs_cons {e:Expr} {es:List Expr} {t:TG} {u:TGs} (h1:PG X e t) (h2:PGs X es u)
  (hs:(assignEach (e :: es) X.env).map (·.2)=assign e X.env :: (assignEach es X.env).map (·.2):=by rfl):PGs X (e :: es) (gCons t u):=by
 intro pins s σ H vs us Q I r h
 obtain ⟨v,vr,e1,h⟩:=h
 subst e1
 cases r with
|cons r rr =>
  rw [hs]
  refine assignInOrder_cons (thn (h1 pins s σ H _ _ _ I r h) λ _ s1 ⟨σ1,H1,I1,q1⟩=>?_)
  exact h2 pins s1 σ1 H1 _ _ Q I1 rr q1
def gTup (K:Fg) (n:Nat) (t:TGs):TG:=λ v σ H Q=>∃ a xs,v=.ref a/\SqT K H a xs/\xs.length=n/\t xs σ H Q
theorem pg_tup {es:List Expr} {k:Nat} {t:TGs} {n:Nat} (hc:X.calm=true) (h:PGs X es t)
  (hn:(assignEach es X.env).length=n:=by rfl) (hst:(assignEach es X.env).findIdx? (·.1)=none:=by rfl):PG X (.Tuple es k pos) (gTup X.K n t):=by
 intro pins s σ H v u Q I r hw
 obtain ⟨a,xs,e1,hq,hl,hw⟩:=hw
 subst e1
 cases r
 obtain ⟨its,rv,ht,hz⟩:=I.tuple hq
 refine assign_Tuple_tuple (I.ok.hd hc) ht (by simp [hn,<- hl,rv.length]) hst λ h' hx=>?_
 have I1:Inv X pins σ H { s with heap:=h' }:=I.kept (t':=s.toks) λ b o e=>hx b o (Nat.ne_of_lt (Heap.lt_size e)) e
 exact h pins _ σ H xs _ Q I1 (by simpa using rv) hw
def gSub (to ti:TE) (t:TSet):TG:=λ v σ H Q=>to σ H λ o H1=>ti σ H1 λ i H2=>t o i v H2 λ H3=>Q σ H3
theorem pg_sub {o i:Expr} {to ti:TE} {t:TSet} (ho:PE X o to) (hi:PE X i ti) (hs:PSet X t)
  (ha:∀ v,assign (.Subscript o i pos) X.env v=(do
   let ov <- holding [v] (eval o X.env)
   let iv <- holding [v,ov] (eval i X.env)
   standAt pos
   holding [v,ov,iv] (setItem ov iv v)
   release [v,ov,iv] []):=by intro _;rfl):PG X (.Subscript o i pos) (gSub to ti t):=by
 intro pins s σ H v u Q I r h
 rw [ha]
 refine wpAny_bind (wpAny_holding (thn (ho pins s σ H _ I h) λ ov s1 ⟨x,H1,I1,r1,q1⟩=>?_))
 refine wpAny_bind (wpAny_holding (thn (hi pins s1 σ H1 _ I1 q1) λ iv s2 ⟨y,H2,I2,r2,q2⟩=>?_))
 refine wpAny_bind (wpAny_standAt (wpAny_bind (wpAny_holding (thn (hs pins s2 σ H2 x y v ov iv u _ I2 r1 r2 r q2) λ _ s3 ⟨H3,I3,q3⟩=>?_))))
 exact wpAny_release ⟨σ,H3,I3,q3⟩
def tAsg (te:TE) (g:TG):TS:=λ D σ H=>te σ H λ x H1=>g x σ H1 D.nx
theorem ps_asg {tg e:Expr} {te:TE} {g:TG} (he:PE X e te) (hg:PG X tg g) (hs:swapsWithSole [tg] e pos.line X.env=pure false:=by rfl) (hw:swappedStores [tg] e X.env=pure none:=by rfl)
  (h1:(assignEach [tg] X.env).map (·.2)=[assign tg X.env]:=by rfl):PS X (.Assign [tg] e pos) (tAsg te g):=by
 intro pins s σ H D I h
 refine wpAny_Assign_stores (thn (he pins s σ H _ I h) λ v s1 ⟨x,H1,I1,r1,q1⟩=>?_) hs hw
 rw [h1]
 exact thn (hg pins s1 σ H1 x v _ I1 r1 q1) λ _ s2 q=>q
theorem ps_set {i:Nat} {x:Str} {e:Expr} {te:TE} {pos':Pos} (hN:X.N.Nodup) (hi:X.N[i]?=some x) (hx:Loc X.env.scope x) (he:PE X e te) (hs:swapsWith e (some (.Name x pos')) pos.line X.env=pure false:=by rfl) (hf:X.fn x=true \/ X.env.scope.names.lookup x=some .local:=by first|exact .inl rfl|exact .inr rfl|assumption) :
  PS X (.Assign [.Name x pos'] e pos) (tAsg te (gName i)):=by
 intro pins s σ H D I h
 refine wpAny_Assign_Name (thn (he pins s σ H _ I h) λ v s1 ⟨y,H1,I1,r1,q1⟩=>?_) hs
 exact store_ok I1 hN hi hx r1 (λ s2 I2=>⟨_,H1,I2,q1⟩) hf
def tAug (i:Nat) (te:TE) (ti:TIp):TS:=λ D σ H=>∃ x,σ[i]?=some (some x)/\te σ H λ y H1=>ti x y H1 λ z H2=>D.nx (σ.set i (some z)) H2
theorem ps_aug {i:Nat} {x:Str} {e:Expr} {te:TE} {op:Operator} {ti:TIp} {pos':Pos} (hN:X.N.Nodup) (hi:X.N[i]?=some x) (hx:Loc X.env.scope x) (he:PE X e te) (ho:PIp X op ti) (hf:X.fn x=true \/ X.env.scope.names.lookup x=some .local:=by first|exact .inl rfl|exact .inr rfl|assumption) :
  PS X (.AugAssign (.Name x pos') op e pos) (tAug i te ti):=by
 intro pins s σ H D I h
 obtain ⟨v,e1,h⟩:=h
 obtain ⟨m,hn,hl⟩:=I.loc
 have vis:Vis X.env.scope x:=by rcases hx with k|k;exact .inl k;exact .inr (.inl k)
 obtain ⟨u,r,l⟩:=hl i x v hi e1 vis
 refine wpAny_AugAssign_Name ?_
 have go:wpAny (model X.prog X.w) X.A (eval e X.env) (λ w s₂=>wpAny (model X.prog X.w) X.A (inplaceOp op u w) (λ r s₃=>wpAny (model X.prog X.w) X.A (storeName X.env x r) (λ _=>SP X pins D .next) X.xe s₃) X.xe s₂) X.xe s:=by
  refine thn (he pins s σ H _ I h) λ w s1 ⟨y,H1,I1,r1,q1⟩=>?_
  refine thn (ho pins s1 σ H1 v y u w _ I1 r r1 q1) λ z s2 ⟨zv,H2,I2,r2,q2⟩=>?_
  exact store_ok I2 hN hi hx r2 (λ s3 I3=>⟨_,H2,I3,q2⟩) hf
 rcases l with ⟨hk,hm⟩|⟨hk,c,hc,hcell⟩
 ·exact wpAny_loadName_local I.ok.kind hk hn hm go
 ·rcases hk with hk|hk
  ·exact wpAny_loadName_cell I.ok.kind hk hc hcell go
  ·rcases hx with k|k
   ·have:X.env.scope.names.lookup x=some .free:=hk
    rw [k] at this;cases this
   ·have:X.env.scope.names.lookup x=some .free:=hk
    rw [k] at this;cases this
def ipI (f:Int->Int->Int):TIp:=λ x y H Q=>∃ i j,x=.int i/\y=.int j/\Q (.int (f i j)) H
theorem ip_add:PIp X .Add (ipI λ i j=>i+j):=by
 intro pins s σ H x y v u Q I r1 r2 h
 obtain ⟨i,j,e1,e2,q⟩:=h
 subst e1;subst e2
 obtain ⟨t,rfl⟩:=r1
 obtain ⟨t',rfl⟩:=r2
 exact iadd_int ⟨.int _,H,I.tok _,⟨_,rfl⟩,q⟩
end
section
variable {X:Cx} {pos:Pos}
end
structure It where
 go:Nat->Hp->Prop
 yld:Nat->Hp->V->Hp->Prop
 stop:Nat->Hp->Prop
def FpOk (X:Cx) (pins:List (Addr×Obj)) (H:Hp) (b:Addr):Prop :=
 H b=none/\b≠X.env.locals/\b ∉ X.fs/\(b∈X.ex \/ X.s₀.heap.objs.size<=b)/\(∀ x c,X.env.cells.lookup x=some c->c≠b)/\∀ p∈X.pn++pins,p.1≠b
theorem Inv.fpOk {X:Cx} {pins:List (Addr×Obj)} {σ:St} {H H':Hp} {s:Shared} {b:Addr} (I:Inv X pins σ H s) (hb:s.heap.objs.size<=b) (hn:H' b=none):FpOk X pins H' b:=by
 refine ⟨hn,Nat.ne_of_gt (Nat.lt_of_lt_of_le I.lt hb),I.nofs hb,.inr (Nat.le_trans I.sz hb),λ x c e z=>?_,λ p hp z=>?_⟩
 ·obtain ⟨v,q⟩:=I.cell x c e
  exact absurd (Nat.lt_of_lt_of_le q.lt (by rw [z];exact hb)) (Nat.lt_irrefl _)
 ·exact absurd (Nat.lt_of_lt_of_le (Heap.lt_size (I.pin p hp).1) (by rw [z];exact hb)) (Nat.lt_irrefl _)
structure Turn (P:Program) (w:World) (K:Fg) (tg:Expr) (J:It) (fp:List Addr) (it:Addr) (tn:Nat->Heap->Prop):Prop where
 mem:it∈fp
 obj:∀ i h,tn i h->∀ b∈fp,∃ o,h.get? b=some o/\∀ v,o.data≠.cell v
 keep:∀ i h h',tn i h->(∀ b∈fp,∀ o,h.get? b=some o->h'.get? b=some o)->tn i h'
 item:∀ (X:Cx),X.prog=P->X.w=w->X.K=K->X.calm=true->∀ (i:Nat) (pins:List (Addr×Obj)) (s:Shared) (σ:St) (H:Hp) (E:Value->Shared->Prop),Inv X pins σ H s->(∀ b∈fp,FpOk X pins H b)->tn i s.heap->J.go i H ->
  wpAny (model P w) X.A (pyNext (.ref it)) (λ r s1=>∃ u,r=some u /\
   wpAny (model P w) X.A (letOwnedTupleGo tg (.ref it) u) (λ _ s2=>∃ x H',Inv X pins σ H' s2/\RelV x u/\J.yld i H x H'/\tn (i+1) s2.heap/\∀ b∈fp,H' b=none) E s1) E s
 done:∀ (X:Cx),X.prog=P->X.w=w->X.K=K->X.calm=true->∀ (i:Nat) (pins:List (Addr×Obj)) (s:Shared) (σ:St) (H:Hp) (E:Value->Shared->Prop),Inv X pins σ H s->(∀ b∈fp,FpOk X pins H b)->tn i s.heap->J.stop i H ->
  wpAny (model P w) X.A (pyNext (.ref it)) (λ r s1=>r=none/\Inv X pins σ H s1) E s
 self:∀ (A:Around) (i:Nat) (s:Shared) (Q:Value->Shared->Prop) (E:Value->Shared->Prop),tn i s.heap->Q (.ref it) s->wpAny (model P w) A (pyIter (.ref it)) Q E s
abbrev TI:=St->Hp->(It->Hp->Prop)->Prop
def PIE (X:Cx) (pins:List (Addr×Obj)) (σ:St) (tg:Expr) (R:It->Hp->Prop) (itv:Value) (s2:Shared):Prop :=
 ∃ (it:Addr) (fp:List Addr) (tn:Nat->Heap->Prop) (J:It) (H':Hp),itv=.ref it/\Inv X pins σ H' s2/\Turn X.prog X.w X.K tg J fp it tn/\tn 0 s2.heap/\(∀ b∈fp,FpOk X pins H' b)/\R J H'
def PI (X:Cx) (tg iter:Expr) (wi:TI):Prop :=
 ∀ (pins:List (Addr×Obj)) (s:Shared) (σ:St) (H:Hp) (R:It->Hp->Prop),Inv X pins σ H s->wi σ H R ->
  wpAny (model X.prog X.w) X.A (eval iter X.env) (λ v s1=>wpAny (model X.prog X.w) X.A (pyIter v) (PIE X pins σ tg R) X.xe s1) X.xe s
theorem go_of {M : Model} {A : Around} {E : Value → Shared → Prop} {s : Shared} {tg : Expr} {it : Addr} {u : Value} {o : Obj} {n : String} {vs : Array Value} {Q : Unit → Shared → Prop} (ho : s.heap.get? it = some o) (hc : o.cls = .type n) (hd : o.data = .fields vs)
    (hn : ["enumerate", "zip", "dict_itemiterator", "dict_reverseitemiterator", "odict_iterator", "itertools.zip_longest", "itertools.pairwise"].contains n = false) (hQ : Q () s) : wpAny M A (letOwnedTupleGo tg (.ref it) u) Q E s := by
  unfold letOwnedTupleGo
  cases tg <;> first
    | exact wpAny_pure hQ
    | (cases u <;> first
        | exact wpAny_pure hQ
        | (refine wpAny_bind (wpAny_load ho ?_)
           rw [hc, hd]
           show wpAny M A (if (["enumerate", "zip", "dict_itemiterator", "dict_reverseitemiterator", "odict_iterator", "itertools.zip_longest", "itertools.pairwise"].contains n && vs[0]? == some (rawInt _)) = true then _ else _) Q E s
           rw [if_neg (by intro h; rw [hn, Bool.false_and] at h; cases h)]
           exact wpAny_pure hQ))
def Itl (K:Fg) (a:Addr):It :=
 ⟨λ i H=>∃ xs x,SqL K H a xs/\xs[i]?=some x,λ i H x H'=>H'=H/\∀ xs,SqL K H a xs->xs[i]?=some x,λ i H=>∃ xs,SqL K H a xs/\xs.length<=i⟩
def Itt (K:Fg) (a:Addr):It :=
 ⟨λ i H=>∃ xs x,SqT K H a xs/\xs[i]?=some x,λ i H x H'=>H'=H/\∀ xs,SqT K H a xs->xs[i]?=some x,λ i H=>∃ xs,SqT K H a xs/\xs.length<=i⟩
def Itr (lo:Int) (n:Nat):It:=⟨λ i _=>i < n,λ i H x H'=>H'=H/\x=.int (lo+i),λ i _=>n<=i⟩
theorem turn_list {P:Program} {w:World} {K:Fg} {tg:Expr} (a it:Addr):Turn P w K tg (Itl K a) [it] it (λ i h=>h.IsListIter it a i) where
 mem:=by simp
 obj:=λ i h st b hb=>by
  have e:b=it:=by simpa using hb
  subst e
  obtain ⟨o,e,c,d⟩:=st
  exact ⟨o,e,λ v z=>by rw [d] at z;cases z⟩
 keep:=λ i h h' st k=>st.at λ o e=>k it (by simp) o e
 item:=by
  intro X hP hw hK hc i pins s σ H E I hf st hg
  subst hP hw hK
  obtain ⟨xs,x,hq,hx⟩:=hg
  obtain ⟨its,rv,p,hz⟩:=I.list hq
  obtain ⟨u,hu,ru⟩:=rv.get hx
  obtain ⟨f0,f1,f2,f3,f4,f5⟩:=hf it (by simp)
  refine wpAny_pyNext_list_item st p.isList (x:=u) (by simpa using hu) λ h' st' sb=>?_
  have I1:Inv X pins σ H { s with heap:=h' }:=I.turned (t':=s.toks) (λ b o hb e=>(sb.2 b hb).trans e) f0 f1 f3 f4 f5
  obtain ⟨o,e,c,d⟩:=id st'
  exact ⟨u,rfl,go_of (s:={ s with heap:=h' }) e c d (by decide) ⟨x,H,I1,ru,⟨rfl,λ ys hy=>by rw [I.list_inj hy hq];exact hx⟩,st',λ b hb=>(hf b hb).1⟩⟩
 done:=by
  intro X hP hw hK hc i pins s σ H E I hf st hg
  subst hP hw hK
  obtain ⟨xs,hq,hx⟩:=hg
  obtain ⟨its,rv,p,hz⟩:=I.list hq
  obtain ⟨f0,f1,f2,f3,f4,f5⟩:=hf it (by simp)
  have hl:=rv.length
  exact wpAny_pyNext_list_end (I.ok.hd hc) st p.isList (by simp;lia) λ h' eb=>⟨rfl,I.turned (t':=s.toks) (λ b o hb e=>eb b o hb e) f0 f1 f3 f4 f5⟩
 self:=λ _ _ _ _ _ st h=>wpAny_pyIter_listiter st h
theorem turn_tuple {P:Program} {w:World} {K:Fg} {tg:Expr} (a it:Addr):Turn P w K tg (Itt K a) [it] it (λ i h=>h.IsTupleIter it a i) where
 mem:=by simp
 obj:=λ i h st b hb=>by
  have e:b=it:=by simpa using hb
  subst e
  obtain ⟨o,e,c,d⟩:=st
  exact ⟨o,e,λ v z=>by rw [d] at z;cases z⟩
 keep:=λ i h h' st k=>st.at λ o e=>k it (by simp) o e
 item:=by
  intro X hP hw hK hc i pins s σ H E I hf st hg
  subst hP hw hK
  obtain ⟨xs,x,hq,hx⟩:=hg
  obtain ⟨its,rv,p,hz⟩:=I.tuple hq
  obtain ⟨u,hu,ru⟩:=rv.get hx
  obtain ⟨f0,f1,f2,f3,f4,f5⟩:=hf it (by simp)
  refine wpAny_pyNext_tuple_item st (show s.heap.IsTuple a its.toArray from p) (x:=u) (by simpa using hu) λ h' st' sb=>?_
  have I1:Inv X pins σ H { s with heap:=h' }:=I.turned (t':=s.toks) (λ b o hb e=>(sb.2 b hb).trans e) f0 f1 f3 f4 f5
  obtain ⟨o,e,c,d⟩:=id st'
  exact ⟨u,rfl,go_of (s:={ s with heap:=h' }) e c d (by decide) ⟨x,H,I1,ru,⟨rfl,λ ys hy=>by rw [I.tuple_inj hy hq];exact hx⟩,st',λ b hb=>(hf b hb).1⟩⟩
 done:=by
  intro X hP hw hK hc i pins s σ H E I hf st hg
  subst hP hw hK
  obtain ⟨xs,hq,hx⟩:=hg
  obtain ⟨its,rv,p,hz⟩:=I.tuple hq
  obtain ⟨f0,f1,f2,f3,f4,f5⟩:=hf it (by simp)
  have hl:=rv.length
  exact wpAny_pyNext_tuple_end (I.ok.hd hc) st (show s.heap.IsTuple a its.toArray from p) (by simp;lia) λ h' eb=>⟨rfl,I.turned (t':=s.toks) (λ b o hb e=>eb b o hb e) f0 f1 f3 f4 f5⟩
 self:=λ _ _ _ _ _ st h=>wpAny_pyIter_tupleiter st h
theorem turn_range {P:Program} {w:World} {K:Fg} {tg:Expr} (it:Addr) (lo:Int) (n:Nat):Turn P w K tg (Itr lo n) [it] it (λ i h=>IsRangeIter h it (lo+(i:Nat) * 1) ((n:Int) - (i:Nat)) 1) where
 mem:=by simp
 obj:=λ i h st b hb=>by
  have e:b=it:=by simpa using hb
  subst e
  exact ⟨_,st,λ v z=>by
   have z':Data.fields _=Data.cell v:=z
   cases z'⟩
 keep:=λ i h h' st k=>k it (by simp) _ st
 item:=by
  intro X hP hw hK hc i pins s σ H E I hf st hg
  subst hP hw hK
  obtain ⟨f0,f1,f2,f3,f4,f5⟩:=hf it (by simp)
  have W:=Walks.range (prog:=X.prog) (w:=X.w) (I.ok.hd hc) it lo 1 n
  refine W.item i s _ _ hg st λ v h' tk hv st' kk=>?_
  obtain ⟨t,rfl⟩:=hv
  have I1:Inv X pins σ H { s with heap:=h',toks:=tk }:=I.turned (λ b o hb e=>kk b o (by simpa using hb) e) f0 f1 f3 f4 f5
  refine ⟨_,rfl,go_of (s:={ s with heap:=h',toks:=tk }) (n := "range_iterator") st' rfl rfl (by decide) ⟨.int (lo+i),H,I1,⟨t,?_⟩,⟨rfl,rfl⟩,st',λ b hb=>(hf b hb).1⟩⟩
  rw [Int.mul_one]
 done:=by
  intro X hP hw hK hc i pins s σ H E I hf st hg
  subst hP hw hK
  obtain ⟨f0,f1,f2,f3,f4,f5⟩:=hf it (by simp)
  exact wpAny_pyNext_range_end (I.ok.hd hc) st (by have:n<=i:=hg;lia) λ h' eb=>⟨rfl,I.turned (t':=s.toks) (λ b o hb e=>eb b o hb e) f0 f1 f3 f4 f5⟩
 self:=λ _ _ _ _ _ st h=>wpAny_pyIter_rangeiter st h
section
variable {X:Cx} {tg:Expr}
theorem range_it {pins:List (Addr×Obj)} {σ:St} {H:Hp} {s:Shared} {R:It->Hp->Prop} {E:Value->Shared->Prop} {lo hi:Int} {t u v:Tok} {tk:Nat} (I:Inv X pins σ H s) (h1:-(2 ^ 62)<=lo) (h2:lo < 2 ^ 62) (h3:-(2 ^ 62)<=hi) (h4:hi < 2 ^ 62)
  (q:R (Itr lo (hi - lo).toNat) H):wpAny (model X.prog X.w) X.A (pyIter (.ref s.heap.objs.size)) (PIE X pins σ tg R) E { s with heap:=s.heap.push { cls:=.type "range",data:=.fields #[.int lo t,.int hi u,.int 1 v] },toks:=tk }:=by
 refine wpAny_pyIter_range (IsRange.new ..) (small_one h1 h2 h3 h4) ?_
 have I1:Inv X pins σ H { s with heap:=s.heap.push { cls:=.type "range",data:=.fields #[.int lo t,.int hi u,.int 1 v] },toks:=tk }:=I.kept λ b o e=>Heap.get?_push_of_some _ e
 refine ⟨(s.heap.push { cls:=.type "range",data:=.fields #[.int lo t,.int hi u,.int 1 v] }).objs.size,[(s.heap.push { cls:=.type "range",data:=.fields #[.int lo t,.int hi u,.int 1 v] }).objs.size],_,_,H,rfl,
  I1.kept (t':=tk) λ b o e=>Heap.get?_push_of_some _ e,turn_range _ lo (hi - lo).toNat,?_,λ b hb=>?_,q⟩
 ·have e1:lo+((0:Nat):Int) * 1=lo:=by simp
  have e2:(((hi - lo).toNat:Nat):Int) - ((0:Nat):Int)=Builtin.Range.rangeSize lo hi 1:=by rw [rangeSize_one];split <;> lia
  show IsRangeIter _ _ (lo+((0:Nat):Int) * 1) ((((hi - lo).toNat:Nat):Int) - ((0:Nat):Int)) 1
  rw [e1,e2]
  exact Heap.get?_push_size _ rfl
 ·have e:b=(s.heap.push { cls:=.type "range",data:=.fields #[.int lo t,.int hi u,.int 1 v] }).objs.size:=by simpa using hb
  subst e
  exact I1.fpOk (Nat.le_refl _) (I1.hok.fresh (Nat.le_refl _))
def iRng1 (ta:TA):TI:=λ σ H R=>ta σ H λ vs H1=>∃ j:Int,vs=[.int j]/\-(2 ^ 62)<=j/\j < 2 ^ 62/\R (Itr 0 j.toNat) H1
def iRng2 (ta:TA):TI:=λ σ H R=>ta σ H λ vs H1=>∃ i j:Int,vs=[.int i,.int j]/\(-(2 ^ 62)<=i/\i < 2 ^ 62/\-(2 ^ 62)<=j/\j < 2 ^ 62)/\R (Itr i (j - i).toNat) H1
theorem pi_range1 {a:Expr} {ta:TA} {p pos:Pos} (hg:Gl X "range") (hm:X.mg "range"=none) (ha:PA X [a] ta) (hs:starEach [a] X.env=[(false,eval a X.env)]:=by rfl):PI X tg (.Call (.Name "range" p) [a] [] pos) (iRng1 ta):=by
 intro pins s σ H R I h
 refine Call_ (ld_blt I hg hm boot_range (PyProof.Rows.callWith_type1 (thn (ha pos pins s σ H _ I h) λ us s1 ⟨vs,H1,I1,r1,q1⟩=>?_) hs rfl))
 obtain ⟨j,e,q1,q2,q⟩:=q1
 subst e
 cases r1 with
|cons r rr =>
  cases rr
  obtain ⟨t,rfl⟩:=r
  exact call_range_1 (range_it I1 (by lia) (by lia) q1 q2 (by simpa using q))
theorem pi_range2 {a b:Expr} {ta:TA} {p pos:Pos} (hg:Gl X "range") (hm:X.mg "range"=none) (ha:PA X [a,b] ta) (hs:starEach [a,b] X.env=[(false,eval a X.env),(false,eval b X.env)]:=by rfl) (hs2:starEach [b] X.env=[(false,eval b X.env)]:=by rfl) :
  PI X tg (.Call (.Name "range" p) [a,b] [] pos) (iRng2 ta):=by
 intro pins s σ H R I h
 refine Call_ (ld_blt I hg hm boot_range (PyProof.Rows.callWith_type1 (thn (ha pos pins s σ H _ I h) λ us s1 ⟨vs,H1,I1,r1,q1⟩=>?_) (by rw [hs,hs2]) (by rw [hs2];rfl)))
 obtain ⟨i,j,e,⟨q1,q2,q3,q4⟩,q⟩:=q1
 subst e
 cases r1 with
|cons r rr =>
  cases rr with
 |cons r' rr =>
   cases rr
   obtain ⟨t,rfl⟩:=r
   obtain ⟨t',rfl⟩:=r'
   exact call_range_2 (range_it I1 q1 q2 q3 q4 q)
def tFor (wi:TI) (g:TG) (tb:TS):TS:=λ D σ H=>wi σ H λ J H1=>∃ W:Nat->Nat->St->Hp->Prop,(∃ m,W 0 m σ H1)/\∀ i m σ H,W i m σ H ->
 (J.stop i H/\D.nx σ H) \/ (J.go i H/\∃ N:St->Hp->Prop,(∀ σ' H',N σ' H'->∃ m',m' < m/\W (i+1) m' σ' H')/\∀ x H',J.yld i H x H'->g x σ H' λ σ2 H2=>tb { D with nx:=N,ct:=N,bk:=D.nx } σ2 H2)
def pinsAt (fp:List Addr) (h:Heap):List (Addr×Obj):=fp.filterMap λ b=>(h.get? b).map λ o=>(b,o)
theorem mem_pinsAt {fp:List Addr} {h:Heap} {b:Addr} {o:Obj} (hb:b∈fp) (e:h.get? b=some o):(b,o)∈pinsAt fp h:=List.mem_filterMap.mpr ⟨b,hb,by rw [e];rfl⟩
theorem of_pinsAt {fp:List Addr} {h:Heap} {p:Addr×Obj} (hp:p∈pinsAt fp h):p.1∈fp/\h.get? p.1=some p.2:=by
 obtain ⟨b,hb,e⟩:=List.mem_filterMap.mp hp
 cases q:h.get? b with
|none=>rw [q] at e;cases e
|some o =>
  rw [q] at e
  have e':(b,o)=p:=Option.some.inj e
  subst e'
  exact ⟨hb,q⟩
theorem Inv.pinned {pins:List (Addr×Obj)} {σ:St} {H:Hp} {s:Shared} {fp:List Addr} (I:Inv X pins σ H s) (hf:∀ b∈fp,FpOk X pins H b) (ho:∀ b∈fp,∃ o,s.heap.get? b=some o/\∀ v,o.data≠.cell v):Inv X (pins++pinsAt fp s.heap) σ H s :=
 I.pins_of λ p hp=>(List.mem_append.mp hp).elim (λ z=>I.pin p (List.mem_append_right _ z)) λ z=>by
  obtain ⟨hb,e⟩:=of_pinsAt z
  obtain ⟨f0,f1,f2,_⟩:=hf p.1 hb
  obtain ⟨o,e',d⟩:=ho p.1 hb
  rw [e] at e';cases e'
  exact ⟨e,f0,f1,f2,d⟩
theorem Inv.unpinned {pins pl:List (Addr×Obj)} {σ:St} {H:Hp} {s:Shared} (I:Inv X (pins++pl) σ H s):Inv X pins σ H s:=I.pins_of λ p hp=>I.pin p (List.mem_append_right _ (List.mem_append_left _ hp))
theorem ps_for {iter:Expr} {body:List Stmt} {wi:TI} {g:TG} {tb:TS} {pos:Pos} (hp:PassesOwn (model X.prog X.w) X.A X.env X.xe) (hc:X.calm=true) (hi:PI X tg iter wi) (hg:PG X tg g) (hb:PSs X body tb)
  (hs:∀ x,foldedSetIterable iter X.env x=pure x:=by intro _;rfl):PS X (.For tg iter body [] pos) (tFor wi g tb):=by
 intro pins s σ H D I h
 refine wpAny_For (thn (hi pins s σ H _ I h) λ v s1 h1=>thn h1 λ itv s2 h2=>?_) hs
 obtain ⟨it,fp,tn,J,H2,e,I2,T,st2,f2,W,⟨m0,w0⟩,turn⟩:=h2
 subst e
 -- what stays true of the iterator's objects through the loop
 have stat:∀ {H':Hp},(∀ b∈fp,H' b=none)->∀ b∈fp,FpOk X pins H' b:=λ hn b hb=>⟨hn b hb,(f2 b hb).2⟩
 refine codeAny_forLoop_any (λ n s'=>∃ i σ' H',Inv X pins σ' H' s'/\tn i s'.heap/\(∀ b∈fp,H' b=none)/\W i n σ' H') ?_ m0 ⟨0,σ,H2,I2,st2,λ b hb=>(f2 b hb).1,w0⟩
 rintro n s3 ⟨i,σ3,H3,I3,st3,fr3,w3⟩
 rcases turn i n σ3 H3 w3 with ⟨stop,qn⟩|⟨go,N,hN,step⟩
 ·refine wpAny_passesOwn hp (thn (T.done X rfl rfl rfl hc i pins s3 σ3 H3 X.xe I3 (stat fr3) st3 stop) λ r s4 ⟨hr,I4⟩=>?_)
  subst hr
  exact wpAny_execs_nil ⟨σ3,H3,I4,qn⟩
 ·refine wpAny_passesOwn hp (thn (T.item X rfl rfl rfl hc i pins s3 σ3 H3 X.xe I3 (stat fr3) st3 go) λ r s4 ⟨u,hr,h4⟩=>?_)
  subst hr
  refine wpAny_passesOwn hp (thn h4 λ _ s5 ⟨x,H5,I5,r5,y5,st5,fr5⟩=>?_)
  have I5':=I5.pinned (stat fr5) (T.obj _ _ st5)
  refine wpAny_passesOwn hp (thn (hg _ s5 σ3 H5 x u _ I5' r5 (step x H5 y5)) λ _ s6 ⟨σ6,H6,I6,q6⟩=>?_)
  refine wpAny_passesOwn hp (thn (hb _ s6 σ6 H6 _ I6 q6) λ f s7 q7=>?_)
  have again:∀ {σ7:St} {H7:Hp},Inv X (pins++pinsAt fp s5.heap) σ7 H7 s7->N σ7 H7->∃ m,m < n/\∃ i σ' H',Inv X pins σ' H' s7/\tn i s7.heap/\(∀ b∈fp,H' b=none)/\W i m σ' H':=λ {σ7 H7} I7 n7=>by
   obtain ⟨m',hm,w7⟩:=hN σ7 H7 n7
   refine ⟨m',hm,i+1,σ7,H7,I7.unpinned,T.keep _ _ _ st5 λ b hb o e=>(I7.pin (b,o) (List.mem_append_right _ (List.mem_append_right _ (mem_pinsAt hb e)))).1,λ b hb=>?_,w7⟩
   obtain ⟨o,e,d⟩:=T.obj _ _ st5 b hb
   exact (I7.pin (b,o) (List.mem_append_right _ (List.mem_append_right _ (mem_pinsAt hb e)))).2.1
  cases f with
 |next=>obtain ⟨σ7,H7,I7,n7⟩:=q7;exact again I7 n7
 |cont=>obtain ⟨σ7,H7,I7,n7⟩:=q7;exact again I7 n7
 |brk=>obtain ⟨σ7,H7,I7,q7⟩:=q7;exact ⟨σ7,H7,I7.unpinned,q7⟩
 |ret v=>obtain ⟨x7,σ7,H7,I7,r7,q7⟩:=q7;exact ⟨x7,σ7,H7,I7.unpinned,r7,q7⟩
end
abbrev R2:=V->V->Hp->VK->Prop
def OpR (X:Cx) (f:Value->Value->Sem Value) (r:R2):Prop :=
 ∀ (pins:List (Addr×Obj)) (s:Shared) (σ:St) (H:Hp) (x y:V) (v u:Value) (Q:VK),Inv X pins σ H s->RelV x v->RelV y u->r x y H Q ->
  wpAny (model X.prog X.w) X.A (f v u) (EP X pins σ Q) X.xe s
def CallR (X:Cx) (f:Value) (r:List V->Hp->VK->Prop):Prop :=
 ∀ (pins:List (Addr×Obj)) (s:Shared) (σ:St) (H:Hp) (xs:List V) (us:List Value) (Q:VK),Inv X pins σ H s->Vals xs us->r xs H Q ->
  wpAny (model X.prog X.w) X.A (call f us) (EP X pins σ Q) X.xe s
def TruR (X:Cx) (r:V->Hp->(Bool->Hp->Prop)->Prop):Prop :=
 ∀ (pins:List (Addr×Obj)) (s:Shared) (σ:St) (H:Hp) (x:V) (v:Value) (Q:Bool->Hp->Prop),Inv X pins σ H s->RelV x v->r x H Q ->
  wpAny (model X.prog X.w) X.A (truthy v) (TP X pins σ Q) X.xe s
def tOp (r:R2) (ta tb:TE):TE:=λ σ H Q=>ta σ H λ x H1=>tb σ H1 λ y H2=>r x y H2 Q
def rI (C:Int->Int->Prop) (g:Int->Int->V):R2:=λ x y H Q=>∃ i j,x=.int i/\y=.int j/\C i j/\Q (g i j) H
def rI0 (g:Int->Int->V):R2:=λ x y H Q=>∃ i j,x=.int i/\y=.int j/\Q (g i j) H
section
variable {X:Cx} {a b c:Expr} {ta tb tc:TE} {pos:Pos}
theorem binT (ha:PE X a ta) (hb:PE X b tb) {pins:List (Addr×Obj)} {s:Shared} {σ:St} {H:Hp} {R:V->V->Hp->Prop} (I:Inv X pins σ H s)
  (h:ta σ H λ x H1=>tb σ H1 λ y H2=>R x y H2) {Q:Value->Shared->Prop} {f:Value->Value->Sem Value}
  (hf:∀ v u s2 x y H2,Inv X pins σ H2 s2->RelV x v->RelV y u->R x y H2->wpAny (model X.prog X.w) X.A (f v u) Q X.xe s2) :
  wpAny (model X.prog X.w) X.A (eval a X.env) (λ v s₁=>wpAny (model X.prog X.w) X.A (eval b X.env) (λ u s₂=>wpAny (model X.prog X.w) X.A (f v u) Q X.xe s₂) X.xe s₁) X.xe s:=by
 refine thn (ha pins s σ H _ I h) λ v s1 ⟨x,H1,I1,r1,q1⟩=>?_
 refine thn (hb pins s1 σ H1 _ I1 q1) λ u s2 ⟨y,H2,I2,r2,q2⟩=>?_
 exact hf v u s2 x y H2 I2 r1 r2 q2
theorem pe_op {op:Operator} {r:R2} (ho:OpR X (binaryOp op) r) (ha:PE X a ta) (hb:PE X b tb):PE X (.BinOp a op b pos) (tOp r ta tb):=by
 intro pins s σ H Q I h
 exact wpAny_BinOp (binT ha hb I h λ v u s2 x y H2 I2 rx ry q=>ho pins s2 σ H2 x y v u Q I2 rx ry q)
theorem opI {f:Value->Value->Sem Value} {C:Int->Int->Prop} {g:Int->Int->Int}
  (rule:∀ (i j:Int) (t u:Tok) (s:Shared) (Q:Value->Shared->Prop) (E:Value->Shared->Prop),C i j->Q (.int (g i j) s.toks) { s with toks:=s.toks+1 }->wpAny (model X.prog X.w) X.A (f (.int i t) (.int j u)) Q E s) :
  OpR X f (rI C λ i j=>.int (g i j)):=by
 intro pins s σ H x y v u Q I rx ry h
 obtain ⟨i,j,rfl,rfl,hc,q⟩:=h
 obtain ⟨t,rfl⟩:=rx
 obtain ⟨t',rfl⟩:=ry
 exact rule i j t t' s _ _ hc ⟨.int (g i j),H,I.tok _,⟨_,rfl⟩,q⟩
theorem opI0 {f:Value->Value->Sem Value} {g:Int->Int->Int}
  (rule:∀ (i j:Int) (t u:Tok) (s:Shared) (Q:Value->Shared->Prop) (E:Value->Shared->Prop),Q (.int (g i j) s.toks) { s with toks:=s.toks+1 }->wpAny (model X.prog X.w) X.A (f (.int i t) (.int j u)) Q E s) :
  OpR X f (rI0 λ i j=>.int (g i j)):=by
 intro pins s σ H x y v u Q I rx ry h
 obtain ⟨i,j,rfl,rfl,q⟩:=h
 obtain ⟨t,rfl⟩:=rx
 obtain ⟨t',rfl⟩:=ry
 exact rule i j t t' s _ _ ⟨.int (g i j),H,I.tok _,⟨_,rfl⟩,q⟩
theorem opB0 {f:Value->Value->Sem Value} {g:Int->Int->Bool}
  (rule:∀ (i j:Int) (t u:Tok) (s:Shared) (Q:Value->Shared->Prop) (E:Value->Shared->Prop),Q (.bool (g i j)) s->wpAny (model X.prog X.w) X.A (f (.int i t) (.int j u)) Q E s) :
  OpR X f (rI0 λ i j=>.bl (g i j)):=by
 intro pins s σ H x y v u Q I rx ry h
 obtain ⟨i,j,rfl,rfl,q⟩:=h
 obtain ⟨t,rfl⟩:=rx
 obtain ⟨t',rfl⟩:=ry
 exact rule i j t t' s _ _ ⟨.bl (g i j),H,I,rfl,q⟩
def CPow (i j:Int):Prop:=0<=j/\j<=1000000/\i.natAbs < 2 ^ 64
def CMul (i j:Int):Prop:=(-(2 ^ 64) < i/\i < 2 ^ 64) \/ (-(2 ^ 64) < j/\j < 2 ^ 64)
theorem CMul.ok {i j:Int} (h:CMul i j):IntMulOk i j:=by
 rcases h with ⟨h1,h2⟩|⟨h1,h2⟩
 ·exact .of_left (intBits_le_64 h1 h2)
 ·exact .of_right (intBits_le_64 h1 h2)
theorem op_add:OpR X (binaryOp .Add) (rI0 λ i j=>.int (i+j)):=opI0 λ _ _ _ _ _ _ _ q=>add_int q
theorem op_sub:OpR X (binaryOp .Sub) (rI0 λ i j=>.int (i - j)):=opI0 λ _ _ _ _ _ _ _ q=>sub_int q
theorem op_mul:OpR X (binaryOp .Mult) (rI CMul λ i j=>.int (i * j)):=opI λ _ _ _ _ _ _ _ hc q=>mul_int q hc.ok
theorem op_mod:OpR X (binaryOp .Mod) (rI (λ _ j=>0 < j) λ i j=>.int (i % j)):=opI λ i j _ _ _ _ _ hc q=>by
 have h1:(0:Int) < j:=hc
 exact mod_int' (by lia) (by rw [Int.fmod_eq_emod_of_nonneg i (by lia)];exact q)
theorem op_pow:OpR X (binaryOp .Pow) (rI CPow λ i j=>.int (i ^ j.toNat)):=opI λ _ _ _ _ _ _ _ hc q=>pow_int_small hc.1 hc.2.1 hc.2.2 q
end
def scal:V->V->Bool
|.non,.non=>true|.non,.int _=>true|.int _,.non=>true|.non,.bl _=>true|.bl _,.non=>true|.non,.str _=>true|.str _,.non=>true
|.int _,.int _=>true|.bl _,.bl _=>true|.str _,.str _=>true|.byt _,.byt _=>true
|.int _,.str _=>true|.str _,.int _=>true|.bl _,.str _=>true|.str _,.bl _=>true
|_,_=>false
def rEq:R2:=λ x y H Q=>scal x y=true/\Q (.bl (decide (x=y))) H
def rNe:R2:=λ x y H Q=>scal x y=true/\Q (.bl (!decide (x=y))) H
theorem dec_int {i j:Int}:decide (V.int i=V.int j)=(i == j):=by
 rw [Bool.eq_iff_iff]
 simp
theorem dec_bl {i j:Bool}:decide (V.bl i=V.bl j)=(i == j):=by
 rw [Bool.eq_iff_iff]
 simp
theorem dec_str {i j:Str}:decide (V.str i=V.str j)=(i == j):=by
 rw [Bool.eq_iff_iff]
 simp
theorem dec_byt {i j:Array UInt8}:decide (V.byt i=V.byt j)=(i.toList == j.toList):=by
 rw [Bool.eq_iff_iff]
 cases i
 cases j
 simp
section
variable {X:Cx} {a b c:Expr} {ta tb tc:TE} {pos:Pos}
theorem fin_bl {pins:List (Addr×Obj)} {σ:St} {H:Hp} {s:Shared} {Q:VK} {k k':Bool} (I:Inv X pins σ H s) (q:Q (.bl k) H) (e:k=k'):EP X pins σ Q (.bool k') s:=by
 subst e
 exact ⟨.bl k,H,I,rfl,q⟩
theorem op_eq:OpR X (compareOp .Eq) rEq:=by
 intro pins s σ H x y v u Q I rx ry h
 obtain ⟨hs,q⟩:=h
 cases x with
|non =>
  cases rx
  cases y with
 |non=>cases ry;exact PySem.EqNone.eq_none_none (fin_bl I q (by simp))
 |bl j=>cases ry;exact PySem.EqNone.eq_none_bool (fin_bl I q (by simp))
 |int j=>obtain ⟨t',rfl⟩:=ry;exact PySem.EqNone.eq_none_int (fin_bl I q (by simp))
 |str j=>obtain ⟨t',rfl⟩:=ry;exact PySem.EqNone.eq_none_str (fin_bl I q (by simp))
 |_=>exact absurd (show false=true from hs) Bool.false_ne_true
|bl i =>
  cases rx
  cases y with
 |non=>cases ry;exact PySem.EqNone.eq_bool_none (fin_bl I q (by simp))
 |bl j=>cases ry;exact eq_bool (fin_bl I q dec_bl)
 |str j=>obtain ⟨t',rfl⟩:=ry;exact PySem.EqMixed.eq_bool_str (fin_bl I q (by simp))
 |_=>exact absurd (show false=true from hs) Bool.false_ne_true
|int i =>
  obtain ⟨t,rfl⟩:=rx
  cases y with
 |non=>cases ry;exact PySem.EqNone.eq_int_none (fin_bl I q (by simp))
 |int j=>obtain ⟨t',rfl⟩:=ry;exact eq_int (fin_bl I q dec_int)
 |str j=>obtain ⟨t',rfl⟩:=ry;exact PySem.EqMixed.eq_int_str (fin_bl I q (by simp))
 |_=>exact absurd (show false=true from hs) Bool.false_ne_true
|str i =>
  obtain ⟨t,rfl⟩:=rx
  cases y with
 |non=>cases ry;exact PySem.EqNone.eq_str_none (fin_bl I q (by simp))
 |bl j=>cases ry;exact PySem.EqMixed.eq_str_bool (fin_bl I q (by simp))
 |int j=>obtain ⟨t',rfl⟩:=ry;exact PySem.EqMixed.eq_str_int (fin_bl I q (by simp))
 |str j=>obtain ⟨t',rfl⟩:=ry;exact eq_str (fin_bl I q dec_str)
 |_=>exact absurd (show false=true from hs) Bool.false_ne_true
|byt i =>
  obtain ⟨t,rfl⟩:=rx
  cases y with
 |byt j=>obtain ⟨t',rfl⟩:=ry;exact PySem.W.eq_bytes (fin_bl I q dec_byt)
 |_=>exact absurd (show false=true from hs) Bool.false_ne_true
|_=>cases y <;> exact absurd (show false=true from hs) Bool.false_ne_true
theorem op_ne:OpR X (compareOp .NotEq) rNe:=by
 intro pins s σ H x y v u Q I rx ry h
 obtain ⟨hs,q⟩:=h
 cases x with
|non =>
  cases rx
  cases y with
 |non=>cases ry;exact PySem.EqNone.ne_none_none (fin_bl I q (by simp))
 |bl j=>cases ry;exact PySem.EqNone.ne_none_bool (fin_bl I q (by simp))
 |int j=>obtain ⟨t',rfl⟩:=ry;exact PySem.EqNone.ne_none_int (fin_bl I q (by simp))
 |str j=>obtain ⟨t',rfl⟩:=ry;exact PySem.EqNone.ne_none_str (fin_bl I q (by simp))
 |_=>exact absurd (show false=true from hs) Bool.false_ne_true
|bl i =>
  cases rx
  cases y with
 |non=>cases ry;exact PySem.EqNone.ne_bool_none (fin_bl I q (by simp))
 |bl j=>cases ry;exact ne_bool (fin_bl I q (congrArg not dec_bl))
 |str j=>obtain ⟨t',rfl⟩:=ry;exact PySem.EqMixed.ne_bool_str (fin_bl I q (by simp))
 |_=>exact absurd (show false=true from hs) Bool.false_ne_true
|int i =>
  obtain ⟨t,rfl⟩:=rx
  cases y with
 |non=>cases ry;exact PySem.EqNone.ne_int_none (fin_bl I q (by simp))
 |int j=>obtain ⟨t',rfl⟩:=ry;exact ne_int (fin_bl I q (congrArg not dec_int))
 |str j=>obtain ⟨t',rfl⟩:=ry;exact PySem.EqMixed.ne_int_str (fin_bl I q (by simp))
 |_=>exact absurd (show false=true from hs) Bool.false_ne_true
|str i =>
  obtain ⟨t,rfl⟩:=rx
  cases y with
 |non=>cases ry;exact PySem.EqNone.ne_str_none (fin_bl I q (by simp))
 |bl j=>cases ry;exact PySem.EqMixed.ne_str_bool (fin_bl I q (by simp))
 |int j=>obtain ⟨t',rfl⟩:=ry;exact PySem.EqMixed.ne_str_int (fin_bl I q (by simp))
 |str j=>obtain ⟨t',rfl⟩:=ry;exact ne_str (fin_bl I q (congrArg not dec_str))
 |_=>exact absurd (show false=true from hs) Bool.false_ne_true
|byt i =>
  obtain ⟨t,rfl⟩:=rx
  cases y with
 |byt j=>obtain ⟨t',rfl⟩:=ry;exact PySem.W.ne_bytes (fin_bl I q (congrArg not dec_byt))
 |_=>exact absurd (show false=true from hs) Bool.false_ne_true
|_=>cases y <;> exact absurd (show false=true from hs) Bool.false_ne_true
theorem op_lt:OpR X (compareOp .Lt) (rI0 λ i j=>.bl (decide (i < j))):=opB0 λ _ _ _ _ _ _ _ q=>lt_int q
theorem op_ge:OpR X (compareOp .GtE) (rI0 λ i j=>.bl (decide (j<=i))):=opB0 λ _ _ _ _ _ _ _ q=>ge_int q
theorem op_in_str:OpR X (compareOp .In) (λ x y H Q=>∃ i j,x=.str i/\y=.str j/\Q (.bl (!(Builtin.Str.occurrences j i 0 j.length 1).isEmpty)) H):=by
 intro pins s σ H x y v u Q I rx ry h
 obtain ⟨i,j,rfl,rfl,q⟩:=h
 obtain ⟨t,rfl⟩:=rx
 obtain ⟨t',rfl⟩:=ry
 exact in_str (fin_bl I q rfl)
theorem OpR.or {f:Value->Value->Sem Value} {r r':R2} (h:OpR X f r) (h':OpR X f r'):OpR X f (λ x y H Q=>r x y H Q \/ r' x y H Q):=by
 intro pins s σ H x y v u Q I rx ry q
 rcases q with q|q
 ·exact h pins s σ H x y v u Q I rx ry q
 ·exact h' pins s σ H x y v u Q I rx ry q
theorem nomark (b:Expr) {op:CmpOp} (h:op≠.In:=by decide) (h2:op≠.NotIn:=by decide):behindInMarks op b=false:=by
 have e1:(op == CmpOp.In)=false:=by cases op <;> first|rfl|exact absurd rfl h
 have e2:(op == CmpOp.NotIn)=false:=by cases op <;> first|rfl|exact absurd rfl h2
 cases b <;> simp [behindInMarks,e1,e2]
theorem pe_cmpR {op:CmpOp} {r:R2} (ho:OpR X (compareOp op) r) (ha:PE X a ta) (hb:PE X b tb) (hm:behindInMarks op b=false):PE X (.Compare a [op] [b] pos) (tOp r ta tb):=by
 intro pins s σ H Q I h
 exact wpAny_Compare1 (binT ha hb I h λ v u s2 x y H2 I2 rx ry q=>ho pins s2 σ H2 x y v u Q I2 rx ry q) hm
def tTest (t:TE):TT:=λ σ H Q=>t σ H λ x H'=>∃ k,x=.bl k/\Q k H'
theorem pt_cmpR {op:CmpOp} {r:R2} (ho:OpR X (compareOp op) r) (ha:PE X a ta) (hb:PE X b tb) (hm:behindInMarks op b=false):PT X (.Compare a [op] [b] pos) (tTest (tOp r ta tb)):=by
 intro pins s σ H Q I h
 refine wpAny_isTrue_Compare1 (thn (ha pins s σ H _ I h) λ v s1 ⟨x,H1,I1,r1,q1⟩=>thn (hb pins s1 σ H1 _ I1 q1) λ u s2 ⟨y,H2,I2,r2,q2⟩ =>
  thn (ho pins s2 σ H2 x y v u _ I2 r1 r2 q2) λ c s3 ⟨z,H3,I3,r3,k,e,q3⟩=>?_) hm
 subst e
 cases r3
 exact wpAny_truthy_bool ⟨H3,I3,q3⟩
def TruV (K:Fg) (x:V) (H:Hp) (k:Bool):Prop :=
 match x with
|.non=>k=false
|.bl b=>k=b
|.int i=>k=(i != 0)
|.str y=>y.length<=sizeLine/\k=((y.length:Int) != 0)
|.byt y=>y.size<=sizeLine/\k=((y.size:Int) != 0)
|.ref p=>(∃ xs,SqL K H p xs/\k=!xs.isEmpty) \/ (∃ xs,SqT K H p xs/\k=!xs.isEmpty) \/ ∃ kvs,H p=some (.dK kvs)/\k=!kvs.isEmpty
|_=>False
theorem isEmpty_kv {κ:Type} {kvs:List (κ×V)} {vs:List (κ×Value)} (r:KV kvs vs):(!vs.isEmpty)=!kvs.isEmpty:=by
 cases r <;> rfl
theorem isEmpty_of {xs:List V} {its:List Value} (r:Vals xs its):(!its.toArray.isEmpty)=!xs.isEmpty:=by
 cases r <;> simp
theorem line63:(sizeLine:Nat) < 2 ^ 63:=by rw [sizeLine_eq];decide
theorem tru_ok:TruR X (λ x H Q=>∃ k,TruV X.K x H k/\Q k H):=by
 intro pins s σ H x v Q I rx h
 obtain ⟨k,e,q⟩:=h
 have hl:=line63
 have hs:sizeLine=16777216:=sizeLine_eq
 cases x with
|non =>
  cases rx
  have e':k=false:=e
  subst e'
  exact truthy_none ⟨H,I,q⟩
|bl b =>
  cases rx
  have e':k=b:=e
  subst e'
  exact wpAny_truthy_bool ⟨H,I,q⟩
|int i =>
  obtain ⟨t,rfl⟩:=rx
  have e':k=(i != 0):=e
  subst e'
  exact PySem.P.truthy_int ⟨H,I,q⟩
|str y =>
  obtain ⟨t,rfl⟩:=rx
  obtain ⟨hy,e'⟩:y.length<=sizeLine/\k=((y.length:Int) != 0):=e
  subst e'
  exact PySem.P.truthy_str (by lia) ⟨H,I.tok _,q⟩
|byt y =>
  obtain ⟨t,rfl⟩:=rx
  obtain ⟨hy,e'⟩:y.size<=sizeLine/\k=((y.size:Int) != 0):=e
  subst e'
  exact PySem.W.truthy_bytes (by lia) ⟨H,I.tok _,q⟩
|ref p =>
  cases rx
  have e':(∃ xs,SqL X.K H p xs/\k=!xs.isEmpty) \/ (∃ xs,SqT X.K H p xs/\k=!xs.isEmpty) \/ ∃ kvs,H p=some (.dK kvs)/\k=!kvs.isEmpty:=e
  rcases e' with ⟨xs,hx,e'⟩|⟨xs,hx,e'⟩|⟨kvs,hx,e'⟩
  ·subst e'
   obtain ⟨its,r,pl,hz⟩:=I.list hx
   have hlen:=r.length
   exact wpAny_truthy_list pl.isList (by simp only [List.size_toArray];lia) ⟨H,I.tok _,by rw [isEmpty_of r];exact q⟩
  ·subst e'
   obtain ⟨its,r,pl,hz⟩:=I.tuple hx
   have hlen:=r.length
   exact truthy_tuple pl (by simp only [List.size_toArray];lia) ⟨H,I.tok _,by rw [isEmpty_of r];exact q⟩
  ·subst e'
   obtain ⟨hz,hS,vs,r,m⟩:kvs.length<=sizeLine/\(p == sysModules)=false/\∃ vs,KV kvs vs/\s.heap.DictOf (mixKind X.prog X.w) p vs:=I.hok p _ hx
   have hlen:kvs.length=vs.length:=Paired.length r
   exact wpAny_truthy_dict hS m (by lia) ⟨H,I.tok _,by rw [isEmpty_kv r];exact q⟩
|_=>exact (show False from e).elim
theorem pt_truth (ha:PE X a ta) (he:∀ whole,isTrue a X.env whole=(do let v <- whole;standAt a.pos;holding [v] (truthy v))) :
  PT X a (λ σ H Q=>ta σ H λ x H'=>∃ k,TruV X.K x H' k/\Q k H'):=by
 intro pins s σ H Q I h
 exact isTrue_plain (thn (ha pins s σ H _ I h) λ v s1 ⟨x,H1,I1,r1,q1⟩=>tru_ok pins s1 σ H1 x v Q I1 r1 q1) (he _)
theorem op_add_str:OpR X (binaryOp .Add) (λ x y H Q=>∃ i j,x=.str i/\y=.str j/\i.length+j.length<=sizeLine/\Q (.str (i++j)) H):=by
 intro pins s σ H x y v u Q I rx ry h
 obtain ⟨i,j,rfl,rfl,hz,q⟩:=h
 obtain ⟨t,rfl⟩:=rx
 obtain ⟨t',rfl⟩:=ry
 exact add_str (λ t' tk=>⟨.str (i++j),H,I.tok _,⟨_,rfl⟩,q⟩) hz
theorem vals1 {x:V} {us:List Value} (r:Vals [x] us):∃ u,us=[u]/\RelV x u:=by
 cases r with
|cons r1 r2=>cases r2;exact ⟨_,rfl,r1⟩
theorem vals2 {x y:V} {us:List Value} (r:Vals [x,y] us):∃ u w',us=[u,w']/\RelV x u/\RelV y w':=by
 cases r with
|cons r1 r2 =>
  cases r2 with
 |cons r3 r4=>cases r4;exact ⟨_,_,rfl,r1,r3⟩
theorem call_max2 (hc:X.calm=true):CallR X (.builtin "max") (λ xs H Q=>∃ i j,xs=[.int i,.int j]/\Q (.int (if j > i then j else i)) H):=by
 intro pins s σ H xs us Q I r h
 obtain ⟨i,j,rfl,q⟩:=h
 obtain ⟨u,w',rfl,⟨t,rfl⟩,⟨t',rfl⟩⟩:=vals2 r
 refine max_two_ints (I.ok.hd hc) λ h' tk k=>⟨_,H,I.kept k,?_,q⟩
 by_cases hj:j > i
 ·rw [if_pos hj,if_pos hj];exact ⟨_,rfl⟩
 ·rw [if_neg hj,if_neg hj];exact ⟨_,rfl⟩
theorem call_min2 (hc:X.calm=true):CallR X (.builtin "min") (λ xs H Q=>∃ i j,xs=[.int i,.int j]/\Q (.int (if j < i then j else i)) H):=by
 intro pins s σ H xs us Q I r h
 obtain ⟨i,j,rfl,q⟩:=h
 obtain ⟨u,w',rfl,⟨t,rfl⟩,⟨t',rfl⟩⟩:=vals2 r
 refine min_two_ints (I.ok.hd hc) λ h' tk k=>⟨_,H,I.kept k,?_,q⟩
 by_cases hj:j < i
 ·rw [if_pos hj,if_pos hj];exact ⟨_,rfl⟩
 ·rw [if_neg hj,if_neg hj];exact ⟨_,rfl⟩
def LenV (K:Fg) (x:V) (H:Hp) (n:Nat):Prop :=
 match x with
|.str y=>y.length<=sizeLine/\n=y.length
|.byt y=>y.size<=sizeLine/\n=y.size
|.ref p=>(∃ xs,SqL K H p xs/\n=xs.length) \/ ∃ xs,SqT K H p xs/\n=xs.length
|_=>False
theorem call_len:CallR X (.builtin "len") (λ xs H Q=>∃ x n,xs=[x]/\LenV X.K x H n/\Q (.int n) H):=by
 intro pins s σ H xs us Q I r h
 obtain ⟨x,n,rfl,e,q⟩:=h
 obtain ⟨u,rfl,rx⟩:=vals1 r
 have hl:=line63
 have hs:sizeLine=16777216:=sizeLine_eq
 cases x with
|str y =>
  obtain ⟨t,rfl⟩:=rx
  obtain ⟨hy,e'⟩:y.length<=sizeLine/\n=y.length:=e
  subst e'
  exact len_str (by lia) ⟨.int _,H,I.tok _,⟨_,rfl⟩,q⟩
|byt y =>
  obtain ⟨t,rfl⟩:=rx
  obtain ⟨hy,e'⟩:y.size<=sizeLine/\n=y.size:=e
  subst e'
  exact PySem.W.len_bytes (by lia) ⟨.int _,H,I.tok _,⟨_,rfl⟩,q⟩
|ref p =>
  cases rx
  have e':(∃ xs,SqL X.K H p xs/\n=xs.length) \/ ∃ xs,SqT X.K H p xs/\n=xs.length:=e
  rcases e' with ⟨xs,hx,e'⟩|⟨xs,hx,e'⟩
  ·subst e'
   obtain ⟨its,r',pl,hz⟩:=I.list hx
   have hlen:=r'.length
   exact Calls.call_len_list pl.isList (by simp only [List.size_toArray];lia) ⟨.int xs.length,H,I.tok _,⟨_,by simp only [List.size_toArray];rw [hlen]⟩,q⟩
  ·subst e'
   obtain ⟨its,r',pl,hz⟩:=I.tuple hx
   have hlen:=r'.length
   exact len_tuple pl (by simp only [List.size_toArray];lia) ⟨.int xs.length,H,I.tok _,⟨_,by simp only [List.size_toArray];rw [hlen]⟩,q⟩
|_=>exact (show False from e).elim
end
structure ObjM (h:Heap) (x dx C:Addr) (mA:Str->Option Value):Prop where
 obj:h.get? x=some (PySem.W.instObj C dx)
 ns:h.Ns1 dx mA
 ne:dx≠x
theorem lookIn_ns {h:Heap} {dx:Addr} {mA:Str->Option Value} (n:h.Ns1 dx mA):∃ od,h.get? dx=some od/\∀ name,PySem.W.lookIn name od=some (mA name):=by
 obtain ⟨o,es,ep,ho,hd,hk,_,hm⟩:=n
 refine ⟨o,ho,λ name=>?_⟩
 have e:=hm name
 unfold nsFind findBy at e
 rw [<- Array.find?_toList] at e
 unfold PySem.W.lookIn
 rw [hd]
 dsimp only
 split
 ·rename_i y q
  rw [q] at e
  exact congrArg some e
 ·rename_i q
  rw [q] at e
  have a:es.toList.any (·.refKey)=false:=by
   rw [List.any_eq_false]
   intro y hy
   obtain ⟨z,t,hkey⟩:=hk y (Array.mem_toList_iff.mp hy)
   simp [DictEntry.refKey,hkey]
  have a':¬ es.toList.any (·.refKey)=true:=by rw [a];exact Bool.false_ne_true
  rw [if_neg a']
  exact congrArg some e
theorem ObjM.look {h:Heap} {x dx C:Addr} {mA:Str->Option Value} (I:ObjM h x dx C mA):∃ od,PySem.W.InstAt h x (PySem.W.instObj C dx) C (some od)/\∀ name,PySem.W.lookIn name od=some (mA name) :=
 let ⟨od,ho,hl⟩:=lookIn_ns I.ns
 ⟨od,⟨I.obj,rfl,rfl,ho⟩,hl⟩
section
variable {prog:Program} {w:World} {A:Around} {E:Value->Shared->Prop} {s:Shared} {K:Fg} {x dx C f:Addr} {mA:Str->Option Value} {name:Str} {v:Value}
theorem get_map {expr:Bool} {Q:Value->Shared->Prop} (X:K.In s.heap) (I:ObjM s.heap x dx C mA) (hg:PySem.W.plainGet K C name=true) (hh:PySem.W.hasDictIn K C=true)
  (ha:PySem.W.findIn K (.ref C) name=some none) (hv:mA name=some v) (hv':PySem.W.handedIn v=true) (h:Q v { s with toks:=s.toks+1 }) :
  wpAny (model prog w) A (getAttr (.ref x) name expr) Q E s:=by
 obtain ⟨od,J,hl⟩:=I.look
 exact PySem.W.get_value X J (PySem.W.plainGet_of hg).1 (PySem.W.findObj_own hh ha rfl (by rw [hl,hv])) hv' h
theorem get_meth {pl:Sem Bool} {Q:Value×List Value->Shared->Prop} (X:K.In s.heap) (I:ObjM s.heap x dx C mA) (hg:PySem.W.plainGet K C name=true)
  (hf:PySem.W.findIn K (.ref C) name=some (some (.ref f))) (ht:PySem.W.isFn K (.ref f)=true) (hv:mA name=none) (h:Q (.ref f,[.ref x]) s) :
  wpAny (model prog w) A (getMethod (.ref x) name pl) Q E s:=by
 obtain ⟨od,J,hl⟩:=I.look
 exact PySem.W.method_fn X J (PySem.W.plainGet_of hg).1 (PySem.W.plainGet_of hg).2 hf (beq_iff_eq.mp ht) (by show (PySem.W.lookIn name od).map (·.isSome)=some false;rw [hl,hv];rfl) h
theorem set_map {ns:List Str} {Q:Unit->Shared->Prop} (X:K.In s.heap) (I:ObjM s.heap x dx C mA)
  (hs:PySem.W.findIn K (.ref C) "__setattr__"=some (some (.builtin "object.__setattr__"))) (hp:PySem.W.plainOver K C=true) (ht:PySem.W.takerIn K C name=some none) (hh:PySem.W.hasDictIn K C=true)
  (hw:PySem.Within mA ns) (hsz:ns.length<=sizeLine)
  (h:∀ h',ObjM h' x dx C (λ y=>if y=name then some v else mA y)->Heap.SameBut dx s.heap h'->Q () { s with heap:=h',toks:=s.toks+2 }) :
  wpAny (model prog w) A (setAttr (.ref x) name v) Q E s:=by
 obtain ⟨od,J,hl⟩:=I.look
 refine PySem.W.set_plain X J hs (PySem.W.osa_open (s:={ s with toks:=s.toks+1 }) (r:=none) X J hp ht λ b=>?_)
 obtain ⟨cd,hc,hd'⟩:=PySem.W.any_some hh
 have hx:s.heap.get? x=some ⟨.ref C,some dx,.plain,#[]⟩:=I.obj
 refine wpAny_bind (wpAny_pure (wpAny_bind (wpAny_bind (wpAny_loadPart hx (wpAny_bind (PySem.W.Looks.here (s:={ s with toks:=s.toks+1 }) (PySem.W.looks_clsIn X hc) ?_))))))
 rw [hd']
 refine wpAny_pure (a:=some dx) (wpAny_bind (wpAny_pure (wpAny_bind ?_)))
 refine wpAny_nsSet1 (s:={ s with toks:=s.toks+1 }) I.ns λ h' hn2 hs2=>?_
 obtain ⟨oD,esD,epD,hoD,hdD,hcD⟩:=hn2.count (PySem.Within.cons name v hw)
 refine wpAny_bind (wpAny_lookBehind hoD (by rw [hdD];exact pastItsLine_dict (Nat.le_trans hcD (by rw [List.length_cons];lia))) ?_)
 exact wpAny_pure (h _ ⟨(hs2.2 _ (Ne.symm I.ne)).trans I.obj,hn2,I.ne⟩ hs2)
theorem make_map {R:Result->Shared->Prop} {vs:List Value} {kw:List (Str×Value)} (X:K.In s.heap) (hm:PySem.W.makesIn K C=true)
  (hi:PySem.W.findIn K (.ref C) "__init__"=some (some (.ref f))) (hf:PySem.W.typeIn K (.ref f)=some (.type "function"))
  (h:codeAny (model prog w) (A.under (.builtin "type.__call__" ⟨.ref C :: vs,kw⟩)) (.call (.ref f) ⟨.ref (s.heap.objs.size+1) :: vs,kw⟩) (PySem.W.InitBack (s.heap.objs.size+1) R)
   { s with heap:=(s.heap.push PySem.W.emptyDict).push (PySem.W.instObj C s.heap.objs.size) }) :
  codeAny (model prog w) A (.call (.ref C) ⟨vs,kw⟩) R s:=by
 obtain ⟨hh,g,d,t,os⟩:=s
 exact PySem.W.make_core (PySem.W.makes_of X hm) (PySem.W.looks_findIn X hi) (λ self=>PySem.W.bind_fn X self hf) (.inl rfl) h
end
def putF (f:Str) (v:V):List (Str×V)->List (Str×V)
|[]=>[(f,v)]
|(g,x) :: r=>if g=f then (g,v) :: r else (g,x) :: putF f v r
theorem lookup_putF (f g:Str) (v:V):∀ fs:List (Str×V),(putF f v fs).lookup g=if g=f then some v else fs.lookup g
|[]=>by
  show List.lookup g [(f,v)]=_
  by_cases h:g=f
  ·have hb:(g == f)=true:=beq_iff_eq.mpr h
   simp only [List.lookup,hb,if_pos h]
  ·have hb:(g == f)=false:=beq_eq_false_iff_ne.mpr h
   simp only [List.lookup,hb,if_neg h]
|(k,x) :: r=>by
  have ih:=lookup_putF f g v r
  rw [show putF f v ((k,x) :: r)=(if k=f then (k,v) :: r else (k,x) :: putF f v r) from rfl]
  by_cases hk:k=f
  ·rw [if_pos hk]
   by_cases h:g=k
   ·have hb:(g == k)=true:=beq_iff_eq.mpr h
    simp only [List.lookup,hb,if_pos (h.trans hk)]
   ·have hb:(g == k)=false:=beq_eq_false_iff_ne.mpr h
    simp only [List.lookup,hb,if_neg (λ e:g=f=>h (e.trans hk.symm))]
  ·rw [if_neg hk]
   by_cases h:g=k
   ·have hb:(g == k)=true:=beq_iff_eq.mpr h
    simp only [List.lookup,hb,if_neg (λ e:g=f=>hk (h.symm.trans e))]
   ·have hb:(g == k)=false:=beq_eq_false_iff_ne.mpr h
    simp only [List.lookup,hb]
    exact ih
theorem keys_putF (f:Str) (v:V):∀ fs:List (Str×V),f∈(putF f v fs).map (·.1)/\∀ g,g∈fs.map (·.1)->g∈(putF f v fs).map (·.1)
|[]=>⟨by simp [putF],λ g h=>by simp at h⟩
|(k,x) :: r=>by
  obtain ⟨i1,i2⟩:=keys_putF f v r
  rw [show putF f v ((k,x) :: r)=(if k=f then (k,v) :: r else (k,x) :: putF f v r) from rfl]
  by_cases hk:k=f
  ·rw [if_pos hk]
   subst hk
   exact ⟨by simp,λ g h=>by simpa using h⟩
  ·rw [if_neg hk]
   refine ⟨?_,λ g h=>?_⟩
   ·rw [List.map_cons]
    exact List.mem_cons_of_mem _ i1
   ·rw [List.map_cons] at h ⊢
    rcases List.mem_cons.mp h with e|e
    ·exact List.mem_cons.mpr (.inl e)
    ·exact List.mem_cons_of_mem _ (i2 g e)
theorem length_putF (f:Str) (v:V):∀ fs:List (Str×V),(putF f v fs).length<=fs.length+1
|[]=>by simp [putF]
|(k,x) :: r=>by
  have ih:=length_putF f v r
  rw [show putF f v ((k,x) :: r)=(if k=f then (k,v) :: r else (k,x) :: putF f v r) from rfl]
  by_cases hk:k=f
  ·rw [if_pos hk,List.length_cons,List.length_cons];lia
  ·rw [if_neg hk,List.length_cons,List.length_cons];lia
theorem RelO.some_of {v:V} {o:Option Value} (r:RelO (some v) o):∃ u,o=some u/\RelV v u:=by
 cases o with
|none=>exact (show False from r).elim
|some u=>exact ⟨u,rfl,r⟩
theorem RelO.none_of {o:Option Value} (r:RelO none o):o=none:=by
 cases o with
|none=>rfl
|some u=>exact (show False from r).elim
theorem handed_of {v:V} {u:Value} (r:RelV v u):PySem.W.handedIn u=true:=by
 cases v with
|non=>cases (show u=Value.none from r);rfl
|bl b=>cases (show u=Value.bool b from r);rfl
|int i=>obtain ⟨t,e⟩:=(show ∃ t,u=Value.int i t from r);cases e;rfl
|str x=>obtain ⟨t,e⟩:=(show ∃ t,u=Value.str x t from r);cases e;rfl
|byt b=>obtain ⟨t,e⟩:=(show ∃ t,u=Value.bytes b t from r);cases e;rfl
|flt b=>obtain ⟨t,e⟩:=(show ∃ t,u=Value.float b t from r);cases e;rfl
|ref a=>cases (show u=Value.ref a from r);rfl
|ty n=>cases (show u=Value.type n from r);rfl
section
variable {P:Program} {w:World} {H H':Hp} {h h':Heap} {a C dx:Addr} {fs fs':List (Str×V)}
theorem ins_get (hok:HOk P w H h) (e:H a=some (.ins C dx fs)):∃ mA,ObjM h a dx C mA/\(∀ f,RelO (fs.lookup f) (mA f))/\PySem.Within mA (fs.map (·.1))/\fs.length<=1000/\H dx=some (.own a):=by
 obtain ⟨d,z,ne,ob,mA,n,r,q⟩:=(show ObjOk P w H h a (.ins C dx fs) from hok a _ e)
 exact ⟨mA,⟨ob,n,ne⟩,r,q,z,d⟩
end
structure Cls (K:Fg) (C:Addr):Prop where
 pg:PySem.W.plainGet K C Str.empty=true
 hd:PySem.W.hasDictIn K C=true
 po:PySem.W.plainOver K C=true
 sa:PySem.W.findIn K (.ref C) "__setattr__"=some (some (.builtin "object.__setattr__"))
theorem Cls.get {K:Fg} {C:Addr} (c:Cls K C) (f:Str):PySem.W.plainGet K C f=true:=c.pg
def NoAttr (K:Fg) (C:Addr) (f:Str):Prop:=PySem.W.findIn K (.ref C) f=some none
theorem NoAttr.taker {K:Fg} {C:Addr} {f:Str} (n:NoAttr K C f):PySem.W.takerIn K C f=some none:=by
 unfold PySem.W.takerIn
 rw [show PySem.W.findIn K (.ref C) f=some none from n]
 rfl
structure Meth (K:Fg) (C:Addr) (m:Str) (f:Addr):Prop where
 at_:PySem.W.findIn K (.ref C) m=some (some (.ref f))
 fn:PySem.W.isFn K (.ref f)=true
 kp:PySem.W.keepIn K (.ref f)=true
section
variable {X:Cx} {pins:List (Addr×Obj)} {σ:St} {H:Hp} {s:Shared} {a C dx:Addr} {fs:List (Str×V)} {f:Str} {v:V} {A:Around} {E:Value->Shared->Prop}
theorem getattr_ok {b:Bool} {Q:Value->Shared->Prop} (I:Inv X pins σ H s) (e:H a=some (.ins C dx fs)) (c:Cls X.K C) (n:NoAttr X.K C f) (l:fs.lookup f=some v)
  (h:∀ u s',Inv X pins σ H s'->RelV v u->Q u s'):wpAny (model X.prog X.w) A (getAttr (.ref a) f b) Q E s:=by
 obtain ⟨mA,O,r,_,_,_⟩:=ins_get I.hok e
 obtain ⟨u,hu,ru⟩:=RelO.some_of (v:=v) (o:=mA f) (by rw [<- l];exact r f)
 exact get_map I.kIn O (c.get f) c.hd n hu (handed_of ru) (h u _ (I.tok _) ru)
theorem getmeth_ok {m:Str} {g:Addr} {pl:Sem Bool} {Q:Value×List Value->Shared->Prop} (I:Inv X pins σ H s) (e:H a=some (.ins C dx fs)) (c:Cls X.K C) (k:Meth X.K C m g) (l:fs.lookup m=none)
  (h:Q (.ref g,[.ref a]) s):wpAny (model X.prog X.w) A (getMethod (.ref a) m pl) Q E s:=by
 obtain ⟨mA,O,r,_,_,_⟩:=ins_get I.hok e
 have hn:mA m=none:=RelO.none_of (by rw [<- l];exact r m)
 exact get_meth I.kIn O (c.get m) k.at_ k.fn hn h
theorem setattr_ok {y:V} {u:Value} {Q:Unit->Shared->Prop} (I:Inv X pins σ H s) (e:H a=some (.ins C dx fs)) (c:Cls X.K C) (n:NoAttr X.K C f) (hl:fs.length < 1000) (ry:RelV y u)
  (h:∀ s',Inv X pins σ (upd H a (.ins C dx (putF f y fs))) s'->Q () s'):wpAny (model X.prog X.w) A (setAttr (.ref a) f u) Q E s:=by
 obtain ⟨mA,O,r,wi,_,ho⟩:=ins_get I.hok e
 have hz:(fs.map (·.1)).length<=sizeLine:=by rw [List.length_map,sizeLine_eq];lia
 refine set_map I.kIn O c.sa c.po n.taker c.hd wi hz λ h' O' sb=>h _ ?_
 have hd:∃ o,h'.get? dx=some o:=let ⟨o,_,_,e',_⟩:=O'.ns;⟨o,e'⟩
 refine I.write (x:=a) (e:=dx) (by rw [e];exact True.intro) (.inr ho) (λ b q hb z=>(sb.2 b hb).trans z) hd ?_
 refine ⟨by rw [upd_ne O.ne];exact ho,?_,O.ne,O'.obj,_,O'.ns,λ g=>?_,λ g hg=>?_⟩
 ·have:=length_putF f y fs;lia
 ·show RelO ((putF f y fs).lookup g) (if g=f then some u else mA g)
  rw [lookup_putF]
  by_cases q:g=f
  ·rw [if_pos q,if_pos q];exact ry
  ·rw [if_neg q,if_neg q];exact r g
 ·by_cases q:g=f
  ·rw [q];exact (keys_putF f y fs).1
  ·refine (keys_putF f y fs).2 g (wi g λ z=>hg ?_)
   show (if g=f then some u else mA g)=none
   rw [if_neg q];exact z
theorem Inv.made (I:Inv X pins σ H s):Inv X pins σ (upd (upd H s.heap.objs.size (.own (s.heap.objs.size+1))) (s.heap.objs.size+1) (.ins C s.heap.objs.size []))
  { s with heap:=(s.heap.push PySem.W.emptyDict).push (PySem.W.instObj C s.heap.objs.size) }:=by
 have e1:(s.heap.push PySem.W.emptyDict).get? s.heap.objs.size=some PySem.W.emptyDict:=Heap.get?_push_size s.heap rfl
 have e2:((s.heap.push PySem.W.emptyDict).push (PySem.W.instObj C s.heap.objs.size)).get? (s.heap.objs.size+1)=some (PySem.W.instObj C s.heap.objs.size):=by
  have:=Heap.get?_push_size (s.heap.push PySem.W.emptyDict) (o:=PySem.W.instObj C s.heap.objs.size) rfl
  rwa [Heap.size_push] at this
 have e3:(s.heap.push PySem.W.emptyDict).Ns s.heap.objs.size (λ _=>none):=⟨PySem.W.emptyDict,#[],_,e1,rfl,(λ e he=>absurd he (by simp)),λ _=>rfl⟩
 have I1:=I.laid (a:=s.heap.objs.size) (o:=.own (s.heap.objs.size+1)) (h':=s.heap.push PySem.W.emptyDict) (t':=s.toks) (λ b u q=>Heap.get?_push_of_some _ q) (Nat.le_refl _) ⟨_,e1⟩
 refine I1.laid (a:=s.heap.objs.size+1) (o:=.ins C s.heap.objs.size []) (t':=s.toks) (λ b u q=>Heap.get?_push_of_some _ q) (Nat.le_of_eq (Heap.size_push _ _)) ?_
 have ne:s.heap.objs.size≠s.heap.objs.size+1:=Nat.ne_of_lt (Nat.lt_succ_self _)
 refine ⟨by rw [upd_ne ne,upd_same],Nat.zero_le _,ne,e2,λ _=>none,(Heap.Ns1.of_empty e3).at λ o q=>Heap.get?_push_of_some _ q,λ _=>True.intro,λ y hy=>absurd rfl hy⟩
theorem attr_of {prog:Program} {w:World} {env:Env} {e:Expr} {f:Str} {pos:Pos} {s:Shared} {Q:Value->Shared->Prop} (hb:attributeBase e f env (eval e env)=eval e env)
  (h:wpAny (model prog w) A (eval e env) (λ o s₁=>wpAny (model prog w) A (getAttr o f true) Q E s₁) E s):wpAny (model prog w) A (eval (.Attribute e f pos) env) Q E s :=
 Attribute_any_ h (by rw [arm_eval_Attribute,hb])
end
def tFld (K:Fg) (ta:TE) (f:Str):TE:=λ σ H Q=>ta σ H λ x H1=>∃ a C dx fs v,x=.ref a/\H1 a=some (.ins C dx fs)/\Cls K C/\NoAttr K C f/\fs.lookup f=some v/\Q v H1
def sFld (K:Fg) (ta tv:TE) (f:Str):TS:=λ D σ H=>tv σ H λ y H1=>ta σ H1 λ x H2=>∃ a C dx fs,x=.ref a/\H2 a=some (.ins C dx fs)/\Cls K C/\NoAttr K C f/\fs.length < 1000 /\
 D.nx σ (upd H2 a (.ins C dx (putF f y fs)))
section
variable {X:Cx} {o e value:Expr} {f:Str} {pos pos' tpos:Pos} {ta tv:TE}
theorem pe_fld (he:PE X e ta) (hb:attributeBase e f X.env (eval e X.env)=eval e X.env):PE X (.Attribute e f pos) (tFld X.K ta f):=by
 intro pins s σ H Q I h
 refine attr_of hb (thn (he pins s σ H _ I h) λ u s1 ⟨x,H1,I1,rx,a,C,dx,fs,v,ex,ea,c,n,l,q⟩=>?_)
 subst ex
 obtain rfl:u=Value.ref a:=rx
 exact getattr_ok I1 ea c n l λ u' s2 I2 ru=>⟨v,H1,I2,ru,q⟩
theorem ps_fld (ha:PE X o ta) (hv:PE X value tv) (hs:swapsWith value (some (.Attribute o f pos')) pos.line X.env=pure false):PS X (.Assign [.Attribute o f pos'] value pos) (sFld X.K ta tv f):=by
 intro pins s σ H D I h
 refine plainObj_wpAny_Assign_Attribute (thn (hv pins s σ H _ I h) λ u s1 ⟨y,H1,I1,ry,q⟩=>thn (ha pins s1 σ H1 _ I1 q) λ ov s2 ⟨x,H2,I2,rx,a,C,dx,fs,ex,ea,c,n,l,q2⟩=>?_) hs
 subst ex
 obtain rfl:ov=Value.ref a:=rx
 exact setattr_ok I2 ea c n l ry λ s3 I3=>⟨σ,_,I3,q2⟩
end
section
variable {X:Cx} {pins:List (Addr×Obj)} {σ:St} {H:Hp} {s:Shared} {A:Around} {E:Value->Shared->Prop} {Q:Value->Shared->Prop} {c:Value} {b:Bool}
inductive TyOf (K:Fg) (H:Hp):V->Value->Prop where
|non:TyOf K H .non (.type "NoneType")
|bl (x:Bool):TyOf K H (.bl x) (.type "bool")
|int (i:Int):TyOf K H (.int i) (.type "int")
|str (x:Str):TyOf K H (.str x) (.type "str")
|flt (x:UInt64):TyOf K H (.flt x) (.type "float")
|lst {a:Addr} {xs:List V} (e:H a=some (.lst xs)):TyOf K H (.ref a) (.type "list")
|frz {a:Addr} {o:Obj} {xs:List V} (e:H a=some (.frz o (.lst xs))):TyOf K H (.ref a) (.type "list")
|tup {a:Addr} {xs:List V} (e:H a=some (.tup xs)):TyOf K H (.ref a) (.type "tuple")
|dK {a:Addr} {kvs:List (Key×V)} (e:H a=some (.dK kvs)):TyOf K H (.ref a) (.type "dict")
|dT {a:Addr} {kvs:List (List Key×V)} (e:H a=some (.dT kvs)):TyOf K H (.ref a) (.type "dict")
|ins {a C dx:Addr} {fs:List (Str×V)} (e:H a=some (.ins C dx fs)) (cl:Cls K C) (ha:PySem.W.findIn K (.ref C) "__class__"=some (some (.builtin "object.__class__")))
   (hn:PySem.W.specialIn K (.builtin "object.__class__") "__get__"=some (some (.builtin "getset_descriptor.__get__"))) (htk:PySem.W.takesIn K (.builtin "object.__class__")=some true)
   (hm:PySem.W.mroIn K C (.type "object")=some true):TyOf K H (.ref a) (.ref C)
theorem isinst_ok {x:V} {u t:Value} (I:Inv X pins σ H s) (rx:RelV x u) (ty:TyOf X.K H x t) (e:PySem.W.kitOne X.K t c=some b) (h:∀ tk,Q (.bool b) { s with toks:=tk }) :
  wpAny (model X.prog X.w) A (call (.builtin "isinstance") [u,c]) Q E s:=by
 cases ty with
|non=>cases (show u=Value.none from rx);exact PySem.W.kia_one PySem.W.kitx_none I.kIn True.intro e (λ z=>nomatch z) h
|bl y=>cases (show u=Value.bool y from rx);exact PySem.W.kia_one PySem.W.kitx_bool I.kIn True.intro e (λ z=>nomatch z) h
|int i=>obtain ⟨t,q⟩:=(show ∃ t,u=Value.int i t from rx);cases q;exact PySem.W.kia_one PySem.W.kitx_int I.kIn True.intro e (λ z=>nomatch z) h
|str y=>obtain ⟨t,q⟩:=(show ∃ t,u=Value.str y t from rx);cases q;exact PySem.W.kia_one PySem.W.kitx_str I.kIn True.intro e (λ z=>nomatch z) h
|flt y=>obtain ⟨t,q⟩:=(show ∃ t,u=Value.float y t from rx);cases q;exact PySem.W.kia_one PySem.W.kitx_float I.kIn True.intro e (λ z=>nomatch z) h
|@lst a xs ea =>
  cases (show u=Value.ref a from rx)
  obtain ⟨_,_,n,_,h1⟩:=(show ObjOk X.prog X.w H s.heap a (.lst xs) from I.hok a _ ea)
  exact PySem.W.kia_one PySem.W.kitx_list I.kIn ⟨_,h1,rfl⟩ e (λ z=>nomatch z) h
|@frz a ob xs ea =>
  cases (show u=Value.ref a from rx)
  obtain ⟨_,_,_,n,_,h1⟩:=(show ObjOk X.prog X.w H s.heap a (.frz ob (.lst xs)) from I.hok a _ ea)
  exact PySem.W.kia_one PySem.W.kitx_list I.kIn ⟨_,h1,rfl⟩ e (λ z=>nomatch z) h
|@tup a xs ea =>
  cases (show u=Value.ref a from rx)
  obtain ⟨_,_,_,p⟩:=(show ObjOk X.prog X.w H s.heap a (.tup xs) from I.hok a _ ea)
  obtain ⟨o,h1,h2,_⟩:=p
  exact PySem.W.kia_one PySem.W.kitx_tuple I.kIn ⟨o,h1,h2⟩ e (λ z=>nomatch z) h
|@dK a kvs ea =>
  cases (show u=Value.ref a from rx)
  obtain ⟨_,_,vs,_,p⟩:=(show ObjOk X.prog X.w H s.heap a (.dK kvs) from I.hok a _ ea)
  obtain ⟨o,es,ep,h1,h2,_⟩:=p
  exact PySem.W.kia_one PySem.W.kitx_dict I.kIn ⟨o,h1,h2.1⟩ e (λ z=>nomatch z) h
|@dT a kvs ea =>
  cases (show u=Value.ref a from rx)
  obtain ⟨_,_,xs,_,o,es,ep,h1,h2,_⟩:=(show ObjOk X.prog X.w H s.heap a (.dT kvs) from I.hok a _ ea)
  exact PySem.W.kia_one PySem.W.kitx_dict I.kIn ⟨o,h1,h2.1⟩ e (λ z=>nomatch z) h
|@ins a C dx fs ea cl ha hn htk hm =>
  cases (show u=Value.ref a from rx)
  obtain ⟨mA,O,_⟩:=ins_get I.hok ea
  obtain ⟨od,J,_⟩:=O.look
  exact PySem.W.kia_one (PySem.W.kitx_own (cl.get _) cl.hd ha hn htk hm) I.kIn J e (λ z=>nomatch z) h
end
structure Room (k:Nat) (A:Around):Prop where
 hd:A.handled=none
 dp:A.depth+3 * k+5 < recursionLimit
 gd:A.guards=some []
 un:A.units+16 * k+200 < cLine
theorem Room.mono {j k:Nat} {A:Around} (r:Room k A) (h:j<=k):Room j A:=⟨r.hd,by have:=r.dp;lia,r.gd,by have:=r.un;lia⟩
theorem Room.deeper {k:Nat} {A:Around} (r:Room (k+1) A) (env:Env):Room k (A.deeper env) :=
 ⟨r.hd,by have:=r.dp;show A.depth+1+3 * k+5 < _;lia,r.gd,by have:=r.un;show A.units+3+16 * k+200 < _;lia⟩
theorem make_depth {A:Around} {C:Addr} {us:List Value} {kw:List (Str×Value)}:(A.under (.builtin "type.__call__" ⟨.ref C :: us,kw⟩)).depth=A.depth+1:=by
 first|rfl|simp [Around.under,Code.weight,Code.isCreation,Code.isGuard,Code.isCaller,Code.frames,Code.isFrame,guardIds]
theorem make_units {A:Around} {C:Addr} {us:List Value} {kw:List (Str×Value)}:(A.under (.builtin "type.__call__" ⟨.ref C :: us,kw⟩)).units=A.units+1:=by
 first|rfl|simp [Around.under,Code.cUnits,Code.frames,Code.isFrame]
theorem Room.make {k:Nat} {A:Around} (r:Room (k+1) A) (C:Addr) (us:List Value) (kw:List (Str×Value)):Room k (A.under (.builtin "type.__call__" ⟨.ref C :: us,kw⟩)) :=
 ⟨r.hd,by have:=r.dp;rw [make_depth];lia,r.gd,by have:=r.un;rw [make_units];lia⟩
theorem Room.depth {k:Nat} {A:Around} (r:Room k A):A.depth < recursionLimit:=by have:=r.dp;lia
theorem Room.units {k:Nat} {A:Around} (r:Room k A):A.units+64 < cLine:=by have:=r.un;lia
def tNil:TA:=λ _ H Q=>Q [] H
def tCons (ta:TE) (tr:TA):TA:=λ σ H Q=>ta σ H λ x H1=>tr σ H1 λ xs H2=>Q (x :: xs) H2
section
variable {X:Cx} {e:Expr} {es:List Expr} {te:TE} {t:TA} {pos:Pos}
theorem pa_nil:PA X [] tNil:=λ _ _ _ _ H Q I h=>Calls.spliced_nil ⟨[],H,I,.nil,h⟩
theorem pa_cons (ha:PE X e te) (hr:PA X es t) (hs:starEach (e :: es) X.env=(false,eval e X.env) :: starEach es X.env:=by rfl):PA X (e :: es) (tCons te t):=by
 intro pos pins s σ H Q I h
 rw [hs]
 show wpAny _ _ (spliced ((false,eval e X.env) :: backTo pos (starEach es X.env))) _ _ s
 refine Calls.spliced_cons (thn (ha pins s σ H _ I h) λ u s1 ⟨x,H1,I1,r1,q1⟩=>?_)
 exact thn (hr pos pins s1 σ H1 _ I1 q1) λ us s2 ⟨xs,H2,I2,r2,q2⟩=>⟨x :: xs,H2,I2,.cons r1 r2,q2⟩
def tTup (t:TA):TE:=λ σ H Q=>t σ H λ xs H1=>xs.length<=sizeLine/\∀ p,H1 p=none->Q (.ref p) (upd H1 p (.tup xs))
def tLst (t:TA):TE:=λ σ H Q=>t σ H λ xs H1=>xs.length<=sizeLine/\∀ p,H1 p=none->Q (.ref p) (upd H1 p (.lst xs))
theorem pe_tup {x1} (h:PA X es t):PE X (.Tuple es x1 pos) (tTup t):=by
 intro pins s σ H Q I hq
 refine wpAny_Tuple_spliced (thn (h pos pins s σ H _ I hq) λ us s1 ⟨xs,H1,I1,r,z,q⟩=>⟨by rw [<- r.length];exact z,?_⟩)
 have hf:H1 s1.heap.objs.size=none:=I1.hok.fresh (Nat.le_refl _)
 refine ⟨.ref s1.heap.objs.size,upd H1 s1.heap.objs.size (.tup xs),I1.laid (t':=s1.toks) (λ b u e=>Heap.get?_push_of_some _ e) (Nat.le_refl _) ?_,rfl,q _ hf⟩
 exact ⟨z,us,r,⟨_,Heap.get?_push_size _ rfl,rfl,_,rfl⟩⟩
theorem pe_lst (h:PA X es t):PE X (.List es pos) (tLst t):=by
 intro pins s σ H Q I hq
 refine wpAny_List_spliced (thn (h pos pins s σ H _ I hq) λ us s1 ⟨xs,H1,I1,r,z,q⟩=>⟨by rw [<- r.length];exact z,?_⟩)
 have hf:H1 s1.heap.objs.size=none:=I1.hok.fresh (Nat.le_refl _)
 refine ⟨.ref s1.heap.objs.size,upd H1 s1.heap.objs.size (.lst xs),I1.laid (t':=s1.toks) (λ b u e=>Heap.get?_push_of_some _ e) (Nat.le_refl _) ?_,rfl,q _ hf⟩
 exact ⟨z,us,0,r,Heap.get?_push_size _ rfl⟩
end
abbrev Sp:=List V->Hp->VK->XK->Prop
abbrev CXT:=List Env->Hp->Shared->XK->Value->Shared->Prop
structure Env0 (P:Program) (w:World) (K:Fg) (mg:Str->Option Value) (base:Heap) (A:Around) (outer:List Env) (s:Shared) (H:Hp):Prop where
 frames:A.frames=some outer
 mod:Mod K mg base
 bs:∀ b o,base.get? b=some o->s.heap.get? b=some o/\H b=none
 bsz:base.objs.size<=s.heap.objs.size
 funs:s.heap.FunFrames base outer
 frf:∀ b∈frs outer,H b=none
 hok:HOk P w H s.heap
 bare:AllBare s.gens
def CE (outer:List Env) (P:Program) (w:World) (H:Hp) (s:Shared) (Q:VK) (u:Value) (s':Shared):Prop :=
 ∃ v H',s'.os=s.os/\AllBare s'.gens/\Un (frs outer) [] H H' s.heap s'.heap/\HOk P w H' s'.heap/\RelV v u/\Q v H'
def CR (CX:CXT) (outer:List Env) (P:Program) (w:World) (H:Hp) (s:Shared) (Q:VK) (E:XK) (r:Result) (s':Shared):Prop :=
 match r with
|.ok (.ret u)=>CE outer P w H s Q u s'
|.ok _=>False
|.error e=>CX outer H s E e s'
structure FnOk (P:Program) (w:World) (K:Fg) (mg:Str->Option Value) (base:Heap) (CX:CXT) (k:Nat) (f:Addr) (fd:FuncData) (ps:List Str) (sp:Sp):Prop where
 len:∀ vs H Q E,sp vs H Q E->vs.length=ps.length
 run:∀ (A:Around) (outer:List Env) (s:Shared) (H:Hp) (args:Args) (us:List Value) (vs:List V) (Q:VK) (E:XK),Room k A->Env0 P w K mg base A outer s H->BindsTo s fd args (ps.zip us)->Vals vs us->sp vs H Q E ->
  codeAny (model P w) A (.call (.ref f) args) (CR CX outer P w H s Q E) s
theorem Env0.make {P:Program} {w:World} {K:Fg} {mg:Str->Option Value} {base:Heap} {A:Around} {outer:List Env} {s:Shared} {H:Hp} (e:Env0 P w K mg base A outer s H) (C:Addr) (us:List Value) (kw:List (Str×Value)) :
  Env0 P w K mg base (A.under (.builtin "type.__call__" ⟨.ref C :: us,kw⟩)) outer s H:=⟨by first|exact e.frames|(simpa [Around.under,Code.envs,Code.isFrame,pushEnvs] using e.frames),e.mod,e.bs,e.bsz,e.funs,e.frf,e.hok,e.bare⟩
section
variable {X:Cx} {pins:List (Addr×Obj)} {σ:St} {H:Hp} {s s':Shared}
theorem Inv.env0 (I:Inv X pins σ H s):Env0 X.prog X.w X.K X.mg X.base X.A X.stack s H :=
 ⟨I.ok.frames,I.ok.mod,I.bs,Nat.le_trans I.ok.bsz I.sz,I.stack,I.stkFree,I.hok,I.bare⟩
theorem Inv.after {Q:VK} {u:Value} (I:Inv X pins σ H s) (h:CE X.stack X.prog X.w H s Q u s'):EP X pins σ Q u s':=by
 obtain ⟨v,H',os,bare,un,hok,r,q⟩:=h
 obtain ⟨hh,g,d,t,os'⟩:=s'
 obtain rfl:os'=s.os:=os
 exact ⟨v,H',I.call (h':=hh) (g':=g) (d':=d) (t':=t) (ch:=[]) un hok bare (λ b z=>absurd z (by simp)),r,q⟩
end
def tCall (sp:Sp) (dvs:List V) (E:XK) (t:TA):TE:=λ σ H Q=>t σ H λ vs H1=>sp (vs++dvs) H1 Q E
def tMake (C:Addr) (sp:Sp) (dvs:List V) (E:XK) (t:TA):TE:=λ σ H Q=>t σ H λ vs H1=>∀ x dx,H1 x=none->H1 dx=none->dx≠x ->
 sp (.ref x :: (vs++dvs)) (upd (upd H1 dx (.own x)) x (.ins C dx [])) (λ v H2=>v=.non/\Q (.ref x) H2) E
def Binds (K:Fg) (fd:FuncData) (ps:List Str) (ds:List Value):Prop :=
 ∀ (s:Shared) (us:List Value),K.In s.heap->(us++ds).length=ps.length->BindsTo s fd ⟨us,[]⟩ (ps.zip (us++ds))
theorem Binds.all {K:Fg} {fd:FuncData} {ps:List Str} (h:∀ us:List Value,us.length=ps.length->bindArgs fd ⟨us,[]⟩=pure (ps.zip us)):Binds K fd ps []:=λ s us _ hl=>by
 rw [List.append_nil] at hl ⊢
 exact .of_eq (h us hl)
def Passes (CX:CXT) (X:Cx) (E:XK):Prop:=∀ (pins:List (Addr×Obj)) (σ:St) (H:Hp) (s:Shared) (e:Value) (s':Shared),Inv X pins σ H s->CX X.stack H s E e s'->X.xe e s'
section
variable {X:Cx} {CX:CXT} {k:Nat} {f C:Addr} {fd:FuncData} {ps:List Str} {sp:Sp} {dvs:List V} {ds:List Value} {E:XK} {x m:Str} {p pos apos:Pos} {e o:Expr} {es:List Expr} {ta:TE} {t:TA}
theorem run_fn {pins:List (Addr×Obj)} {σ:St} {H:Hp} {s:Shared} {Q:VK} {us:List Value} {vs:List V} (F:FnOk X.prog X.w X.K X.mg X.base CX k f fd ps sp) (hr:Room k X.A) (hb:Binds X.K fd ps ds) (hd:Vals dvs ds) (hx:Passes CX X E)
  (I:Inv X pins σ H s) (r:Vals vs us) (h:sp (vs++dvs) H Q E):wpAny (model X.prog X.w) X.A (call (.ref f) us) (EP X pins σ Q) X.xe s:=by
 have r2:Vals (vs++dvs) (us++ds):=r.append hd
 have hl:(us++ds).length=ps.length:=by rw [<- r2.length];exact F.len _ _ _ _ h
 refine wpAny_call (codeAny_mono (F.run X.A X.stack s H ⟨us,[]⟩ (us++ds) (vs++dvs) Q E hr I.env0 (hb s us I.kIn hl) r2 h) λ r s' hq=>?_)
 cases r with
|error e=>exact hx pins σ H s e s' I hq
|ok fl =>
  cases fl with
 |ret u=>exact I.after hq
 |next=>exact False.elim hq
 |brk=>exact False.elim hq
 |cont=>exact False.elim hq
theorem pe_call (F:FnOk X.prog X.w X.K X.mg X.base CX k f fd ps sp) (hr:Room k X.A) (hg:Gl X x) (hm:X.mg x=some (.ref f)) (hk:PySem.W.keepIn X.K (.ref f)=true) (hb:Binds X.K fd ps ds) (hd:Vals dvs ds) (hx:Passes CX X E)
  (ha:PA X (e :: es) t) (hdb:(x == ("__debug__":Str))=false:=by decide) (he:starEach (e :: es) X.env=(false,eval e X.env) :: starEach es X.env:=by rfl) (hpl:(backTo pos (starEach es X.env)).any (·.1)=false:=by rfl) :
  PE X (.Call (.Name x p) (e :: es) [] pos) (tCall sp dvs E t):=by
 intro pins s σ H Q I h
 refine wpAny_Call_Name_kw (ld_glob I hg hm ?_ hdb)
 refine PySem.W.callWith_K (h₀:=X.base) I.ok.mod.kin hk (thn (ha pos pins s σ H _ I h) λ us s1 ⟨vs,H1,I1,r,q⟩=>⟨I1.kIn,?_⟩) he hpl
 exact run_fn F hr hb hd hx I1 r q
structure Mk (K:Fg) (C f:Addr):Prop where
 makes:PySem.W.makesIn K C=true
 init:PySem.W.findIn K (.ref C) "__init__"=some (some (.ref f))
 fn:PySem.W.isFn K (.ref f)=true
 kp:PySem.W.keepIn K (.ref C)=true
theorem run_make {pins:List (Addr×Obj)} {σ:St} {H:Hp} {s:Shared} {Q:VK} {us:List Value} {vs:List V} (M:Mk X.K C f) (F:FnOk X.prog X.w X.K X.mg X.base CX k f fd ps sp) (hr:Room (k+1) X.A) (hb:Binds X.K fd ps ds) (hd:Vals dvs ds)
  (hx:Passes CX X E) (I:Inv X pins σ H s) (r:Vals vs us)
  (h:∀ x dx,H x=none->H dx=none->dx≠x->sp (.ref x :: (vs++dvs)) (upd (upd H dx (.own x)) x (.ins C dx [])) (λ v H2=>v=.non/\Q (.ref x) H2) E) :
  wpAny (model X.prog X.w) X.A (call (.ref C) us) (EP X pins σ Q) X.xe s:=by
 have hq:=h (s.heap.objs.size+1) s.heap.objs.size (I.hok.fresh (Nat.le_succ _)) (I.hok.fresh (Nat.le_refl _)) (Nat.ne_of_lt (Nat.lt_succ_self _))
 have I2:=Inv.made (C:=C) I
 have r2:Vals (V.ref (s.heap.objs.size+1) :: (vs++dvs)) (Value.ref (s.heap.objs.size+1) :: (us++ds)):=.cons rfl (r.append hd)
 have hl:(Value.ref (s.heap.objs.size+1) :: us++ds).length=ps.length:=by
  have e:=r2.length
  rw [F.len _ _ _ _ hq] at e
  exact e.symm
 refine wpAny_call (make_map (f:=f) I.kIn M.makes M.init (beq_iff_eq.mp M.fn) (codeAny_mono (F.run _ X.stack _ _ ⟨Value.ref (s.heap.objs.size+1) :: us,[]⟩ (Value.ref (s.heap.objs.size+1) :: (us++ds)) _ _ E (hr.make C us [])
  (I2.env0.make C us []) (hb _ (Value.ref (s.heap.objs.size+1) :: us) I2.kIn hl) r2 hq) λ r s' hq'=>?_))
 cases r with
|error e=>exact hx pins σ _ _ e s' I2 hq'
|ok fl =>
  cases fl with
 |ret u =>
   obtain ⟨v,H',I3,rv,ev,q3⟩:=I2.after hq'
   subst ev
   exact ⟨rv,⟨V.ref (s.heap.objs.size+1),H',I3,rfl,q3⟩⟩
 |next=>exact False.elim hq'
 |brk=>exact False.elim hq'
 |cont=>exact False.elim hq'
theorem pe_make (M:Mk X.K C f) (F:FnOk X.prog X.w X.K X.mg X.base CX k f fd ps sp) (hr:Room (k+1) X.A) (hg:Gl X x) (hm:X.mg x=some (.ref C)) (hb:Binds X.K fd ps ds) (hd:Vals dvs ds) (hx:Passes CX X E)
  (ha:PA X (e :: es) t) (hdb:(x == ("__debug__":Str))=false:=by decide) (he:starEach (e :: es) X.env=(false,eval e X.env) :: starEach es X.env:=by rfl) (hpl:(backTo pos (starEach es X.env)).any (·.1)=false:=by rfl) :
  PE X (.Call (.Name x p) (e :: es) [] pos) (tMake C sp dvs E t):=by
 intro pins s σ H Q I h
 refine wpAny_Call_Name_kw (ld_glob I hg hm ?_ hdb)
 refine PySem.W.callWith_K (h₀:=X.base) I.ok.mod.kin M.kp (thn (ha pos pins s σ H _ I h) λ us s1 ⟨vs,H1,I1,r,q⟩=>⟨I1.kIn,?_⟩) he hpl
 exact run_make M F hr hb hd hx I1 r q
end
section
variable {X:Cx} {CX:CXT} {k:Nat} {f C:Addr} {fd:FuncData} {ps ks:List Str} {sp:Sp} {E:XK} {x m:Str} {p pos apos kpos:Pos} {e o:Expr} {es:List Expr} {kws:List Keyword} {te ta:TE} {t tk:TA} {nm:Option Str}
variable {g:List Value->List Value->List Value} {gV:List V->List V->List V}
end
structure FnScope (N P:List Str) (sc:Scope):Prop where
 kind:sc.kind=.function
 co:sc.isCoroutine=false
 gen:sc.isGenerator=false
 nd:N.Nodup
 pre:N.take P.length=P
 par:∀ x∈P,sc.names.lookup x=some .local \/ sc.names.lookup x=some .cell
 nofree:∀ y∈sc.names,y.2≠.free
theorem bindL_out {kindOf:Str->Option NameKind} {x:Str}:∀ {binds:List (Str×Value)} {m:Str->Option Value},(∀ v,(x,v) ∉ binds)->bindL kindOf binds m x=m x
|[],_,_=>rfl
|(n,v) :: r,m,h=>by
  unfold bindL
  rw [bindL_out λ w hw=>h w (List.mem_cons_of_mem _ hw)]
  split
  ·have:x≠n:=by rintro rfl;exact h v List.mem_cons_self
   simp [this]
  ·rfl
theorem bindC_out {kindOf:Str->Option NameKind} {x:Str}:∀ {binds:List (Str×Value)} {m:Str->Option Value},(∀ v,(x,v) ∉ binds)->bindC kindOf binds m x=m x
|[],_,_=>rfl
|(n,v) :: r,m,h=>by
  unfold bindC
  rw [bindC_out λ w hw=>h w (List.mem_cons_of_mem _ hw)]
  split
  ·rfl
  ·have:x≠n:=by rintro rfl;exact h v List.mem_cons_self
   simp [this]
theorem bindL_get {kindOf:Str->Option NameKind} {x:Str} {v:Value}:∀ {P:List Str} {vs:List Value} {i:Nat} {m:Str->Option Value},P.Nodup->P[i]?=some x->vs[i]?=some v->kindOf x=some .local ->
  bindL kindOf (P.zip vs) m x=some v
|[],_,_,_,_,h,_,_=>by simp at h
|_ :: _,[],_,_,_,_,h,_=>by simp at h
|p :: P,w :: vs,0,m,nd,h1,h2,hk=>by
  simp at h1 h2;subst h1;subst h2
  show bindL kindOf ((p,w) :: P.zip vs) m p=_
  unfold bindL
  rw [bindL_out λ v hv=>(List.nodup_cons.mp nd).1 (List.of_mem_zip hv).1,if_pos hk]
  simp
|p :: P,w :: vs,i+1,m,nd,h1,h2,hk=>by
  show bindL kindOf ((p,w) :: P.zip vs) m x=_
  unfold bindL
  exact bindL_get (i:=i) (List.nodup_cons.mp nd).2 (by simpa using h1) (by simpa using h2) hk
theorem bindC_get {kindOf:Str->Option NameKind} {x:Str} {v:Value}:∀ {P:List Str} {vs:List Value} {i:Nat} {m:Str->Option Value},P.Nodup->P[i]?=some x->vs[i]?=some v->kindOf x≠some .local ->
  bindC kindOf (P.zip vs) m x=some v
|[],_,_,_,_,h,_,_=>by simp at h
|_ :: _,[],_,_,_,_,h,_=>by simp at h
|p :: P,w :: vs,0,m,nd,h1,h2,hk=>by
  simp at h1 h2;subst h1;subst h2
  show bindC kindOf ((p,w) :: P.zip vs) m p=_
  unfold bindC
  rw [bindC_out λ v hv=>(List.nodup_cons.mp nd).1 (List.of_mem_zip hv).1,if_neg hk]
  simp
|p :: P,w :: vs,i+1,m,nd,h1,h2,hk=>by
  show bindC kindOf ((p,w) :: P.zip vs) m x=_
  unfold bindC
  exact bindC_get (i:=i) (List.nodup_cons.mp nd).2 (by simpa using h1) (by simpa using h2) hk
def start (N:List Str) (vs:List V):St:=vs.map some++List.replicate (N.length - vs.length) none
def cxOf (CX:CXT) (P:Program) (w:World) (K:Fg) (mg:Str->Option Value) (base:Heap) (N:List Str) (qual:Str) (scope:Scope) (f:Addr) (cd:Value) (A:Around) (outer:List Env) (s:Shared) (H:Hp) (E:XK):Cx where
 prog:=P
 w:=w
 K:=K
 mg:=mg
 base:=base
 A:=A.deeper (envOfC qual scope s.heap.objs.size f cd)
 N:=N
 s₀:=s
 H₀:=H
 env:=envOfC qual scope s.heap.objs.size f cd
 outer:=outer
 stack:=envOfC qual scope s.heap.objs.size f cd :: outer
 ex:=[]
 calm:=true
 fn:=λ _=>true
 pn:=[]
 xe:=λ e s'=>wpAny (model P w) (A.deeper (envOfC qual scope s.heap.objs.size f cd)) (leaving (envOfC qual scope s.heap.objs.size f cd) e) (λ _ s''=>CX outer H s E e s'') (λ e' s''=>CX outer H s E e' s'') s'
theorem cell_has {sc:Scope} {n:Nat} {x:Str} (h:sc.names.lookup x=some .cell):∃ c,(cellsFrom n sc.names []).lookup x=some c:=by
 have q:=PySem.W.cellsFrom_some sc.names n [] (.inl h)
 exact Option.isSome_iff_exists.mp q
theorem inv_start {CX:CXT} {P:Program} {w:World} {K:Fg} {mg:Str->Option Value} {base:Heap} {N ps:List Str} {qual:Str} {scope:Scope} {f:Addr} {cd:Value} {A:Around} {outer:List Env} {s s1:Shared} {H:Hp} {E:XK} {us:List Value} {vs:List V}
  (S:FnScope N ps scope) (hd:A.handled=none) (e0:Env0 P w K mg base A outer s H) (hl:vs.length=ps.length) (r:Vals vs us)
  (x:InCallC s s.heap.objs.size (bindL (envOfC qual scope s.heap.objs.size f cd).kindOf (ps.zip us) λ _=>none) (cellsFrom (s.heap.objs.size+1) scope.names []) (bindC (envOfC qual scope s.heap.objs.size f cd).kindOf (ps.zip us) λ _=>none) s1) :
  Inv (cxOf CX P w K mg base N qual scope f cd A outer s H E) [] (start N vs) H s1:=by
 have hpl:ps.length<=N.length:=by have:=congrArg List.length S.pre;rw [List.length_take] at this;lia
 obtain ⟨h1,tk,rfl,hk⟩:=x.done
 have noA:∀ b:Addr,b ∉ (cxOf CX P w K mg base N qual scope f cd A outer s H E).ex:=λ b z=>absurd (show b∈([]:List Addr) from z) (by simp)
 refine ⟨⟨e0.mod,S.kind,rfl,rfl,Nat.le_refl _,λ y z c h1 h2=>?_,λ y hy=>?_,λ y c _ h=>?_,λ _=>hd,Around.frames_deeper e0.frames,.inr ⟨rfl,rfl⟩,λ b z=>absurd z (noA b),e0.bs,e0.bsz,λ b _ _=>noA b,λ b z=>absurd z (noA b),e0.funs,e0.frf⟩,
  rfl,e0.bare,Un.kept hk,⟨_,x.toInCall.ns,λ i y v h1 h2 h3=>?_⟩,λ y c h=>⟨_,x.cell y c h⟩,e0.hok.fresh (Nat.le_refl _),λ y c h=>?_,λ p hp=>absurd (show p∈([]:List (Addr×Obj)) from hp) (by simp),e0.hok.kept hk,?_⟩
 ·exact name_of_addr x.apart (PySem.mem_of_lookup h1) (PySem.mem_of_lookup h2)
 ·have hy:scope.names.lookup y=some .cell \/ scope.names.lookup y=some .free:=hy
  rcases hy with hy|hy
  ·exact cell_has hy
  ·exact absurd rfl (S.nofree _ (PySem.mem_of_lookup hy))
 ·exact Nat.le_of_lt (x.above y c (PySem.mem_of_lookup h))
 ·have hi:i < vs.length:=by
   unfold start at h2
   by_cases hi:i < vs.length
   ·exact hi
   ·rw [List.getElem?_append_right (by simpa using hi)] at h2
    rw [List.getElem?_replicate] at h2
    split at h2 <;> cases h2
  have ha:vs[i]?=some v:=by
   unfold start at h2
   rw [List.getElem?_append_left (by simpa using hi),List.getElem?_map] at h2
   cases e:vs[i]? with
  |none=>rw [e] at h2;cases h2
  |some a=>rw [e] at h2;cases h2;rfl
  obtain ⟨u,hu,rv⟩:=r.get ha
  have hp:ps[i]?=some y:=by
   rw [<- S.pre,List.getElem?_take_of_lt (by lia)];exact h1
  have ndP:ps.Nodup:=by rw [<- S.pre];exact S.nd.sublist (List.take_sublist _ _)
  refine ⟨u,rv,?_⟩
  rcases S.par y (List.mem_of_getElem? hp) with k|k
  ·exact .inl ⟨k,bindL_get ndP hp hu k⟩
  ·obtain ⟨c,e⟩:=cell_has (n:=s.heap.objs.size+1) k
   refine .inr ⟨.inl k,c,e,?_⟩
   have q:=x.cell y c e
   rw [bindC_get ndP hp hu (by show scope.names.lookup y≠_;rw [k];decide)] at q
   exact q
 ·exact e0.hok.fresh (Nat.le_of_lt (x.above y c (PySem.mem_of_lookup h)))
 ·unfold start
  show _=N.length
  rw [List.length_append,List.length_map,List.length_replicate]
  lia
theorem fn_of {CX:CXT} {P:Program} {w:World} {K:Fg} {mg:Str->Option Value} {base:Heap} {k:Nat} {f:Addr} {name qual:Str} {params:Arguments} {body:List Stmt} {scope:Scope} {dV kV doc pm cdv ct oc:Value} {an od:Option Addr}
  {osl:Array (Option Value)} {N ps:List Str} {sp:Sp} (lk:K.lookup f=some ⟨oc,od,.func (PySem.W.fnOf name qual params body scope dV kV doc pm an cdv ct),osl⟩) (hcd:PySem.W.codeIn K cdv qual=true) (S:FnScope N ps scope)
  (len:∀ vs H Q E,sp vs H Q E->vs.length=ps.length)
  (hbody:∀ (A:Around) (outer:List Env) (s:Shared) (H:Hp) (vs:List V) (Q:VK) (E:XK),Room k (A.deeper (envOfC qual scope s.heap.objs.size f cdv))->sp vs H Q E ->
   ∃ t,PSs (cxOf CX P w K mg base N qual scope f cdv A outer s H E) body t/\t { nx:=λ _ H'=>Q .non H',rt:=Q } (start N vs) H) :
  FnOk P w K mg base CX (k+1) f (PySem.W.fnOf name qual params body scope dV kV doc pm an cdv ct) ps sp:=by
 refine ⟨len,λ A outer s H args us vs Q E hr e0 hb r hsp=>?_⟩
 have hl:=len _ _ _ _ hsp
 have KX:K.In s.heap:=e0.mod.kin.keeps λ b o e=>(e0.bs b o e).1
 have lim:s.heap.NoLimit:=e0.mod.nolimit.keeps λ b o e=>(e0.bs b o e).1
 have hkind:∀ y∈ps.zip us,scope.names.lookup y.1=some .local \/ (scope.names.lookup y.1=some .cell/\((cellsFrom (s.heap.objs.size+1) scope.names []).lookup y.1).isSome=true):=λ ⟨n,v⟩ hy=>by
  rcases S.par n (List.of_mem_zip hy).1 with q|q
  ·exact .inl q
  ·exact .inr ⟨q,PySem.W.cellsFrom_some _ _ _ (.inl q)⟩
 refine codeAny_call_function hr.depth (KX _ _ lk) rfl S.co S.gen rfl (PySem.W.codeRec_of KX hcd) (hb _ _ _ _ ?_)
 refine wpAny_newFunctionEnv_cells S.kind hkind λ env he s1 x=>?_
 subst he
 refine ⟨lim.keeps x.toInCall.keep,codeAny_func ?_⟩
 obtain ⟨t,ht,hq⟩:=hbody A outer s H vs Q E (hr.deeper _) hsp
 have I:Inv (cxOf CX P w K mg base N qual scope f cdv A outer s H E) [] (start N vs) H s1:=inv_start S hr.hd e0 hl r x
 refine wpAny_mono (ht [] s1 (start N vs) H _ I hq) (λ fl s' hs=>?_) λ e s' hs=>hs
 have fin:∀ {σ':St} {H':Hp} {v:V} {u:Value},Inv (cxOf CX P w K mg base N qual scope f cdv A outer s H E) [] σ' H' s'->RelV v u->Q v H'->CE outer P w H s Q u s' :=
  λ {σ' H' v u} J rv q=>⟨v,H',J.os,J.bare,J.base,J.hok,rv,q⟩
 cases fl with
|ret u =>
  obtain ⟨v,σ',H',J,rv,q⟩:=hs
  exact fin J rv q
|next =>
  obtain ⟨σ',H',J,q⟩:=hs
  exact fin (v:=V.non) (u:=Value.none) J rfl q
|brk =>
  obtain ⟨_,_,_,q⟩:=hs
  exact False.elim q
|cont =>
  obtain ⟨_,_,_,q⟩:=hs
  exact False.elim q
section
variable {X:Cx} {x:Str} {p pos:Pos} {e:Expr} {es:List Expr} {t:TA} {id T:String} {r:List V->Hp->VK->Prop}
def tCB (r:List V->Hp->VK->Prop) (t:TA):TE:=λ σ H Q=>t σ H λ vs H1=>r vs H1 Q
theorem pe_callB (hc:CallR X (.builtin id) r) (hg:Gl X x) (hm:X.mg x=none) (hv:bootBuiltins x=some (.builtin id)) (ha:PA X (e :: es) t) (hn:x ≠ "__name__":=by decide) (hdb:(x == ("__debug__":Str))=false:=by decide)
  (he:starEach (e :: es) X.env=(false,eval e X.env) :: starEach es X.env:=by rfl) (hpl:(backTo pos (starEach es X.env)).any (·.1)=false:=by rfl):PE X (.Call (.Name x p) (e :: es) [] pos) (tCB r t):=by
 intro pins s σ H Q I h
 refine wpAny_Call_Name_kw (ld_blt I hg hm hv ?_ hn hdb)
 exact PyProof.Rows.callWith_builtin1 (thn (ha pos pins s σ H _ I h) λ us s1 ⟨vs,H1,I1,r1,q1⟩=>hc pins s1 σ H1 vs us Q I1 r1 q1) he hpl
theorem pe_callTy (hc:CallR X (.type T) r) (hg:Gl X x) (hm:X.mg x=none) (hv:bootBuiltins x=some (.type T)) (ha:PA X (e :: es) t) (hn:x ≠ "__name__":=by decide) (hdb:(x == ("__debug__":Str))=false:=by decide)
  (he:starEach (e :: es) X.env=(false,eval e X.env) :: starEach es X.env:=by rfl) (hpl:(backTo pos (starEach es X.env)).any (·.1)=false:=by rfl):PE X (.Call (.Name x p) (e :: es) [] pos) (tCB r t):=by
 intro pins s σ H Q I h
 refine wpAny_Call_Name_kw (ld_blt I hg hm hv ?_ hn hdb)
 exact PyProof.Rows.callWith_type1 (thn (ha pos pins s σ H _ I h) λ us s1 ⟨vs,H1,I1,r1,q1⟩=>hc pins s1 σ H1 vs us Q I1 r1 q1) he hpl
end
end L2
namespace HT
open PySem PyProof.Rows
section
open PySem.SeqAt
open PySem.AutoSeq1 (wpAny_loadPart')
open PySem.MeetsSeq PySem.MeetsSeq2 PySem.MeetsSeq3
end
section
variable {prog:Program} {w:World} {A:Around} {E:Value->Shared->Prop} {s:Shared}
theorem cat_tup {t b:Addr} {vs ws:List Value} {Q:Value->Shared->Prop} (ht:IsTup s.heap t vs.toArray) (hb:IsTup s.heap b ws.toArray) (hv:vs≠[])
  (h1:ws=[]->Q (.ref t) s) (h2:ws≠[]->Q (.ref s.heap.objs.size) { s with heap:=s.heap.push { cls:=.type "tuple",data:=.seq (vs++ws).toArray } })
  (hsz:vs.length+ws.length<=sizeLine):wpAny (model prog w) A (binaryOp .Add (.ref t) (.ref b)) Q E s:=by
 obtain ⟨⟨cls,dd,data,sl⟩,ho,hc,n,hd⟩:=id ht
 obtain ⟨⟨cls2,dd2,data2,sl2⟩,ho2,hc2,n2,hd2⟩:=id hb
 simp only at hc hd hc2 hd2
 subst hc hd hc2 hd2
 have e:vs.toArray++ws.toArray=(vs++ws).toArray:=by simp
 by_cases hw:ws=[]
 ·exact concat_meets ⟨_,ho,rfl⟩ ⟨_,ho2,rfl⟩ noFill_tuple_add seq_tuple_add PySem.F.slot_tuple_add PySem.F.entry_tuple_add (PySem.F.args_tuple_add_2 _ _)
   (tuple_addW1 t b vs.toArray ws.toArray n n2 dd dd2 sl sl2 (by simpa using hv) (by simp [hw])) ⟨ho,ho2,h1 hw⟩
 ·refine concat_meets ⟨_,ho,rfl⟩ ⟨_,ho2,rfl⟩ noFill_tuple_add seq_tuple_add PySem.F.slot_tuple_add PySem.F.entry_tuple_add (PySem.F.args_tuple_add_2 _ _)
   (tuple_addW2 t b vs.toArray ws.toArray n n2 dd dd2 sl sl2 (by simpa using hv) (by simpa using hw) (by rw [List.size_toArray,List.size_toArray];exact hsz)) ⟨ho,ho2,?_⟩
  rw [e]
  exact h2 hw
def sIx (n d:Nat):Option Int->Nat
|none=>d
|some v=>if v < 0 then (v+(n:Int)).toNat else min v.toNat n
end
end HT
namespace L2
open PySem PySem.Spec PyProof.Rows
theorem intsAre_of {ns:List Int}:∀ {us:List Value},Vals (ns.map V.int) us->IntsAre us ns:=by
 induction ns with
|nil=>intro us r;rw [List.map_nil] at r;cases r;exact .nil
|cons n ns ih =>
  intro us r
  rw [List.map_cons] at r
  cases r with
 |cons r1 r2 =>
   obtain ⟨t,e⟩:=r1
   subst e
   exact .cons n t (ih r2)
section
variable {X:Cx} {e:Expr} {te:TE} {lo hi:Option Expr} {tl th:TO} {pos p2:Pos}
def SlR (X:Cx) (r:V->Option Int->Option Int->Hp->VK->Prop):Prop :=
 ∀ (pins:List (Addr×Obj)) (s:Shared) (σ:St) (H:Hp) (x:V) (v vl vu:Value) (lo hi:Option Int) (sl:Addr) (Q:VK),Inv X pins σ H s->RelV x v->s.heap.IsSliceOf sl vl vu .none->IsPart vl lo->IsPart vu hi->r x lo hi H Q ->
  ∃ T id,typeLookup (.type T) "__getitem__"=pure (some (.builtin id))/\s.TypeIs v T/\wpAny (model X.prog X.w) X.A (getItem v (.ref sl)) (EP X pins σ Q) X.xe s
def cutV (xs:List V) (lo hi:Option Int):List V:=(xs.drop (HT.sIx xs.length 0 lo)).take (HT.sIx xs.length xs.length hi - HT.sIx xs.length 0 lo)
theorem cutV_length (xs:List V) (lo hi:Option Int):(cutV xs lo hi).length<=xs.length:=by
 unfold cutV
 rw [List.length_take,List.length_drop]
 lia
def rCatT (K:Fg):R2:=λ x y H Q=>∃ a b xs ys,x=.ref a/\y=.ref b/\SqT K H a xs/\SqT K H b ys/\xs≠[]/\xs.length+ys.length<=sizeLine /\
 (ys=[]->Q (.ref a) H)/\(ys≠[]->∀ p,H p=none->Q (.ref p) (upd H p (.tup (xs++ys))))
theorem Vals.nil_iff {xs:List V} {us:List Value} (r:Vals xs us):us=[] ↔ xs=[]:=by
 cases r with
|nil=>simp
|cons _ _=>simp
theorem op_catT:OpR X (binaryOp .Add) (rCatT X.K):=by
 intro pins s σ H x y v u Q I rx ry h
 obtain ⟨a,b,xs,ys,rfl,rfl,ha,hb,hx,hz,q1,q2⟩:=h
 cases rx
 cases ry
 obtain ⟨its,r1,p1,_⟩:=I.tuple ha
 obtain ⟨its2,r2,p2,_⟩:=I.tuple hb
 refine HT.cat_tup p1 p2 (λ z=>hx (r1.nil_iff.mp z)) (λ z=>⟨.ref a,H,I,rfl,q1 (r2.nil_iff.mp z)⟩) (λ z=>?_) (by rw [<- r1.length,<- r2.length];exact hz)
 refine ⟨.ref s.heap.objs.size,_,I.laid (t':=s.toks) (o:=.tup (xs++ys)) (λ b ob q=>Heap.get?_push_of_some _ q) (Nat.le_refl _) ?_,rfl,q2 (λ w=>z (r2.nil_iff.mpr w)) _ (I.hok.fresh (Nat.le_refl _))⟩
 exact ⟨by rw [List.length_append];exact hz,_,r1.append r2,IsTup.new _ _⟩
end
def ixN (n:Nat) (i:Int):Option Nat:=if 0<=i then (if i < n then some i.toNat else none) else if -(n:Int)<=i then some (i+n).toNat else none
def atI {α:Type} (xs:List α) (i:Int):Option α:=(ixN xs.length i).bind λ j=>xs[j]?
theorem ixN_seq {n:Nat} {i:Int} {j:Nat} (h:ixN n i=some j):seqIndex? i n=some j/\j < n/\-(n:Int)<=i/\i < n:=by
 unfold ixN at h
 by_cases h0:0<=i
 ·rw [if_pos h0] at h
  by_cases h1:i < n
  ·rw [if_pos h1] at h
   have e:i.toNat=j:=Option.some.inj h
   exact ⟨by rw [seqIndex_of h0 h1,e],by lia,by lia,h1⟩
  ·rw [if_neg h1] at h;cases h
 ·rw [if_neg h0] at h
  by_cases h1:-(n:Int)<=i
  ·rw [if_pos h1] at h
   have e:(i+n).toNat=j:=Option.some.inj h
   exact ⟨by rw [seqIndex_neg (by lia) h1,e],by lia,h1,by lia⟩
  ·rw [if_neg h1] at h;cases h
theorem atI_get {α:Type} {xs:List α} {i:Int} {v:α} (h:atI xs i=some v):∃ j,seqIndex? i xs.length=some j/\xs[j]?=some v/\j < xs.length/\-(xs.length:Int)<=i/\i < xs.length:=by
 unfold atI at h
 cases e:ixN xs.length i with
|none=>rw [e] at h;cases h
|some j =>
  rw [e] at h
  obtain ⟨h1,h2,h3,h4⟩:=ixN_seq e
  exact ⟨j,h1,h,h2,h3,h4⟩
theorem atI_nat {α:Type} {xs:List α} {j:Nat} {v:α} (h:xs[j]?=some v):atI xs (j:Int)=some v:=by
 have hj:j < xs.length:=(List.getElem?_eq_some_iff.mp h).1
 have e:ixN xs.length (j:Int)=some j:=by
  unfold ixN
  rw [if_pos (by lia),if_pos (by lia)];simp
 unfold atI;rw [e];exact h
def PlainIx (b:Expr):Prop:=∀ o i,subscripted b false o i=operate [o,i] (getItem o i)
def IxR (X:Cx) (r:R2):Prop :=
 ∀ (value slice:Expr) (pins:List (Addr×Obj)) (s:Shared) (σ:St) (H:Hp) (x y:V) (v u:Value) (Q:VK),Inv X pins σ H s->RelV x v->RelV y u->r x y H Q ->
  subscripted slice false v u=operate [v,u] (getItem v u)->wpAny (model X.prog X.w) X.A (subscriptTail value slice v u) (EP X pins σ Q) X.xe s
def MtR (X:Cx) (id:String) (r:V->List V->Hp->VK->Prop):Prop :=
 ∀ (pins:List (Addr×Obj)) (s:Shared) (σ:St) (H:Hp) (x:V) (xs:List V) (v:Value) (us:List Value) (Q:VK),Inv X pins σ H s->RelV x v->Vals xs us->r x xs H Q ->
  wpAny (model X.prog X.w) X.A (call (.builtin id) (v :: us)) (EP X pins σ Q) X.xe s
section
variable {X:Cx} {a b:Expr} {ta tb:TE} {pos:Pos}
theorem IxR.or {r r':R2} (h:IxR X r) (h':IxR X r'):IxR X (λ x y H Q=>r x y H Q \/ r' x y H Q):=by
 intro value slice pins s σ H x y v u Q I rx ry q hs
 rcases q with q|q
 ·exact h value slice pins s σ H x y v u Q I rx ry q hs
 ·exact h' value slice pins s σ H x y v u Q I rx ry q hs
theorem pe_ix {r:R2} (hr:IxR X r) (ha:PE X a ta) (hb:PE X b tb) (hs:PlainIx b):PE X (.Subscript a b pos) (tOp r ta tb):=by
 intro pins s σ H Q I h
 exact Subscript_ (binT ha hb I h λ v u s2 x y H2 I2 rx ry q=>hr a b pins s2 σ H2 x y v u Q I2 rx ry q (hs _ _))
def rIxL (K:Fg):R2:=λ x y H Q=>∃ p xs i v,x=.ref p/\y=.int i/\SqL K H p xs/\atI xs i=some v/\Q v H
def rIxT (K:Fg):R2:=λ x y H Q=>∃ p xs i v,x=.ref p/\y=.int i/\SqT K H p xs/\atI xs i=some v/\Q v H
def rIxS:R2:=λ x y H Q=>∃ z i c,x=.str z/\y=.int i/\z.length<=sizeLine/\atI z.cps.toList i=some c/\Q (.str ⟨#[c]⟩) H
theorem ix_list:IxR X (rIxL X.K):=by
 intro value slice pins s σ H x y v u Q I rx ry h hs
 obtain ⟨p,xs,i,z,rfl,rfl,hq,he,q⟩:=h
 cases rx
 obtain ⟨t,rfl⟩:=ry
 obtain ⟨its,r,pl,hz⟩:=I.list hq
 obtain ⟨j,h1,h2,h3,h4,h5⟩:=atI_get he
 obtain ⟨w,ew,rw'⟩:=r.get h2
 have hl:=r.length
 have hn:=line63
 have fin:EP X pins σ Q w s:=⟨z,H,I,rw',q⟩
 by_cases h0:0<=i
 ·have hj:i.toNat=j:=by
   rw [seqIndex_of h0 h5] at h1
   exact Option.some.inj h1
  exact item_listR pl.isList h0 (by lia) (by rw [hj];simpa using ew) fin hs
 ·have hj:(i+(its.toArray.size:Int)).toNat=j:=by
   rw [seqIndex_neg (by lia) h4] at h1
   rw [List.size_toArray,<- hl]
   exact Option.some.inj h1
  exact subscriptTail_builtinR (x:=w) pl.isList.typeIs slot_list_getitem.lookup
   (wpAny_getItem_list_neg (Q:=λ r s'=>r=w/\EP X pins σ Q r s') pl.isList (by lia) (by rw [List.size_toArray] <;> lia) (by lia) (by rw [hj];simpa using ew) ⟨rfl,fin⟩) hs
theorem ix_tup:IxR X (rIxT X.K):=by
 intro value slice pins s σ H x y v u Q I rx ry h hs
 obtain ⟨p,xs,i,z,rfl,rfl,hq,he,q⟩:=h
 cases rx
 obtain ⟨t,rfl⟩:=ry
 obtain ⟨its,r,pl,hz⟩:=I.tuple hq
 obtain ⟨j,h1,h2,h3,h4,h5⟩:=atI_get he
 obtain ⟨w,ew,rw'⟩:=r.get h2
 have hl:=r.length
 have hn:=line63
 have fin:EP X pins σ Q w s:=⟨z,H,I,rw',q⟩
 exact subscriptTail_builtinR (x:=w) pl.typeIs slot_tuple_getitem.lookup
  (getItem_tuple (j:=j) (Q:=λ r s'=>r=w/\EP X pins σ Q r s') pl (by lia) (by lia) (by rw [List.size_toArray,<- hl];exact h1) (by simpa using ew) ⟨rfl,fin⟩) hs
theorem ix_str:IxR X rIxS:=by
 intro value slice pins s σ H x y v u Q I rx ry h hs
 obtain ⟨z,i,c,rfl,rfl,hz,he,q⟩:=h
 obtain ⟨t,rfl⟩:=rx
 obtain ⟨t',rfl⟩:=ry
 obtain ⟨j,h1,h2,h3,h4,h5⟩:=atI_get he
 have hl:z.cps.toList.length=z.length:=by simp [Str.length]
 rw [hl] at h1 h4 h5
 have hn:=line63
 exact tail_any (typeIs_str s z t) slot_str_getitem.lookup (getItem_str (c:=c) (by
  have e1:decide (i < -(2 ^ 63:Int))=false:=decide_eq_false (by lia)
  have e2:decide (i ≥ 2 ^ 63)=false:=decide_eq_false (by lia)
  rw [e1,e2,Bool.or_false]) (by rw [h1];simpa using h2) ⟨.str ⟨#[c]⟩,H,I.tok _,⟨_,rfl⟩,q⟩) hs
def rIx (K:Fg):R2:=λ x y H Q=>rIxL K x y H Q \/ rIxT K x y H Q \/ rIxS x y H Q
theorem ix_seq:IxR X (rIx X.K):=ix_list.or (ix_tup.or ix_str)
theorem mapSeq_set (its:List Value) (n j:Nat) (u:Value):Obj.mapSeq (·.setIfInBounds j u) { cls:=.type "list",data:=.seq its.toArray n }={ cls:=.type "list",data:=.seq (its.set j u).toArray n }:=by
 simp [Obj.mapSeq]
theorem Inv.lst {pins:List (Addr×Obj)} {σ:St} {H:Hp} {s:Shared} {p:Addr} {xs:List V} (I:Inv X pins σ H s) (h:H p=some (.lst xs)) :
  ∃ (its:List Value) (n:Nat),Vals xs its/\s.heap.get? p=some { cls:=.type "list",data:=.seq its.toArray n }/\xs.length<=sizeLine:=by
 obtain ⟨z,its,n,r,e⟩:=I.hok p _ h
 exact ⟨its,n,r,e,z⟩
theorem Inv.lstUpd {pins:List (Addr×Obj)} {σ:St} {H:Hp} {s:Shared} {p:Addr} {xs ys:List V} {its its':List Value} {n n':Nat} {f:Obj->Obj} (I:Inv X pins σ H s) (h:H p=some (.lst xs))
  (ho:s.heap.get? p=some { cls:=.type "list",data:=.seq its.toArray n }) (hf:f { cls:=.type "list",data:=.seq its.toArray n }={ cls:=.type "list",data:=.seq its'.toArray n' }) (r:Vals ys its') (hz:ys.length<=sizeLine) (t:Nat) :
  Inv X pins σ (upd H p (.lst ys)) { s with heap:=s.heap.update p f,toks:=t }:=by
 have e:(s.heap.update p f).get? p=some { cls:=.type "list",data:=.seq its'.toArray n' }:=by
  rw [Heap.get?_update_self f ho (by rw [hf] <;> rfl),hf]
 refine I.write (x:=p) (e:=p) (by rw [h];trivial) (.inl rfl) (λ b u hb q=>(Heap.get?_update_other _ _ (Ne.symm hb)).trans q) ⟨_,e⟩ ?_
 exact ⟨hz,its',n',r,e⟩
def rSetL:V->V->V->Hp->(Hp->Prop)->Prop:=λ o i v H Q=>∃ p xs k j,o=.ref p/\i=.int k/\H p=some (.lst xs)/\ixN xs.length k=some j/\Q (upd H p (.lst (xs.set j v)))
theorem set_list:PSet X rSetL:=by
 intro pins s σ H o i v ov iv u Q I ro ri rv h
 obtain ⟨p,xs,k,j,rfl,rfl,hp,hj,q⟩:=h
 cases ro
 obtain ⟨t,rfl⟩:=ri
 obtain ⟨its,n,r,ho,hz⟩:=I.lst hp
 obtain ⟨h1,h2,h3,h4⟩:=ixN_seq hj
 have hl:=r.length
 have hn:=line63
 have I':Inv X pins σ (upd H p (.lst (xs.set j v))) { s with heap:=s.heap.update p (Obj.mapSeq (·.setIfInBounds j u)) } :=
  I.lstUpd hp ho (mapSeq_set its n j u) (r.set rv j) (by rw [List.length_set];exact hz) s.toks
 by_cases h0:0<=k
 ·have hk:k.toNat=j:=by
   rw [seqIndex_of h0 h4] at h1
   exact Option.some.inj h1
  exact PySem.W.ki_setAt ho h0 (by lia) (by rw [List.size_toArray,<- hl];exact h4) (by rw [hk];exact ⟨_,I',q⟩)
 ·have hk:(k+(its.toArray.size:Int)).toNat=j:=by
   rw [seqIndex_neg (by lia) h3] at h1
   rw [List.size_toArray,<- hl]
   exact Option.some.inj h1
  exact PySem.W.ki_setBack ho (by lia) (by rw [List.size_toArray,<- hl];exact h3) (by lia) (by rw [hk];exact ⟨_,I',q⟩)
theorem slice_bounds (lo hi:Option Int) (n:Nat):(sliceBounds lo hi none n).1=((HT.sIx n 0 lo:Nat):Int)/\(sliceBounds lo hi none n).2.1=((HT.sIx n n hi:Nat):Int)/\(sliceBounds lo hi none n).2.2=1:=by
 refine ⟨?_,?_,rfl⟩
 ·cases lo with
 |none=>simp [sliceBounds,HT.sIx]
 |some i =>
   simp only [sliceBounds,HT.sIx,Option.getD_none,show (1:Int) > 0 by decide,if_true]
   by_cases h:i < 0
   ·simp only [h,if_true] <;> lia
   ·simp only [h,if_false] <;> lia
 ·cases hi with
 |none=>simp [sliceBounds,HT.sIx]
 |some i =>
   simp only [sliceBounds,HT.sIx,Option.getD_none,show (1:Int) > 0 by decide,if_true]
   by_cases h:i < 0
   ·simp only [h,if_true] <;> lia
   ·simp only [h,if_false] <;> lia
theorem slicePick_cut (its:List Value) (lo hi:Option Int):slicePick its.toArray lo hi none=((its.drop (HT.sIx its.length 0 lo)).take (HT.sIx its.length its.length hi - HT.sIx its.length 0 lo)).toArray:=by
 obtain ⟨h1,h2,h3⟩:=slice_bounds lo hi its.toArray.size
 unfold slicePick
 rw [h1,h2,h3]
 simp only [sliceRange_one,pick_run,List.size_toArray] <;> rfl
def rSlL (K:Fg):V->Option Int->Option Int->Hp->VK->Prop:=λ x lo hi H Q=>∃ a xs,x=.ref a/\SqL K H a xs/\∀ p,H p=none->Q (.ref p) (upd H p (.lst (cutV xs lo hi)))
theorem sl_list:SlR X (rSlL X.K):=by
 intro pins s σ H x v vl vu lo hi sl Q I rx hs pl pu h
 obtain ⟨a,xs,rfl,hx,q⟩:=h
 cases rx
 obtain ⟨its,r,ht,hz⟩:=I.list hx
 have hlen:=r.length
 refine ⟨"list",_,slot_list_getitem.lookup,ht.isList.typeIs,?_⟩
 refine wpAny_getItem_list_slice ht.isList hs pl pu .none (by simp) ?_ (by rw [List.size_toArray] <;> lia)
 rw [slicePick_cut,<- hlen]
 refine ⟨.ref s.heap.objs.size,_,I.laid (t':=s.toks) (o:=.lst (cutV xs lo hi)) (λ b ob q=>Heap.get?_push_of_some _ q) (Nat.le_refl _) ?_,rfl,q _ (I.hok.fresh (Nat.le_refl _))⟩
 exact ⟨Nat.le_trans (cutV_length xs lo hi) hz,_,0,(r.drop (HT.sIx xs.length 0 lo)).take (HT.sIx xs.length xs.length hi - HT.sIx xs.length 0 lo),Heap.get?_push_size _ rfl⟩
def flatV:V->Bool
|.non=>true
|.bl _=>true
|.int _=>true
|.str _=>true
|_=>false
def eqV:V->V->Bool
|.non,.non=>true
|.bl a,.bl b=>a == b
|.bl a,.int b=>(if a then 1 else 0) == b
|.int a,.bl b=>a == (if b then 1 else 0)
|.int a,.int b=>a == b
|.str a,.str b=>a == b
|_,_=>false
theorem eqAt_V {A:Around} {s:Shared} {y x:V} {u v:Value} (ry:RelV y u) (rx:RelV x v) (fy:flatV y=true) (fx:flatV x=true):SeqAt.EqAt A s u v (eqV y x):=by
 cases y with
|non =>
  cases ry
  cases x with
 |non=>cases rx;exact SeqAt.EqAt.same _
 |bl b=>cases rx;exact SeqAt.EqAt.none_bool b
 |int b=>obtain ⟨t,rfl⟩:=rx;exact SeqAt.EqAt.none_int b t
 |str b=>obtain ⟨t,rfl⟩:=rx;exact SeqAt.EqAt.none_str b t
 |_=>exact absurd (show false=true from fx) Bool.false_ne_true
|bl a =>
  cases ry
  cases x with
 |non=>cases rx;exact SeqAt.EqAt.bool_none a
 |bl b=>cases rx;exact SeqAt.EqAt.bool_bool a b
 |int b=>obtain ⟨t,rfl⟩:=rx;exact SeqAt.EqAt.bool_int a b t
 |str b=>obtain ⟨t,rfl⟩:=rx;exact SeqAt.EqAt.bool_str a b t
 |_=>exact absurd (show false=true from fx) Bool.false_ne_true
|int a =>
  obtain ⟨t',rfl⟩:=ry
  cases x with
 |non=>cases rx;exact SeqAt.EqAt.int_none a t'
 |bl b=>cases rx;exact SeqAt.EqAt.int_bool a t' b
 |int b=>obtain ⟨t,rfl⟩:=rx;exact SeqAt.EqAt.int_int a t' b t
 |str b=>obtain ⟨t,rfl⟩:=rx;exact SeqAt.EqAt.int_str a t' b t
 |_=>exact absurd (show false=true from fx) Bool.false_ne_true
|str a =>
  obtain ⟨t',rfl⟩:=ry
  cases x with
 |non=>cases rx;exact SeqAt.EqAt.str_none a t'
 |bl b=>cases rx;exact SeqAt.EqAt.str_bool a t' b
 |int b=>obtain ⟨t,rfl⟩:=rx;exact SeqAt.EqAt.str_int a t' b t
 |str b=>obtain ⟨t,rfl⟩:=rx;exact SeqAt.EqAt.str_str a t' b t
 |_=>exact absurd (show false=true from fx) Bool.false_ne_true
|_=>exact absurd (show false=true from fy) Bool.false_ne_true
def eqU (x:V) (u:Value):Bool:=match u with
|.none=>eqV .non x
|.bool b=>eqV (.bl b) x
|.int i _=>eqV (.int i) x
|.str z _=>eqV (.str z) x
|_=>false
theorem eqU_of {x y:V} {u:Value} (r:RelV y u) (f:flatV y=true):eqU x u=eqV y x:=by
 cases y with
|non=>cases r;rfl
|bl b=>cases r;rfl
|int i=>obtain ⟨t,rfl⟩:=r;rfl
|str z=>obtain ⟨t,rfl⟩:=r;rfl
|_=>exact absurd (show false=true from f) Bool.false_ne_true
theorem any_eqU {x:V}:∀ {xs:List V} {us:List Value},Vals xs us->xs.all flatV=true->us.any (eqU x)=xs.any λ y=>eqV y x
|_,_,.nil,_=>rfl
|y :: xs,u :: us,.cons r t,f=>by
  rw [List.all_cons,Bool.and_eq_true] at f
  rw [List.any_cons,List.any_cons,eqU_of r f.1,any_eqU t f.2]
theorem mem_eqAt {A:Around} {s:Shared} {x:V} {v:Value} (rx:RelV x v) (fx:flatV x=true):∀ {xs:List V} {us:List Value},Vals xs us->xs.all flatV=true->∀ u∈us,SeqAt.EqAt A s u v (eqU x u)
|_,_,.nil,_=>λ u hu=>by cases hu
|y :: xs,u :: us,.cons r t,f=>λ u' hu=>by
  rw [List.all_cons,Bool.and_eq_true] at f
  rcases List.mem_cons.mp hu with rfl|hu
  ·rw [eqU_of r f.1];exact eqAt_V r rx f.1 fx
  ·exact mem_eqAt rx fx t f.2 u' hu
def inV (x:V) (xs:List V):Bool:=xs.any λ y=>eqV y x
def rIn (K:Fg) (neg:Bool):R2:=λ x y H Q=>∃ p xs,y=.ref p/\(SqL K H p xs \/ SqT K H p xs)/\flatV x=true/\xs.all flatV=true/\Q (.bl (if neg then !inV x xs else inV x xs)) H
theorem op_in_seq:OpR X (compareOp .In) (rIn X.K false):=by
 intro pins s σ H x y v u Q I rx ry h
 obtain ⟨p,xs,rfl,hq,fx,fs,q⟩:=h
 cases ry
 rcases hq with hq|hq
 ·obtain ⟨its,r,pl,hz⟩:=I.list hq
  refine SeqAt.in_listAt (eqU x) pl.isList (λ w hw=>mem_eqAt rx fx r fs w (by simpa using hw)) ⟨.bl _,H,I,rfl,?_⟩
  rw [show its.toArray.any (eqU x)=its.any (eqU x) by simp,any_eqU r fs]
  exact q
 ·obtain ⟨its,r,pl,hz⟩:=I.tuple hq
  refine SeqAt.in_tupleAt (eqU x) pl (λ w hw=>mem_eqAt rx fx r fs w (by simpa using hw)) ⟨.bl _,H,I,rfl,?_⟩
  rw [show its.toArray.any (eqU x)=its.any (eqU x) by simp,any_eqU r fs]
  exact q
theorem op_notIn_seq:OpR X (compareOp .NotIn) (rIn X.K true):=by
 intro pins s σ H x y v u Q I rx ry h
 obtain ⟨p,xs,rfl,hq,fx,fs,q⟩:=h
 cases ry
 rcases hq with hq|hq
 ·obtain ⟨its,r,pl,hz⟩:=I.list hq
  refine SeqAt.notIn_listAt (eqU x) pl.isList (λ w hw=>mem_eqAt rx fx r fs w (by simpa using hw)) ⟨.bl _,H,I,rfl,?_⟩
  rw [show its.toArray.any (eqU x)=its.any (eqU x) by simp,any_eqU r fs]
  exact q
 ·obtain ⟨its,r,pl,hz⟩:=I.tuple hq
  refine SeqAt.notIn_tupleAt (eqU x) pl (λ w hw=>mem_eqAt rx fx r fs w (by simpa using hw)) ⟨.bl _,H,I,rfl,?_⟩
  rw [show its.toArray.any (eqU x)=its.any (eqU x) by simp,any_eqU r fs]
  exact q
theorem op_notIn_str:OpR X (compareOp .NotIn) (λ x y H Q=>∃ i j,x=.str i/\y=.str j/\Q (.bl (!(!(Builtin.Str.occurrences j i 0 j.length 1).isEmpty))) H):=by
 intro pins s σ H x y v u Q I rx ry h
 obtain ⟨i,j,rfl,rfl,q⟩:=h
 obtain ⟨t,rfl⟩:=rx
 obtain ⟨t',rfl⟩:=ry
 exact notIn_str ⟨.bl _,H,I,rfl,q⟩
theorem CallR.or {f:Value} {r r':List V->Hp->VK->Prop} (h:CallR X f r) (h':CallR X f r'):CallR X f (λ xs H Q=>r xs H Q \/ r' xs H Q):=by
 intro pins s σ H xs us Q I rs q
 rcases q with q|q
 ·exact h pins s σ H xs us Q I rs q
 ·exact h' pins s σ H xs us Q I rs q
theorem call_list_of:CallR X (.type "list") (λ xs H Q=>∃ p ys,xs=[.ref p]/\(SqL X.K H p ys \/ SqT X.K H p ys)/\∀ l,H l=none->Q (.ref l) (upd H l (.lst ys))):=by
 intro pins s σ H xs us Q I r h
 obtain ⟨p,ys,rfl,hq,q⟩:=h
 obtain ⟨u,rfl,rx⟩:=vals1 r
 cases rx
 have fin:∀ (its:List Value),Vals ys its->ys.length<=sizeLine->∀ (h':Heap) (c':Nat),(∀ b o',s.heap.get? b=some o'->h'.get? b=some o') ->
   h'.get? s.heap.objs.size=some { cls:=.type "list",dict:=none,data:=.seq its.toArray c',slots:=#[] }->EP X pins σ Q (.ref s.heap.objs.size) { s with heap:=h' }:=λ its r' hz h' c' kp e =>
  ⟨.ref s.heap.objs.size,_,I.laid (t':=s.toks) kp (Nat.le_refl _) (show ObjOk X.prog X.w _ h' _ (.lst ys) from ⟨hz,its,c',r',e⟩),rfl,q _ (I.hok.fresh (Nat.le_refl _))⟩
 rcases hq with hq|hq
 ·obtain ⟨its,r',pl,hz⟩:=I.list hq
  have hlen:=r'.length
  obtain ⟨o,ho,hc,n,hd⟩:=pl.isList
  exact call_list_seq p (.inl rfl) ho hc hd (λ h' c' kp e=>fin its r' hz h' c' kp e) (by simp only [List.size_toArray] <;> lia)
 ·obtain ⟨its,r',pl,hz⟩:=I.tuple hq
  have hlen:=r'.length
  obtain ⟨o,ho,hc,n,hd⟩:=pl
  exact call_list_seq p (.inr rfl) ho hc hd (λ h' c' kp e=>fin its r' hz h' c' kp e) (by simp only [List.size_toArray] <;> lia)
def tyV (K:Fg) (T:String) (x:V) (H:Hp):Prop:=match x with
|.str _=>T = "str"
|.int _=>T = "int"
|.ref p=>(T = "list"/\∃ xs,SqL K H p xs) \/ (T = "tuple"/\∃ o,K.lookup p=some o/\o.cls=.type "tuple"/\o.dict=none) \/
   (T = "dict"/\((∃ kvs,H p=some (.dK kvs)) \/ ∃ kvs,H p=some (.dT kvs))) \/ (T = "set"/\∃ S n,H p=some (.set S n))
|_=>False
theorem tyV_is {pins:List (Addr×Obj)} {σ:St} {H:Hp} {s:Shared} {T:String} {x:V} {v:Value} (I:Inv X pins σ H s) (r:RelV x v) (ty:tyV X.K T x H) :
  s.TypeIs v T/\∀ a,v=.ref a->∃ ob,s.heap.get? a=some ob/\ob.dict=none:=by
 cases x with
|str z =>
  obtain ⟨t,rfl⟩:=r
  cases (show T = "str" from ty)
  exact ⟨typeIs_str s z t,λ _ e=>nomatch e⟩
|int i =>
  obtain ⟨t,rfl⟩:=r
  cases (show T = "int" from ty)
  exact ⟨typeIs_int s i t,λ _ e=>nomatch e⟩
|ref p =>
  cases r
  rcases ty with ⟨rfl,xs,hq⟩|⟨rfl,o,hk,hc,hd⟩|⟨rfl,hk⟩|⟨rfl,S,n,hk⟩
  ·obtain ⟨its,_,pl,_⟩:=I.list hq
   refine ⟨pl.isList.typeIs,λ a e=>?_⟩
   cases e
   obtain ⟨o,n,e,c,hd,_⟩:=pl
   exact ⟨o,e,hd⟩
  ·refine ⟨⟨o,I.kIn p o hk,hc⟩,λ a e=>?_⟩
   cases e
   exact ⟨o,I.kIn _ o hk,hd⟩
  ·have z:∃ o,s.heap.get? p=some o/\o.ExactDict:=by
    rcases hk with ⟨kvs,hk⟩|⟨kvs,hk⟩
    ·obtain ⟨_,_,_,_,o,_,_,e,ex,_⟩:=I.hok p _ hk
     exact ⟨o,e,ex⟩
    ·obtain ⟨_,_,_,_,o,_,_,e,ex,_⟩:=I.hok p _ hk
     exact ⟨o,e,ex⟩
   obtain ⟨o,e,ex⟩:=z
   refine ⟨⟨o,e,ex.1⟩,λ a e2=>?_⟩
   cases e2
   exact ⟨o,e,ex.2.1⟩
  ·obtain ⟨o,_,_,_,e,ex,_⟩:=I.hok p _ hk
   refine ⟨⟨o,e,ex.1⟩,λ a e2=>?_⟩
   cases e2
   exact ⟨o,e,ex.2.1⟩
|_=>exact False.elim ty
def tBM (K:Fg) (T:String) (r:V->List V->Hp->VK->Prop) (to:TE) (t:TA):TE:=λ σ H Q=>to σ H λ x H1=>tyV K T x H1/\t σ H1 λ xs H2=>r x xs H2 Q
variable {o e:Expr} {es:List Expr} {to:TE} {t:TA} {name:Str} {apos cpos:Pos} {T id:String} {r:V->List V->Hp->VK->Prop}
theorem pe_bm (pa:PlainAttrs T) (slot:Slot T name id) (hty:typeOf (.builtin id)=pure (.type "method_descriptor")) (hm:MtR X id r) (ho:PE X o to) (ha:PA X (e :: es) t)
  (hbase:attributeBase o name X.env (eval o X.env)=eval o X.env:=by rfl)
  (hfew:((backTo cpos (starEach (e :: es) X.env)).all (λ x=>!x.1) && (backToKw cpos (keywordEach [] X.env)).all (λ x=>x.1.isSome)
   && decide ((e :: es).length+([]:List Keyword).length+(if ([]:List Keyword).isEmpty then 0 else 1) < 30))=true:=by rfl)
  (hline:(apos.endLine == cpos.line)=true:=by rfl) (hs:starEach (e :: es) X.env=(false,eval e X.env) :: starEach es X.env:=by rfl) (hplain:(backTo cpos (starEach es X.env)).any (·.1)=false:=by rfl) :
  PE X (.Call (.Attribute o name apos) (e :: es) [] cpos) (tBM X.K T r to t):=by
 intro pins s σ H Q I h
 refine wpAny_Call_method_late hbase hfew hline rfl (thn (ho pins s σ H _ I h) λ v s1 ⟨x,H1,I1,r1,ty,q1⟩=>?_)
 obtain ⟨h1,h2⟩:=tyV_is I1 r1 ty
 refine ⟨T,id,pa,slot,hty,h1,h2,?_⟩
 have hA:=ha cpos pins s1 σ H1 _ I1 q1
 rw [hs] at hA ⊢
 refine Calls.callWith_builtin (by show (false || (backTo cpos (starEach es X.env)).any (·.1))=false;rw [hplain] <;> rfl) (Calls.evalArgs_plain ?_)
 exact thn hA λ us s2 ⟨vs,H2,I2,r2,q2⟩=>hm pins s2 σ H2 x vs v us Q I2 r1 r2 q2
end
def MtM (X:Cx) (id:String) (r:V->List V->Hp->VK->Prop):Prop :=
 ∀ (pins:List (Addr×Obj)) (s:Shared) (σ:St) (H:Hp) (x:V) (xs:List V) (v:Value) (us:List Value) (Q:VK),Inv X pins σ H s->RelV x v->Vals xs us->r x xs H Q ->
  wpAny (model X.prog X.w) X.A (call (.builtin id) (v :: us)) (EP X pins σ Q) X.xe s
theorem Vals.one:∀ {x:V} {us:List Value},Vals [x] us->∃ u,us=[u]/\RelV x u
|_,_,.cons r .nil=>⟨_,rfl,r⟩
theorem Vals.two:∀ {x y:V} {us:List Value},Vals [x,y] us->∃ u v,us=[u,v]/\RelV x u/\RelV y v
|_,_,_,.cons r (.cons q .nil)=>⟨_,_,rfl,r,q⟩
theorem Vals.rep {xs:List V} {us:List Value} (h:Vals xs us):∀ k:Nat,Vals (List.replicate k xs).flatten (List.replicate k us).flatten
|0=>.nil
|k+1=>by
  rw [List.replicate_succ,List.replicate_succ,List.flatten_cons,List.flatten_cons]
  exact Vals.append h (Vals.rep h k)
theorem foldl_rep (its:List Value):∀ (k:Nat) (acc:List Value),
  List.foldl (λ x1 x2=>x1++x2) acc.toArray (List.replicate k its.toArray)=(acc++(List.replicate k its).flatten).toArray
|0,acc=>by simp
|k+1,acc=>by
  have e:acc.toArray++its.toArray=(acc++its).toArray:=by simp
  have e2:(acc++its)++(List.replicate k its).flatten=acc++(List.replicate (k+1) its).flatten:=by
   rw [List.replicate_succ,List.flatten_cons,List.append_assoc]
  rw [<- e2,<- foldl_rep its k (acc++its),<- e,List.replicate_succ,List.foldl_cons]
section
variable {X:Cx} {pins:List (Addr×Obj)} {σ:St} {H:Hp} {s:Shared} {l b:Addr} {xs ys zs:List V}
theorem Inv.lset {its its':List Value} {n:Nat} {f:Array Value->Array Value} {t':Nat} (I:Inv X pins σ H s) (hH:H l=some (.lst xs))
  (e:s.heap.get? l=some { cls:=.type "list",data:=.seq its.toArray n }) (hf:f its.toArray=its'.toArray) (hv:Vals ys its') (hz:ys.length<=sizeLine) :
  Inv X pins σ (upd H l (.lst ys)) { s with heap:=s.heap.update l (Obj.mapSeq f),toks:=t' }:=by
 have q:=PySem.IsL.update e f
 rw [hf] at q
 refine I.write (x:=l) (e:=l) (by rw [hH];exact trivial) (.inl rfl) (λ b' u hb hu=>(Heap.get?_update_other s.heap (Obj.mapSeq f) (Ne.symm hb)).trans hu) ⟨_,q⟩ ?_
 exact ⟨hz,its',_,hv,q⟩
theorem Inv.lnew {its:List Value} {t':Nat} (I:Inv X pins σ H s) (hv:Vals ys its) (hz:ys.length<=sizeLine) :
  Inv X pins σ (upd H s.heap.objs.size (.lst ys)) { s with heap:=s.heap.push { cls:=.type "list",data:=.seq its.toArray },toks:=t' } :=
 I.laid (λ _ _ q=>Heap.get?_push_of_some _ q) (Nat.le_refl _) ⟨hz,its,0,hv,Heap.get?_push_size _ rfl⟩
theorem Inv.fresh (I:Inv X pins σ H s):H s.heap.objs.size=none:=I.hok.fresh (Nat.le_refl _)
theorem Inv.lstM (I:Inv X pins σ H s) (hH:H l=some (.lst xs)):xs.length<=sizeLine/\∃ (its:List Value) (n:Nat),Vals xs its/\xs.length=its.length/\s.heap.get? l=some { cls:=.type "list",data:=.seq its.toArray n }:=by
 obtain ⟨z,its,n,r,e⟩:=I.hok l _ hH
 exact ⟨z,its,n,r,r.length,e⟩
theorem notLongL {n:Nat} (h:n<=sizeLine):Builtin.List.listTooLong n=false:=by
 unfold Builtin.List.listTooLong
 exact decide_eq_false (by lia)
end
section
variable {X:Cx}
def rAppend:V->List V->Hp->VK->Prop:=λ x vs H Q=>∃ l xs y,x=.ref l/\vs=[y]/\H l=some (.lst xs)/\xs.length < sizeLine/\Q .non (upd H l (.lst (xs++[y])))
theorem mt_append:MtM X "list.append" rAppend:=by
 intro pins s σ H x vs v us Q I rx rv h
 obtain ⟨l,xs,y,rfl,rfl,hH,hz,q⟩:=h
 cases rx
 obtain ⟨u,rfl,ru⟩:=rv.one
 obtain ⟨z,its,n,r,hl,e⟩:=I.lstM hH
 refine call_meets F.slot_list_append ⟨_,e,rfl⟩ F.entry_list_append (F.args_list_append_2 _ _) (PySem.list_append l its.toArray n u (by rw [List.size_toArray];lia)) ⟨e,?_⟩
 refine ⟨.non,_,I.lset (its':=its++[u]) hH e (by simp) (r.append (.cons ru .nil)) ?_,rfl,q⟩
 rw [List.length_append,List.length_singleton]
 lia
def rExtend:V->List V->Hp->VK->Prop:=λ x vs H Q=>∃ l b xs zs,x=.ref l/\vs=[.ref b]/\H l=some (.lst xs)/\H b=some (.lst zs)/\xs.length+zs.length<=sizeLine/\Q .non (upd H l (.lst (xs++zs)))
theorem mt_extend:MtM X "list.extend" rExtend:=by
 intro pins s σ H x vs v us Q I rx rv h
 obtain ⟨l,b,xs,zs,rfl,rfl,hH,hB,hz,q⟩:=h
 cases rx
 obtain ⟨u,rfl,ru⟩:=rv.one
 cases ru
 obtain ⟨z,its,n,r,hl,e⟩:=I.lstM hH
 obtain ⟨z2,its2,n2,r2,hl2,e2⟩:=I.lstM hB
 have hsz:its.toArray.size+its2.toArray.size<=sizeLine:=by rw [List.size_toArray,List.size_toArray];lia
 have hlong:¬ (!its.toArray.isEmpty && Builtin.List.listTooLong (its.toArray.size+its2.toArray.size))=true:=by
  rw [notLongL hsz,Bool.and_false]
  exact Bool.false_ne_true
 refine call_meets F.slot_list_extend ⟨_,e,rfl⟩ F.entry_list_extend (F.args_list_extend_2 _ _)
  (AutoSeq1.list_extend_list_list_0 l its.toArray n b its2.toArray n2 hlong (by rw [List.size_toArray];lia) (by lia)) ⟨e,e2,?_⟩
 refine ⟨.non,_,I.lset (its':=its++its2) hH e (by simp) (r.append r2) ?_,rfl,q⟩
 rw [List.length_append]
 lia
def rCat:R2:=λ x y H Q=>∃ l b xs zs,x=.ref l/\y=.ref b/\H l=some (.lst xs)/\H b=some (.lst zs)/\xs.length+zs.length<=sizeLine/\∀ p,H p=none->Q (.ref p) (upd H p (.lst (xs++zs)))
theorem op_cat:OpR X (binaryOp .Add) rCat:=by
 intro pins s σ H x y v u Q I rx ry h
 obtain ⟨l,b,xs,zs,rfl,rfl,hH,hB,hz,q⟩:=h
 cases rx
 cases ry
 obtain ⟨z,its,n,r,hl,e⟩:=I.lstM hH
 obtain ⟨z2,its2,n2,r2,hl2,e2⟩:=I.lstM hB
 refine PySem.P.add_list e e2 ?_ (by rw [List.size_toArray,List.size_toArray];lia)
 have ea:its.toArray++its2.toArray=(its++its2).toArray:=by simp
 rw [ea]
 exact ⟨.ref _,_,I.lnew (t':=s.toks) (r.append r2) (by rw [List.length_append];lia),rfl,q _ I.fresh⟩
def rRep:R2:=λ x y H Q=>∃ l k xs,x=.ref l/\y=.int k/\H l=some (.lst xs)/\-(2 ^ 63)<=k/\k < 2 ^ 63/\xs.length * k.toNat<=sizeLine /\
 ∀ p,H p=none->Q (.ref p) (upd H p (.lst (List.replicate k.toNat xs).flatten))
theorem len_rep {α:Type} (xs:List α) (k:Nat):(List.replicate k xs).flatten.length=k * xs.length:=by
 induction k with
|zero=>simp
|succ k ih=>rw [List.replicate_succ,List.flatten_cons,List.length_append,ih,Nat.succ_mul,Nat.add_comm]
theorem op_rep:OpR X (binaryOp .Mult) rRep:=by
 intro pins s σ H x y v u Q I rx ry h
 obtain ⟨l,k,xs,rfl,rfl,hH,h1,h2,hz,q⟩:=h
 cases rx
 obtain ⟨t,rfl⟩:=ry
 obtain ⟨z,its,n,r,hl,e⟩:=I.lstM hH
 have hlen:its.toArray.size * k.toNat<=sizeLine:=by rw [List.size_toArray,<- hl];exact hz
 have hcap:¬ its.toArray.size * k.toNat > (2 ^ 63 - 1) / 8:=by
  have:(sizeLine:Nat)<=(2 ^ 63 - 1) / 8:=by decide
  lia
 have hfit:¬ (!Builtin.List.listFitsIndex k)=true:=by
  rw [fitsIndex_both h1 h2]
  exact Bool.false_ne_true
 have hlong:¬ Builtin.List.listTooLong (its.toArray.size * k.toNat)=true:=by
  rw [notLongL hlen]
  exact Bool.false_ne_true
 have hnew:List.foldl (λ x1 x2=>x1++x2) #[] (List.replicate (if its.toArray.isEmpty=true then 0 else k.toNat) its.toArray)=(List.replicate k.toNat its).flatten.toArray:=by
  have f0:∀ m:Nat,List.foldl (λ x1 x2=>x1++x2) #[] (List.replicate m its.toArray)=(List.replicate m its).flatten.toArray:=λ m=>by
   have:=foldl_rep its m []
   rw [List.nil_append] at this
   exact this
  rw [f0]
  cases its with
 |nil=>simp
 |cons a r'=>rw [if_neg (by simp)]
 refine wpAny_binaryOp_repeat_ref (T := "list") (U := "int") (by decide) ⟨_,e,rfl⟩ (λ s'=>typeIs_int s' k t) noFill_list_mul F.fills_int_mul F.slot_int_rmul repeat_list F.slot_int_index.lookup
  (call_meets F.slot_int_rmul (typeIs_int s k t) F.entry_int_rmul (F.args_int_rmul_2 _ _) (int___rmul___int_list k t l its.toArray n)
   ⟨e,rfl,⟨_,e,rfl⟩,call_meets F.slot_list_mul ⟨_,e,rfl⟩ F.entry_list_mul (F.args_list_mul_2 _ _) (AutoListH.list___mul___list_int_3 l its.toArray n k t hfit hcap hlong) ⟨e,?_⟩⟩)
 rw [hnew]
 exact ⟨.ref _,_,I.lnew (t':=s.toks) (r.rep k.toNat) (by rw [len_rep,Nat.mul_comm];exact hz),rfl,q _ I.fresh⟩
end
section
variable {prog:Program} {w:World} {A:Around} {E:Value->Shared->Prop} {s:Shared}
end
section
variable {X:Cx}
end
end L2
namespace Att
open PySem PySem.W PySem.Calls PyProof.Rows
theorem ints_of_wellAll {P:Params} {h:Heap}:∀ (ns:List Int) (vs:List Value),WellAll P h vs (ns.map WData.int)->IntsAre vs ns:=by
 intro ns
 induction ns with
|nil =>
  intro vs w
  rw [List.map_nil] at w
  cases w
  exact .nil
|cons n ns ih =>
  intro vs w
  rw [List.map_cons] at w
  cases w with
 |cons a b =>
   cases a
   exact .cons _ _ (ih _ b)
theorem script_of {l:OpenLaw} {n:Nat} (hn:l.most=some n) {P:Params} {h:Heap} {args:List WData} {vals:List Value}
  (hpre:l.row.toRowW.claim.pre args=true) (hwl:WellAll P h vals args) :
  ∃ a vs ns,vals=[Value.ref a]/\args=[WData.list (ns.map WData.int)]/\h.get? a=some { cls:=.type "list",data:=.seq vs.toArray }/\IntsAre vs ns/\ns.length<=n:=by
 have hsh:WShape.hasAll [] args [.list .int]=true:=(pre_splitW hpre).1
 have hc:l.pre.holds [] { args:=args }=true:=(pre_splitW hpre).2
 obtain ⟨d,r,rfl,h1,h2⟩:=hasAllW_cons hsh
 obtain rfl:=hasAllW_nil h2
 obtain ⟨xs,rfl,h3⟩:=hasW_list h1
 obtain ⟨ns,rfl⟩:=items_int h3
 have hlen:ns.length<=n:=by
  unfold OpenLaw.pre at hc
  have h4:(WTm.not (.lt (.lit (.int (n:Int))) (.len (.arg 0)))).holds [] { args:=[.list (ns.map .int)] }=true:=by
   have h4:=(holds_andW hc).1
   rw [hn] at h4
   exact h4
  have h5:=condW_of h4 (w_not (w_lt w_lit (w_len_list (w_arg rfl))))
  rw [List.length_map] at h5
  refine Nat.le_of_not_lt λ q=>?_
  have q':(n:Int) < ((ns.length:Nat):Int):=by lia
  first
  |(rw [decide_eq_true q'] at h5;exact absurd h5 (by decide))
  |(simp at h5;lia)
 cases hwl with
|cons w1 w2 =>
  cases w2
  cases w1 with
 |list ho hall=>exact ⟨_,_,ns,rfl,rfl,ho,ints_of_wellAll ns _ hall,hlen⟩
theorem post_true (l:OpenLaw) (args:List WData):l.row.toRowW.claim.post args (.bool true) args=true :=
 postW_of (r:=l.row.toRowW) (X:=(true == true))
  (show WShape.has [] (.bool true) .bool=true by first|rfl|decide|simp [WShape.has,WShape.arms,WShape.armsAll])
  (show (WTm.eq .res (.lit (.bool true))).value [] { args:=args,res:=some (.bool true),after:=args }=some (.bool (true == true)) from w_eq_bool (w_res rfl) w_lit) rfl
theorem attach_call {l:OpenLaw} {n:Nat} {q:Program} {loose:List Str} {XP:(Str->Option Value)->Heap->Prop} {YP:World->Heap->Prop} {d:DefRec}
  (hn:l.most=some n) (hdf:d.params.defaults=[])
  (call:∀ (w:World) (s₀ s₁:Shared) (mg mb:Str->Option Value) (fa:Addr) (o:Obj) (pm cd doc:Value) (a:Addr) (vs:List Value) (ns:List Int),
   Ground q loose [] XP w s₀ mg mb s₁.heap->YP w s₁.heap ->
   s₁.heap.get? fa=some o->o.data=.func (docDef d.name d.params d.body d.scope pm cd doc)->s₁.heap.CodeRec cd d.name->mg d.name=some (.ref fa) ->
   s₁.heap.get? a=some { cls:=.type "list",data:=.seq vs.toArray }->IntsAre vs ns->ns.length<=n->s₁.gens=#[] ->
   codeAny (model l.prog w) callerA (.call (.ref fa) ⟨[.ref a],[]⟩) (λ r s'=>r=.ok (.ret (.bool true))/\OldK s₁.heap s'.heap/\s'.os=s₁.os/\AllBare s'.gens) s₁) :
  WalkO q loose XP YP l.row.toRowW d [] (λ f vs=>PySem.call f vs):=by
 intro w s₀ s₁ mg mb G Y fa o pm cd doc dV kV ho hd hcd hD hmg hg args vals as hpre hlay hrd hwl hlo
 obtain rfl:dV=.none:=Dflts.none hD hdf
 obtain rfl:kV=.none:=Dflts.noKw hD
 obtain ⟨a,vs,ns,rfl,rfl,hobj,hints,hlen⟩:=script_of hn hpre hwl
 refine enter_call (codeAny_mono (call w s₀ s₁ mg mb fa o pm cd doc a vs ns G Y ho (fd_plain hd) hcd hmg hobj hints hlen hg) λ r s' hq=>?_)
 obtain ⟨rfl,h2,h3,h4⟩:=hq
 exact ⟨.inl ⟨.bool true,.bool true,[],rfl,λ _=>rfl,.bool true,post_true l _,λ _=>⟨List.Pairwise.nil,λ _ hm=>(nomatch hm)⟩⟩,h2,h3,h4⟩
section
variable {prog:Program} {w:World} {A:Around} {E:Value->Shared->Prop} {s:Shared} {K:Frag}
end
end Att
namespace L2
open PySem PySem.Spec PyProof.Rows
theorem vals_ints:∀ {vs:List Value} {ns:List Int},IntsAre vs ns->Vals (ns.map V.int) vs
|_,_,.nil=>.nil
|_,_,.cons n t h=>.cons ⟨t,rfl⟩ (vals_ints h)
def Only (H:Hp):Prop:=∀ b,H b=none \/ ∃ o xs,H b=some (.frz o (.lst xs))
theorem law_call {P:Program} {w:World} {K:Fg} {mg mb:Str->Option Value} {CX:CXT} {k:Nat} {fa a:Addr} {fd:FuncData} {x:Str} {sp:Sp} {s₁:Shared} {vs:List Value} {ns:List Int}
  (KX:K.In s₁.heap) (hns:s₁.heap.Ns mainGlobals mg) (hb:s₁.heap.Ns builtinsNs mb) (hbb:∀ x:Str,x ≠ "__name__"->mb x=bootBuiltins x) (hlim:s₁.heap.NoLimit) (hg:s₁.gens=#[])
  (ha:s₁.heap.get? a=some { cls:=.type "list",data:=.seq vs.toArray }) (hi:IntsAre vs ns) (hl:ns.length<=sizeLine) (hr:Room k callerA)
  (F:∀ base:Heap,K.In base->base.Ns mainGlobals mg->FnOk P w K mg base CX k fa fd [x] sp) (hbind:∀ (s:Shared) (u:Value),BindsTo s fd ⟨[u],[]⟩ [(x,u)])
  (hsp:∀ H:Hp,Only H->SqL K H a (ns.map V.int)->sp [.ref a] H (λ v _=>v=.bl true) λ _ _ _=>False)
  (hCX:∀ H e s',CX [] H s₁ (λ _ _ _=>False) e s'->False) :
  codeAny (model P w) callerA (.call (.ref fa) ⟨[.ref a],[]⟩) (λ r s'=>r=.ok (.ret (.bool true))/\OldK s₁.heap s'.heap/\s'.os=s₁.os/\AllBare s'.gens) s₁:=by
 have rv:=vals_ints hi
 have lenV:=hi.length
 -- from an abstract heap in which nothing but the script may be tracked
 have core:∀ H:Hp,Only H->SqL K H a (ns.map V.int)->HOk P w H s₁.heap->(∀ b,H b≠none->b=a)->(H a≠none->K.lookup a=none) ->
   codeAny (model P w) callerA (.call (.ref fa) ⟨[.ref a],[]⟩) (λ r s'=>r=.ok (.ret (.bool true))/\OldK s₁.heap s'.heap/\s'.os=s₁.os/\AllBare s'.gens) s₁:=by
  intro H hO hS hok hA hK
  have base_of:∀ {b:Addr} {o:Obj},s₁.heap.get? b=some o->H b=none->(hidT s₁.heap H).get? b=some o:=λ e n=>hidT_get e n
  have noA:∀ {b:Addr} {o:Obj} {es:Array DictEntry} {ep:Nat},s₁.heap.get? b=some o->o.data=.dict es ep->H b=none:=λ {b o es ep} e d=>by
   cases q:H b with
  |none=>rfl
  |some u =>
    have e':b=a:=hA b (by rw [q];simp)
    subst e'
    rw [ha] at e;cases e
    have d':Data.seq vs.toArray _=Data.dict es ep:=d
    cases d'
  have nsK:∀ {b:Addr} {m:Str->Option Value},s₁.heap.Ns b m->(hidT s₁.heap H).Ns b m:=λ {b m} ⟨o,es,ep,e,d,r⟩=>⟨o,es,ep,base_of e (noA e d),d,r⟩
  have hKb:K.In (hidT s₁.heap H):=λ b o e=>base_of (KX b o e) (by
   cases q:H b with
  |none=>rfl
  |some u =>
    have e':b=a:=hA b (by rw [q];simp)
    subst e'
    rw [hK (by rw [q];simp)] at e;cases e)
  have hM:Mod K mg (hidT s₁.heap H):=⟨hKb,nsK hns,⟨mb,nsK hb,hbb⟩,let ⟨mc,h1,h2⟩:=hlim;⟨mc,nsK h1,h2⟩⟩
  have e0:Env0 P w K mg (hidT s₁.heap H) callerA [] s₁ H:=⟨rfl,hM,λ b o e=>of_hidT e,Nat.le_of_eq (hidT_size _ _),trivial,λ b hb=>absurd (show b∈([]:List Addr) from hb) (by simp),hok,.of_eq hg⟩
  refine codeAny_mono ((F _ hKb (nsK hns)).run callerA [] s₁ H ⟨[.ref a],[]⟩ [.ref a] [.ref a] _ _ hr e0 (hbind s₁ (.ref a)) (.cons rfl .nil) (hsp H hO hS)) λ r s' h=>?_
  cases r with
 |error e=>exact (hCX H e s' h).elim
 |ok fl =>
   cases fl with
  |next=>exact False.elim h
  |brk=>exact False.elim h
  |cont=>exact False.elim h
  |ret u =>
    obtain ⟨v,H',os,bare,un,hok',r',q⟩:=h
    have q':v=.bl true:=q
    subst q'
    obtain rfl:u=Value.bool true:=r'
    refine ⟨rfl,OldK.of_keep λ b o e=>?_,os,bare⟩
    cases q:H b with
   |none=>exact un.keep b o e q (by intro z;exact absurd (show b∈([]:List Addr) from z) (by simp)) (by simp)
   |some u =>
     rcases hO b with z|⟨ob,xs,z⟩
     ·rw [q] at z;cases z
     ·have z2:=un.frzs b ob _ z
      obtain ⟨e1,_⟩:=hok b _ z
      obtain ⟨e2,_⟩:=hok' b _ z2
      rw [e] at e1;cases e1
      exact e2
 cases hk:K.lookup a with
|some o =>
  -- the script is one of the module's own objects
  have e:=KX a o hk
  rw [ha] at e
  cases e
  refine core (λ _=>none) (λ _=>.inl rfl) (.inr ⟨_,vs.toArray,_,hk,rfl,rfl,rfl,by rw [List.size_toArray,lenV];exact hl,by simpa using rv⟩) (λ b u z=>by have z':(none:Option HO)=some u:=z;cases z') (λ b z=>absurd rfl z) λ z=>absurd rfl z
|none =>
  refine core (λ b=>if b=a then some (.frz { cls:=.type "list",data:=.seq vs.toArray } (.lst (ns.map V.int))) else none) (λ b=>?_) (.inl (.inr ⟨{ cls:=.type "list",data:=.seq vs.toArray },if_pos rfl⟩)) (λ b u z=>?_) (λ b z=>?_) λ _=>hk
  ·by_cases hb:b=a
   ·exact .inr ⟨_,_,if_pos hb⟩
   ·exact .inl (if_neg hb)
  ·by_cases hb:b=a
   ·have z':=(if_pos hb).symm.trans z
    cases z'
    subst hb
    exact ⟨ha,by rw [List.length_map];exact hl,vs,_,rv,ha⟩
   ·have z':=(if_neg hb).symm.trans z
    cases z'
  ·by_cases hb:b=a
   ·exact hb
   ·exact absurd (if_neg hb) z
theorem walk_of {l:PySem.W.OpenLaw} {n k:Nat} {q:Program} {loose:List Str} {XP:(Str->Option Value)->Heap->Prop} {YP:World->Heap->Prop} {d:DefRec} {K:Params->Fg} {CX:World->CXT} {sp:World->Sp} {x:Str}
  (hn:l.most=some n) (hn2:n<=sizeLine) (hdf:d.params.defaults=[]) (hr:Room k callerA)
  (hY:∀ (w:World) (h:Heap),YP w h->(K w.params).In h)
  (F:∀ (w:World) (mg:Str->Option Value) (fa:Addr) (h:Heap),(K w.params).In h->h.Ns mainGlobals mg->mg d.name=some (.ref fa) ->
   ∃ fd:FuncData,(∀ (s:Shared) (u:Value),BindsTo s fd ⟨[u],[]⟩ [(x,u)]) /\
    ∀ base:Heap,(K w.params).In base->base.Ns mainGlobals mg->FnOk l.prog w (K w.params) mg base (CX w) k fa fd [x] (sp w))
  (hsp:∀ (w:World) (H:Hp) (a:Addr) (ns:List Int),ns.length<=n->Only H->SqL (K w.params) H a (ns.map V.int)->sp w [.ref a] H (λ v _=>v=.bl true) λ _ _ _=>False)
  (hCX:∀ (w:World) (H:Hp) (s:Shared) (e:Value) (s':Shared),CX w [] H s (λ _ _ _=>False) e s'->False) :
  PySem.W.WalkO q loose XP YP l.row.toRowW d [] (λ f vs=>PySem.call f vs):=by
 refine Att.attach_call hn hdf λ w s₀ s₁ mg mb fa o pm cd doc a vs ns G Y ho hd hcd hmg hobj hints hlen hg=>?_
 have KX:=hY w _ Y
 obtain ⟨fd,hb,hF⟩:=F w mg fa _ KX G.T.g hmg
 exact law_call KX G.T.g G.T.b G.T.builtins G.T.nolimit hg hobj hints (Nat.le_trans hlen hn2) hr hF hb (λ H hO hS=>hsp w H a ns hlen hO hS) λ H e s'=>hCX w H s₁ e s'
def inClass (s:Stmt) (j:Nat):Stmt:=match s with
|.ClassDef _ _ _ body _ _ _ _ _ _ _=>body.getD j (.Pass ⟨0,0,0,0⟩)
|_=>.Pass ⟨0,0,0,0⟩
def defArgs (s:Stmt):Arguments:=match s with
|.FunctionDef _ a _ _ _ _ _ _ _ _=>a
|_=>{ posonlyargs:=[],args:=[],vararg:=none,kwonlyargs:=[],kw_defaults:=[],kwarg:=none,defaults:=[] }
def defBody (s:Stmt):List Stmt:=match s with
|.FunctionDef _ _ b _ _ _ _ _ _ _=>b
|_=>[]
def defScope (s:Stmt):Scope:=match s with
|.FunctionDef _ _ _ _ _ _ sc _ _ _=>sc
|_=>{ kind:=.function,names:=[],isGenerator:=false,isCoroutine:=false }
abbrev CX0:CXT:=λ _ _ _ _ _ _=>False
abbrev E0:XK:=λ _ _ _=>False
theorem pass0 {X:Cx}:Passes CX0 X E0:=λ _ _ _ _ _ _ _ h=>h.elim
structure Fun (K:Fg) (x qual:Str) (st:Stmt) (f:Addr) (fd:FuncData):Prop where
 ex:∃ (oc:Value) (od:Option Addr) (kV doc pm:Value) (an:Option Addr) (cdv ct:Value) (osl:Array (Option Value)),
  fd=PySem.W.fnOf x qual (defArgs st) (defBody st) (defScope st) .none kV doc pm an cdv ct/\K.lookup f=some ⟨oc,od,.func fd,osl⟩/\PySem.W.codeIn K cdv qual=true
 kp:PySem.W.keepIn K (.ref f)=true
section
variable {P:Program} {w:World} {K:Fg} {mg:Str->Option Value} {base:Heap}
theorem Fun.ok {x qual:Str} {st:Stmt} {f:Addr} {fd:FuncData} {N ps:List Str} {k:Nat} {sp:Sp} (F:Fun K x qual st f fd) (S:FnScope N ps (defScope st)) (len:∀ vs H Q E,sp vs H Q E->vs.length=ps.length)
  (hbody:∀ (cdv:Value) (A:Around) (outer:List Env) (s:Shared) (H:Hp) (vs:List V) (Q:VK) (E:XK),Room k (A.deeper (envOfC qual (defScope st) s.heap.objs.size f cdv))->sp vs H Q E ->
   ∃ t,PSs (cxOf CX0 P w K mg base N qual (defScope st) f cdv A outer s H E).nox (defBody st) t/\t { nx:=λ _ H'=>Q .non H',rt:=Q } (start N vs) H):FnOk P w K mg base CX0 (k+1) f fd ps sp:=by
 obtain ⟨oc,od,kV,doc,pm,an,cdv,ct,osl,rfl,lk,hcd⟩:=F.ex
 refine fn_of lk hcd S len λ A outer s H vs Q E hr hsp=>?_
 obtain ⟨t,h,q⟩:=hbody cdv A outer s H vs Q E hr hsp
 exact ⟨t,h.nox,q⟩
theorem Fun.binds {x qual:Str} {st:Stmt} {f:Addr} {fd:FuncData} {ps:List Str} (F:Fun K x qual st f fd)
  (h:∀ (kV doc pm:Value) (an:Option Addr) (cdv ct:Value) (us:List Value),us.length=ps.length->bindArgs (PySem.W.fnOf x qual (defArgs st) (defBody st) (defScope st) .none kV doc pm an cdv ct) ⟨us,[]⟩=pure (ps.zip us)):Binds K fd ps []:=by
 obtain ⟨oc,od,kV,doc,pm,an,cdv,ct,osl,rfl,lk,hcd⟩:=F.ex
 exact .all (h kV doc pm an cdv ct)
theorem fun_mk {x qual:Str} {st:Stmt} {f:Addr} {oc:Value} {od an:Option Addr} {osl:Array (Option Value)} {kV doc pm cdv ct:Value} (l:K.lookup f=some ⟨oc,od,.func (PySem.W.fnOf x qual (defArgs st) (defBody st) (defScope st) .none kV doc pm an cdv ct),osl⟩)
  (c:PySem.W.codeIn K cdv qual=true) (k:PySem.W.keepIn K (.ref f)=true):Fun K x qual st f (PySem.W.fnOf x qual (defArgs st) (defBody st) (defScope st) .none kV doc pm an cdv ct):=⟨⟨oc,od,kV,doc,pm,an,cdv,ct,osl,rfl,l,c⟩,k⟩
end
section
variable {X:Cx}
theorem pv (i:Nat) {x:Str} {pos:Pos} (hN:X.N[i]?=some x:=by rfl) (hv:Vis X.env.scope x:=by first|exact Or.inl rfl|exact Or.inr (Or.inl rfl)|exact Or.inr (Or.inr rfl)) (hd:(x == ("__debug__":Str))=false:=by decide)
  (hcd:(x == ("__classdict__":Str))=false:=by decide):PE X (.Name x pos) (tVar i):=pe_var hN hv hd hcd
end
def Same (H H':Hp):Prop:=∀ b o,H b=some o->H' b=some o
theorem Same.trans {H H1 H2:Hp} (a:Same H H1) (b:Same H1 H2):Same H H2:=λ c o h=>b c o (a c o h)
theorem Same.seq {K:Fg} {H H':Hp} {a:Addr} {xs:List V} (e:Same H H') (h:SqL K H a xs):SqL K H' a xs:=by
 rcases h with (h|⟨o,h⟩)|h
 ·exact .inl (.inl (e _ _ h))
 ·exact .inl (.inr ⟨o,e _ _ h⟩)
 ·exact .inr h
end L2
namespace L3
open PySem PySem.Spec PyProof.Rows L2
abbrev St:=L2.St
def closeL (env:Env):List (Str×NameKind)->List (Str×Addr)->List (Str×Addr)
|[],cs=>cs
|(n,k) :: r,cs=>closeL env r (if k == .free then (match env.cells.lookup n with|some c=>(n,c) :: cs|none=>cs) else cs)
theorem closure_go {env:Env}:∀ (names:List (Str×NameKind)) (cs:List (Str×Addr)),(∀ y∈names,y.2=.free->∃ c,env.cells.lookup y.1=some c) ->
  (forIn names cs (λ (x:Str×NameKind) (r:List (Str×Addr))=>(match x with|(name,kind)=>if kind == .free then do let c <- cellOf env name;pure (ForInStep.yield ((name,c) :: r)) else pure (ForInStep.yield r):Sem (ForInStep (List (Str×Addr))))):Sem (List (Str×Addr)))=pure (closeL env names cs)
|[],cs,_=>rfl
|(n,k) :: r,cs,h=>by
  rw [List.forIn_cons]
  by_cases hk:k=.free
  ·subst hk
   obtain ⟨c,hc⟩:=h (n,.free) List.mem_cons_self rfl
   have hc':env.cells.lookup n=some c:=hc
   have e1:cellOf env n=pure c:=by unfold cellOf;rw [hc']
   simp only [beq_self_eq_true,if_true,e1]
   have:=closure_go r ((n,c) :: cs) λ y hy=>h y (List.mem_cons_of_mem _ hy)
   unfold closeL
   simp only [beq_self_eq_true,if_true,hc']
   exact this
  ·have hb:(k == NameKind.free)=false:=by simpa using hk
   simp only [hb,Bool.false_eq_true,if_false]
   have:=closure_go r cs λ y hy=>h y (List.mem_cons_of_mem _ hy)
   unfold closeL
   simp only [hb,Bool.false_eq_true,if_false]
   exact this
theorem closure_is {env:Env} {scope:Scope} (h:∀ y∈scope.names,y.2=.free->∃ c,env.cells.lookup y.1=some c):closureFor scope env=pure (closeL env scope.names []):=by
 unfold closureFor
 show (forIn scope.names [] _ >>= λ cs=>pure cs)=_
 rw [closure_go scope.names [] h]
 rfl
theorem closeL_of {env:Env} {x:Str} {c:Addr}:∀ (names:List (Str×NameKind)) (cs:List (Str×Addr)),(∀ x c,cs.lookup x=some c->env.cells.lookup x=some c)->(closeL env names cs).lookup x=some c->env.cells.lookup x=some c
|[],cs,h,e=>h x c e
|(n,k) :: r,cs,h,e=>by
  unfold closeL at e
  refine closeL_of r _ (λ y d q=>?_) e
  split at q
  ·split at q
   ·rename_i c' hc'
    rw [List.lookup_cons] at q
    split at q
    ·rename_i hy
     cases q
     rw [beq_iff_eq.mp hy];exact hc'
    ·exact h y d q
   ·exact h y d q
  ·exact h y d q
theorem closeL_keep {env:Env} {x:Str}:∀ (names:List (Str×NameKind)) (cs:List (Str×Addr)),(∃ c,cs.lookup x=some c)->∃ c,(closeL env names cs).lookup x=some c
|[],cs,h=>h
|(n,k) :: r,cs,⟨c,h⟩=>by
  unfold closeL
  refine closeL_keep r _ ?_
  split
  ·split
   ·rename_i c' hc'
    rw [List.lookup_cons]
    split
    ·exact ⟨_,rfl⟩
    ·exact ⟨c,h⟩
   ·exact ⟨c,h⟩
  ·exact ⟨c,h⟩
theorem closeL_has {env:Env} {x:Str}:∀ (names:List (Str×NameKind)) (cs:List (Str×Addr)),(x,NameKind.free)∈names->(∃ c,env.cells.lookup x=some c)->∃ c,(closeL env names cs).lookup x=some c
|[],cs,h,_=>nomatch h
|(n,k) :: r,cs,h,⟨c,hc⟩=>by
  rcases List.mem_cons.mp h with e|h
  ·cases e
   unfold closeL
   simp only [beq_self_eq_true,if_true,hc]
   exact closeL_keep r _ ⟨c,by simp [List.lookup_cons]⟩
  ·unfold closeL
   exact closeL_has r _ h ⟨c,hc⟩
theorem closeL_free {env:Env} {x:Str} {c:Addr}:∀ (names:List (Str×NameKind)) (cs:List (Str×Addr)),(closeL env names cs).lookup x=some c->(x,NameKind.free)∈names \/ cs.lookup x=some c
|[],cs,e=>.inr e
|(n,k) :: r,cs,e=>by
  unfold closeL at e
  rcases closeL_free r _ e with q|q
  ·exact .inl (List.mem_cons_of_mem _ q)
  ·split at q
   ·rename_i hk
    split at q
    ·rw [List.lookup_cons] at q
     split at q
     ·rename_i hy
      rw [beq_iff_eq.mp hy,<- beq_iff_eq.mp hk];exact .inl List.mem_cons_self
     ·exact .inr q
    ·exact .inr q
   ·exact .inr q
theorem cf_or {x:Str} {c:Addr}:∀ (names:List (Str×NameKind)) (n:Nat) (acc:List (Str×Addr)),(cellsFrom n names acc).lookup x=some c->acc.lookup x=some c \/ ((x,NameKind.cell)∈names/\n<=c)
|[],_,_,e=>.inl e
|(y,k) :: r,n,acc,e=>by
  unfold cellsFrom at e
  split at e
  ·rename_i hk
   rcases cf_or r (n+1) _ e with q|q
   ·rw [List.lookup_cons] at q
    split at q
    ·rename_i hy
     cases q
     rw [beq_iff_eq.mp hy,<- beq_iff_eq.mp hk]
     exact .inr ⟨List.mem_cons_self,Nat.le_refl _⟩
    ·exact .inl q
   ·exact .inr ⟨List.mem_cons_of_mem _ q.1,Nat.le_of_succ_le q.2⟩
  ·rcases cf_or r n _ e with q|q
   ·exact .inl q
   ·exact .inr ⟨List.mem_cons_of_mem _ q.1,q.2⟩
theorem cf_old {x:Str}:∀ (names:List (Str×NameKind)) (n:Nat) (acc:List (Str×Addr)),(x,NameKind.cell) ∉ names->(cellsFrom n names acc).lookup x=acc.lookup x
|[],_,_,_=>rfl
|(y,k) :: r,n,acc,h=>by
  unfold cellsFrom
  split
  ·rename_i hk
   rw [cf_old r _ _ λ z=>h (List.mem_cons_of_mem _ z),List.lookup_cons]
   have:(x == y)=false:=by
    refine beq_eq_false_iff_ne.mpr λ e=>h ?_
    rw [e,<- beq_iff_eq.mp hk];exact List.mem_cons_self
   rw [this]
  ·exact cf_old r _ _ λ z=>h (List.mem_cons_of_mem _ z)
theorem cf_inj:∀ (names:List (Str×NameKind)) (n:Nat) (acc:List (Str×Addr)),(∀ x c,acc.lookup x=some c->c < n)->(∀ x y c,acc.lookup x=some c->acc.lookup y=some c->x=y) ->
  ∀ x y c,(cellsFrom n names acc).lookup x=some c->(cellsFrom n names acc).lookup y=some c->x=y
|[],_,_,_,h=>h
|(z,k) :: r,n,acc,hb,h=>by
  unfold cellsFrom
  split
  ·refine cf_inj r (n+1) _ (λ x c e=>?_) λ x y c e1 e2=>?_
   ·rw [List.lookup_cons] at e
    split at e
    ·cases e;exact Nat.lt_succ_self _
    ·exact Nat.lt_succ_of_lt (hb x c e)
   ·rw [List.lookup_cons] at e1 e2
    by_cases a:(x == z)=true <;> by_cases b:(y == z)=true
    ·rw [beq_iff_eq.mp a,beq_iff_eq.mp b]
    ·rw [a] at e1;rw [Bool.not_eq_true] at b;rw [b] at e2
     cases e1;exact absurd (hb _ _ e2) (Nat.lt_irrefl _)
    ·rw [b] at e2;rw [Bool.not_eq_true] at a;rw [a] at e1
     cases e2;exact absurd (hb _ _ e1) (Nat.lt_irrefl _)
    ·rw [Bool.not_eq_true] at a b;rw [a] at e1;rw [b] at e2
     exact h x y c e1 e2
  ·exact cf_inj r n acc hb h
theorem cf_cell:∀ (names:List (Str×NameKind)) (h:Heap) (acc:List (Str×Addr)),(∀ x c,acc.lookup x=some c->∃ v,h.IsCell c v) ->
  ∀ x c,(cellsFrom h.objs.size names acc).lookup x=some c->∃ v,(pushCells h names).IsCell c v
|[],_,_,p=>p
|(y,k) :: r,h,acc,p=>by
  unfold cellsFrom pushCells
  split
  ·have q:=cf_cell r (h.push { cls:=.type "cell",data:=.cell none }) ((y,h.objs.size) :: acc) (by
    intro x c e
    rw [List.lookup_cons] at e
    split at e
    ·cases e;exact ⟨none,_,Heap.get?_push_size _ rfl,rfl⟩
    ·obtain ⟨v,z⟩:=p x c e
     exact ⟨v,z.keeps λ b o e=>Heap.get?_push_of_some _ e⟩)
   rwa [Heap.size_push] at q
  ·exact cf_cell r h acc p
theorem kind_one {x:Str} {k k':NameKind}:∀ {names:List (Str×NameKind)},(names.map (·.1)).Nodup->(x,k)∈names->(x,k')∈names->k=k'
|(y,j) :: r,h,a,b=>by
  obtain ⟨h1,h2⟩:=List.nodup_cons.mp h
  rcases List.mem_cons.mp a with e|a' <;> rcases List.mem_cons.mp b with e'|b'
  ·cases e;cases e';rfl
  ·cases e;exact (h1 (List.mem_map.mpr ⟨_,b',rfl⟩)).elim
  ·cases e';exact (h1 (List.mem_map.mpr ⟨_,a',rfl⟩)).elim
  ·exact kind_one h2 a' b'
theorem wpAny_compEnv {M:Model} {A:Around} {E:Value->Shared->Prop} {s:Shared} {scope:Scope} {globals:Addr} {cl:List (Str×Addr)} {qual:Str} {env:Env} {Q:Env->Shared->Prop}
  (h:Q { scope,locals:=s.heap.objs.size,globals,cells:=cellsFrom (s.heap.objs.size+1) scope.names cl,qual,func:=none,code:=env.code,frame:=env.frame,builtins:=env.builtins } { s with heap:=pushCells (s.heap.push { cls:=.type "dict",data:=.dict #[] }) scope.names }) :
  wpAny M A (newFunctionEnv scope globals cl [] qual none .none (some env)) Q E s:=by
 simp only [newFunctionEnv,Option.isSome_some,if_true]
 refine wpAny_bind (wpAny_alloc ?_)
 refine wpAny_bind (wpAny_layCells _ (λ name kind cells=>by cases hkc:kind == NameKind.cell <;> simp [hkc]) _ _ _ _ ?_)
 rw [show ({ s with heap:=s.heap.push { cls:=.type "dict",data:=.dict #[] } }:Shared).heap.objs.size=s.heap.objs.size+1 from Heap.size_push ..]
 rw [List.forIn_nil]
 exact wpAny_bind (wpAny_pure (wpAny_pure h))
section
variable {prog:Program} {w:World} {A:Around} {R:Result->Shared->Prop} {s:Shared}
theorem compLoop_any {elt target iter:Expr} {ifs:List Expr} {scope:Scope} {pos:Pos} {it acc:Value} {env:Env} (I:Nat->Shared->Prop)
  (turn:∀ n s,I n s->wpAny (model prog w) A (pyNext it) (λ r s₁=>match r with
  |none=>R (.ok .next) s₁
  |some v=>wpAny (model prog w) A (letOwnedTupleGo target it v) (λ _ s₁'=>wpAny (model prog w) A (assign target env v) (λ _ s₂ =>
     wpAny (model prog w) A (forIn ifs true λ c r=>if r=true then do let ok <- isTrue c env (eval c env);pure (ForInStep.yield ok) else pure (ForInStep.yield r)) (λ ok s₃ =>
      if ok=true then wpAny (model prog w) A (eval elt env) (λ x s₄ =>
       wpAny (model prog w) A (call (.builtin "list.append") [acc,x]) (λ _ s₅=>∃ m,m < n/\I m s₅) (notedBy (model prog w) A env λ e s'=>R (.error e) s') s₄) (notedBy (model prog w) A env λ e s'=>R (.error e) s') s₃
      else ∃ m,m < n/\I m s₃) (notedBy (model prog w) A env λ e s'=>R (.error e) s') s₂) (notedBy (model prog w) A env λ e s'=>R (.error e) s') s₁') (notedBy (model prog w) A env λ e s'=>R (.error e) s') s₁) (notedBy (model prog w) A env λ e s'=>R (.error e) s') s)
  (n:Nat) (h:I n s) :
  codeAny (model prog w) A (.compLoop (.ListComp elt [⟨target,iter,ifs,0⟩] scope pos) 0 it acc env) R s:=by
 refine codeAny_loop rfl I (λ n s hI=>?_) n h
 show wpAny _ A ((compTurn (.ListComp elt [⟨target,iter,ifs,0⟩] scope pos) 0 it acc env).onRaise (λ x=>do noteFrame x env;theTreesLotGoes x)) _ _ s
 refine wpAny_noted ?_
 rw [compTurn_list]
 refine wpAny_bind (wpAny_standAt (wpAny_bind (wpAny_mono (turn n s hI) (λ r s₁ h₁=>?_) λ _ _ h'=>h')))
 cases r with
|none=>exact wpAny_pure h₁
|some v =>
  refine wpAny_bind (wpAny_mono h₁ (λ _ s₁' h₁'=>?_) λ _ _ h'=>h')
  refine wpAny_bind (wpAny_mono h₁' (λ _ s₂ h₂=>wpAny_bind (wpAny_mono h₂ (λ ok s₃ h₃=>?_) λ _ _ h'=>h')) λ _ _ h'=>h')
  cases ok with
 |false=>exact wpAny_pure ⟨rfl,h₃⟩
 |true =>
   exact wpAny_bind (wpAny_bind (wpAny_mono h₃ (λ x s₄ h₄=>wpAny_bind (wpAny_mono h₄ (λ _ s₅ h₅=>wpAny_pure (wpAny_pure ⟨rfl,h₅⟩)) λ _ _ h'=>h')) λ _ _ h'=>h'))
end
abbrev compCl (X:Cx) (scope:Scope) (C:Addr):List (Str×Addr):=cellsFrom (C+1) scope.names (closeL X.env scope.names [])
def compCx (X:Cx) (scope:Scope) (N:List Str) (s₀:Shared) (H₀:Hp) (C:Addr) (fp:List Addr):Cx where
 prog:=X.prog
 w:=X.w
 K:=X.K
 mg:=X.mg
 base:=X.base
 A:=X.A
 N:=N
 s₀:=s₀
 H₀:=H₀
 env:=compEnvC scope (compCl X scope C) C X.env
 outer:=X.stack
 stack:=X.stack
 ex:=fp
 fn:=λ x=>decide (scope.names.lookup x=some .cell)
 calm:=X.calm
 pn:=[]
 xe:=λ _ _=>False
def compN (N:List Str) (own:List Str) (ix:List Nat):List Str:=own++ix.map λ i=>N.getD i ""
def compσ (n:Nat) (ix:List Nat) (σ:St):St:=List.replicate n none++ix.map λ i=>σ.getD i none
structure CompSc (sc:Scope) (N own:List Str) (ix:List Nat) (scope:Scope):Prop where
 kind:scope.kind=.function
 cell:(scope.names.map (·.1)).Nodup
 names:∀ y∈scope.names,y.2=.local->scope.names.lookup y.1=some .local
 free:∀ y∈scope.names,y.2=.free->sc.names.lookup y.1=some .cell \/ sc.names.lookup y.1=some .free
 caps:∀ i∈ix,i < N.length/\scope.names.lookup (N.getD i "")≠some .local/\scope.names.lookup (N.getD i "")≠some .cell
theorem relabel_free {env : Env} {x : Str} : ∀ (names : List (Str × NameKind)),
    ((names.map fun (n, k) => if (k == NameKind.free && env.scope.kind == .function && env.kindOf n == some .cell) then (n, NameKind.cell) else (n, k)).lookup x = some .cell ∨
     (names.map fun (n, k) => if (k == NameKind.free && env.scope.kind == .function && env.kindOf n == some .cell) then (n, NameKind.cell) else (n, k)).lookup x = some .free) → names.lookup x = some .free ∨ names.lookup x = some .cell
  | [], h => by rcases h with h | h <;> cases h
  | (n, k) :: r, h => by
    have ih := relabel_free (env := env) (x := x) r
    rw [List.map_cons] at h
    by_cases hx : (x == n) = true
    · rw [List.lookup_cons, hx]
      dsimp only at h ⊢
      by_cases hcc : (k == NameKind.free && env.scope.kind == .function && env.kindOf n == some .cell) = true
      · have : k = .free := by
          have := (Bool.and_eq_true_iff.mp (Bool.and_eq_true_iff.mp hcc).1).1
          exact beq_iff_eq.mp this
        rw [this]; exact .inl rfl
      · rw [if_neg hcc, List.lookup_cons, hx] at h
        exact h.symm
    · have hx' : (x == n) = false := by simpa using hx
      rw [List.lookup_cons, hx']
      refine ih ?_
      by_cases hcc : (k == NameKind.free && env.scope.kind == .function && env.kindOf n == some .cell) = true
      · simp only [hcc, if_true] at h
        rw [List.lookup_cons, hx'] at h
        exact h
      · simp only [hcc, Bool.false_eq_true, if_false] at h
        rw [List.lookup_cons, hx'] at h
        exact h
section
variable {X:Cx} {pins:List (Addr×Obj)} {σ:St} {H H':Hp} {s:Shared}
theorem inv_comp {scope:Scope} {own:List Str} {ix:List Nat} {fp:List Addr} {h₁:Heap} {m:Str->Option Value} {t':Nat} (I:Inv X pins σ H s) (S:CompSc X.env.scope X.N own ix scope)
  (hns:h₁.Ns s.heap.objs.size m) (kc:∀ x c,(compCl X scope s.heap.objs.size).lookup x=some c->∃ v,h₁.IsCell c v) (k:∀ b o,s.heap.get? b=some o->h₁.get? b=some o) (hf:∀ b∈fp,FpOk X pins H b) (hfo:∀ b∈fp,b < s.heap.objs.size) :
  Inv (compCx X scope (compN X.N own ix) s H s.heap.objs.size fp) [] (compσ own.length ix σ) H { s with heap:=h₁,toks:=t' }:=by
 have hcl:∀ x c,(closeL X.env scope.names []).lookup x=some c->X.env.cells.lookup x=some c:=λ x c e=>closeL_of scope.names [] (λ _ _ q=>by cases q) e
 have hcl2:∀ x c,(compCl X scope s.heap.objs.size).lookup x=some c->X.env.cells.lookup x=some c \/ s.heap.objs.size+1<=c:=λ x c e=>(cf_or _ _ _ e).imp (hcl x c) And.right
 have hfree:∀ x,((relabel scope X.env).names.lookup x=some .cell \/ (relabel scope X.env).names.lookup x=some .free)->scope.names.lookup x=some .free \/ scope.names.lookup x=some .cell:=λ x hx=>relabel_free scope.names hx
 have hX:∀ x,scope.names.lookup x=some .free->X.env.kindOf x=some .cell \/ X.env.kindOf x=some .free:=λ x hx=>S.free (x,.free) (PySem.mem_of_lookup hx) rfl
 refine ⟨⟨I.ok.mod,S.kind,I.ok.glob,I.ok.blt,Nat.le_refl _,cf_inj _ _ _ (λ x c e=>?_) (λ x y c e1 e2=>I.ok.inj x y c (hcl x c e1) (hcl y c e2)),λ x hx=>?_,λ x c z e=>?_,I.ok.hd,I.ok.frames,.inl rfl,λ b hb=>?_,I.bs,Nat.le_trans I.ok.bsz I.sz,λ b o e hb=>?_,λ b hb hs=>?_,I.stack,I.stkFree⟩,
  rfl,I.bare,Un.kept k,⟨m,hns,λ i x v e1 e2 e3=>?_⟩,kc,I.hok.fresh (Nat.le_refl _),λ x c e=>(hcl2 x c e).elim (I.freeC x c) (λ z=>I.hok.fresh (Nat.le_of_succ_le z)),λ p hp=>absurd (show p∈([]:List (Addr×Obj)) from hp) (by simp),I.hok.kept k,?_⟩
 ·obtain ⟨v,z⟩:=I.cell x c (hcl x c e)
  exact Nat.lt_succ_of_lt z.lt
 ·refine Option.isSome_iff_exists.mp (PySem.W.cellsFrom_some _ _ _ ?_)
  rcases hfree x hx with hx1|hx1
  ·exact .inr (Option.isSome_iff_exists.mpr (closeL_has scope.names [] (PySem.mem_of_lookup hx1) (I.ok.has x (hX x hx1))))
  ·exact .inl hx1
 ·rcases cf_or _ _ _ e with q|q
  ·rcases closeL_free _ _ q with q|q
   ·have:=kind_one S.cell (PySem.mem_of_lookup (of_decide_eq_true z)) q
    cases this
   ·cases q
  ·exact Nat.le_of_succ_le q.2
 ·exact ⟨Nat.ne_of_lt (hfo b hb),λ x c e=>(hcl2 x c e).elim ((hf b hb).2.2.2.2.1 x c) λ z e2=>absurd (Nat.lt_of_lt_of_le (hfo b hb) (Nat.le_of_succ_le (e2 ▸ z))) (Nat.lt_irrefl _)⟩
 ·rcases (hf b hb).2.2.2.1 with z|z
  ·exact I.ok.noex b o e z
  ·exact absurd (Nat.lt_of_lt_of_le (Heap.lt_size e) (Nat.le_trans I.ok.bsz z)) (Nat.lt_irrefl _)
 ·rcases List.mem_cons.mp (I.stkSub b hs) with z|z
  ·exact (hf b hb).2.1 z
  ·exact (hf b hb).2.2.1 z
 ·-- a captured name
  have e2':(List.replicate own.length (none:Option V)++ix.map λ i=>σ.getD i none)[i]?=some (some v):=e2
  have e1':(own++ix.map λ i=>X.N.getD i "")[i]?=some x:=e1
  by_cases hi:i < own.length
  ·rw [List.getElem?_append_left (by simpa using hi),List.getElem?_replicate] at e2'
   split at e2' <;> cases e2'
  ·have hi':own.length<=i:=Nat.le_of_not_lt hi
   rw [List.getElem?_append_right (by simpa using hi'),List.length_replicate,List.getElem?_map] at e2'
   rw [List.getElem?_append_right hi',List.getElem?_map] at e1'
   cases hq:ix[i - own.length]? with
  |none=>rw [hq] at e2';cases e2'
  |some q =>
    rw [hq] at e1' e2'
    have ex:X.N.getD q ""=x:=Option.some.inj e1'
    have ev:σ.getD q none=some v:=Option.some.inj e2'
    obtain ⟨hql,hnl⟩:=S.caps q (List.mem_of_getElem? hq)
    rw [ex] at hnl
    have hnc:=hnl.2
    replace hnl:=hnl.1
    have e3':(relabel scope X.env).names.lookup x=some .local \/ (relabel scope X.env).names.lookup x=some .cell \/ (relabel scope X.env).names.lookup x=some .free:=e3
    have hcf:(relabel scope X.env).names.lookup x=some .cell \/ (relabel scope X.env).names.lookup x=some .free:=by
     rcases e3' with z|z
     ·exfalso
      cases hs:scope.names.lookup x with
     |none =>
       have:∀ (names:List (Str×NameKind)),names.lookup x=none->(names.map λ (n,k)=>if (k == NameKind.free && X.env.scope.kind == .function && X.env.kindOf n == some .cell) then (n,NameKind.cell) else (n,k)).lookup x=none:=by
        intro names
        induction names with
       |nil=>intro _;rfl
       |cons y r ih =>
         obtain ⟨n,kk⟩:=y
         intro hh
         rw [List.lookup_cons] at hh
         by_cases hxn:(x == n)=true
         ·rw [hxn] at hh;cases hh
         ·have hx':(x == n)=false:=by simpa using hxn
          rw [hx'] at hh
          rw [List.map_cons]
          by_cases hcc:(kk == NameKind.free && X.env.scope.kind == .function && X.env.kindOf n == some .cell)=true
          ·simp only [hcc,if_true];rw [List.lookup_cons,hx'];exact ih hh
          ·simp only [hcc,Bool.false_eq_true,if_false];rw [List.lookup_cons,hx'];exact ih hh
       have q0:=this scope.names hs
       have z':(scope.names.map λ (n,k)=>if (k == NameKind.free && X.env.scope.kind == .function && X.env.kindOf n == some .cell) then (n,NameKind.cell) else (n,k)).lookup x=some .local:=z
       rw [q0] at z';cases z'
     |some kk =>
       have:∀ (names:List (Str×NameKind)),names.lookup x=some kk->(names.map λ (n,k)=>if (k == NameKind.free && X.env.scope.kind == .function && X.env.kindOf n == some .cell) then (n,NameKind.cell) else (n,k)).lookup x=some .local->kk=.local:=by
        intro names
        induction names with
       |nil=>intro h;cases h
       |cons y r ih =>
         obtain ⟨n,k2⟩:=y
         intro hh hz
         rw [List.lookup_cons] at hh
         rw [List.map_cons] at hz
         by_cases hxn:(x == n)=true
         ·rw [hxn] at hh
          have hk2:k2=kk:=Option.some.inj hh
          by_cases hcc:(k2 == NameKind.free && X.env.scope.kind == .function && X.env.kindOf n == some .cell)=true
          ·simp only [hcc,if_true] at hz;rw [List.lookup_cons,hxn] at hz;cases hz
          ·simp only [hcc,Bool.false_eq_true,if_false] at hz;rw [List.lookup_cons,hxn] at hz
           rw [<- hk2];exact Option.some.inj hz
         ·have hx':(x == n)=false:=by simpa using hxn
          rw [hx'] at hh
          by_cases hcc:(k2 == NameKind.free && X.env.scope.kind == .function && X.env.kindOf n == some .cell)=true
          ·simp only [hcc,if_true] at hz;rw [List.lookup_cons,hx'] at hz;exact ih hh hz
          ·simp only [hcc,Bool.false_eq_true,if_false] at hz;rw [List.lookup_cons,hx'] at hz;exact ih hh hz
       have:=this scope.names hs z
       rw [this] at hs
       exact hnl hs
     ·exact z
    have hfr:=(hfree x hcf).resolve_right hnc
    have hkX:=hX x hfr
    obtain ⟨mX,hnX,hlX⟩:=I.loc
    have eN:X.N[q]?=some x:=by
     rw [<- ex,List.getD_eq_getElem?_getD]
     rw [List.getElem?_eq_getElem hql];rfl
    have eσ:σ[q]?=some (some v):=by
     rw [List.getD_eq_getElem?_getD] at ev
     cases hs:σ[q]? with
    |none=>rw [hs] at ev;cases ev
    |some o=>rw [hs] at ev;exact congrArg some ev
    obtain ⟨u,r,l⟩:=hlX q x v eN eσ (.inr hkX)
    refine ⟨u,r,.inr ⟨hcf,?_⟩⟩
    rcases l with ⟨hk,_⟩|⟨_,c,ec,hcell⟩
    ·exfalso
     rcases hkX with z|z
     ·rw [hk] at z;cases z
     ·rw [hk] at z;cases z
    ·obtain ⟨c',ec'⟩:=closeL_has scope.names [] (PySem.mem_of_lookup hfr) ⟨c,ec⟩
     have:=hcl x c' ec'
     rw [ec] at this
     cases this
     exact ⟨c,(cf_old _ _ _ λ z=>by cases kind_one S.cell z (PySem.mem_of_lookup hfr)).trans ec',hcell.keeps k⟩
 ·show (compσ own.length ix σ).length=(compN X.N own ix).length
  unfold compσ compN
  simp
theorem inv_uncomp {scope:Scope} {N:List Str} {pins':List (Addr×Obj)} {σ':St} {fp:List Addr} {s':Shared} {h'':Heap} (I:Inv X pins σ H s) (hf:∀ b∈fp,FpOk X pins H b)
  (I':Inv (compCx X scope N s H s.heap.objs.size fp) pins' σ' H' s') (sb:Heap.SameBut s.heap.objs.size s'.heap h''):Inv X pins σ H' { s' with heap:=h'' }:=by
 have ext:∀ b o,b≠s.heap.objs.size->s'.heap.get? b=some o->h''.get? b=some o:=λ b o nb e=>by rw [sb.2 b nb];exact e
 have old:∀ b o,s.heap.get? b=some o->b≠s.heap.objs.size:=λ b o e=>Nat.ne_of_lt (Heap.lt_size e)
 have u:=I'.base
 refine I.call' (ch:=fp) I'.os ⟨λ b o e n hb hx=>ext b o (old b o e) (u.keep b o e n hb hx),λ b o e n hb hx=>?_,u.free,λ b o e hx=>?_,u.tups,u.frzs,u.tbls⟩ (λ b ob e=>?_) I'.bare λ b hb=>⟨(hf b hb).2.2.2.1,(hf b hb).2.1,(hf b hb).2.2.2.2.1,(hf b hb).2.2.2.2.2⟩
 ·obtain ⟨sl,q⟩:=u.slot b o e n hb hx
  exact ⟨sl,ext b _ (old b o e) q⟩
 ·obtain ⟨o',q⟩:=u.there b o e hx
  exact ⟨o',ext b _ (old b o e) q⟩
 ·have nC:∀ c v,H' c=some v->c≠s.heap.objs.size:=λ c v q z=>by
   have:=I'.free
   rw [z] at q
   have z2:H' s.heap.objs.size=none:=this
   rw [z2] at q;cases q
  refine (I'.hok b ob e).stay (λ c v hc q=>ext c v ?_ q) (λ _ q=>q) λ _ _ q=>q
  rcases hc with z|z
  ·rw [z];exact nC b ob e
  ·exact nC c _ z
end
def kComp (n:Nat) (ix:List Nat) (g:TG) (tt:TT) (te:TE) (σ:St) (J:It) (H1:Hp) (Q:VK):Prop:=∀ D,H1 D=none->∃ W:Nat->Nat->List V->St->Hp->Prop,(∃ m,W 0 m [] (compσ n ix σ) (upd H1 D (.lst []))) /\
 ∀ i m acc σ' H',W i m acc σ' H'->(J.stop i H'/\Q (.ref D) H') \/ (J.go i H'/\∃ N:List V->St->Hp->Prop,(∀ acc' σ2 H2,N acc' σ2 H2->∃ m',m' < m/\W (i+1) m' acc' σ2 H2) /\
  ∀ x H2,J.yld i H' x H2->g x σ' H2 λ σ2 H3=>tt σ2 H3 λ b H4=>if b=true then te σ2 H4 λ y H5=>H5 D=some (.lst acc)/\acc.length < sizeLine/\N (acc++[y]) σ2 (upd H5 D (.lst (acc++[y]))) else N acc σ2 H4)
def tComp (wi:TI) (n:Nat) (ix:List Nat) (g:TG) (tt:TT) (te:TE):TE:=λ σ H Q=>wi σ H λ J H1=>kComp n ix g tt te σ J H1 Q
def tTrue:TT:=λ _ H Q=>Q true H
def PIf (X:Cx) (ifs:List Expr) (t:TT):Prop :=
 ∀ (pins:List (Addr×Obj)) (s:Shared) (σ:St) (H:Hp) (Q:Bool->Hp->Prop),Inv X pins σ H s->t σ H Q ->
  wpAny (model X.prog X.w) X.A (forIn ifs true λ c r=>if r=true then do let ok <- isTrue c X.env (eval c X.env);pure (ForInStep.yield ok) else pure (ForInStep.yield r)) (TP X pins σ Q) X.xe s
theorem pif_nil {X:Cx}:PIf X [] tTrue:=λ pins s σ H Q I h=>wpAny_tests_nil ⟨H,I,h⟩
section
variable {X:Cx} {tg iter elt:Expr} {ifs:List Expr} {scope:Scope} {pos:Pos} {own:List Str} {ix:List Nat} {wi:TI} {g:TG} {tt:TT} {te:TE} {sc:Scope} {N:List Str}
theorem comp_block {pins:List (Addr×Obj)} {σ:St} {s2:Shared} {itv:Value} {Q:VK} {RR:Value->Addr->Result->Shared->Prop} {E:Value->Shared->Prop} (hc:X.calm=true) (S:CompSc X.env.scope X.N own ix scope)
  (hb:∀ s₀ H₀ C fp,PG (compCx X scope (compN X.N own ix) s₀ H₀ C fp) tg g/\PIf (compCx X scope (compN X.N own ix) s₀ H₀ C fp) ifs tt/\PE (compCx X scope (compN X.N own ix) s₀ H₀ C fp) elt te)
  (h2:PIE X pins σ tg (λ J H1=>kComp own.length ix g tt te σ J H1 Q) itv s2)
  (hR:∀ (D C:Addr) (m:Str->Option Value) (s':Shared) (H':Hp),s'.heap.Ns C m->C≠X.env.locals->(∀ x c,X.env.cells.lookup x=some c->c≠C)->H' C=none->(X.s₀.heap.objs.size<=C)->(∀ p∈X.pn++pins,p.1≠C) ->
   (∀ h'',Heap.SameBut C s'.heap h''->Inv X pins σ H' { s' with heap:=h'' })->Q (.ref D) H'->RR (.ref D) C (.ok .next) s') :
  wpAny (model X.prog X.w) X.A (newList []) (λ acc s₃=>wpAny (model X.prog X.w) X.A (newFunctionEnv scope X.env.globals (closeL X.env scope.names []) [] X.env.qual none .none (some X.env)) (λ cenv s₄ =>
   codeAny (model X.prog X.w) X.A (.compStart (.ListComp elt [⟨tg,iter,ifs,0⟩] scope pos) 0 itv acc { cenv with scope:=relabel scope X.env }) (RR acc cenv.locals) s₄) E s₃) E s2:=by
 obtain ⟨it,fp,tn,J,H1,e,I2,T,st2,f2,h⟩:=h2
 subst e
 have hD:H1 s2.heap.objs.size=none:=I2.hok.fresh (Nat.le_refl _)
 obtain ⟨W,⟨m0,w0⟩,turn⟩:=h _ hD
 have hlt:∀ b∈fp,b < s2.heap.objs.size:=λ b hbf=>by obtain ⟨o,e,_⟩:=T.obj 0 _ st2 b hbf;exact Heap.lt_size e
 refine wpAny_newObj_type ?_
 -- the new list is tracked
 have I3:Inv X pins σ (upd H1 s2.heap.objs.size (.lst [])) { s2 with heap:=s2.heap.push { cls:=.type "list",dict:=none,data:=.seq ([]:List Value).toArray } }:=I2.lnew (ys:=[]) (its:=[]) .nil (Nat.zero_le _)
 generalize hs3:({ s2 with heap:=s2.heap.push { cls:=.type "list",dict:=none,data:=.seq ([]:List Value).toArray } }:Shared)=s3 at I3 ⊢
 have hsz:s3.heap.objs.size=s2.heap.objs.size+1:=by rw [<- hs3];exact Heap.size_push ..
 have k3:∀ b o,s2.heap.get? b=some o->s3.heap.get? b=some o:=λ b o e=>by rw [<- hs3];exact Heap.get?_push_of_some _ e
 have neD:∀ b∈fp,b≠s2.heap.objs.size:=λ b hbf=>Nat.ne_of_lt (hlt b hbf)
 have f3:∀ b∈fp,FpOk X pins (upd H1 s2.heap.objs.size (.lst [])) b:=λ b hbf=>⟨by rw [upd_ne (neD b hbf)];exact (f2 b hbf).1,(f2 b hbf).2⟩
 have hlt3:∀ b∈fp,b < s3.heap.objs.size:=λ b hbf=>by rw [hsz];exact Nat.lt_succ_of_lt (hlt b hbf)
 refine wpAny_compEnv ?_
 have hns₁:=(Heap.Ns.new s3.heap (.type "dict")).keeps (pushCells_keeps scope.names _)
 have k4:∀ b o,s3.heap.get? b=some o->(pushCells (s3.heap.push { cls:=.type "dict",data:=.dict #[] }) scope.names).get? b=some o:=λ b o e=>pushCells_keeps _ _ b o (Heap.get?_push_of_some _ e)
 have hcl:∀ x c,(closeL X.env scope.names []).lookup x=some c->X.env.cells.lookup x=some c:=λ x c e=>closeL_of scope.names [] (λ _ _ q=>by cases q) e
 have kc:=cf_cell scope.names (s3.heap.push { cls:=.type "dict",data:=.dict #[] }) (closeL X.env scope.names []) (λ x c e=>by
  obtain ⟨v,z⟩:=I3.cell x c (hcl x c e)
  exact ⟨v,z.keeps λ b o e=>Heap.get?_push_of_some _ e⟩)
 rw [Heap.size_push] at kc
 generalize pushCells (s3.heap.push { cls:=.type "dict",data:=.dict #[] }) scope.names=h₁ at hns₁ k4 kc ⊢
 have I4:=inv_comp (t':=s3.toks) I3 S hns₁ kc k4 f3 hlt3
 obtain ⟨hG,hT,hE⟩:=hb s3 (upd H1 s2.heap.objs.size (.lst [])) s3.heap.objs.size fp
 have fp':∀ {H':Hp},(∀ b∈fp,H' b=none)->∀ b∈fp,FpOk (compCx X scope (compN X.N own ix) s3 (upd H1 s2.heap.objs.size (.lst [])) s3.heap.objs.size fp) [] H' b:=λ {H'} hn b hbf=>by
  refine ⟨hn b hbf,Nat.ne_of_lt (hlt3 b hbf),?_,.inl hbf,λ x c e=>(cf_or _ _ _ e).elim (λ q=>(f2 b hbf).2.2.2.2.1 x c (hcl x c q)) (λ q e2=>absurd (Nat.lt_of_lt_of_le (hlt3 b hbf) (Nat.le_of_succ_le (e2 ▸ q.2))) (Nat.lt_irrefl _)),λ p hp=>absurd (show p∈([]:List (Addr×Obj)) from hp) (by simp)⟩
  intro z
  rcases List.mem_cons.mp (I3.stkSub b z) with z|z
  ·exact (f2 b hbf).2.1 z
  ·exact (f2 b hbf).2.2.1 z
 have st4:tn 0 h₁:=T.keep _ _ _ st2 λ b _ o e=>k4 b o (k3 b o e)
 have cne:∀ x c,X.env.cells.lookup x=some c->c≠s3.heap.objs.size:=λ x c e z=>by
  obtain ⟨v,q⟩:=I3.cell x c e
  exact absurd q.lt (by rw [z];exact Nat.lt_irrefl _)
 have loop:codeAny (model X.prog X.w) X.A (.compLoop (.ListComp elt [⟨tg,iter,ifs,0⟩] scope pos) 0 (.ref it) (.ref s2.heap.objs.size) (compEnvC scope (compCl X scope s3.heap.objs.size) s3.heap.objs.size X.env)) (RR (.ref s2.heap.objs.size) s3.heap.objs.size) { s3 with heap:=h₁ }:=by
  refine compLoop_any (λ n s'=>∃ i acc σ' H',Inv (compCx X scope (compN X.N own ix) s3 (upd H1 s2.heap.objs.size (.lst [])) s3.heap.objs.size fp) [] σ' H' s'/\tn i s'.heap/\(∀ b∈fp,H' b=none)/\W i n acc σ' H') ?_ m0 ⟨0,[],_,_,I4,st4,λ b hbf=>(f3 b hbf).1,w0⟩
  rintro n s5 ⟨i,acc,σ5,H5,I5,st5,fr5,w5⟩
  rcases turn i n acc σ5 H5 w5 with ⟨stop,qn⟩|⟨go,NN,hN,step⟩
  ·refine thn (T.done (compCx X scope (compN X.N own ix) s3 (upd H1 s2.heap.objs.size (.lst [])) s3.heap.objs.size fp) rfl rfl rfl hc i [] s5 σ5 H5 _ I5 (fp' fr5) st5 stop) λ r s6 ⟨hr,I6⟩=>?_
   subst hr
   obtain ⟨m6,hn6,_⟩:=I6.loc
   exact hR _ _ m6 s6 H5 hn6 (Nat.ne_of_gt I3.lt) cne I6.free (I3.sz) (λ p hp z=>absurd (Heap.lt_size (I3.pin p hp).1) (by rw [z];exact Nat.lt_irrefl _)) (λ h'' sb=>inv_uncomp I3 f3 I6 sb) qn
  ·refine thn (T.item (compCx X scope (compN X.N own ix) s3 (upd H1 s2.heap.objs.size (.lst [])) s3.heap.objs.size fp) rfl rfl rfl hc i [] s5 σ5 H5 _ I5 (fp' fr5) st5 go) λ r s6 ⟨u,hr,h6⟩=>?_
   subst hr
   refine thn h6 λ _ s7 ⟨x,H7,I7,r7,y7,st7,fr7⟩=>?_
   have I7':=I7.pinned (fp' fr7) (T.obj _ _ st7)
   have noE:∀ {α:Type} {t:Sem α} {Q1:α->Shared->Prop} {E1:Value->Shared->Prop} {sx:Shared},wpAny (model X.prog X.w) X.A t Q1 (λ _ _=>False) sx->wpAny (model X.prog X.w) X.A t Q1 E1 sx:=λ q=>wpAny_noRaise q
   refine noE (thn (hG _ s7 σ5 H7 x u _ I7' r7 (step x H7 y7)) λ _ s8 ⟨σ8,H8,I8,q8⟩=>?_)
   refine noE (thn (hT _ s8 σ8 H8 _ I8 q8) λ b s9 ⟨H9,I9,q9⟩=>?_)
   have again:∀ {σz:St} {Hz:Hp} {sz:Shared} {accz:List V},Inv (compCx X scope (compN X.N own ix) s3 (upd H1 s2.heap.objs.size (.lst [])) s3.heap.objs.size fp) ([]++pinsAt fp s7.heap) σz Hz sz->NN accz σz Hz->∃ m,m < n/\∃ i acc σ' H',Inv (compCx X scope (compN X.N own ix) s3 (upd H1 s2.heap.objs.size (.lst [])) s3.heap.objs.size fp) [] σ' H' sz/\tn i sz.heap/\(∀ b∈fp,H' b=none)/\W i m acc σ' H':=λ {σz Hz sz accz} Iz nz=>by
    obtain ⟨m',hm,wz⟩:=hN accz σz Hz nz
    refine ⟨m',hm,i+1,accz,σz,Hz,Iz.unpinned,T.keep _ _ _ st7 λ b hbf o e=>(Iz.pin (b,o) (List.mem_append_right _ (List.mem_append_right _ (mem_pinsAt hbf e)))).1,λ b hbf=>?_,wz⟩
    obtain ⟨o,e,d⟩:=T.obj _ _ st7 b hbf
    exact (Iz.pin (b,o) (List.mem_append_right _ (List.mem_append_right _ (mem_pinsAt hbf e)))).2.1
   cases b with
  |false =>
    have q9':NN acc σ8 H9:=by simpa using q9
    simp only [Bool.false_eq_true,if_false]
    exact again I9 q9'
  |true =>
    have q9':te σ8 H9 λ y H5=>H5 s2.heap.objs.size=some (.lst acc)/\acc.length < sizeLine/\NN (acc++[y]) σ8 (upd H5 s2.heap.objs.size (.lst (acc++[y]))):=by simpa using q9
    simp only [if_true]
    refine noE (thn (hE _ s9 σ8 H9 _ I9 q9') λ y s10 ⟨yv,H10,I10,r10,hl,hz,q10⟩=>?_)
    refine noE (thn (mt_append _ s10 σ8 H10 (.ref s2.heap.objs.size) [yv] (.ref s2.heap.objs.size) [y] (λ _ H'=>NN (acc++[yv]) σ8 H') I10 rfl (.cons r10 .nil) ⟨_,acc,yv,rfl,rfl,hl,hz,q10⟩) λ _ s11 ⟨_,H11,I11,_,q11⟩=>?_)
    exact again I11 q11
 exact codeAny_compStart_list loop (T.self X.A 0 _ _ _ st4 loop)
theorem pe_comp (hc:X.calm=true) (hsc:X.env.scope=sc) (hN:X.N=N) (S:CompSc sc N own ix scope) (hi:PI X tg iter wi)
  (hb:∀ s₀ H₀ C fp,PG (compCx X scope (compN N own ix) s₀ H₀ C fp) tg g/\PIf (compCx X scope (compN N own ix) s₀ H₀ C fp) ifs tt/\PE (compCx X scope (compN N own ix) s₀ H₀ C fp) elt te)
  (hs:∀ x,foldedSetIterable iter X.env x=pure x:=by intro _;rfl):PE X (.ListComp elt [⟨tg,iter,ifs,0⟩] scope pos) (tComp wi own.length ix g tt te):=by
 subst hsc hN
 intro pins s σ H Q I h
 rw [eval_ListComp]
 refine wpAny_comprehension_free (use:=none) (g:=⟨tg,iter,ifs,0⟩) (gs:=[]) rfl hs (closure_is λ y hy hf=>I.ok.has y.1 (S.free y hy hf)) S.kind S.names ?_
 show wpAny _ _ (eval iter X.env) _ _ _
 refine thn (hi pins s σ H _ I h) λ v s1 h1=>thn h1 λ itv s2 h2=>?_
 refine comp_block (Q:=Q) (RR:=λ acc C=>compPost (model X.prog X.w) X.A X.xe none (EP X pins σ Q) acc C) hc S hb h2 ?_
 intro D C m s' H' hns _ _ _ _ _ hI q
 exact ⟨m,hns,λ h'' sb=>⟨.ref D,H',hI h'' sb,rfl,q⟩⟩
theorem ps_setComp {i:Nat} {x:Str} {pos' pos2:Pos} (hc:X.calm=true) (hsc:X.env.scope=sc) (hN:X.N=N) (S:CompSc sc N own ix scope) (hnd:X.N.Nodup) (hxi:X.N[i]?=some x) (hx:X.env.scope.names.lookup x=some .local) (hi:PI X tg iter wi)
  (hb:∀ s₀ H₀ C fp,PG (compCx X scope (compN N own ix) s₀ H₀ C fp) tg g/\PIf (compCx X scope (compN N own ix) s₀ H₀ C fp) ifs tt/\PE (compCx X scope (compN N own ix) s₀ H₀ C fp) elt te)
  (hsw:swapsWith (.ListComp elt [⟨tg,iter,ifs,0⟩] scope pos) (some (.Name x pos')) pos2.line X.env=pure true:=by rfl)
  (hs:∀ x,foldedSetIterable iter X.env x=pure x:=by intro _;rfl):PS X (.Assign [.Name x pos'] (.ListComp elt [⟨tg,iter,ifs,0⟩] scope pos) pos2) (tAsg (tComp wi own.length ix g tt te) (gName i)):=by
 subst hsc hN
 intro pins s σ H D I h
 rw [exec_Assign_Name_used _ _ _ _ hsw]
 refine wpAny_bind (wpAny_standAt (wpAny_bind ?_))
 show wpAny _ X.A (do let _ <- comprehension (.ListComp elt [⟨tg,iter,ifs,0⟩] scope pos) scope X.env _ (newList []) false (eval iter X.env) (some (assign (.Name x pos') X.env))) _ _ s
 refine wpAny_bind (wpAny_mono (wpAny_comprehension_free (use:=some (assign (.Name x pos') X.env)) (g:=⟨tg,iter,ifs,0⟩) (gs:=[]) (Q:=λ _ s'=>SP X pins D .next s') rfl hs (closure_is λ y hy hf=>I.ok.has y.1 (S.free y hy hf)) S.kind S.names
  (thn (hi pins s σ H _ I h) λ v s1 h1=>thn h1 λ itv s2 h2=>?_)) (λ _ s' hq=>wpAny_pure (wpAny_pure hq)) λ _ _ e=>e)
 refine comp_block (Q:=λ v H1=>gName i v σ H1 D.nx) (RR:=λ acc C=>compPost (model X.prog X.w) X.A X.xe (some (assign (.Name x pos') X.env)) (λ _ s'=>SP X pins D .next s') acc C) hc S hb h2 ?_
 intro L C m s' H' hns nL nC hC hC0 hCp hI q
 show wpAny _ _ (assign (.Name x pos') X.env (.ref L)) _ _ s'
 have I':Inv X pins σ H' s':=hI s'.heap ⟨rfl,λ _ _=>rfl⟩
 refine wpAny_assign_Name (store_ok2 I' hnd hxi (.inl hx) (v:=.ref L) rfl (λ s2 I2 hch=>?_) (.inr hx))
 obtain ⟨a,sba,ha⟩:=hch
 have naC:C≠a:=by
  rcases ha with z|z
  ·rw [z];exact nL
  ·exact λ e=>nC x a z e.symm
 refine ⟨m,hns.sameBut sba naC,λ h'' sb=>?_⟩
 refine ⟨_,H',I2.turned (t':=s2.toks) (it:=C) (λ b o nb e=>?_) hC nL (.inr hC0) nC hCp,q⟩
 rw [sb.2 b nb];exact e
end
def rAddU (K:Fg):R2:=λ x y H Q=>rI0 (λ i j=>.int (i+j)) x y H Q \/ (∃ i j,x=.str i/\y=.str j/\i.length+j.length<=sizeLine/\Q (.str (i++j)) H) \/ rCat x y H Q \/ rCatT K x y H Q
def rMulU:R2:=λ x y H Q=>rI CMul (λ i j=>.int (i * j)) x y H Q \/ rRep x y H Q
def kIter (K:Fg) (x:V) (H:Hp) (R:It->Hp->Prop):Prop:=(∃ a,x=.ref a/\(∃ xs,SqL K H a xs)/\R (Itl K a) H) \/ (∃ a,x=.ref a/\(∃ xs,SqT K H a xs)/\R (Itt K a) H)
def rLen (K:Fg):List V->Hp->VK->Prop:=λ xs H Q=>∃ x n,xs=[x]/\LenV K x H n/\Q (.int (n:Nat)) H
def rMax2:List V->Hp->VK->Prop:=λ xs H Q=>∃ i j,xs=[.int i,.int j]/\Q (.int (if j > i then j else i)) H
def kNewT (xs:List V) (H:Hp) (Q:VK):Prop:=xs.length<=sizeLine/\∀ p,H p=none->Q (.ref p) (upd H p (.tup xs))
def kNewL (xs:List V) (H:Hp) (Q:VK):Prop:=xs.length<=sizeLine/\∀ p,H p=none->Q (.ref p) (upd H p (.lst xs))
def tTupU (t:TA):TE:=λ σ H Q=>t σ H λ xs H1=>kNewT xs H1 Q
def tLstU (t:TA):TE:=λ σ H Q=>t σ H λ xs H1=>kNewL xs H1 Q
def kFld (K:Fg) (f:Str) (x:V) (H:Hp) (Q:VK):Prop:=∃ a C dx fs v,x=.ref a/\H a=some (.ins C dx fs)/\Cls K C/\NoAttr K C f/\fs.lookup f=some v/\Q v H
def tFldU (K:Fg) (ta:TE) (f:Str):TE:=λ σ H Q=>ta σ H λ x H1=>kFld K f x H1 Q
def kBl (x:V) (H:Hp) (Q:Bool->Hp->Prop):Prop:=∃ k,x=.bl k/\Q k H
def tTestU (t:TE):TT:=λ σ H Q=>t σ H λ x H'=>kBl x H' Q
def kTru (K:Fg) (x:V) (H:Hp) (Q:Bool->Hp->Prop):Prop:=∃ k,TruV K x H k/\Q k H
def tTruU (K:Fg) (t:TE):TT:=λ σ H Q=>t σ H λ x H'=>kTru K x H' Q
section
variable {X:Cx} {tg:Expr}
theorem op_addU {K:Fg} (h:X.K=K):OpR X (binaryOp .Add) (rAddU K):=h ▸ op_add.or (op_add_str.or (op_cat.or op_catT))
theorem op_mulU:OpR X (binaryOp .Mult) rMulU:=op_mul.or op_rep
theorem ix_U {K:Fg} (h:X.K=K):IxR X (rIx K):=h ▸ ix_seq
theorem call_lenU {K:Fg} (h:X.K=K):CallR X (.builtin "len") (rLen K):=h ▸ call_len
theorem call_maxU (hc:X.calm=true):CallR X (.builtin "max") rMax2:=call_max2 hc
theorem pe_tupU {es:List Expr} {t:TA} {x1} {pos:Pos} (h:PA X es t):PE X (.Tuple es x1 pos) (tTupU t):=pe_tup h
theorem pe_lstU {es:List Expr} {t:TA} {pos:Pos} (h:PA X es t):PE X (.List es pos) (tLstU t):=pe_lst h
theorem pe_fldU {K:Fg} (h:X.K=K) {e:Expr} {f:Str} {pos:Pos} {ta:TE} (he:PE X e ta) (hb:attributeBase e f X.env (eval e X.env)=eval e X.env):PE X (.Attribute e f pos) (tFldU K ta f):=h ▸ pe_fld he hb
theorem pt_cmpU {a b:Expr} {ta tb:TE} {pos:Pos} {op:CmpOp} {r:R2} (ho:OpR X (compareOp op) r) (ha:PE X a ta) (hb:PE X b tb) (hm:behindInMarks op b=false):PT X (.Compare a [op] [b] pos) (tTestU (tOp r ta tb)):=pt_cmpR ho ha hb hm
theorem pt_truU {K:Fg} (h:X.K=K) {a:Expr} {ta:TE} (ha:PE X a ta) (he:∀ whole,isTrue a X.env whole=(do let v <- whole;standAt a.pos;holding [v] (truthy v))):PT X a (tTruU K ta):=h ▸ pt_truth ha he
def clsV:V->Option Value
|.ty n=>some (.type n)
|.ref a=>some (.ref a)
|_=>none
theorem clsV_rel {cV:V} {c v:Value} (h:clsV cV=some c) (r:RelV cV v):v=c:=by
 cases cV with
|ty n=>cases h;exact r
|ref a=>cases h;exact r
|_=>cases h
def rIsI (K:Fg):List V->Hp->VK->Prop:=λ xs H Q=>∃ x cV c t b,xs=[x,cV]/\clsV cV=some c/\TyOf K H x t/\PySem.W.kitOne K t c=some b/\Q (.bl b) H
theorem call_isinst {K:Fg} (h:X.K=K):CallR X (.builtin "isinstance") (rIsI K):=by
 subst h
 intro pins s σ H xs us Q I r h
 obtain ⟨x,cV,c,t,b,rfl,rc,ty,e,q⟩:=h
 obtain ⟨u,v,rfl,ru,rv⟩:=r.two
 obtain rfl:=clsV_rel rc rv
 exact isinst_ok I ru ty e λ tk=>⟨.bl b,H,I.tok tk,rfl,q⟩
end
def Def (P:Program) (w:World) (K:Fg) (mg:Str->Option Value) (base:Heap) (x:Str) (k:Nat) (ps:List Str) (sp:Sp):Prop :=
 ∃ f fd,FnOk P w K mg base CX0 k f fd ps sp/\Binds K fd ps []/\PySem.W.keepIn K (.ref f)=true/\mg x=some (.ref f)
def MakeD (P:Program) (w:World) (K:Fg) (mg:Str->Option Value) (base:Heap) (x:Str) (C:Addr) (k:Nat) (ps:List Str) (sp:Sp):Prop :=
 ∃ f fd,Mk K C f/\FnOk P w K mg base CX0 k f fd ps sp/\Binds K fd ps []/\mg x=some (.ref C)
def MethD (P:Program) (w:World) (K:Fg) (mg:Str->Option Value) (base:Heap) (C:Addr) (m:Str) (k:Nat) (ps:List Str) (sp:Sp):Prop :=
 ∃ f fd,Cls K C/\Meth K C m f/\FnOk P w K mg base CX0 k f fd ps sp/\Binds K fd ps []
section
variable {X:Cx} {k:Nat} {C:Addr} {ps:List Str} {sp:Sp} {x m:Str} {p pos apos:Pos} {e o:Expr} {es:List Expr} {ta:TE} {t:TA}
theorem pe_callD (d:Def X.prog X.w X.K X.mg X.base x k ps sp) (hr:Room k X.A) (hg:Gl X x) (ha:PA X (e :: es) t) (hdb:(x == ("__debug__":Str))=false:=by decide)
  (he:starEach (e :: es) X.env=(false,eval e X.env) :: starEach es X.env:=by rfl) (hpl:(backTo pos (starEach es X.env)).any (·.1)=false:=by rfl):PE X (.Call (.Name x p) (e :: es) [] pos) (tCall sp [] E0 t):=by
 obtain ⟨f,fd,F,b,kp,m⟩:=d
 exact pe_call F hr hg m kp b .nil pass0 ha hdb he hpl
theorem pe_makeD (d:MakeD X.prog X.w X.K X.mg X.base x C k ps sp) (hr:Room (k+1) X.A) (hg:Gl X x) (ha:PA X (e :: es) t) (hdb:(x == ("__debug__":Str))=false:=by decide)
  (he:starEach (e :: es) X.env=(false,eval e X.env) :: starEach es X.env:=by rfl) (hpl:(backTo pos (starEach es X.env)).any (·.1)=false:=by rfl):PE X (.Call (.Name x p) (e :: es) [] pos) (tMake C sp [] E0 t):=by
 obtain ⟨f,fd,M,F,b,m⟩:=d
 exact pe_make M F hr hg m b .nil pass0 ha hdb he hpl
end
theorem same_new {H:Hp} {p:Addr} (h:H p=none) (o:HO):Same H (upd H p o):=λ b u q=>by rw [upd_ne (ne_of_none q h)];exact q
theorem sseqT {K:Fg} {H H':Hp} {a:Addr} {xs:List V} (e:Same H H') (h:SqT K H a xs):SqT K H' a xs:=by
 rcases h with (h|⟨o,h⟩)|h
 ·exact .inl (.inl (e _ _ h))
 ·exact .inl (.inr ⟨o,e _ _ h⟩)
 ·exact .inr h
section
variable {K:Fg} {σ:St} {H:Hp} {Q:VK} {D:Ends} {a b p:Addr} {i j k:Int} {x y v:V} {xs ys:List V} {ta tb te:TE} {t u:TS} {tA:TA} {tt tt':TT} {A B:Prop}
end
theorem bt_len:bootBuiltins "len"=some (.builtin "len"):=by decide +kernel
theorem bt_max:bootBuiltins "max"=some (.builtin "max"):=by decide +kernel
theorem bt_min:bootBuiltins "min"=some (.builtin "min"):=by decide +kernel
theorem bt_isinstance:bootBuiltins "isinstance"=some (.builtin "isinstance"):=by decide +kernel
theorem bt_int:bootBuiltins "int"=some (.type "int"):=by decide +kernel
theorem bt_bool:bootBuiltins "bool"=some (.type "bool"):=by decide +kernel
theorem bt_list:bootBuiltins "list"=some (.type "list"):=by decide +kernel
structure Md (K:Fg) (mg:Str->Option Value):Prop where
 ex:∃ h:Heap,K.In h/\h.Ns mainGlobals mg
theorem Md.got {K:Fg} {mg:Str->Option Value} (M:Md K mg) {x:Str} {v:Value} (e:PySem.W.nsIn K mainGlobals x=some (some v)):mg x=some v:=let ⟨_,X,G⟩:=M.ex;PySem.W.mg_of X G e
theorem Md.not {K:Fg} {mg:Str->Option Value} (M:Md K mg) {x:Str} (e:PySem.W.nsIn K mainGlobals x=some none):mg x=none:=let ⟨_,X,G⟩:=M.ex;PySem.W.mg_none_of X G e
structure TopDef (K:Fg) (x:Str) (st:Stmt):Prop where
 ex:∃ f fd,PySem.W.nsIn K mainGlobals x=some (some (.ref f))/\Fun K x x st f fd
theorem topDef_mk {K:Fg} {x:Str} {st:Stmt} {f:Addr} {oc:Value} {od an:Option Addr} {osl:Array (Option Value)} {kV doc pm cdv ct:Value} (a:PySem.W.nsIn K mainGlobals x=some (some (.ref f)))
  (l:K.lookup f=some ⟨oc,od,.func (PySem.W.fnOf x x (defArgs st) (defBody st) (defScope st) .none kV doc pm an cdv ct),osl⟩) (c:PySem.W.codeIn K cdv x=true) (k:PySem.W.keepIn K (.ref f)=true):TopDef K x st:=⟨⟨_,_,a,fun_mk l c k⟩⟩
structure TopMeth (K:Fg) (C:Addr) (m qual:Str) (st:Stmt):Prop where
 ex:∃ f fd,PySem.W.findIn K (.ref C) m=some (some (.ref f))/\PySem.W.isFn K (.ref f)=true/\Fun K m qual st f fd
theorem topMeth_mk {K:Fg} {C:Addr} {x qual:Str} {st:Stmt} {f:Addr} {oc:Value} {od an:Option Addr} {osl:Array (Option Value)} {kV doc pm cdv ct:Value} (a:PySem.W.findIn K (.ref C) x=some (some (.ref f))) (i:PySem.W.isFn K (.ref f)=true)
  (l:K.lookup f=some ⟨oc,od,.func (PySem.W.fnOf x qual (defArgs st) (defBody st) (defScope st) .none kV doc pm an cdv ct),osl⟩) (c:PySem.W.codeIn K cdv qual=true) (k:PySem.W.keepIn K (.ref f)=true):TopMeth K C x qual st:=⟨⟨_,_,a,i,fun_mk l c k⟩⟩
structure TopCls (K:Fg) (x:Str) (C:Addr):Prop where
 at_:PySem.W.nsIn K mainGlobals x=some (some (.ref C))
 cls:Cls K C
 mkk:PySem.W.makesIn K C=true
 kp:PySem.W.keepIn K (.ref C)=true
theorem topCls_mk {K:Fg} {x:Str} {C:Addr} (a:PySem.W.nsIn K mainGlobals x=some (some (.ref C))) (pg:PySem.W.plainGet K C Str.empty=true) (hd:PySem.W.hasDictIn K C=true) (po:PySem.W.plainOver K C=true)
  (sa:PySem.W.findIn K (.ref C) "__setattr__"=some (some (.builtin "object.__setattr__"))) (mk:PySem.W.makesIn K C=true) (kc:PySem.W.keepIn K (.ref C)=true):TopCls K x C:=⟨a,⟨pg,hd,po,sa⟩,mk,kc⟩
section
variable {P:Program} {w:World} {K:Fg} {mg:Str->Option Value} {base:Heap}
abbrev BindFact (x qual:Str) (st:Stmt) (ps:List Str):Prop :=
 ∀ (kV doc pm:Value) (an:Option Addr) (cdv ct:Value) (us:List Value),us.length=ps.length->bindArgs (PySem.W.fnOf x qual (defArgs st) (defBody st) (defScope st) .none kV doc pm an cdv ct) ⟨us,[]⟩=pure (ps.zip us)
abbrev BodyFact (P:Program) (w:World) (K:Fg) (mg:Str->Option Value) (base:Heap) (qual:Str) (st:Stmt) (N:List Str) (k:Nat) (sp:Sp):Prop :=
 ∀ (f:Addr) (cdv:Value) (A:Around) (outer:List Env) (s:Shared) (H:Hp) (vs:List V) (Q:VK) (E:XK),Room k (A.deeper (envOfC qual (defScope st) s.heap.objs.size f cdv))->sp vs H Q E ->
   ∃ t,PSs (cxOf CX0 P w K mg base N qual (defScope st) f cdv A outer s H E).nox (defBody st) t/\t { nx:=λ _ H'=>Q .non H',rt:=Q } (start N vs) H
theorem def_of {x:Str} {st:Stmt} {N ps:List Str} {k:Nat} {sp:Sp} (M:Md K mg) (T:TopDef K x st) (S:FnScope N ps (defScope st)) (hb:BindFact x x st ps) (len:∀ vs H Q E,sp vs H Q E->vs.length=ps.length)
  (body:BodyFact P w K mg base x st N k sp):Def P w K mg base x (k+1) ps sp:=by
 obtain ⟨f,fd,a,F⟩:=T.ex
 exact ⟨f,fd,F.ok S len (λ cdv A outer s H vs Q E hr h=>body f cdv A outer s H vs Q E hr h),F.binds hb,F.kp,M.got a⟩
theorem meth_of {C:Addr} {m qual:Str} {st:Stmt} {N ps:List Str} {k:Nat} {sp:Sp} (c:Cls K C) (T:TopMeth K C m qual st) (S:FnScope N ps (defScope st)) (hb:BindFact m qual st ps) (len:∀ vs H Q E,sp vs H Q E->vs.length=ps.length)
  (body:BodyFact P w K mg base qual st N k sp):MethD P w K mg base C m (k+1) ps sp:=by
 obtain ⟨f,fd,a,i,F⟩:=T.ex
 exact ⟨f,fd,c,⟨a,i,F.kp⟩,F.ok S len (λ cdv A outer s H vs Q E hr h=>body f cdv A outer s H vs Q E hr h),F.binds hb⟩
theorem make_of {x qual:Str} {C:Addr} {st:Stmt} {N ps:List Str} {k:Nat} {sp:Sp} (M:Md K mg) (c:TopCls K x C) (T:TopMeth K C "__init__" qual st) (S:FnScope N ps (defScope st)) (hb:BindFact "__init__" qual st ps)
  (len:∀ vs H Q E,sp vs H Q E->vs.length=ps.length) (body:BodyFact P w K mg base qual st N k sp):MakeD P w K mg base x C (k+1) ps sp:=by
 obtain ⟨f,fd,a,i,F⟩:=T.ex
 exact ⟨f,fd,⟨c.mkk,a,i,c.kp⟩,F.ok S len (λ cdv A outer s H vs Q E hr h=>body f cdv A outer s H vs Q E hr h),F.binds hb,M.got c.at_⟩
theorem law_of {st:Stmt} {N:List Str} {k:Nat} {sp:Sp} {fa:Addr} (M:Md K mg) (T:TopDef K "law" st) (hfa:mg "law"=some (.ref fa)) (S:FnScope N ["script"] (defScope st)) (hb:BindFact "law" "law" st ["script"]) (len:∀ vs H Q E,sp vs H Q E->vs.length=1)
  (body:∀ base:Heap,K.In base->base.Ns mainGlobals mg->BodyFact P w K mg base "law" st N k sp) :
  ∃ fd:FuncData,(∀ (s:Shared) (v:Value),BindsTo s fd ⟨[v],[]⟩ [("script",v)])/\∀ base:Heap,K.In base->base.Ns mainGlobals mg->FnOk P w K mg base CX0 (k+1) fa fd ["script"] sp:=by
 obtain ⟨f,fd,a,F⟩:=T.ex
 have e:=hfa.symm.trans (M.got a)
 cases e
 obtain ⟨oc,od,kV,doc,pm,an,cdv,ct,osl,e1,lk,hcd⟩:=id F.ex
 refine ⟨fd,λ s v=>.of_eq ?_,λ base kb nb=>F.ok S len λ cdv A outer s H vs Q E hr h=>body base kb nb fa cdv A outer s H vs Q E hr h⟩
 rw [e1]
 exact hb kV doc pm an cdv ct [v] rfl
end
section
variable {K:Fg} {a D:Addr} {xs:List V} {Q:VK} {σ:St} {H:Hp} {n:Nat} {ix:List Nat} {g:TG} {tt:TT} {te:TE}
end
def keyish:PyData->Bool
|.int _=>true
|.str _=>true
|_=>false
mutual
inductive Is (K:Fg) (H:Hp):V->PyData->Prop
|non:Is K H .non .none
|bl (b:Bool):Is K H (.bl b) (.bool b)
|int (i:Int):Is K H (.int i) (.int i)
|str (x:Str):Is K H (.str x) (.str x)
|lst {a:Addr} {xs:List V} {ds:List PyData}:SqL K H a xs->IsAll K H xs ds->Is K H (.ref a) (.list ds)
|tup {a:Addr} {xs:List V} {ds:List PyData}:H a=some (.tup xs)->IsAll K H xs ds->Is K H (.ref a) (.tuple ds)
|tuc {a:Addr} {xs:List V} {ds:List PyData}:SqT K H a xs->IsAll K H xs ds->ds.all keyish=false->Is K H (.ref a) (.tuple ds)
inductive IsAll (K:Fg) (H:Hp):List V->List PyData->Prop
|nil:IsAll K H [] []
|cons {x:V} {d:PyData} {xs:List V} {ds:List PyData}:Is K H x d->IsAll K H xs ds->IsAll K H (x :: xs) (d :: ds)
end
mutual
theorem Is.mono {K:Fg} {H H':Hp} (s:Same H H'):∀ {v:V} {d:PyData},Is K H v d->Is K H' v d
|_,_,.non=>.non
|_,_,.bl b=>.bl b
|_,_,.int i=>.int i
|_,_,.str x=>.str x
|_,_,.lst h r=>.lst (s.seq h) (IsAll.mono s r)
|_,_,.tup h r=>.tup (s _ _ h) (IsAll.mono s r)
|_,_,.tuc h r n=>.tuc (sseqT s h) (IsAll.mono s r) n
theorem IsAll.mono {K:Fg} {H H':Hp} (s:Same H H'):∀ {v:List V} {d:List PyData},IsAll K H v d->IsAll K H' v d
|_,_,.nil=>.nil
|_,_,.cons h r=>.cons (Is.mono s h) (IsAll.mono s r)
end
section
variable {X:Cx} {pins:List (Addr×Obj)} {σ:St} {H:Hp} {s:Shared}
mutual
theorem reads_of (I:Inv X pins σ H s):∀ {v:V} {d:PyData} {u:Value},Is X.K H v d->RelV v u->∃ as,Reads s.heap u d as
|_,_,_,.non,r=>by cases r;exact ⟨_,.none⟩
|_,_,_,.bl b,r=>by cases r;exact ⟨_,.bool b⟩
|_,_,_,.int i,r=>by obtain ⟨t,rfl⟩:=r;exact ⟨_,.int i t⟩
|_,_,_,.str x,r=>by obtain ⟨t,rfl⟩:=r;exact ⟨_,.str x t⟩
|_,_,_,.lst h q,r=>by
  cases r
  obtain ⟨its,rv,p,_⟩:=I.list h
  obtain ⟨as,z⟩:=readsAll_of I q rv
  obtain ⟨o,ho,hc,n,hd⟩:=p.isList
  exact ⟨_,.list ho hc hd (by simpa using z)⟩
|_,_,_,.tup h q,r=>by
  cases r
  obtain ⟨its,rv,p,_⟩:=I.tuple (SqT.of h)
  obtain ⟨as,z⟩:=readsAll_of I q rv
  obtain ⟨o,ho,hc,n,hd⟩:=(show s.heap.IsTuple _ its.toArray from p)
  exact ⟨_,.tuple ho hc hd (by simpa using z)⟩
|_,_,_,.tuc h q _,r=>by
  cases r
  obtain ⟨its,rv,p,_⟩:=I.tuple h
  obtain ⟨as,z⟩:=readsAll_of I q rv
  obtain ⟨o,ho,hc,n,hd⟩:=(show s.heap.IsTuple _ its.toArray from p)
  exact ⟨_,.tuple ho hc hd (by simpa using z)⟩
theorem readsAll_of (I:Inv X pins σ H s):∀ {v:List V} {d:List PyData} {u:List Value},IsAll X.K H v d->Vals v u->∃ as,ReadsAll s.heap u d as
|_,_,_,.nil,r=>by cases r;exact ⟨_,.nil⟩
|_,_,_,.cons h q,r=>by
  cases r with
 |cons r1 r2 =>
   obtain ⟨as,z⟩:=reads_of I h r1
   obtain ⟨bs,y⟩:=readsAll_of I q r2
   exact ⟨_,.cons z y⟩
end
end
def rEqU (K:Fg):R2:=λ x y H Q=>rEq x y H Q \/ (∃ d e,Is K H x d/\Is K H y e/\SeqAt.shaped d=true/\SeqAt.shaped e=true/\Q (.bl (PyData.eqv d e)) H)
def rNeU (K:Fg):R2:=λ x y H Q=>rNe x y H Q \/ (∃ d e,Is K H x d/\Is K H y e/\SeqAt.shaped d=true/\SeqAt.shaped e=true/\Q (.bl (!PyData.eqv d e)) H)
section
variable {X:Cx}
theorem op_eqD {K:Fg} (h:X.K=K) (hu:X.A.units+64 < cLine):OpR X (compareOp .Eq) (rEqU K):=by
 subst h
 refine op_eq.or ?_
 intro pins s σ H x y v u Q I rx ry q
 obtain ⟨d,e,hd,he,sd,se,q⟩:=q
 obtain ⟨as,r1⟩:=reads_of I hd rx
 obtain ⟨bs,r2⟩:=reads_of I he ry
 exact eq_dataH r1 r2 sd se hu ⟨.bl _,H,I,rfl,q⟩
theorem op_neD {K:Fg} (h:X.K=K) (hu:X.A.units+64 < cLine):OpR X (compareOp .NotEq) (rNeU K):=by
 subst h
 refine op_ne.or ?_
 intro pins s σ H x y v u Q I rx ry q
 obtain ⟨d,e,hd,he,sd,se,q⟩:=q
 obtain ⟨as,r1⟩:=reads_of I hd rx
 obtain ⟨bs,r2⟩:=reads_of I he ry
 exact ne_dataH r1 r2 sd se hu ⟨.bl _,H,I,rfl,q⟩
def tMethX (P:Program) (w:World) (K:Fg) (mg:Str->Option Value) (base:Heap) (m:Str) (k:Nat) (ta:TE) (t:TA):TE:=λ σ H Q=>ta σ H λ x H1=>∃ a C dx fs ps sp,x=.ref a/\H1 a=some (.ins C dx fs)/\fs.lookup m=none /\
 MethD P w K mg base C m k ps sp/\t σ H1 λ vs H2=>sp (x :: vs) H2 Q E0
theorem pe_methX {P:Program} {w:World} {K:Fg} {mg:Str->Option Value} {base:Heap} {k:Nat} {m:Str} {pos apos:Pos} {e o:Expr} {es:List Expr} {ta:TE} {t:TA} {pl:Sem Bool} (hP:X.prog=P) (hw:X.w=w) (hK:X.K=K) (hmg:X.mg=mg) (hbs:X.base=base) (hr:Room k X.A) (he:PE X o ta) (ha:PA X (e :: es) t)
  (hst:starEach (e :: es) X.env=(false,eval e X.env) :: starEach es X.env:=by rfl) (hpl:(backTo pos (starEach es X.env)).any (·.1)=false:=by rfl)
  (ht:eval (.Call (.Attribute o m apos) (e :: es) [] pos) X.env=(do
   let ov <- eval o X.env
   standAt apos.atName
   let (f,first) <- holding [ov] (getMethod ov m pl)
   callWith pos f first (backTo pos (starEach (e :: es) X.env)) (backToKw pos (keywordEach [] X.env))):=by rfl) :
  PE X (.Call (.Attribute o m apos) (e :: es) [] pos) (tMethX P w K mg base m k ta t):=by
 subst hP hw hK hmg hbs
 intro pins s σ H Q I h
 refine PySem.W.methodCall_KW (pl:=pl) (thn (he pins s σ H _ I h) λ u s1 ⟨x,H1,I1,rx,a,C,dx,fs,ps,sp,ex,ea,l,d,q⟩=>?_) ht
 subst ex
 obtain rfl:u=Value.ref a:=rx
 obtain ⟨f,fd,c,hm,F,b⟩:=d
 refine getmeth_ok I1 ea c hm l ?_
 refine PySem.W.callWith_K (first:=[.ref a]) (h₀:=X.base) I.ok.mod.kin hm.kp (thn (ha pos pins s1 σ H1 _ I1 q) λ us s2 ⟨vs,H2,I2,r,q2⟩=>⟨I2.kIn,?_⟩) hst hpl
 exact run_fn (us:=.ref a :: us) (vs:=.ref a :: vs) (dvs:=[]) (ds:=[]) F hr b .nil pass0 I2 (.cons rfl r) (by rw [List.append_nil];exact q2)
end
section
variable {K:Fg} {σ:St} {H:Hp} {Q:VK} {x y:V} {ta:TE} {tA:TA}
end
end L3
namespace L3
open PySem PySem.Builtin PySem.Builtin.Str PySem.StrLaws
end L3
namespace L3
open PySem PySem.Spec PyProof.Rows L2
section
variable {X:Cx}
def Its (z:Str):It:=⟨λ i _=>i < z.cps.size,λ i H x H'=>H'=H/\∃ c,z.cps[i]?=some c/\x=.str ⟨#[c]⟩,λ i _=>z.cps.size<=i⟩
theorem turn_str {P:Program} {w:World} {K:Fg} {tg:Expr} (z:Str) (t:Tok) (it:Addr):Turn P w K tg (Its z) [it] it (λ i h=>h.IsStrIter it "str_ascii_iterator" z t i) where
 mem:=by simp
 obj:=λ i h st b hb=>by
  have e:b=it:=by simpa using hb
  subst e
  obtain ⟨o,e,c,d⟩:=st
  exact ⟨o,e,λ v z=>by rw [d] at z;cases z⟩
 keep:=λ i h h' st k=>by
  obtain ⟨o,e,c,d⟩:=st
  exact ⟨o,k it (by simp) o e,c,d⟩
 item:=by
  intro X hP hw hK hc i pins s σ H E I hf st hg
  subst hP hw hK
  have hg':i < z.cps.size:=hg
  obtain ⟨f0,f1,f2,f3,f4,f5⟩:=hf it (by simp)
  have hx:z.cps[i]?=some z.cps[i]:=by simp [hg']
  refine wpAny_pyNext_ascii_item st hx λ h' st' sb=>?_
  have I1:Inv X pins σ H { s with heap:=h',toks:=s.toks+1 }:=I.turned (t':=s.toks+1) (λ b o hb e=>(sb.2 b hb).trans e) f0 f1 f3 f4 f5
  obtain ⟨o,e,c,d⟩:=id st'
  exact ⟨_,rfl,go_of (s:={ s with heap:=h',toks:=s.toks+1 }) e c d (by decide) ⟨.str ⟨#[z.cps[i]]⟩,H,I1,⟨_,rfl⟩,⟨rfl,_,hx,rfl⟩,st',λ b hb=>(hf b hb).1⟩⟩
 done:=by
  intro X hP hw hK hc i pins s σ H E I hf st hg
  subst hP hw hK
  have hg':z.cps.size<=i:=hg
  obtain ⟨f0,f1,f2,f3,f4,f5⟩:=hf it (by simp)
  have hx:z.cps[i]?=none:=by simp [hg']
  exact wpAny_pyNext_ascii_end (I.ok.hd hc) st hx λ h' eb=>⟨rfl,I.turned (t':=s.toks) (λ b o hb e=>eb b o hb e) f0 f1 f3 f4 f5⟩
 self:=λ A i s Q E st h=>wpAny_pyIter_striter_ascii st h
def rInU (K:Fg):R2:=λ x y H Q=>rIn K false x y H Q \/ ∃ c z,x=.str ⟨#[c]⟩/\y=.str z/\Q (.bl (decide (c∈z.cps.toList))) H
def rNotInU (K:Fg):R2:=λ x y H Q=>rIn K true x y H Q \/ ∃ c z,x=.str ⟨#[c]⟩/\y=.str z/\Q (.bl (!decide (c∈z.cps.toList))) H
theorem op_inU {K:Fg} (hK:X.K=K):OpR X (compareOp .In) (rInU K):=by
 subst hK
 refine op_in_seq.or ?_
 intro pins s σ H x y v u Q I rx ry h
 obtain ⟨c,z,rfl,rfl,q⟩:=h
 exact op_in_str pins s σ H _ _ v u Q I rx ry ⟨_,_,rfl,rfl,by rw [StrLaws.found_one];exact q⟩
theorem op_notInU {K:Fg} (hK:X.K=K):OpR X (compareOp .NotIn) (rNotInU K):=by
 subst hK
 refine op_notIn_seq.or ?_
 intro pins s σ H x y v u Q I rx ry h
 obtain ⟨c,z,rfl,rfl,q⟩:=h
 exact op_notIn_str pins s σ H _ _ v u Q I rx ry ⟨_,_,rfl,rfl,by rw [StrLaws.found_one];exact q⟩
end
abbrev vbm:List Value:=[.type "ValueError",.type "Exception",.type "BaseException",.type "object"]
structure XCls (K:Fg) (x:Str) (C:Addr):Prop where
 at_:PySem.W.nsIn K mainGlobals x=some (some (.ref C))
 ok:PySem.W.excIn K C vbm "ValueError.__new__"=true
section
variable {P:Program} {w:World} {K:Fg} {mg:Str->Option Value} {base:Heap} {N:List Str} {qual:Str} {scope:Scope} {f:Addr} {cd:Value} {A:Around} {outer:List Env} {s:Shared} {H:Hp} {E:XK}
end
structure Come (X:Cx) (H:Hp) (s:Shared) (ea C:Addr) (B:Heap) (a0:Value) (H':Hp) (s':Shared):Prop where
 os:s'.os=s.os
 bare:AllBare s'.gens
 un:Un (frs X.stack) [] H H' s.heap s'.heap
 hok:HOk X.prog X.w H' s'.heap
 b1:∀ b o u,s'.heap.get? b=some o->H' b=some u->B.get? b=some o
 b2:∀ b o,s.heap.get? b=some o->H b=none->b ∉ frs X.stack->B.get? b=some o
 b3:∀ b o,s.heap.get? b=some o->b ∉ frs X.stack->∃ o',B.get? b=some o'
section
variable {X:Cx} {pins:List (Addr×Obj)} {σ:St} {H H':Hp} {s s':Shared} {ea C:Addr} {B:Heap} {a0:Value}
def markX (X:Cx) (ea:Addr):Cx:={ X with A:=X.A.mark (some (.ref ea)),calm:=false,xe:=λ _ _=>False }
end
inductive Hands (X:Cx):List ExceptHandler->List (Value×TS)->Prop
|nil:Hands X [] []
|cons {x:Str} {np pos:Pos} {b₀:Stmt} {suite:List Stmt} {c:Value} {t:TS} {hs:List ExceptHandler} {l:List (Value×TS)}:Gl X x->(X.mg x=some c \/ (X.mg x=none/\bootBuiltins x=some c/\x ≠ "__name__"))->(x == ("__debug__":Str))=false->(∀ ea,PSs (markX X ea) (b₀ :: suite) t)->Hands X hs l ->
   Hands X (.ExceptHandler (some (.Name x np)) none (b₀ :: suite) pos :: hs) ((c,t) :: l)
section
variable {X:Cx} {pins:List (Addr×Obj)} {σ:St} {H H':Hp} {s s':Shared} {ea C:Addr} {B:Heap} {a0:Value}
end
section
variable {X:Cx} {pins:List (Addr×Obj)} {σ:St} {H:Hp} {s:Shared}
end
section
variable {X:Cx} {k:Nat} {f C:Addr} {fd:FuncData} {ps:List Str} {sp:Sp} {x m:Str} {p pos apos:Pos} {e o:Expr} {es:List Expr} {ta:TE} {t:TA} {Eσ:St->XK}
end
section
variable {P:Program} {w:World} {K:Fg} {mg:Str->Option Value} {base:Heap}
end
section
variable {X:Cx}
def repS (x:Str) (n:Nat):Str:=⟨(List.replicate n x.cps).foldl (·++·) #[]⟩
theorem fold_app (c:List (Array Nat)):∀ a:Array Nat,c.foldl (·++·) a=a++(c.map Array.toList).flatten.toArray:=by
 induction c with
|nil=>intro a;simp
|cons y r ih=>intro a;rw [List.foldl_cons,ih,Array.append_assoc];congr 1;apply Array.toList_inj.mp;simp
theorem repS_cps (x:Str) (n:Nat):(repS x n).cps.toList=(List.replicate n x.cps.toList).flatten:=by
 unfold repS
 rw [fold_app]
 simp
def rMulS:R2:=λ x y H Q=>∃ z n,x=.str z/\y=.int n/\0<=n/\z.length * n.toNat<=sizeLine/\n<=sizeLine/\Q (.str (repS z n.toNat)) H
theorem op_mulS:OpR X (binaryOp .Mult) rMulS:=by
 intro pins s σ H x y v u Q I rx ry h
 obtain ⟨z,n,rfl,rfl,h1,h2,h3,q⟩:=h
 obtain ⟨t,rfl⟩:=rx
 obtain ⟨t',rfl⟩:=ry
 have hl:sizeLine=16777216:=sizeLine_eq
 have hz:z.length=z.cps.size:=rfl
 by_cases n0:n=0
 ·subst n0
  refine P.mul_str (by rw [decide_eq_false (by lia),decide_eq_false (by lia)];rfl) (λ a b hc=>?_) (λ a b=>?_) ?_
  ·exact absurd a (by decide)
  ·exact decide_eq_false (by simp)
  ·rw [if_pos (by decide)]
   exact ⟨by decide,.str (repS z 0),H,I.tok _,⟨_,rfl⟩,q⟩
 have h1:0 < n:=by lia
 refine P.mul_str (by rw [decide_eq_false (by lia),decide_eq_false (by lia)];rfl) (λ _ _ hc=>?_) (λ _ _=>?_) ?_
 ·have h4:(2 ^ 63 - 1:Int) / n ≥ z.length:=by
   refine (Int.le_ediv_iff_mul_le h1).mpr ?_
   have h5:((z.length * n.toNat:Nat):Int)=(z.length:Int) * n:=by rw [Int.natCast_mul,Int.toNat_of_nonneg (by lia)]
   have h6:((z.length * n.toNat:Nat):Int)<=(sizeLine:Nat):=by exact_mod_cast h2
   lia
  lia
 ·exact decide_eq_false (by lia)
 ·rw [if_neg (by lia)]
  by_cases hc:(n == 1 || z.length == 0)=true
  ·rw [if_pos hc]
   refine ⟨.str (repS z n.toNat),H,I,⟨t,?_⟩,q⟩
   have:repS z n.toNat=z:=by
    have e:(repS z n.toNat).cps.toList=z.cps.toList:=by
     rw [repS_cps]
     rcases (Bool.or_eq_true _ _).mp hc with hc|hc
     ·have:n=1:=by simpa using hc
      subst this;simp
     ·have:z.cps.toList=[]:=by
       have:z.cps.size=0:=by simpa [hz] using hc
       simpa using this
      rw [this];simp
    cases z with|mk c =>
     show repS ⟨c⟩ n.toNat=⟨c⟩
     have e2:(repS ⟨c⟩ n.toNat).cps=c:=Array.toList_inj.mp e
     cases hq:repS ⟨c⟩ n.toNat with|mk d=>rw [hq] at e2;cases e2;rfl
   rw [this]
  ·rw [if_neg hc]
   exact ⟨fits_reps (decide_eq_false (by lia)),.str (repS z n.toNat),H,I.tok _,⟨_,rfl⟩,q⟩
end
section
variable {X:Cx}
end
section
variable {prog:Program} {w:World} {A:Around} {E:Value->Shared->Prop} {s:Shared}
end
theorem fp_turn {X:Cx} {pins:List (Addr×Obj)} {σ:St} {H:Hp} {s:Shared} {b:Addr} {h':Heap} {tk:Nat} (I:Inv X pins σ H s) (f:FpOk X pins H b) (k:Heap.SameBut b s.heap h'):Inv X pins σ H { s with heap:=h',toks:=tk } :=
 let ⟨f0,f1,_,f3,f4,f5⟩:=f
 I.turned (λ c o hc e=>(k.2 c hc).trans e) f0 f1 f3 f4 f5
theorem fp_ext {X:Cx} {pins:List (Addr×Obj)} {σ:St} {H:Hp} {s:Shared} {b:Addr} {h':Heap} {tk:Nat} (I:Inv X pins σ H s) (f:FpOk X pins H b) (k:Heap.ExtBut b s.heap h'):Inv X pins σ H { s with heap:=h',toks:=tk } :=
 let ⟨f0,f1,_,f3,f4,f5⟩:=f
 I.turned (λ c o hc e=>k c o hc e) f0 f1 f3 f4 f5
section
variable {X:Cx} {pins:List (Addr×Obj)} {σ:St} {H:Hp} {s:Shared} {J1 J2:It} {z TI TO i1 i2:Addr} {st1 st2:Nat->Heap->Prop} {i:Nat}
end
section
variable {X:Cx} {elts:List Expr}
end
def entM (w:World) (e:Str×Tok×Value):DictEntry:=⟨PyData.keyHash w.params e.1,.str e.1 e.2.1,e.2.2⟩
structure KD (w:World) (K:Fg) (d:Addr) (kvs:List (Str×V)):Prop where
 ne:(d == sysModules)=false
 ex:∃ (l:List (Str×Tok×Value)) (n:Nat),K.lookup d=some { cls:=.type "dict",data:=.dict (l.map (entM w)).toArray n }/\Paired (λ (p:Str×V) (q:Str×Tok×Value)=>p.1=q.1/\RelV p.2 q.2.2) kvs l
theorem find_M {w:World} {k:Str}:∀ {kvs:List (Str×V)} {l:List (Str×Tok×Value)},Paired (λ (p:Str×V) (q:Str×Tok×Value)=>p.1=q.1/\RelV p.2 q.2.2) kvs l ->
  RelO (kvs.lookup k) (((l.map (entM w)).find? λ e=>Value.isStrOf k e.key).map (·.val))
|_,_,.nil=>trivial
|_,_,.cons (a:=p) (b:=q) h r=>by
  obtain ⟨x,v⟩:=p
  obtain ⟨y,t,u⟩:=q
  obtain ⟨e,rv⟩:=h
  cases e
  have ih:=find_M (w:=w) (k:=k) r
  show RelO (List.lookup k ((x,v) :: _)) (((entM w (x,t,u) :: _).find? λ e=>Value.isStrOf k e.key).map (·.val))
  rw [List.lookup_cons,List.find?_cons]
  by_cases hk:k=x
  ·subst hk
   have h1:(k == k)=true:=beq_self_eq_true k
   have h2:Value.isStrOf k (entM w (k,t,u)).key=true:=by simp [entM,Value.isStrOf]
   rw [h1,h2]
   exact rv
  ·have h1:(k == x)=false:=beq_eq_false_iff_ne.mpr hk
   have h2:Value.isStrOf k (entM w (x,t,u)).key=false:=by
    show (x == k)=false
    exact beq_eq_false_iff_ne.mpr λ e=>hk e.symm
   rw [h1,h2]
   exact ih
section
variable {X:Cx} {pins:List (Addr×Obj)} {σ:St} {H:Hp} {s:Shared} {d:Addr} {kvs:List (Str×V)}
theorem KD.map (D:KD X.w X.K d kvs) (I:Inv X pins σ H s):∃ f:Str->Option Value,s.heap.MapOf (PySem.strKind X.prog X.w) d f/\∀ k,RelO (kvs.lookup k) (f k):=by
 obtain ⟨l,n,e,r⟩:=D.ex
 refine ⟨λ k=>((l.map (entM X.w)).find? λ e=>Value.isStrOf k e.key).map (·.val),⟨_,(l.map (entM X.w)).toArray,n,I.kIn d _ e,⟨rfl,rfl,rfl⟩,rfl,λ e he=>?_,λ k=>?_⟩,λ k=>find_M r⟩
 ·obtain ⟨q,_,rfl⟩:=List.mem_map.mp (by simpa using he:e∈l.map (entM X.w))
  exact ⟨q.1,by simp [entM,PySem.strKind,Value.isStrOf],rfl⟩
 ·show findBy (PySem.strKind X.prog X.w).is _ k=_
  unfold findBy
  rw [List.find?_toArray]
  rfl
def rInM (w:World) (K:Fg):R2:=λ x y H Q=>∃ d kvs z,x=.str z/\y=.ref d/\KD w K d kvs/\Q (.bl (kvs.lookup z).isSome) H
def rNotInM (w:World) (K:Fg):R2:=λ x y H Q=>∃ d kvs z,x=.str z/\y=.ref d/\KD w K d kvs/\Q (.bl (!(kvs.lookup z).isSome)) H
def rIxM (w:World) (K:Fg):R2:=λ x y H Q=>∃ d kvs z v,x=.ref d/\y=.str z/\KD w K d kvs/\kvs.lookup z=some v/\Q v H
theorem relO_isSome {a:Option V} {b:Option Value} (r:RelO a b):b.isSome=a.isSome:=by
 cases a <;> cases b <;> first|rfl|exact False.elim r
theorem op_inM {w:World} {K:Fg} (hw:X.w=w) (hK:X.K=K):OpR X (compareOp .In) (rInM w K):=by
 subst hw hK
 intro pins s σ H x y v u Q I rx ry h
 obtain ⟨d,kvs,z,rfl,rfl,D,q⟩:=h
 obtain ⟨t,rfl⟩:=rx
 cases ry
 obtain ⟨f,m,r⟩:=D.map I
 refine wpAny_in_of (k:=z) (PySem.strKind_is X.prog X.w z t) D.ne m ?_
 rw [relO_isSome (r z)]
 exact ⟨.bl _,H,I.tok _,rfl,q⟩
theorem op_notInM {w:World} {K:Fg} (hw:X.w=w) (hK:X.K=K):OpR X (compareOp .NotIn) (rNotInM w K):=by
 subst hw hK
 intro pins s σ H x y v u Q I rx ry h
 obtain ⟨d,kvs,z,rfl,rfl,D,q⟩:=h
 obtain ⟨t,rfl⟩:=rx
 cases ry
 obtain ⟨f,m,r⟩:=D.map I
 refine wpAny_notIn_of (k:=z) (PySem.strKind_is X.prog X.w z t) D.ne m ?_
 rw [relO_isSome (r z)]
 exact ⟨.bl _,H,I.tok _,rfl,q⟩
theorem ix_M {w:World} {K:Fg} (hw:X.w=w) (hK:X.K=K):IxR X (rIxM w K):=by
 subst hw hK
 intro value slice pins s σ H x y v u Q I rx ry h hs
 obtain ⟨d,kvs,z,r0,rfl,rfl,D,e,q⟩:=h
 cases rx
 obtain ⟨t,rfl⟩:=ry
 obtain ⟨f,m,r⟩:=D.map I
 have rz:=r z
 rw [e] at rz
 obtain ⟨u,eu,ru⟩:=rz.some_of
 exact tail_any m.typeIs PySem.F.slot_dict_getitem.lookup (wpAny_getItem_of (k:=z) (PySem.strKind_is X.prog X.w z t) m eu ⟨r0,H,I.tok _,ru,q⟩) hs
end
section
variable {K:Fg} {H:Hp} {a:Addr} {xs:List V}
def SameX (D:Addr) (H H':Hp):Prop:=∀ b o,b≠D->H b=some o->H' b=some o
variable {Q:VK} {σ caps:St} {n:Nat} {ix:List Nat} {g:TG} {te:TE} {m:Nat} {J:It} {Y:Nat->V->Hp->Prop}
end
def rMulW:R2:=λ x y H Q=>rMulU x y H Q \/ rMulS x y H Q
def rInW (w:World) (K:Fg):R2:=λ x y H Q=>rInU K x y H Q \/ rInM w K x y H Q
def rNotInW (w:World) (K:Fg):R2:=λ x y H Q=>rNotInU K x y H Q \/ rNotInM w K x y H Q
def rIxW (w:World) (K:Fg):R2:=λ x y H Q=>rIx K x y H Q \/ rIxM w K x y H Q
def kIterW (K:Fg) (x:V) (H:Hp) (R:It->Hp->Prop):Prop:=kIter K x H R \/ ∃ z:Str,x=.str z/\z.cps.all (· < 128)=true/\R (Its z) H
def iW (K:Fg) (tl:TE):TI:=λ σ H R=>tl σ H λ x H1=>kIterW K x H1 R
section
variable {X:Cx} {w:World} {K:Fg} {tg:Expr}
theorem op_mulW:OpR X (binaryOp .Mult) rMulW:=op_mulU.or op_mulS
theorem op_inW (hw:X.w=w) (hK:X.K=K):OpR X (compareOp .In) (rInW w K):=(op_inU hK).or (op_inM hw hK)
theorem op_notInW (hw:X.w=w) (hK:X.K=K):OpR X (compareOp .NotIn) (rNotInW w K):=(op_notInU hK).or (op_notInM hw hK)
theorem ix_W (hw:X.w=w) (hK:X.K=K):IxR X (rIxW w K):=(ix_U hK).or (ix_M hw hK)
theorem pi_W (h:X.K=K) {l:Expr} {tl:TE} (hl:PE X l tl):PI X tg l (iW K tl):=by
 subst h
 intro pins s σ H R I h
 refine thn (hl pins s σ H _ I h) λ v s1 ⟨x,H1,I1,r1,q1⟩=>?_
 rcases q1 with (⟨a,e,⟨xs,hq⟩,q⟩|⟨a,e,⟨xs,hq⟩,q⟩)|⟨z,rfl,ha,q⟩
 ·subst e
  cases r1
  obtain ⟨its,rv,p,hz⟩:=I1.list hq
  refine wpAny_pyIter_list p.isList ?_
  refine ⟨s1.heap.objs.size,[s1.heap.objs.size],_,_,H1,rfl,I1.kept (t':=s1.toks) λ b o e=>Heap.get?_push_of_some _ e,turn_list a _,⟨_,Heap.get?_push_size _ rfl,rfl,rfl⟩,λ b hb=>?_,q⟩
  have e:b=s1.heap.objs.size:=by simpa using hb
  subst e
  exact I1.fpOk (Nat.le_refl _) (I1.hok.fresh (Nat.le_refl _))
 ·subst e
  cases r1
  obtain ⟨its,rv,p,hz⟩:=I1.tuple hq
  refine wpAny_pyIter_tuple (show s1.heap.IsTuple a its.toArray from p) ?_
  refine ⟨s1.heap.objs.size,[s1.heap.objs.size],_,_,H1,rfl,I1.kept (t':=s1.toks) λ b o e=>Heap.get?_push_of_some _ e,turn_tuple a _,⟨_,Heap.get?_push_size _ rfl,rfl,rfl⟩,λ b hb=>?_,q⟩
  have e:b=s1.heap.objs.size:=by simpa using hb
  subst e
  exact I1.fpOk (Nat.le_refl _) (I1.hok.fresh (Nat.le_refl _))
 ·obtain ⟨t,rfl⟩:=r1
  refine wpAny_pyIter_ascii ha ?_
  refine ⟨s1.heap.objs.size,[s1.heap.objs.size],_,_,H1,rfl,I1.kept (t':=s1.toks) λ b o e=>Heap.get?_push_of_some _ e,turn_str z t _,⟨_,Heap.get?_push_size _ rfl,rfl,rfl⟩,λ b hb=>?_,q⟩
  have e:b=s1.heap.objs.size:=by simpa using hb
  subst e
  exact I1.fpOk (Nat.le_refl _) (I1.hok.fresh (Nat.le_refl _))
def rList (K:Fg):List V->Hp->VK->Prop:=λ xs H Q=>∃ p ys,xs=[.ref p]/\(SqL K H p ys \/ SqT K H p ys)/\∀ l,H l=none->Q (.ref l) (upd H l (.lst ys))
theorem call_listU (h:X.K=K):CallR X (.type "list") (rList K):=h ▸ call_list_of
end
section
variable {K:Fg} {w:World} {H:Hp} {Q:VK} {a b:Addr} {xs ys:List V} {i:Int} {v:V} {z:Str} {kvs:List (Str×V)} {d:Addr}
end
section
variable {K:Fg} {w:World} {H:Hp} {Q:VK} {a:Addr} {xs:List V} {i:Int} {v:V} {z:Str} {σ:St} {r r':R2} {ta tb tc:TE} {tA:TA} {D:Ends}
end
section
variable {K:Fg} {H:Hp} {a:Addr} {xs:List V} {σ:St} {ta:TA} {Q:VK}
end
theorem pg_tupU {X:Cx} {pos:Pos} {K:Fg} {n:Nat} (hK:X.K=K) {es:List Expr} {k:Nat} {t:TGs} (hc:X.calm=true) (h:PGs X es t)
  (hn:(assignEach es X.env).length=n:=by rfl) (hst:(assignEach es X.env).findIdx? (·.1)=none:=by rfl):PG X (.Tuple es k pos) (gTup K n t):=by
 subst hK
 exact pg_tup hc h hn hst
def kBM (K:Fg) (T:String) (r:V->List V->Hp->VK->Prop) (t:TA) (σ:St) (x:V) (H:Hp) (Q:VK):Prop:=tyV K T x H/\t σ H λ xs H2=>r x xs H2 Q
def tBMU (K:Fg) (T:String) (r:V->List V->Hp->VK->Prop) (to:TE) (t:TA):TE:=λ σ H Q=>to σ H λ x H1=>kBM K T r t σ x H1 Q
theorem pe_bmU {X:Cx} {K:Fg} (hK:X.K=K) {o e:Expr} {es:List Expr} {to:TE} {t:TA} {name:Str} {apos cpos:Pos} {T id:String} {r:V->List V->Hp->VK->Prop} (pa:PlainAttrs T) (slot:Slot T name id) (hty:typeOf (.builtin id)=pure (.type "method_descriptor")) (hm:MtR X id r) (ho:PE X o to) (ha:PA X (e :: es) t)
  (hbase:attributeBase o name X.env (eval o X.env)=eval o X.env:=by rfl)
  (hfew:((backTo cpos (starEach (e :: es) X.env)).all (λ x=>!x.1) && (backToKw cpos (keywordEach [] X.env)).all (λ x=>x.1.isSome)
   && decide ((e :: es).length+([]:List Keyword).length+(if ([]:List Keyword).isEmpty then 0 else 1) < 30))=true:=by rfl)
  (hline:(apos.endLine == cpos.line)=true:=by rfl) (hs:starEach (e :: es) X.env=(false,eval e X.env) :: starEach es X.env:=by rfl) (hplain:(backTo cpos (starEach es X.env)).any (·.1)=false:=by rfl) :
  PE X (.Call (.Attribute o name apos) (e :: es) [] cpos) (tBMU K T r to t):=by
 subst hK
 exact pe_bm pa slot hty hm ho ha hbase hfew hline hs hplain
section
variable {K:Fg} {T:String} {r:V->List V->Hp->VK->Prop} {to:TE} {t:TA} {σ:St} {H:Hp} {Q:VK} {a:Addr} {xs:List V} {z:Str}
end
section
variable {t:TJ} {te:TE} {σ:L2.St} {H:Hp} {acc y z:Str} {i:Int}
end
def CDivW (_ j:Int):Prop:=0 < j/\j < 2 ^ 200
theorem log2_200 {j:Int} (h0:0 < j) (h1:j < 2 ^ 200):j.natAbs.log2 < 9000:=by
 have h:j.natAbs.log2 < 200:=(Nat.log2_lt (by lia)).mpr (by lia)
 lia
theorem op_fdivW {X:Cx}:OpR X (binaryOp .FloorDiv) (rI CDivW λ i j=>.int (i / j)):=opI λ i j _ _ _ _ _ hc q=>by
 have h1:(0:Int) < j:=hc.1
 exact floordiv_int (by lia) (by rw [Int.fdiv_eq_ediv_of_nonneg i (by lia)];exact q) (.inl (PyProof.noPylong_of_log2 (log2_200 hc.1 hc.2)))
def rSum (K:Fg):List V->Hp->VK->Prop:=λ vs H Q=>∃ (a:Addr) (ns:List Int),vs=[.ref a]/\SqL K H a (ns.map V.int)/\Q (.int ns.sum) H
theorem call_sumU {X:Cx} {K:Fg} (h:X.K=K) (hc:X.calm=true):CallR X (.builtin "sum") (rSum K):=by
 subst h
 intro pins s σ H xs us Q I r h
 obtain ⟨a,ns,rfl,hx,q⟩:=h
 obtain ⟨u,rfl,r1⟩:=vals1 r
 cases r1
 obtain ⟨its,rv,p,hz⟩:=I.list hx
 have hi:IntsAre its ns:=intsAre_of rv
 obtain ⟨ys,hy⟩:=hi.allInts.items
 have hl:s.heap.IsList a (intItems ys):=hy ▸ p.isList
 refine sum_intListG (I.ok.hd hc) hl λ h' tk t' hk=>?_
 have e1:ns=ys.toList.map (·.1):=by
  rw [<- nums_intItems,<- hy]
  exact (show numsOf its.toArray.toList=ns from hi.numsOf).symm
 have e2:preSum (numAt ys) ys.size=ns.sum:=by
  rw [preSum_eq,List.take_of_length_le (by simp),e1]
 rw [e2]
 exact ⟨.int ns.sum,H,I.kept hk,⟨_,rfl⟩,q⟩
section
variable {K:Fg} {H:Hp} {Q:VK} {a:Addr} {xs:List V} {i j:Int} {σ:St}
end
theorem bt_sum:bootBuiltins "sum"=some (.builtin "sum"):=by decide +kernel
theorem bt_sorted:bootBuiltins "sorted"=some (.builtin "sorted"):=by decide +kernel
section
variable {K:Fg} {H H':Hp} {D a:Addr} {xs:List V}
theorem SameX.trans {H1 H2 H3:Hp} (s:SameX D H1 H2) (s':SameX D H2 H3):SameX D H1 H3:=λ b o hb e=>s' b o hb (s b o hb e)
theorem IsAll.length:∀ {xs:List V} {ds:List PyData},IsAll K H xs ds->xs.length=ds.length
|_,_,.nil=>rfl
|_,_,.cons _ r=>by simp [IsAll.length r]
end
def Fit (n:Nat) (d:PyData):Prop:=d.canLay0=true/\d.depth<=n
theorem canLayAll_of:∀ {ds:List PyData},(∀ d∈ds,d.canLay0=true)->PyData.canLayAll0 ds=true
|[],_=>rfl
|d :: ds,h=>by
  show (d.canLay0 && PyData.canLayAll0 ds)=true
  rw [h d (by simp),canLayAll_of λ e he=>h e (List.mem_cons_of_mem _ he)];rfl
theorem depthAll_of {n:Nat}:∀ {ds:List PyData},(∀ d∈ds,d.depth<=n)->PyData.depthAll ds<=n
|[],_=>Nat.zero_le _
|d :: ds,h=>by
  show max d.depth (PyData.depthAll ds)<=n
  have:=h d (by simp)
  have:=depthAll_of λ e he=>h e (List.mem_cons_of_mem d he)
  lia
theorem Fit.tup {n:Nat} {ds:List PyData} (h:∀ d∈ds,Fit n d):Fit (n+1) (.tuple ds):=⟨by show PyData.canLayAll0 ds=true;exact canLayAll_of λ d hd=>(h d hd).1,by show PyData.depthAll ds+1<=n+1;have:=depthAll_of λ d hd=>(h d hd).2;lia⟩
theorem Fit.lst {n:Nat} {ds:List PyData} (h:∀ d∈ds,Fit n d):Fit (n+1) (.list ds):=⟨by show PyData.canLayAll0 ds=true;exact canLayAll_of λ d hd=>(h d hd).1,by show PyData.depthAll ds+1<=n+1;have:=depthAll_of λ d hd=>(h d hd).2;lia⟩
theorem Fit.int {n:Nat} (i:Int):Fit n (.int i):=⟨rfl,Nat.zero_le _⟩
theorem Fit.str {n:Nat} {x:Str} (h:x.cps.all (· < 0x110000)=true):Fit n (.str x):=⟨h,Nat.zero_le _⟩
theorem Fit.shaped {n:Nat} {d:PyData} (h:Fit n d) (hn:n<=64):SeqAt.shaped d=true:=by
 unfold SeqAt.shaped
 rw [h.1,decide_eq_true (Nat.le_trans h.2 hn)];rfl
theorem Fit.eqv {n:Nat} {d:PyData} (h:Fit n d):PyData.eqv d d=true:=SeqAt.eqv_refl d h.1
def spLaw (K:Fg):Sp:=λ vs H Q _=>∃ (a:Addr) (ns:List Int),vs=[.ref a]/\SqL K H a (ns.map V.int)/\ns.length<=63/\∀ H',Q (.bl true) H'
theorem law_walk {k:Nat} {l:PySem.W.OpenLaw} {q:Program} {loose:List Str} {XP:(Str->Option Value)->Heap->Prop} {YP:World->Heap->Prop} {d:DefRec} {K:Params->Fg} (hk:Room k callerA) (hn:l.most=some 63) (hdf:d.params.defaults=[])
  (hY:∀ (w:World) (h:Heap),YP w h->(K w.params).In h)
  (F:∀ (w:World) (mg:Str->Option Value) (fa:Addr) (h:Heap),(K w.params).In h->h.Ns mainGlobals mg->mg d.name=some (.ref fa) ->
   ∃ fd:FuncData,(∀ (s:Shared) (u:Value),BindsTo s fd ⟨[u],[]⟩ [("script",u)])/\∀ base:Heap,(K w.params).In base->base.Ns mainGlobals mg->FnOk l.prog w (K w.params) mg base CX0 k fa fd ["script"] (spLaw (K w.params))) :
  PySem.W.WalkO q loose XP YP l.row.toRowW d [] (λ f vs=>PySem.call f vs) :=
 L2.walk_of (n:=63) (k:=k) (x := "script") (CX:=λ _=>CX0) (sp:=λ w=>spLaw (K w.params)) hn (by decide) hdf hk hY F (λ _ _ a ns hl _ hS=>⟨a,ns,rfl,hS,hl,λ _=>rfl⟩) λ _ _ _ _ _ z=>z
section
variable {K:Fg} {H:Hp} {Q:VK} {σ:St} {i j:Int}
end
end L3
namespace L2
open PySem PySem.Spec PyProof.Rows
section
variable {κ:Type} [DecidableEq κ]
def valV (kvs:List (κ×V)) (k:κ):Option V:=(kvs.find? λ kv=>decide (kv.1=k)).map (·.2)
def putK (kvs:List (κ×V)) (k:κ) (v:V):List (κ×V) :=
 if (kvs.any λ kv=>decide (kv.1=k))=true then kvs.map (λ kv=>if kv.1=k then (kv.1,v) else kv) else kvs++[(k,v)]
theorem valV_pos {p:κ×V} {r:List (κ×V)} {k:κ} (e:p.1=k):valV (p :: r) k=some p.2:=by simp [valV,List.find?_cons,e]
theorem valV_neg {p:κ×V} {r:List (κ×V)} {k:κ} (e:¬ p.1=k):valV (p :: r) k=valV r k:=by simp [valV,List.find?_cons,e]
theorem valV_any (k:κ):∀ kvs:List (κ×V),(kvs.any λ kv=>decide (kv.1=k))=(valV kvs k).isSome
|[]=>rfl
|p :: r=>by
  rw [List.any_cons]
  by_cases e:p.1=k
  ·simp only [valV_pos e,decide_eq_true e,Bool.true_or,Option.isSome_some]
  ·rw [valV_neg e,decide_eq_false e,Bool.false_or];exact valV_any k r
theorem length_putK (kvs:List (κ×V)) (k:κ) (v:V):(putK kvs k v).length<=kvs.length+1:=by
 unfold putK
 split
 ·rw [List.length_map];lia
 ·rw [List.length_append,List.length_cons,List.length_nil];lia
theorem RelO.isSome_eq {o:Option V} {u:Option Value} (r:RelO o u):o.isSome=u.isSome:=by
 cases o with
|none=>cases u with
 |none=>rfl
 |some _=>exact (show False from r).elim
|some _=>cases u with
 |none=>exact (show False from r).elim
 |some _=>rfl
theorem RelO.getD {o:Option V} {u:Option Value} {d:V} {d':Value} (r:RelO o u) (rd:RelV d d'):RelV (o.getD d) (u.getD d'):=by
 cases o with
|none=>cases u with
 |none=>exact rd
 |some _=>exact (show False from r).elim
|some _=>cases u with
 |none=>exact (show False from r).elim
 |some _=>exact r
theorem KV.val {kvs:List (κ×V)} {vs:List (κ×Value)} (r:KV kvs vs) (k:κ):RelO (valV kvs k) (valueAt vs k):=by
 unfold KV at r
 induction r with
|nil=>exact True.intro
|@cons p q ps qs h t ih =>
  obtain ⟨h1,h2⟩:=h
  by_cases e:p.1=k
  ·have e':q.1=k:=h1.symm.trans e
   have b:valueAt (q :: qs) k=some q.2:=by simp [valueAt,List.find?_cons,e']
   rw [valV_pos e,b];exact h2
  ·have e':¬ q.1=k:=λ z=>e (h1.trans z)
   have b:valueAt (q :: qs) k=valueAt qs k:=by simp [valueAt,List.find?_cons,e']
   rw [valV_neg e,b];exact ih
theorem KV.any {kvs:List (κ×V)} {vs:List (κ×Value)} (r:KV kvs vs) (k:κ):(kvs.any λ kv=>decide (kv.1=k))=vs.any λ kv=>decide (kv.1=k):=by
 unfold KV at r
 induction r with
|nil=>rfl
|cons h t ih=>rw [List.any_cons,List.any_cons,ih,h.1]
theorem KV.repl {kvs:List (κ×V)} {vs:List (κ×Value)} (r:KV kvs vs) (k:κ) {y:V} {u:Value} (ry:RelV y u) :
  KV (kvs.map λ kv=>if kv.1=k then (kv.1,y) else kv) (vs.map λ kv=>if kv.1=k then (kv.1,u) else kv):=by
 unfold KV at r ⊢
 induction r with
|nil=>exact .nil
|@cons p q ps qs h t ih =>
  rw [List.map_cons,List.map_cons]
  refine .cons ?_ ih
  obtain ⟨h1,h2⟩:=h
  by_cases e:p.1=k
  ·rw [if_pos e,if_pos (h1.symm.trans e)];exact ⟨h1,ry⟩
  ·rw [if_neg e,if_neg (λ z=>e (h1.trans z))];exact ⟨h1,h2⟩
theorem KV.put {kvs:List (κ×V)} {vs:List (κ×Value)} (r:KV kvs vs) (k:κ) {y:V} {u:Value} (ry:RelV y u):KV (putK kvs k y) (stored vs k u):=by
 unfold putK stored
 rw [r.any k]
 by_cases e:(vs.any λ kv=>decide (kv.1=k))=true
 ·rw [if_pos e,if_pos e];exact r.repl k ry
 ·rw [if_neg e,if_neg e];exact Paired.snoc r ⟨rfl,ry⟩
theorem KV.length {kvs:List (κ×V)} {vs:List (κ×Value)} (r:KV kvs vs):kvs.length=vs.length:=Paired.length r
end
theorem kV_is {P:Program} {w:World} {k:Key} {u:Value} (r:RelV (kV k) u):(mixKind P w).is k u=true:=by
 cases k with
|inl i=>obtain ⟨t,e⟩:=(show ∃ t,u=Value.int i t from r);subst e;exact mixKind_int P w i t
|inr x=>obtain ⟨t,e⟩:=(show ∃ t,u=Value.str x t from r);subst e;exact mixKind_str P w x t
theorem items_are {P:Program} {w:World}:∀ {ks:List Key} {us:List Value},Vals (ks.map kV) us->ItemsAre (mixKind P w) ks us
|[],_,r=>by rw [List.map_nil] at r;cases r;exact .nil
|k :: ks,_,r=>by
  rw [List.map_cons] at r
  cases r with
 |cons h t=>exact .cons (kV_is h) (items_are t)
abbrev KT (H:Hp):List (List Key×V)->List (List Key×Addr×Value)->Prop:=Paired λ p q=>p.1=q.1/\H q.2.1=some (.tup (p.1.map kV))/\RelV p.2 q.2.2
theorem KT.val {H:Hp} {kvs:List (List Key×V)} {xs:List (List Key×Addr×Value)} (r:KT H kvs xs) (k:List Key):RelO (valV kvs k) ((atKey xs k).map (·.2)):=by
 induction r with
|nil=>exact True.intro
|@cons p q ps qs h t ih =>
  obtain ⟨h1,_,h2⟩:=h
  by_cases e:p.1=k
  ·have e':q.1=k:=h1.symm.trans e
   have b:atKey (q :: qs) k=some q.2:=by simp [atKey,List.find?_cons,e']
   rw [valV_pos e,b];exact h2
  ·have e':¬ q.1=k:=λ z=>e (h1.trans z)
   have b:atKey (q :: qs) k=atKey qs k:=by simp [atKey,List.find?_cons,e']
   rw [valV_neg e,b];exact ih
theorem KT.repl {H:Hp} {kvs:List (List Key×V)} {xs:List (List Key×Addr×Value)} (r:KT H kvs xs) (k:List Key) {y:V} {u:Value} (ry:RelV y u) :
  KT H (kvs.map λ kv=>if kv.1=k then (kv.1,y) else kv) (xs.map (putAt k u)):=by
 induction r with
|nil=>exact .nil
|@cons p q ps qs h t ih =>
  rw [List.map_cons,List.map_cons]
  refine .cons ?_ ih
  obtain ⟨h1,h2,h3⟩:=h
  unfold putAt
  by_cases e:p.1=k
  ·rw [if_pos e,if_pos (h1.symm.trans e)];exact ⟨h1,h2,ry⟩
  ·rw [if_neg e,if_neg (λ z=>e (h1.trans z))];exact ⟨h1,h2,h3⟩
theorem KT.put {H:Hp} {kvs:List (List Key×V)} {xs:List (List Key×Addr×Value)} (r:KT H kvs xs) (k:List Key) {b:Addr} {y:V} {u:Value} (hb:H b=some (.tup (k.map kV))) (ry:RelV y u) :
  KT H (putK kvs k y) (storedH xs k b u):=by
 have e:(kvs.any λ kv=>decide (kv.1=k))=(atKey xs k).isSome:=by
  rw [valV_any,(r.val k).isSome_eq,Option.isSome_map]
 unfold putK storedH
 rw [e]
 by_cases q:(atKey xs k).isSome=true
 ·rw [if_pos q,if_pos q];exact r.repl k ry
 ·rw [if_neg q,if_neg q];exact Paired.snoc r ⟨rfl,hb,ry⟩
theorem KT.keeps {H H':Hp} {kvs:List (List Key×V)} {xs:List (List Key×Addr×Value)} (r:KT H kvs xs) (ht:∀ b ys,H b=some (.tup ys)->H' b=some (.tup ys)):KT H' kvs xs :=
 Paired.mapP r λ _ _ z=>⟨z.1,ht _ _ z.2.1,z.2.2⟩
section
variable {P:Program} {w:World} {H:Hp} {h:Heap} {a:Addr}
theorem rd_of {u:HO} (ok:HOk P w H h) (e:Rd H a u):ObjOk P w H h a u:=e.ok ok
theorem dk_rd {kvs:List (Key×V)} (ok:HOk P w H h) (e:Rd H a (.dK kvs)):kvs.length<=sizeLine/\(a == sysModules)=false/\∃ vs,KV kvs vs/\h.DictOf (mixKind P w) a vs :=
 show ObjOk P w H h a (.dK kvs) from rd_of ok e
theorem dk_of {kvs:List (Key×V)} (ok:HOk P w H h) (e:H a=some (.dK kvs)):kvs.length<=sizeLine/\(a == sysModules)=false/\∃ vs,KV kvs vs/\h.DictOf (mixKind P w) a vs:=dk_rd ok (.inl e)
theorem key_of {ks:List Key} (ok:HOk P w H h) (e:H a=some (.tup (ks.map kV))):(tupleKind (mixKind P w)).is h ks a:=by
 obtain ⟨_,its,r,o,h1,h2,n,h3⟩:=(show ObjOk P w H h a (.tup (ks.map kV)) from ok a _ e)
 exact ⟨o,its.toArray,n,h1,h2,h3,by simpa using items_are r⟩
theorem dt_rd {kvs:List (List Key×V)} (ok:HOk P w H h) (e:Rd H a (.dT kvs)):kvs.length<=sizeLine/\(a == sysModules)=false /\
  ∃ xs,KT H kvs xs/\h.DictOfH (tupleKind (mixKind P w)) a xs:=by
 obtain ⟨z,y,xs,r,o,es,ep,h1,h2,h3,h4,h5⟩:=(show ObjOk P w H h a (.dT kvs) from rd_of ok e)
 refine ⟨z,y,xs,r,o,es,ep,h1,h2,h3,h4,λ x hx=>?_,h5⟩
 have all:∀ {l:List (List Key×V)} {m:List (List Key×Addr×Value)},KT H l m->∀ x∈m,(tupleKind (mixKind P w)).is h x.1 x.2.1:=by
  intro l m q
  induction q with
 |nil=>intro x hx;exact nomatch hx
 |@cons p q ps qs hq t ih =>
   intro x hx
   rcases List.mem_cons.mp hx with e|hx
   ·subst e
    exact key_of ok (by rw [<- hq.1];exact hq.2.1)
   ·exact ih x hx
 exact all r x hx
theorem dt_of {kvs:List (List Key×V)} (ok:HOk P w H h) (e:H a=some (.dT kvs)):kvs.length<=sizeLine/\(a == sysModules)=false /\
  ∃ xs,KT H kvs xs/\h.DictOfH (tupleKind (mixKind P w)) a xs:=dt_rd ok (.inl e)
end
def DGet (H:Hp) (a:Addr) (y:V) (r:Option V):Prop :=
 (∃ kvs k,Rd H a (.dK kvs)/\y=kV k/\r=valV kvs k) \/ ∃ kvs k b,Rd H a (.dT kvs)/\y=.ref b/\H b=some (.tup (k.map kV))/\r=valV kvs k
def DPut (H:Hp) (a:Addr) (y v:V) (H':Hp):Prop :=
 (∃ kvs k,H a=some (.dK kvs)/\y=kV k/\kvs.length < sizeLine/\H'=upd H a (.dK (putK kvs k v))) \/
 ∃ kvs k b,H a=some (.dT kvs)/\y=.ref b/\H b=some (.tup (k.map kV))/\kvs.length < sizeLine/\H'=upd H a (.dT (putK kvs k v))
theorem DGet.k {H:Hp} {a:Addr} {kvs:List (Key×V)} {k:Key} (e:H a=some (.dK kvs)):DGet H a (kV k) (valV kvs k):=.inl ⟨kvs,k,.inl e,rfl,rfl⟩
theorem DGet.t {H:Hp} {a b:Addr} {kvs:List (List Key×V)} {k:List Key} (e:H a=some (.dT kvs)) (eb:H b=some (.tup (k.map kV))):DGet H a (.ref b) (valV kvs k):=.inr ⟨kvs,k,b,.inl e,rfl,eb,rfl⟩
theorem DPut.k {H:Hp} {a:Addr} {kvs:List (Key×V)} {k:Key} {v:V} (e:H a=some (.dK kvs)) (hl:kvs.length < sizeLine):DPut H a (kV k) v (upd H a (.dK (putK kvs k v))):=.inl ⟨kvs,k,e,rfl,hl,rfl⟩
theorem DPut.t {H:Hp} {a b:Addr} {kvs:List (List Key×V)} {k:List Key} {v:V} (e:H a=some (.dT kvs)) (eb:H b=some (.tup (k.map kV))) (hl:kvs.length < sizeLine) :
  DPut H a (.ref b) v (upd H a (.dT (putK kvs k v))):=.inr ⟨kvs,k,b,e,rfl,eb,hl,rfl⟩
section
variable {X:Cx} {pins:List (Addr×Obj)} {σ:St} {H:Hp} {s:Shared} {a:Addr} {y v:V} {u r:Value} {o:Option V} {A:Around} {E:Value->Shared->Prop}
theorem Inv.big (I:Inv X pins σ H s):sysModules < s.heap.objs.size:=by
 have h:mainGlobals < s.heap.objs.size:=(I.mod.glob.keeps I.bk).lt
 exact Nat.lt_trans (by decide) h
theorem d_getItem {Q:Value->Shared->Prop} (hu:A.units+1 < cLine) (I:Inv X pins σ H s) (g:DGet H a y (some v)) (ry:RelV y u) (h:∀ w' s',Inv X pins σ H s'->RelV v w'->Q w' s') :
  wpAny (model X.prog X.w) A (getItem (.ref a) u) Q E s:=by
 rcases g with ⟨kvs,k,e,ey,l⟩|⟨kvs,k,b,e,ey,eb,l⟩
 ·subst ey
  obtain ⟨z,hd,vs,rel,dd⟩:=dk_rd I.hok e
  obtain ⟨w',hw,rw'⟩:=RelO.some_of (v:=v) (o:=valueAt vs k) (by rw [l];exact rel.val k)
  exact wpAny_getItem_of (kV_is ry) dd.mapOf hw (h w' _ (I.tok _) rw')
 ·subst ey
  cases (show u=Value.ref b from ry)
  obtain ⟨z,hd,xs,rel,dd⟩:=dt_rd I.hok e
  obtain ⟨w',hw,rw'⟩:=RelO.some_of (v:=v) (o:=(atKey xs k).map (·.2)) (by rw [l];exact rel.val k)
  obtain ⟨p,hp,hp2⟩:=Option.map_eq_some_iff.mp hw
  refine wpAny_getItem_heap (tupleKind_room_in1 hu) (key_of I.hok eb) dd hp ?_
  rw [hp2]
  exact h w' _ (I.tok _) rw'
theorem d_in {Q:Value->Shared->Prop} (hu:A.units+1 < cLine) (I:Inv X pins σ H s) (g:DGet H a y o) (ry:RelV y u) (h:∀ s',Inv X pins σ H s'->Q (.bool o.isSome) s') :
  wpAny (model X.prog X.w) A (compareOp .In u (.ref a)) Q E s:=by
 rcases g with ⟨kvs,k,e,ey,l⟩|⟨kvs,k,b,e,ey,eb,l⟩
 ·subst ey
  obtain ⟨z,hd,vs,rel,dd⟩:=dk_rd I.hok e
  refine wpAny_in_of (kV_is ry) hd dd.mapOf ?_
  rw [<- (rel.val k).isSome_eq,<- l]
  exact h _ (I.tok _)
 ·subst ey
  cases (show u=Value.ref b from ry)
  obtain ⟨z,hd,xs,rel,dd⟩:=dt_rd I.hok e
  refine wpAny_in_heap (tupleKind_room_in1 hu) (key_of I.hok eb) hd dd ?_
  have q:=(rel.val k).isSome_eq
  rw [Option.isSome_map] at q
  rw [<- q,<- l]
  exact h _ (I.tok _)
theorem d_notIn {Q:Value->Shared->Prop} (hu:A.units+1 < cLine) (I:Inv X pins σ H s) (g:DGet H a y o) (ry:RelV y u) (h:∀ s',Inv X pins σ H s'->Q (.bool (!o.isSome)) s') :
  wpAny (model X.prog X.w) A (compareOp .NotIn u (.ref a)) Q E s:=by
 rcases g with ⟨kvs,k,e,ey,l⟩|⟨kvs,k,b,e,ey,eb,l⟩
 ·subst ey
  obtain ⟨z,hd,vs,rel,dd⟩:=dk_rd I.hok e
  refine wpAny_notIn_of (kV_is ry) hd dd.mapOf ?_
  rw [<- (rel.val k).isSome_eq,<- l]
  exact h _ (I.tok _)
 ·subst ey
  cases (show u=Value.ref b from ry)
  obtain ⟨z,hd,xs,rel,dd⟩:=dt_rd I.hok e
  refine wpAny_notIn_heap (tupleKind_room_in1 hu) (key_of I.hok eb) hd dd ?_
  have q:=(rel.val k).isSome_eq
  rw [Option.isSome_map] at q
  rw [<- q,<- l]
  exact h _ (I.tok _)
theorem d_write {h':Heap} {t':Nat} {ob:HO} (I:Inv X pins σ H s) (mu:Mut (H a)) (hs:Heap.SameBut a s.heap h') (he:∃ q,h'.get? a=some q) (new:ObjOk X.prog X.w (upd H a ob) h' a ob) :
  Inv X pins σ (upd H a ob) { s with heap:=h',toks:=t' } :=
 I.write (x:=a) (e:=a) mu (.inl rfl) (λ b q hb z=>(hs.2 b hb).trans z) he new
theorem dk_new {P:Program} {w:World} {H':Hp} {h':Heap} {kvs:List (Key×V)} {vs:List (Key×Value)} (z:kvs.length<=sizeLine) (hd:(a == sysModules)=false) (rel:KV kvs vs) (dd:h'.DictOf (mixKind P w) a vs) :
  ObjOk P w H' h' a (.dK kvs):=⟨z,hd,vs,rel,dd⟩
theorem d_setItem {H':Hp} {Q:Unit->Shared->Prop} (hu:A.units+1 < cLine) (I:Inv X pins σ H s) (g:DPut H a y v H') (ry:RelV y u) (rv:RelV v r) (h:∀ s',Inv X pins σ H' s'->Q () s') :
  wpAny (model X.prog X.w) A (setItem (.ref a) u r) Q E s:=by
 rcases g with ⟨kvs,k,e,ey,l,eH⟩|⟨kvs,k,b,e,ey,eb,l,eH⟩
 ·subst ey eH
  obtain ⟨z,hd,vs,rel,dd⟩:=dk_of I.hok e
  have hz:vs.length<=sizeLine:=by rw [<- rel.length];exact z
  have hl:(putK kvs k v).length<=sizeLine:=by have:=length_putK kvs k v;lia
  refine wpAny_setItem_pairs (hsz:=hz) (kV_is ry) dd λ h' dd' hs=>h _ ?_
  have he:∃ q,h'.get? a=some q:=let ⟨q,_,_,hq,_⟩:=dd';⟨q,hq⟩
  exact d_write I (by rw [e];exact True.intro) hs he (dk_new hl hd (rel.put k rv) dd')
 ·subst ey eH
  cases (show u=Value.ref b from ry)
  obtain ⟨z,hd,xs,rel,dd⟩:=dt_of I.hok e
  have hz:xs.length<=sizeLine:=by rw [<- Paired.length rel];exact z
  have hl:(putK kvs k v).length<=sizeLine:=by have:=length_putK kvs k v;lia
  refine wpAny_setItem_heap (hsz:=hz) (tupleKind_room_in1 hu) (key_of I.hok eb) dd λ h' dd' hs=>h _ ?_
  obtain ⟨q,es,ep,hq,h2,h3,h4,_,h5⟩:=dd'
  refine d_write I (by rw [e];exact True.intro) hs ⟨q,hq⟩ ⟨hl,hd,_,(rel.put k eb rv).keeps λ c ys ec=>?_,q,es,ep,hq,h2,h3,h4,h5⟩
  rw [upd_ne (ne_of ec e (λ z=>nomatch z))]
  exact ec
end
section
variable {X:Cx} {pins:List (Addr×Obj)} {σ:St} {H:Hp} {s:Shared} {a:Addr} {kvs:List (Key×V)} {k:Key} {u:Value} {A:Around} {E:Value->Shared->Prop}
end
theorem dict_typeIs {X:Cx} {pins:List (Addr×Obj)} {σ:St} {H:Hp} {s:Shared} {a:Addr} {y:V} {o:Option V} (I:Inv X pins σ H s) (g:DGet H a y o):s.TypeIs (.ref a) "dict":=by
 rcases g with ⟨kvs,k,e,_,_⟩|⟨kvs,k,b,e,_,_,_⟩
 ·obtain ⟨_,_,vs,_,dd⟩:=dk_rd I.hok e
  exact dd.typeIs
 ·obtain ⟨_,_,xs,_,dd⟩:=dt_rd I.hok e
  exact dd.typeIs
section
variable {X:Cx} {o i e value:Expr} {pos pos' tpos:Pos} {td ty tv:TE}
end
theorem dk_empty {P:Program} {w:World} {H:Hp} (h:Heap) (hb:sysModules < h.objs.size):ObjOk P w H (h.push { cls:=.type "dict",data:=.dict #[] }) h.objs.size (.dK []) :=
 ⟨Nat.zero_le _,beq_eq_false_iff_ne.mpr (Ne.symm (Nat.ne_of_lt hb)),[],.nil,Heap.DictOf.new h⟩
theorem dt_empty {P:Program} {w:World} {H:Hp} (h:Heap) (hb:sysModules < h.objs.size):ObjOk P w H (h.push { cls:=.type "dict",data:=.dict #[] }) h.objs.size (.dT []) :=
 ⟨Nat.zero_le _,beq_eq_false_iff_ne.mpr (Ne.symm (Nat.ne_of_lt hb)),[],.nil,_,#[],0,Heap.get?_push_size _ rfl,⟨rfl,rfl,rfl⟩,rfl,rfl,List.nodup_nil⟩
def tDNewT:TE:=λ _ H Q=>∀ p,H p=none->Q (.ref p) (upd H p (.dT []))
section
variable {X:Cx} {pos:Pos}
theorem pe_dnewT:PE X (.Dict [] [] pos) tDNewT:=λ pins s σ H Q I h =>
 wpAny_Dict_empty ⟨.ref s.heap.objs.size,_,I.laid (a:=s.heap.objs.size) (o:=.dT []) (t':=s.toks) (λ _ _ q=>Heap.get?_push_of_some _ q) (Nat.le_refl _) (dt_empty s.heap I.big),rfl,h _ (I.hok.fresh (Nat.le_refl _))⟩
end
def IsD (H:Hp) (a:Addr):Prop:=(∃ kvs,Rd H a (.dK kvs)) \/ ∃ kvs,Rd H a (.dT kvs)
theorem isD_at {X:Cx} {pins:List (Addr×Obj)} {σ:St} {H:Hp} {s:Shared} {a:Addr} (I:Inv X pins σ H s) (d:IsD H a) :
  s.TypeIs (.ref a) "dict"/\(∀ b,Value.ref a=.ref b->∃ ob,s.heap.get? b=some ob/\ob.dict=none)/\(a == sysModules)=false:=by
 rcases d with ⟨kvs,e⟩|⟨kvs,e⟩
 ·obtain ⟨_,hd,vs,_,dd⟩:=dk_rd I.hok e
  refine ⟨dd.typeIs,λ b q=>?_,hd⟩
  cases q
  obtain ⟨ob,_,_,h1,h2,_⟩:=dd
  exact ⟨ob,h1,h2.2.1⟩
 ·obtain ⟨_,hd,xs,_,dd⟩:=dt_rd I.hok e
  refine ⟨dd.typeIs,λ b q=>?_,hd⟩
  cases q
  obtain ⟨ob,_,_,h1,h2,_⟩:=dd
  exact ⟨ob,h1,h2.2.1⟩
section
variable {X:Cx} {pins:List (Addr×Obj)} {σ:St} {H:Hp} {s:Shared} {a:Addr} {y d:V} {u r:Value} {o:Option V} {A:Around} {E:Value->Shared->Prop}
end
section
variable {X:Cx} {o e f:Expr} {apos cpos:Pos} {td ty tx:TE}
end
section
variable {X:Cx} {pins:List (Addr×Obj)} {σ:St} {H:Hp} {s:Shared} {a:Addr} {kvs:List (Key×V)} {A:Around} {E:Value->Shared->Prop}
end
section
variable {X:Cx} {pins:List (Addr×Obj)} {σ:St} {H:Hp} {s:Shared} {a:Addr} {y:V} {u:Value} {A:Around} {E:Value->Shared->Prop}
end
end L2
namespace L3
open PySem PySem.Spec PyProof.Rows L2
def rInD:R2:=λ x y H Q=>∃ a o,y=.ref a/\DGet H a x o/\Q (.bl o.isSome) H
def rNotInD:R2:=λ x y H Q=>∃ a o,y=.ref a/\DGet H a x o/\Q (.bl (!o.isSome)) H
def rIxD:R2:=λ x y H Q=>∃ a v,x=.ref a/\DGet H a y (some v)/\Q v H
def rSetD:V->V->V->Hp->(Hp->Prop)->Prop:=λ o i v H Q=>∃ a H',o=.ref a/\DPut H a i v H'/\Q H'
section
variable {X:Cx}
theorem op_inD (hu:X.A.units+64 < cLine):OpR X (compareOp .In) rInD:=by
 intro pins s σ H x y v u Q I rx ry h
 obtain ⟨a,o,rfl,g,q⟩:=h
 obtain rfl:u=Value.ref a:=ry
 exact d_in (by lia) I g rx λ s3 I3=>⟨.bl o.isSome,H,I3,rfl,q⟩
theorem op_notInD (hu:X.A.units+64 < cLine):OpR X (compareOp .NotIn) rNotInD:=by
 intro pins s σ H x y v u Q I rx ry h
 obtain ⟨a,o,rfl,g,q⟩:=h
 obtain rfl:u=Value.ref a:=ry
 exact d_notIn (by lia) I g rx λ s3 I3=>⟨.bl (!o.isSome),H,I3,rfl,q⟩
theorem ix_D (hu:X.A.units+64 < cLine):IxR X rIxD:=by
 intro value slice pins s σ H x y v u Q I rx ry h hs
 obtain ⟨a,v',rfl,g,q⟩:=h
 obtain rfl:v=Value.ref a:=rx
 exact tail_any (dict_typeIs I g) PySem.F.slot_dict_getitem.lookup (d_getItem (by lia) I g ry λ w' s3 I3 rw'=>⟨v',H,I3,rw',q⟩) hs
theorem set_D (hu:X.A.units+64 < cLine):PSet X rSetD:=by
 intro pins s σ H o i v ov iv u Q I ro ri rv h
 obtain ⟨a,H',rfl,g,q⟩:=h
 obtain rfl:ov=Value.ref a:=ro
 exact d_setItem (by lia) I g ri rv λ s4 I4=>⟨H',I4,q⟩
theorem PSet.or {r r':TSet} (h:PSet X r) (h':PSet X r'):PSet X (λ o i v H Q=>r o i v H Q \/ r' o i v H Q):=by
 intro pins s σ H o i v ov iv u Q I ro ri rv q
 rcases q with q|q
 ·exact h pins s σ H o i v ov iv u Q I ro ri rv q
 ·exact h' pins s σ H o i v ov iv u Q I ro ri rv q
end
def rInV (w:World) (K:Fg):R2:=λ x y H Q=>rInW w K x y H Q \/ rInD x y H Q
def rNotInV (w:World) (K:Fg):R2:=λ x y H Q=>rNotInW w K x y H Q \/ rNotInD x y H Q
def rIxV (w:World) (K:Fg):R2:=λ x y H Q=>rIxW w K x y H Q \/ rIxD x y H Q
def rSetV:V->V->V->Hp->(Hp->Prop)->Prop:=λ o i v H Q=>rSetL o i v H Q \/ rSetD o i v H Q
section
variable {X:Cx} {w:World} {K:Fg}
theorem op_inV (hu:X.A.units+64 < cLine) (hw:X.w=w) (hK:X.K=K):OpR X (compareOp .In) (rInV w K):=(op_inW hw hK).or (op_inD hu)
theorem op_notInV (hu:X.A.units+64 < cLine) (hw:X.w=w) (hK:X.K=K):OpR X (compareOp .NotIn) (rNotInV w K):=(op_notInW hw hK).or (op_notInD hu)
theorem ix_V (hu:X.A.units+64 < cLine) (hw:X.w=w) (hK:X.K=K):IxR X (rIxV w K):=(ix_W hw hK).or (ix_D hu)
theorem set_V (hu:X.A.units+64 < cLine):PSet X rSetV:=PSet.or set_list (set_D hu)
end
section
variable {w:World} {K:Fg} {H:Hp} {Q:VK} {a b:Addr} {x y v:V} {o:Option V} {xs:List V} {i:Int} {σ:St} {D:Ends}
end
section
variable {K:Fg} {H:Hp} {Q:VK} {σ caps:St} {n:Nat} {ix:List Nat} {g:TG} {tt:TT} {te:TE} {m:Nat} {J:It} {Y:Nat->V->Hp->Prop}
end
section
variable {K:Fg} {T:String} {r:V->List V->Hp->VK->Prop} {to:TE} {σ:L2.St} {H:Hp} {Q:VK} {a:Addr} {xs:List V} {w:World} {x y v:V}
end
section
variable {X:Cx} {elts:List Expr}
end
section
variable {K:Fg} {H:Hp} {a:Addr} {xs:List V} {σ:L2.St} {ta:TA}
end
def rMulV:R2:=λ x y H Q=>rMulW x y H Q \/ rRep x y H Q
theorem op_mulV {X:Cx}:OpR X (binaryOp .Mult) rMulV:=op_mulW.or op_rep
section
variable {K:Fg} {r:V->List V->Hp->VK->Prop} {t:TA} {σ:L2.St} {H:Hp} {Q:VK} {a:Addr} {d k:V} {o:Option V}
end
section
variable {X:Cx}
def rCatS (K:Fg):R2:=λ x y H Q=>∃ l b xs zs,x=.ref l/\y=.ref b/\SqL K H l xs/\SqL K H b zs/\xs.length+zs.length<=sizeLine/\∀ p,H p=none->Q (.ref p) (upd H p (.lst (xs++zs)))
theorem op_catS {K:Fg} (hK:X.K=K):OpR X (binaryOp .Add) (rCatS K):=by
 subst hK
 intro pins s σ H x y v u Q I rx ry h
 obtain ⟨l,b,xs,zs,rfl,rfl,hH,hB,hz,q⟩:=h
 cases rx
 cases ry
 obtain ⟨its,r,⟨⟨cls,dd,data,sl⟩,n,ho,hc,_,hd⟩,z1⟩:=I.list hH
 obtain ⟨its2,r2,⟨⟨cls2,dd2,data2,sl2⟩,n2,ho2,hc2,_,hd2⟩,z2⟩:=I.list hB
 simp only at hc hd hc2 hd2
 subst hc hd hc2 hd2
 have e1:=r.length
 have e2:=r2.length
 refine concat_meets ⟨_,ho,rfl⟩ ⟨_,ho2,rfl⟩ noFill_list_add seq_list_add PySem.F.slot_list_add PySem.F.entry_list_add (PySem.F.args_list_add_2 _ _) (list_addW l b its.toArray its2.toArray n n2 dd dd2 sl sl2 (by simp;lia)) ⟨ho,ho2,?_⟩
 have ea:its.toArray++its2.toArray=(its++its2).toArray:=by simp
 rw [ea]
 exact ⟨.ref _,_,I.lnew (t':=s.toks) (r.append r2) (by rw [List.length_append];lia),rfl,q _ I.fresh⟩
def rAddW (K:Fg):R2:=λ x y H Q=>rAddU K x y H Q \/ rCatS K x y H Q
theorem op_addW {K:Fg} (hK:X.K=K):OpR X (binaryOp .Add) (rAddW K):=(op_addU hK).or (op_catS hK)
def rIsS (K:Fg):List V->Hp->VK->Prop:=λ vs H Q=>∃ a cV c b,vs=[.ref a,cV]/\clsV cV=some c/\(((∃ xs,SqL K H a xs)/\PySem.W.kitOne K (.type "list") c=some b) \/ ((∃ xs,SqT K H a xs)/\PySem.W.kitOne K (.type "tuple") c=some b))/\Q (.bl b) H
theorem call_isS {K:Fg} (h:X.K=K):CallR X (.builtin "isinstance") (rIsS K):=by
 subst h
 intro pins s σ H xs us Q I r h
 obtain ⟨a,cV,c,b,rfl,rc,hh,q⟩:=h
 obtain ⟨u,v,rfl,ru,rv⟩:=r.two
 obtain rfl:=clsV_rel rc rv
 cases (show u=Value.ref a from ru)
 rcases hh with ⟨⟨xs,hx⟩,e⟩|⟨⟨xs,hx⟩,e⟩
 ·obtain ⟨its,_,⟨o,n,ho,hc,_,hd⟩,_⟩:=I.list hx
  exact PySem.W.kia_one PySem.W.kitx_list I.kIn ⟨o,ho,hc⟩ e (λ z=>nomatch z) λ tk=>⟨.bl b,H,I.tok tk,rfl,q⟩
 ·obtain ⟨its,_,⟨o,h1,h2,_⟩,_⟩:=I.tuple hx
  exact PySem.W.kia_one PySem.W.kitx_tuple I.kIn ⟨o,h1,h2⟩ e (λ z=>nomatch z) λ tk=>⟨.bl b,H,I.tok tk,rfl,q⟩
def rIsW (K:Fg):List V->Hp->VK->Prop:=λ vs H Q=>rIsI K vs H Q \/ rIsS K vs H Q
theorem call_isW {K:Fg} (h:X.K=K):CallR X (.builtin "isinstance") (rIsW K):=(call_isinst h).or (call_isS h)
end
theorem IsAll.dlen {K:Fg} {F:Hp}:∀ {xs:List V} {ds:List PyData},IsAll K F xs ds->xs.length=ds.length
|_,_,.nil=>rfl
|_,_,.cons _ r=>congrArg (·+1) (IsAll.dlen r)
theorem IsAll.dget {K:Fg} {F:Hp}:∀ {xs:List V} {ds:List PyData} {i:Nat} {d:PyData},IsAll K F xs ds->ds[i]?=some d->∃ x,xs[i]?=some x/\Is K F x d
|_,_,_,_,.nil,e=>by simp at e
|_,_,0,_,.cons h _,e=>by simp at e;subst e;exact ⟨_,rfl,h⟩
|_,_,i+1,d,.cons _ r,e=>by
  obtain ⟨x,h1,h2⟩:=IsAll.dget (i:=i) (d:=d) r (by simpa using e)
  exact ⟨x,by simpa using h1,h2⟩
theorem IsAll.dapp {K:Fg} {F:Hp}:∀ {xs ys:List V} {ds es:List PyData},IsAll K F xs ds->IsAll K F ys es->IsAll K F (xs++ys) (ds++es)
|_,_,_,_,.nil,s=>s
|_,_,_,_,.cons h r,s=>.cons h (IsAll.dapp r s)
theorem IsAll.dset {K:Fg} {F:Hp} {x:V} {d:PyData} (hx:Is K F x d):∀ (n:Nat) {xs:List V} {ds:List PyData},IsAll K F xs ds->IsAll K F (xs.set n x) (ds.set n d)
|_,_,_,.nil=>.nil
|0,_,_,.cons _ r=>.cons hx r
|n+1,_,_,.cons h r=>.cons h (IsAll.dset hx n r)
theorem Is.list_inv {K:Fg} {F:Hp} {v:V} {ds:List PyData} (h:Is K F v (.list ds)):∃ a xs,v=.ref a/\SqL K F a xs/\IsAll K F xs ds:=by
 cases h with
|lst h1 h2=>exact ⟨_,_,rfl,h1,h2⟩
theorem Is.tuple_inv {K:Fg} {F:Hp} {v:V} {ds:List PyData} (h:Is K F v (.tuple ds)):∃ a xs,v=.ref a/\SqT K F a xs/\IsAll K F xs ds:=by
 cases h with
|tup h1 h2=>exact ⟨_,_,rfl,SqT.of h1,h2⟩
|tuc h1 h2 _=>exact ⟨_,_,rfl,h1,h2⟩
theorem Is.int_inv {K:Fg} {F:Hp} {v:V} {i:Int} (h:Is K F v (.int i)):v=.int i:=by cases h;rfl
theorem Is.bl_inv {K:Fg} {F:Hp} {v:V} {b:Bool} (h:Is K F v (.bool b)):v=.bl b:=by cases h;rfl
theorem Is.str_inv {K:Fg} {F:Hp} {v:V} {b:Str} (h:Is K F v (.str b)):v=.str b:=by cases h;rfl
theorem Is.non_inv {K:Fg} {F:Hp} {v:V} (h:Is K F v .none):v=.non:=by cases h;rfl
end L3
namespace L4
open PySem PySem.Spec PyProof.Rows L2 L3
abbrev D:=PyData
def HD (x:Option HO):Prop:=x≠none/\∀ ks:List Key,x≠some (.tup (ks.map kV))
theorem HD.mono {H H':Hp} {a:Addr} (h:HD (H a)) (s:Same H H'):HD (H' a):=by
 cases e:H a with
|none=>exact absurd e h.1
|some o=>rw [s a o e,<- e];exact h
theorem HD.of {H:Hp} {a:Addr} {o:HO} (h:H a=some o) (n:∀ ks:List Key,o≠.tup (ks.map kV)):HD (H a):=by
 rw [h];exact ⟨by simp,λ ks z=>n ks (Option.some.inj z)⟩
theorem al_upd {H:Hp} {a:Addr} {o:HO} (h:HD (upd H a o a)):∀ b,(H b≠none->upd H a o b≠none)/\(HD (H b)->HD (upd H a o b)):=λ b=>by
 by_cases z:b=a
 ·rw [z];exact ⟨λ _=>h.1,λ _=>h⟩
 ·rw [upd_ne z];exact ⟨id,id⟩
structure Ext (F H F' H':Hp):Prop where
 h:Same H H'
 f:Same F F'
 fh:Same F' H'
 nw:∀ a,HD (H a)->F a=none->F' a=none
theorem Ext.refl {F H:Hp} (s:Same F H):Ext F H F H:=⟨λ _ _ z=>z,λ _ _ z=>z,s,λ _ _ z=>z⟩
theorem Ext.trans {F H F1 H1 F2 H2:Hp} (a:Ext F H F1 H1) (b:Ext F1 H1 F2 H2):Ext F H F2 H2 :=
 ⟨a.h.trans b.h,a.f.trans b.f,b.fh,λ c hc fc=>b.nw c (hc.mono a.h) (a.nw c hc fc)⟩
theorem Ext.nwo {F H F' H':Hp} {a:Addr} {o:HO} (e:Ext F H F' H') (h:H a=some o) (n:∀ ks:List Key,o≠.tup (ks.map kV)) (f:F a=none):F' a=none:=e.nw a (.of h n) f
inductive T where
|fz (d:D)|li (ds:List D)|ls (ts:List T)|ob (C:Addr) (fs:List (Str×T))|dk (kvs:List (Key×D))|dt (kvs:List (List Key×D))|tp (ts:List T)|wh|dz (a:Addr) (kvs:List (List Key×D))
inductive KvIs (K:Fg) (F:Hp) {κ:Type}:List (κ×V)->List (κ×D)->Prop
|nil:KvIs K F [] []
|cons {k:κ} {v:V} {d:D} {r:List (κ×V)} {s:List (κ×D)}:Is K F v d->KvIs K F r s->KvIs K F ((k,v) :: r) ((k,d) :: s)
theorem KvIs.mono {K:Fg} {F F':Hp} {κ:Type} (s:Same F F'):∀ {r:List (κ×V)} {t:List (κ×D)},KvIs K F r t->KvIs K F' r t
|_,_,.nil=>.nil
|_,_,.cons h r=>.cons (h.mono s) (r.mono s)
mutual
inductive Rt (K:Fg) (F H:Hp):V->T->List Addr->Prop
|fz {v:V} {d:D}:Is K F v d->Rt K F H v (.fz d) []
|li {a:Addr} {xs:List V} {ds:List D}:H a=some (.lst xs)->F a=none->IsAll K F xs ds->Rt K F H (.ref a) (.li ds) [a]
|ls {a:Addr} {xs:List V} {ts:List T} {fp:List Addr}:H a=some (.lst xs)->F a=none->RtAll K F H xs ts fp->Rt K F H (.ref a) (.ls ts) (a :: fp)
|ob {a C dx:Addr} {fs:List (Str×V)} {ts:List (Str×T)} {fp:List Addr}:H a=some (.ins C dx fs)->H dx=some (.own a)->F a=none->F dx=none->RtFs K F H fs ts fp->Rt K F H (.ref a) (.ob C ts) (a :: dx :: fp)
|dk {a:Addr} {kvs:List (Key×V)} {ds:List (Key×D)}:H a=some (.dK kvs)->F a=none->KvIs K F kvs ds->Rt K F H (.ref a) (.dk ds) [a]
|dt {a:Addr} {kvs:List (List Key×V)} {ds:List (List Key×D)}:H a=some (.dT kvs)->F a=none->KvIs K F kvs ds->Rt K F H (.ref a) (.dt ds) [a]
|tp {a:Addr} {xs:List V} {ts:List T} {fp:List Addr}:H a=some (.tup xs)->F a=none->(∀ ks:List Key,xs≠ks.map kV)->RtAll K F H xs ts fp->Rt K F H (.ref a) (.tp ts) (a :: fp)
|wh {a:Addr}:Rt K F H (.ref a) .wh []
|dz {a:Addr} {o:Obj} {kvs:List (List Key×V)} {ds:List (List Key×D)}:H a=some (.frz o (.dT kvs))->F a=none->KvIs K F kvs ds->Rt K F H (.ref a) (.dz a ds) [a]
inductive RtAll (K:Fg) (F H:Hp):List V->List T->List Addr->Prop
|nil:RtAll K F H [] [] []
|cons {x:V} {t:T} {xs:List V} {ts:List T} {fp fq:List Addr}:Rt K F H x t fp->RtAll K F H xs ts fq->RtAll K F H (x :: xs) (t :: ts) (fp++fq)
inductive RtFs (K:Fg) (F H:Hp):List (Str×V)->List (Str×T)->List Addr->Prop
|nil:RtFs K F H [] [] []
|cons {f:Str} {x:V} {t:T} {xs:List (Str×V)} {ts:List (Str×T)} {fp fq:List Addr}:Rt K F H x t fp->RtFs K F H xs ts fq->RtFs K F H ((f,x) :: xs) ((f,t) :: ts) (fp++fq)
end
section
variable {K:Fg} {F H F' H':Hp}
theorem Rt.ind {P : V → T → List Addr → Prop} {Q : List V → List T → List Addr → Prop} {R : List (Str × V) → List (Str × T) → List Addr → Prop}
    (c1 : ∀ {v : V} {d : D}, Is K F v d → P v (.fz d) [])
    (c2 : ∀ {a : Addr} {xs : List V} {ds : List D}, H a = some (.lst xs) → F a = none → IsAll K F xs ds → P (.ref a) (.li ds) [a])
    (c3 : ∀ {a : Addr} {xs : List V} {ts : List T} {fp : List Addr}, H a = some (.lst xs) → F a = none → Q xs ts fp → P (.ref a) (.ls ts) (a :: fp))
    (c4 : ∀ {a C dx : Addr} {fs : List (Str × V)} {ts : List (Str × T)} {fp : List Addr}, H a = some (.ins C dx fs) → H dx = some (.own a) → F a = none → F dx = none → R fs ts fp → P (.ref a) (.ob C ts) (a :: dx :: fp))
    (c5 : ∀ {a : Addr} {kvs : List (Key × V)} {ds : List (Key × D)}, H a = some (.dK kvs) → F a = none → KvIs K F kvs ds → P (.ref a) (.dk ds) [a])
    (c6 : ∀ {a : Addr} {kvs : List (List Key × V)} {ds : List (List Key × D)}, H a = some (.dT kvs) → F a = none → KvIs K F kvs ds → P (.ref a) (.dt ds) [a])
    (ct : ∀ {a : Addr} {xs : List V} {ts : List T} {fp : List Addr}, H a = some (.tup xs) → F a = none → (∀ ks : List Key, xs ≠ ks.map kV) → Q xs ts fp → P (.ref a) (.tp ts) (a :: fp))
    (cw : ∀ {a : Addr}, P (.ref a) .wh [])
    (cz : ∀ {a : Addr} {o : Obj} {kvs : List (List Key × V)} {ds : List (List Key × D)}, H a = some (.frz o (.dT kvs)) → F a = none → KvIs K F kvs ds → P (.ref a) (.dz a ds) [a])
    (c7 : Q [] [] []) (c8 : ∀ {x : V} {t : T} {xs : List V} {ts : List T} {fp fq : List Addr}, P x t fp → Q xs ts fq → Q (x :: xs) (t :: ts) (fp ++ fq))
    (c9 : R [] [] []) (c0 : ∀ {f : Str} {x : V} {t : T} {xs : List (Str × V)} {ts : List (Str × T)} {fp fq : List Addr}, P x t fp → R xs ts fq → R ((f, x) :: xs) ((f, t) :: ts) (fp ++ fq)) :
    (∀ {v : V} {t : T} {fp : List Addr}, Rt K F H v t fp → P v t fp) ∧ (∀ {v : List V} {t : List T} {fp : List Addr}, RtAll K F H v t fp → Q v t fp) ∧ (∀ {v : List (Str × V)} {t : List (Str × T)} {fp : List Addr}, RtFs K F H v t fp → R v t fp) :=
  ⟨fun h => Rt.rec (motive_1 := fun v t fp _ => P v t fp) (motive_2 := fun v t fp _ => Q v t fp) (motive_3 := fun v t fp _ => R v t fp) c1 c2 (fun a b _ => c3 a b) (fun a b c d _ => c4 a b c d) c5 c6 (fun a b c _ => ct a b c) cw cz c7 (fun _ _ => c8) c9 (fun _ _ => c0) h,
   fun h => RtAll.rec (motive_1 := fun v t fp _ => P v t fp) (motive_2 := fun v t fp _ => Q v t fp) (motive_3 := fun v t fp _ => R v t fp) c1 c2 (fun a b _ => c3 a b) (fun a b c d _ => c4 a b c d) c5 c6 (fun a b c _ => ct a b c) cw cz c7 (fun _ _ => c8) c9 (fun _ _ => c0) h,
   fun h => RtFs.rec (motive_1 := fun v t fp _ => P v t fp) (motive_2 := fun v t fp _ => Q v t fp) (motive_3 := fun v t fp _ => R v t fp) c1 c2 (fun a b _ => c3 a b) (fun a b c d _ => c4 a b c d) c5 c6 (fun a b c _ => ct a b c) cw cz c7 (fun _ _ => c8) c9 (fun _ _ => c0) h⟩
def Keep (F' H H':Hp) (fp:List Addr):Prop:=∀ a∈fp,H' a=H a/\F' a=none
theorem Keep.hd {a:Addr} {fp:List Addr} {o:HO} (k:Keep F' H H' (a :: fp)) (h:H a=some o):H' a=some o:=(k a List.mem_cons_self).1.trans h
theorem Keep.no {a:Addr} {fp:List Addr} (k:Keep F' H H' (a :: fp)):F' a=none:=(k a List.mem_cons_self).2
theorem Keep.tl {a:Addr} {fp:List Addr} (k:Keep F' H H' (a :: fp)):Keep F' H H' fp:=λ b hb=>k b (List.mem_cons_of_mem _ hb)
theorem Keep.l {fp fq:List Addr} (k:Keep F' H H' (fp++fq)):Keep F' H H' fp:=λ b hb=>k b (List.mem_append_left _ hb)
theorem Keep.r {fp fq:List Addr} (k:Keep F' H H' (fp++fq)):Keep F' H H' fq:=λ b hb=>k b (List.mem_append_right _ hb)
theorem rt_frame (s:Same F F'):(∀ {v:V} {t:T} {fp:List Addr},Rt K F H v t fp->Keep F' H H' fp->Rt K F' H' v t fp)/\(∀ {v:List V} {t:List T} {fp:List Addr},RtAll K F H v t fp->Keep F' H H' fp->RtAll K F' H' v t fp)/\(∀ {v:List (Str×V)} {t:List (Str×T)} {fp:List Addr},RtFs K F H v t fp->Keep F' H H' fp->RtFs K F' H' v t fp) :=
 Rt.ind (P:=λ v t fp=>Keep F' H H' fp->Rt K F' H' v t fp) (Q:=λ v t fp=>Keep F' H H' fp->RtAll K F' H' v t fp) (R:=λ v t fp=>Keep F' H H' fp->RtFs K F' H' v t fp)
  (λ h _=>.fz (h.mono s)) (λ h _ i k=>.li (k.hd h) k.no (i.mono s)) (λ h _ i k=>.ls (k.hd h) k.no (i k.tl)) (λ h h2 _ _ i k=>.ob (k.hd h) (k.tl.hd h2) k.no k.tl.no (i k.tl.tl))
  (λ h _ i k=>.dk (k.hd h) k.no (i.mono s)) (λ h _ i k=>.dt (k.hd h) k.no (i.mono s)) (λ h _ nk i k=>.tp (k.hd h) k.no nk (i k.tl)) (λ _=>.wh) (λ h _ i k=>.dz (k.hd h) k.no (i.mono s)) (λ _=>.nil) (λ a b k=>.cons (a k.l) (b k.r)) (λ _=>.nil) (λ a b k=>.cons (a k.l) (b k.r))
theorem Rt.frame (s:Same F F') {v:V} {t:T} {fp:List Addr} (h:Rt K F H v t fp) (k:∀ a∈fp,H' a=H a/\F' a=none):Rt K F' H' v t fp:=(rt_frame s).1 h k
theorem RtAll.frame (s:Same F F') {v:List V} {t:List T} {fp:List Addr} (h:RtAll K F H v t fp) (k:∀ a∈fp,H' a=H a/\F' a=none):RtAll K F' H' v t fp:=(rt_frame s).2.1 h k
theorem RtFs.frame (s:Same F F') {v:List (Str×V)} {t:List (Str×T)} {fp:List Addr} (h:RtFs K F H v t fp) (k:∀ a∈fp,H' a=H a/\F' a=none):RtFs K F' H' v t fp:=(rt_frame s).2.2 h k
def Dom (F H:Hp) (fp:List Addr):Prop:=∀ a∈fp,HD (H a)/\F a=none
theorem Dom.nil:Dom F H []:=λ _ h=>nomatch h
theorem Dom.cons {a:Addr} {o:HO} {fp:List Addr} (h:H a=some o) (n:∀ ks:List Key,o≠.tup (ks.map kV)) (f:F a=none) (r:Dom F H fp):Dom F H (a :: fp):=λ b hb=>by
 rcases List.mem_cons.mp hb with e|e
 ·rw [e];exact ⟨.of h n,f⟩
 ·exact r b e
theorem Dom.app {fp fq:List Addr} (a:Dom F H fp) (b:Dom F H fq):Dom F H (fp++fq):=λ c hc=>(List.mem_append.mp hc).elim (a c) (b c)
theorem rt_dom:(∀ {v:V} {t:T} {fp:List Addr},Rt K F H v t fp->Dom F H fp)/\(∀ {v:List V} {t:List T} {fp:List Addr},RtAll K F H v t fp->Dom F H fp)/\(∀ {v:List (Str×V)} {t:List (Str×T)} {fp:List Addr},RtFs K F H v t fp->Dom F H fp) :=
 Rt.ind (P:=λ _ _ fp=>Dom F H fp) (Q:=λ _ _ fp=>Dom F H fp) (R:=λ _ _ fp=>Dom F H fp) (λ _=>.nil) (λ h f _=>.cons h (λ _=>nofun) f .nil) (λ h f r=>.cons h (λ _=>nofun) f r) (λ h h2 f f2 r=>.cons h (λ _=>nofun) f (.cons h2 (λ _=>nofun) f2 r))
  (λ h f _=>.cons h (λ _=>nofun) f .nil) (λ h f _=>.cons h (λ _=>nofun) f .nil) (λ h f n r=>.cons h (λ ks z=>n ks (by cases z;rfl)) f r) .nil (λ h f _=>.cons h (λ _=>nofun) f .nil) .nil .app .nil .app
theorem Rt.dom {v:V} {t:T} {fp:List Addr} (h:Rt K F H v t fp):∀ a∈fp,H a≠none/\F a=none:=λ a ha=>⟨(rt_dom.1 h a ha).1.1,(rt_dom.1 h a ha).2⟩
theorem RtFs.dom {v:List (Str×V)} {t:List (Str×T)} {fp:List Addr} (h:RtFs K F H v t fp):∀ a∈fp,H a≠none/\F a=none:=λ a ha=>⟨(rt_dom.2.2 h a ha).1.1,(rt_dom.2.2 h a ha).2⟩
theorem Rt.hdd {v:V} {t:T} {fp:List Addr} (h:Rt K F H v t fp):∀ a∈fp,HD (H a):=λ a ha=>(rt_dom.1 h a ha).1
end
theorem Rt.ext {K:Fg} {F H F' H':Hp} {v:V} {t:T} {fp:List Addr} (e:Ext F H F' H') (h:Rt K F H v t fp):Rt K F' H' v t fp :=
 h.frame e.f λ a ha=>by
  obtain ⟨h1,h2⟩:=h.dom a ha
  cases q:H a with
 |none=>exact absurd q h1
 |some o=>exact ⟨e.h a o q,e.nw a (h.hdd a ha) h2⟩
inductive Sl where
|un|sh (d:D)|ow (t:T)|bo (t:T)|io (a:Addr) (t:T)
abbrev DSt:=List Sl
abbrev DE:=DSt->(D->Prop)->Prop
abbrev DF:=DSt->(List D->Prop)->Prop
abbrev DT:=DSt->(Bool->Prop)->Prop
def RSl (K:Fg) (F H:Hp) (v:Option V):Sl->Prop
|.un=>True
|.sh d=>∃ x,v=some x/\Is K F x d
|.ow t=>∃ x fp,v=some x/\Rt K F H x t fp/\fp.Nodup
|.bo t=>∃ x fp,v=some x/\Rt K F H x t fp/\fp.Nodup
|.io a t=>∃ fp,v=some (.ref a)/\Rt K F H (.ref a) t fp/\fp.Nodup
theorem RSl.ext {K:Fg} {F H F' H':Hp} {v:Option V} (e:Ext F H F' H'):∀ {s:Sl},RSl K F H v s->RSl K F' H' v s
|.un,_=>trivial
|.sh _,⟨x,a,b⟩=>⟨x,a,b.mono e.f⟩
|.ow _,⟨a,xs,h1,h2,h3⟩=>⟨a,xs,h1,h2.ext e,h3⟩
|.bo _,⟨a,xs,h1,h2,h3⟩=>⟨a,xs,h1,h2.ext e,h3⟩
|.io _ _,⟨xs,h1,h2,h3⟩=>⟨xs,h1,h2.ext e,h3⟩
structure RV (K:Fg) (F H:Hp) (σ:L2.St) (δ:DSt):Prop where
 len:σ.length=δ.length
 sl:∀ i s,δ[i]?=some s->RSl K F H (σ.getD i none) s
theorem RV.ext {K:Fg} {F H F' H':Hp} {σ:L2.St} {δ:DSt} (e:Ext F H F' H') (r:RV K F H σ δ):RV K F' H' σ δ:=⟨r.len,λ i s h=>(r.sl i s h).ext e⟩
def Vw (K:Fg) (F H:Hp) (v:V) (d:D):Prop:=Is K F v d \/ ∃ a xs ds,v=.ref a/\d=.list ds/\H a=some (.lst xs)/\IsAll K F xs ds
theorem Vw.ext {K:Fg} {F H F' H':Hp} {v:V} {d:D} (e:Ext F H F' H') (h:Vw K F H v d):Vw K F' H' v d:=by
 rcases h with h|⟨a,xs,ds,h1,h2,h3,h4⟩
 ·exact .inl (h.mono e.f)
 ·exact .inr ⟨a,xs,ds,h1,h2,e.h _ _ h3,h4.mono e.f⟩
theorem Vw.is {K:Fg} {F H:Hp} {v:V} {d:D} (s:Same F H) (h:Vw K F H v d):Is K H v d:=by
 rcases h with h|⟨a,xs,ds,rfl,rfl,h3,h4⟩
 ·exact h.mono s
 ·exact .lst (SqL.of h3) (h4.mono s)
theorem Vw.list {K:Fg} {F H:Hp} {v:V} {ds:List D} (s:Same F H) (h:Vw K F H v (.list ds)):∃ a xs,v=.ref a/\SqL K H a xs/\IsAll K F xs ds:=by
 rcases h with h|⟨a,xs,ds',rfl,e,h3,h4⟩
 ·cases h with
 |lst h1 h2=>exact ⟨_,_,rfl,s.seq h1,h2⟩
 ·cases e;exact ⟨a,xs,rfl,SqL.of h3,h4⟩
theorem Vw.tuple {K:Fg} {F H:Hp} {v:V} {ds:List D} (s:Same F H) (h:Vw K F H v (.tuple ds)):∃ a xs,v=.ref a/\SqT K H a xs/\SqT K F a xs/\IsAll K F xs ds:=by
 rcases h with h|⟨a,xs,ds',rfl,e,h3,h4⟩
 ·cases h with
 |tup h1 h2=>exact ⟨_,_,rfl,sseqT s (SqT.of h1),SqT.of h1,h2⟩
 |tuc h1 h2 _=>exact ⟨_,_,rfl,sseqT s h1,h1,h2⟩
 ·cases e
theorem Vw.int {K:Fg} {F H:Hp} {v:V} {i:Int} (h:Vw K F H v (.int i)):v=.int i:=by
 rcases h with h|⟨a,xs,ds',rfl,e,h3,h4⟩
 ·exact h.int_inv
 ·cases e
theorem Vw.str {K:Fg} {F H:Hp} {v:V} {i:Str} (h:Vw K F H v (.str i)):v=.str i:=by
 rcases h with h|⟨a,xs,ds',rfl,e,h3,h4⟩
 ·exact h.str_inv
 ·cases e
theorem Vw.bl {K:Fg} {F H:Hp} {v:V} {i:Bool} (h:Vw K F H v (.bool i)):v=.bl i:=by
 rcases h with h|⟨a,xs,ds',rfl,e,h3,h4⟩
 ·exact h.bl_inv
 ·cases e
section
variable (K:Fg)
def RfE (te:TE) (de:DE):Prop:=∀ {F H:Hp} {σ:L2.St} {δ:DSt} {Qd:D->Prop} {Q:VK},Same F H->RV K F H σ δ->de δ Qd->(∀ d,Qd d->∀ v F' H',Ext F H F' H'->Is K F' v d->Q v H')->te σ H Q
def RfV (te:TE) (de:DE):Prop:=∀ {F H:Hp} {σ:L2.St} {δ:DSt} {Qd:D->Prop} {Q:VK},Same F H->RV K F H σ δ->de δ Qd->(∀ d,Qd d->∀ v F' H',Ext F H F' H'->Vw K F' H' v d->Q v H')->te σ H Q
def RfF (te:TE) (df:DF):Prop:=∀ {F H:Hp} {σ:L2.St} {δ:DSt} {Qd:List D->Prop} {Q:VK},Same F H->RV K F H σ δ->df δ Qd->(∀ ds,Qd ds->∀ a xs F' H',Ext F H F' H'->H a=none->H' a=some (.lst xs)->F' a=none->IsAll K F' xs ds->Q (.ref a) H')->te σ H Q
def RfT (tt:TT) (dt:DT):Prop:=∀ {F H:Hp} {σ:L2.St} {δ:DSt} {Qd:Bool->Prop} {Q:Bool->Hp->Prop},Same F H->RV K F H σ δ->dt δ Qd->(∀ b,Qd b->∀ F' H',Ext F H F' H'->Q b H')->tt σ H Q
def RfA (ta:TA) (da:DF):Prop:=∀ {F H:Hp} {σ:L2.St} {δ:DSt} {Qd:List D->Prop} {Q:List V->Hp->Prop},Same F H->RV K F H σ δ->da δ Qd->(∀ ds,Qd ds->∀ vs F' H',Ext F H F' H'->IsAll K F' vs ds->Q vs H')->ta σ H Q
inductive VwAll (F H:Hp):List V->List D->Prop
|nil:VwAll F H [] []
|cons {v:V} {d:D} {vs:List V} {ds:List D}:Vw K F H v d->VwAll F H vs ds->VwAll F H (v :: vs) (d :: ds)
def RfAV (ta:TA) (da:DF):Prop:=∀ {F H:Hp} {σ:L2.St} {δ:DSt} {Qd:List D->Prop} {Q:List V->Hp->Prop},Same F H->RV K F H σ δ->da δ Qd->(∀ ds,Qd ds->∀ vs F' H',Ext F H F' H'->VwAll K F' H' vs ds->Q vs H')->ta σ H Q
end
section
variable {K:Fg} {te ta tb tc:TE} {de da db dc:DE} {tt tu:TT} {dt du:DT} {tA:TA} {dA:DF}
theorem VwAll.ext {F H F' H':Hp} (e:Ext F H F' H'):∀ {vs:List V} {ds:List D},VwAll K F H vs ds->VwAll K F' H' vs ds
|_,_,.nil=>.nil
|_,_,.cons h r=>.cons (h.ext e) (r.ext e)
theorem frz_new {F H F' H':Hp} {a:Addr} {xs:List V} {ds:List D} (e:Ext F H F' H') (hn:H a=none) (h1:H' a=some (.lst xs)) (h2:F' a=none) (h3:IsAll K F' xs ds) :
  Ext F H (upd F' a (.lst xs)) H'/\Is K (upd F' a (.lst xs)) (.ref a) (.list ds):=by
 have s:Same F' (upd F' a (.lst xs)):=λ b o z=>by
  by_cases hb:b=a
  ·subst hb;rw [h2] at z;cases z
  ·rw [upd_ne hb];exact z
 refine ⟨⟨e.h,e.f.trans s,λ b o z=>?_,λ b hb fb=>?_⟩,.lst (SqL.of upd_same) (h3.mono s)⟩
 ·by_cases hb:b=a
  ·subst hb;rw [upd_same] at z;cases z;exact h1
  ·rw [upd_ne hb] at z;exact e.fh b o z
 ·have:b≠a:=λ z=>hb.1 (by rw [z];exact hn)
  rw [upd_ne this];exact e.nw b hb fb
theorem new_tup {F H:Hp} {p:Addr} {xs:List V} {ds:List D} (s:Same F H) (hn:H p=none) (h3:IsAll K F xs ds) :
  Ext F H (upd F p (.tup xs)) (upd H p (.tup xs))/\Is K (upd F p (.tup xs)) (.ref p) (.tuple ds):=by
 have fn:F p=none:=by
  cases e:F p with
 |none=>rfl
 |some o=>rw [s p o e] at hn;cases hn
 have sF:Same F (upd F p (.tup xs)):=same_new fn _
 refine ⟨⟨same_new hn _,sF,λ b o z=>?_,λ b hb fb=>?_⟩,.tup upd_same (h3.mono sF)⟩
 ·by_cases hb:b=p
  ·subst hb;rw [upd_same] at z ⊢;exact z
  ·rw [upd_ne hb] at z ⊢;exact s b o z
 ·have:b≠p:=λ z=>hb.1 (by rw [z];exact hn)
  rw [upd_ne this];exact fb
theorem new_lst {F H:Hp} {p:Addr} {xs:List V} (s:Same F H) (hn:H p=none):Ext F H F (upd H p (.lst xs))/\F p=none:=by
 have fn:F p=none:=by
  cases e:F p with
 |none=>rfl
 |some o=>rw [s p o e] at hn;cases hn
 refine ⟨⟨same_new hn _,λ _ _ z=>z,λ b o z=>?_,λ _ _ z=>z⟩,fn⟩
 exact same_new hn _ b o (s b o z)
theorem RfE.v (h:RfE K te de):RfV K te de:=λ s r d k=>h s r d λ x q v F' H' e i=>k x q v F' H' e (.inl i)
def dF (df:DF):DE:=λ δ Q=>df δ λ ds=>Q (.list ds)
theorem RfF.e {df:DF} (h:RfF K te df):RfE K te (dF df):=λ s r d k=>h s r d λ ds q a xs F' H' e hn h1 h2 h3=>by
 obtain ⟨e2,i2⟩:=frz_new e hn h1 h2 h3
 exact k _ q _ _ _ e2 i2
theorem RfF.v {df:DF} (h:RfF K te df):RfV K te (dF df):=RfE.v (RfF.e h)
def Sl.tree:Sl->Option T
|.ow t=>some t
|.bo t=>some t
|.io _ t=>some t
|.sh d=>some (.fz d)
|.un=>none
def fzT:T->(D->Prop)->Prop
|.fz d,Q=>Q d
|_,_=>False
def vwT:T->(D->Prop)->Prop
|.fz d,Q=>Q d
|.li ds,Q=>Q (.list ds)
|_,_=>False
def dVar (i:Nat):DE:=λ δ Q=>∃ s t,δ[i]?=some s/\s.tree=some t/\fzT t Q
def dVarV (i:Nat):DE:=λ δ Q=>∃ s t,δ[i]?=some s/\s.tree=some t/\vwT t Q
theorem slot_of {F H:Hp} {σ:L2.St} {δ:DSt} {i:Nat} {x:V} (e:σ.getD i none=some x):σ[i]?=some (some x):=by
 rw [List.getD_eq_getElem?_getD] at e
 cases q:σ[i]? with
|none=>rw [q] at e;cases e
|some v=>rw [q] at e;exact congrArg some e
theorem RSl.rt {F H:Hp} {v:Option V}:∀ {s:Sl} {t:T},RSl K F H v s->s.tree=some t->∃ x fp,v=some x/\Rt K F H x t fp/\fp.Nodup
|.un,_,_,e=>by cases e
|.sh d,_,⟨x,h1,h2⟩,e=>by cases e;exact ⟨x,[],h1,.fz h2,.nil⟩
|.ow _,_,⟨x,fp,h1,h2⟩,e=>by cases e;exact ⟨x,fp,h1,h2⟩
|.bo _,_,⟨x,fp,h1,h2⟩,e=>by cases e;exact ⟨x,fp,h1,h2⟩
|.io a _,_,⟨fp,h1,h2⟩,e=>by cases e;exact ⟨_,fp,h1,h2⟩
theorem vw_rt {F H:Hp} {x:V} {t:T} {fp:List Addr} {Q:D->Prop} (h:Rt K F H x t fp) (q:vwT t Q):∃ d,Q d/\Vw K F H x d:=by
 cases h with
|fz i=>exact ⟨_,q,.inl i⟩
|li h1 h2 h3=>exact ⟨_,q,.inr ⟨_,_,_,rfl,rfl,h1,h3⟩⟩
|ls _ _ _=>exact q.elim
|ob _ _ _ _ _=>exact q.elim
|dk _ _ _=>exact q.elim
|dt _ _ _=>exact q.elim
|tp _ _ _ _=>exact q.elim
|wh=>exact q.elim
|dz _ _ _=>exact q.elim
theorem fz_rt {F H:Hp} {x:V} {t:T} {fp:List Addr} {Q:D->Prop} (h:Rt K F H x t fp) (q:fzT t Q):∃ d,Q d/\Is K F x d:=by
 cases h with
|fz i=>exact ⟨_,q,i⟩
|li _ _ _=>exact q.elim
|ls _ _ _=>exact q.elim
|ob _ _ _ _ _=>exact q.elim
|dk _ _ _=>exact q.elim
|dt _ _ _=>exact q.elim
|tp _ _ _ _=>exact q.elim
|wh=>exact q.elim
|dz _ _ _=>exact q.elim
theorem rf_var (i:Nat):RfE K (tVar i) (dVar i):=by
 intro F H σ δ Qd Q s r h k
 obtain ⟨sl,t,q,et,f⟩:=h
 obtain ⟨x,fp,e,hr,_⟩:=(r.sl i _ q).rt et
 obtain ⟨d,qd,hi⟩:=fz_rt hr f
 exact ⟨x,slot_of (F:=F) (H:=H) (δ:=δ) e,k d qd x F H (Ext.refl s) hi⟩
theorem rf_varV (i:Nat):RfV K (tVar i) (dVarV i):=by
 intro F H σ δ Qd Q s r h k
 obtain ⟨sl,t,q,et,f⟩:=h
 obtain ⟨x,fp,e,hr,_⟩:=(r.sl i _ q).rt et
 obtain ⟨d,qd,hi⟩:=vw_rt hr f
 exact ⟨x,slot_of (F:=F) (H:=H) (δ:=δ) e,k d qd x F H (Ext.refl s) hi⟩
def dC (d:D):DE:=λ _ Q=>Q d
theorem rf_int {i:Int}:RfE K (tC (.int i)) (dC (.int i)):=λ s r h k=>k _ h _ _ _ (Ext.refl s) (.int i)
theorem rf_bl {b:Bool}:RfE K (tC (.bl b)) (dC (.bool b)):=λ s r h k=>k _ h _ _ _ (Ext.refl s) (.bl b)
theorem rf_str {x:Str}:RfE K (tC (.str x)) (dC (.str x)):=λ s r h k=>k _ h _ _ _ (Ext.refl s) (.str x)
def dOp (f:D->D->(D->Prop)->Prop) (da db:DE):DE:=λ δ Q=>da δ λ x=>db δ λ y=>f x y Q
def R2E (K:Fg) (r:R2) (f:D->D->(D->Prop)->Prop):Prop:=∀ {F H:Hp} {x y:V} {d e:D} {Qd:D->Prop} {Q:VK},Same F H->Vw K F H x d->Vw K F H y e->f d e Qd->(∀ z,Qd z->∀ v F' H',Ext F H F' H'->Is K F' v z->Q v H')->r x y H Q
def R2F (K:Fg) (r:R2) (f:D->D->(List D->Prop)->Prop):Prop:=∀ {F H:Hp} {x y:V} {d e:D} {Qd:List D->Prop} {Q:VK},Same F H->Vw K F H x d->Vw K F H y e->f d e Qd->(∀ ds,Qd ds->∀ a xs F' H',Ext F H F' H'->H a=none->H' a=some (.lst xs)->F' a=none->IsAll K F' xs ds->Q (.ref a) H')->r x y H Q
theorem rf_op {r:R2} {f:D->D->(D->Prop)->Prop} (hr:R2E K r f) (ha:RfV K ta da) (hb:RfV K tb db):RfE K (tOp r ta tb) (dOp f da db):=by
 intro F H σ δ Qd Q s rv h k
 refine ha s rv h λ x hx v F1 H1 e1 i1=>hb e1.fh (rv.ext e1) hx λ y hy u F2 H2 e2 i2=>?_
 exact hr e2.fh (i1.ext e2) i2 hy λ z hz w F3 H3 e3 i3=>k z hz w F3 H3 ((e1.trans e2).trans e3) i3
end
end L4
namespace L4
open PySem PySem.Spec PyProof.Rows L2 L3
section
variable {K:Fg} {te ta tb tc:TE} {de da db dc:DE} {tt tu:TT} {dt du:DT} {tA:TA} {dA:DF} {w:World}
def fAdd:D->D->(D->Prop)->Prop
|.int i,.int j,Q=>Q (.int (i+j))
|.str a,.str b,Q=>a.length+b.length<=sizeLine/\Q (.str (a++b))
|.list a,.list b,Q=>a.length+b.length<=sizeLine/\Q (.list (a++b))
|.tuple a,.tuple b,Q=>a≠[]/\b≠[]/\a.length+b.length<=sizeLine/\Q (.tuple (a++b))
|_,_,_=>False
def fCat:D->D->(List D->Prop)->Prop
|.list a,.list b,Q=>a.length+b.length<=sizeLine/\Q (a++b)
|_,_,_=>False
theorem r_cat:R2F K (rAddW K) fCat:=by
 intro F H x y d e Qd Q s hx hy h k
 unfold fCat at h
 split at h
 ·rename_i a b
  obtain ⟨p,xs,rfl,h1,i1⟩:=hx.list s
  obtain ⟨q,ys,rfl,h2,i2⟩:=hy.list s
  have e1:=i1.dlen
  have e2:=i2.dlen
  refine .inr ⟨p,q,xs,ys,rfl,rfl,h1,h2,by lia,λ l hl=>?_⟩
  obtain ⟨ex,fn⟩:=new_lst (xs:=xs++ys) s hl
  exact k _ h.2 l _ F _ ex hl upd_same fn (i1.dapp i2)
 ·exact h.elim
theorem r_add:R2E K (rAddW K) fAdd:=by
 intro F H x y d e Qd Q s hx hy h k
 unfold fAdd at h
 split at h
 ·cases hx.int;cases hy.int
  exact .inl (.inl ⟨_,_,rfl,rfl,k _ h _ F H (Ext.refl s) (.int _)⟩)
 ·cases hx.str;cases hy.str
  exact .inl (.inr (.inl ⟨_,_,rfl,rfl,h.1,k _ h.2 _ F H (Ext.refl s) (.str _)⟩))
 ·rename_i a b
  refine r_cat (Qd:=λ ds=>Qd (.list ds)) s hx hy h λ ds q l xs F' H' ex hn h1 h2 h3=>?_
  obtain ⟨e2,i2⟩:=frz_new ex hn h1 h2 h3
  exact k _ q _ _ _ e2 i2
 ·rename_i a b
  obtain ⟨p,xs,rfl,h1,_,i1⟩:=hx.tuple s
  obtain ⟨q,ys,rfl,h2,_,i2⟩:=hy.tuple s
  have e1:=i1.dlen
  have e2:=i2.dlen
  have n1:xs≠[]:=λ z=>h.1 (List.length_eq_zero_iff.mp (by rw [<- e1,z];rfl))
  have n2:ys≠[]:=λ z=>h.2.1 (List.length_eq_zero_iff.mp (by rw [<- e2,z];rfl))
  refine .inl (.inr (.inr (.inr ⟨p,q,xs,ys,rfl,rfl,h1,h2,n1,by lia,λ z=>absurd z n2,λ _ l hl=>?_⟩)))
  obtain ⟨ex,ii⟩:=new_tup (K:=K) (ds:=a++b) s hl (i1.dapp i2)
  exact k _ h.2.2.2 _ _ _ ex ii
 ·exact h.elim
def fI (C:Int->Int->Prop) (g:Int->Int->D):D->D->(D->Prop)->Prop
|.int i,.int j,Q=>C i j/\Q (g i j)
|_,_,_=>False
def fI0 (g:Int->Int->D):D->D->(D->Prop)->Prop
|.int i,.int j,Q=>Q (g i j)
|_,_,_=>False
theorem r_I {C:Int->Int->Prop} {g:Int->Int->V} {g':Int->Int->D} (hg:∀ i j (F:Hp),Is K F (g i j) (g' i j)):R2E K (rI C g) (fI C g'):=by
 intro F H x y d e Qd Q s hx hy h k
 unfold fI at h
 split at h
 ·cases hx.int;cases hy.int
  exact ⟨_,_,rfl,rfl,h.1,k _ h.2 _ F H (Ext.refl s) (hg _ _ _)⟩
 ·exact h.elim
theorem r_I0 {g:Int->Int->V} {g':Int->Int->D} (hg:∀ i j (F:Hp),Is K F (g i j) (g' i j)):R2E K (rI0 g) (fI0 g'):=by
 intro F H x y d e Qd Q s hx hy h k
 unfold fI0 at h
 split at h
 ·cases hx.int;cases hy.int
  exact ⟨_,_,rfl,rfl,k _ h _ F H (Ext.refl s) (hg _ _ _)⟩
 ·exact h.elim
abbrev fSub:=fI0 λ i j=>.int (i - j)
abbrev fDiv:=fI CDivW λ i j=>.int (i / j)
abbrev fMod:=fI (λ _ j=>0 < j) λ i j=>.int (i % j)
abbrev fPow:=fI CPow λ i j=>.int (i ^ j.toNat)
abbrev fLt:=fI0 λ i j=>.bool (decide (i < j))
abbrev fGe:=fI0 λ i j=>.bool (decide (j<=i))
theorem r_sub:R2E K (rI0 λ i j=>V.int (i - j)) fSub:=r_I0 λ _ _ _=>.int _
theorem r_div:R2E K (rI CDivW λ i j=>V.int (i / j)) fDiv:=r_I λ _ _ _=>.int _
theorem r_mod:R2E K (rI (λ _ j=>0 < j) λ i j=>V.int (i % j)) fMod:=r_I λ _ _ _=>.int _
theorem r_pow:R2E K (rI CPow λ i j=>V.int (i ^ j.toNat)) fPow:=r_I λ _ _ _=>.int _
theorem r_lt:R2E K (rI0 λ i j=>V.bl (decide (i < j))) fLt:=r_I0 λ _ _ _=>.bl _
theorem r_ge:R2E K (rI0 λ i j=>V.bl (decide (j<=i))) fGe:=r_I0 λ _ _ _=>.bl _
def fMul:D->D->(D->Prop)->Prop
|.int i,.int j,Q=>CMul i j/\Q (.int (i * j))
|.str z,.int n,Q=>0<=n/\z.length * n.toNat<=sizeLine/\n<=sizeLine/\Q (.str (repS z n.toNat))
|_,_,_=>False
theorem r_mul:R2E K rMulV fMul:=by
 intro F H x y d e Qd Q s hx hy h k
 unfold fMul at h
 split at h
 ·cases hx.int;cases hy.int
  exact .inl (.inl (.inl ⟨_,_,rfl,rfl,h.1,k _ h.2 _ F H (Ext.refl s) (.int _)⟩))
 ·cases hx.str;cases hy.int
  exact .inl (.inr ⟨_,_,rfl,rfl,h.1,h.2.1,h.2.2.1,k _ h.2.2.2 _ F H (Ext.refl s) (.str _)⟩)
 ·exact h.elim
def fEq:D->D->(D->Prop)->Prop
|.int i,.int j,Q=>Q (.bool (decide (i=j)))
|.str i,.str j,Q=>Q (.bool (decide (i=j)))
|.bool i,.bool j,Q=>Q (.bool (decide (i=j)))
|d,e,Q=>SeqAt.shaped d=true/\SeqAt.shaped e=true/\Q (.bool (PyData.eqv d e))
def fNe:D->D->(D->Prop)->Prop
|.int i,.int j,Q=>Q (.bool (!decide (i=j)))
|.str i,.str j,Q=>Q (.bool (!decide (i=j)))
|.bool i,.bool j,Q=>Q (.bool (!decide (i=j)))
|d,e,Q=>SeqAt.shaped d=true/\SeqAt.shaped e=true/\Q (.bool (!PyData.eqv d e))
theorem dec_int (i j:Int):decide (V.int i=V.int j)=decide (i=j):=by simp
theorem dec_str (i j:Str):decide (V.str i=V.str j)=decide (i=j):=by simp
theorem dec_bl (i j:Bool):decide (V.bl i=V.bl j)=decide (i=j):=by simp
def fIx:D->D->(D->Prop)->Prop
|.list ds,.int i,Q=>∃ d,atI ds i=some d/\Q d
|.tuple ds,.int i,Q=>∃ d,atI ds i=some d/\Q d
|.str z,.int i,Q=>z.length<=sizeLine/\∃ c,atI z.cps.toList i=some c/\Q (.str ⟨#[c]⟩)
|_,_,_=>False
theorem at_all {F:Hp} {xs:List V} {ds:List D} {i:Int} {d:D} (h:IsAll K F xs ds) (e:atI ds i=some d):∃ x,atI xs i=some x/\Is K F x d:=by
 unfold atI at e ⊢
 rw [h.dlen]
 cases q:ixN ds.length i with
|none=>rw [q] at e;cases e
|some j =>
  rw [q] at e
  obtain ⟨x,h1,h2⟩:=h.dget (show ds[j]?=some d from e)
  exact ⟨x,h1,h2⟩
theorem r_ix:R2E K (rIxV w K) fIx:=by
 intro F H x y d e Qd Q s hx hy h k
 unfold fIx at h
 split at h
 ·obtain ⟨z,ez,q⟩:=h
  obtain ⟨p,xs,rfl,h1,i1⟩:=hx.list s
  cases hy.int
  obtain ⟨v,ev,iv⟩:=at_all i1 ez
  exact .inl (.inl (.inl ⟨p,xs,_,v,rfl,rfl,h1,ev,k _ q _ F H (Ext.refl s) iv⟩))
 ·obtain ⟨z,ez,q⟩:=h
  obtain ⟨p,xs,rfl,h1,_,i1⟩:=hx.tuple s
  cases hy.int
  obtain ⟨v,ev,iv⟩:=at_all i1 ez
  exact .inl (.inl (.inr (.inl ⟨p,xs,_,v,rfl,rfl,h1,ev,k _ q _ F H (Ext.refl s) iv⟩)))
 ·obtain ⟨hz,c,ec,q⟩:=h
  cases hx.str;cases hy.int
  exact .inl (.inl (.inr (.inr ⟨_,_,c,rfl,rfl,hz,ec,k _ q _ F H (Ext.refl s) (.str _)⟩)))
 ·exact h.elim
def fB (d:D) (Q:Bool->Prop):Prop:=match d with
|.bool b=>Q b
|_=>False
theorem fB_is {F:Hp} {v:V} {d:D} {Q:Bool->Prop} (i:Is K F v d) (h:fB d Q):∃ b,v=.bl b/\Q b:=by
 unfold fB at h
 split at h
 ·exact ⟨_,i.bl_inv,h⟩
 ·exact h.elim
def dNotV (da:DE):DE:=λ δ Q=>da δ λ x=>fB x λ b=>Q (.bool (!b))
theorem rf_notV (ha:RfE K ta da):RfE K (tNotV ta) (dNotV da):=by
 intro F H σ δ Qd Q s rv h k
 refine ha s rv h λ x hx v F1 H1 e1 i1=>?_
 obtain ⟨b,rfl,q⟩:=fB_is i1 hx
 exact ⟨b,rfl,k _ q _ F1 H1 e1 (.bl _)⟩
def dAndV (da db:DE):DE:=λ δ Q=>da δ λ x=>fB x λ b=>if b=true then db δ Q else Q (.bool false)
theorem rf_andV (ha:RfE K ta da) (hb:RfE K tb db):RfE K (tAndV ta tb) (dAndV da db):=by
 intro F H σ δ Qd Q s rv h k
 refine ha s rv h λ x hx v F1 H1 e1 i1=>?_
 obtain ⟨b,rfl,q⟩:=fB_is i1 hx
 refine ⟨b,rfl,?_⟩
 cases b with
|true =>
  rw [if_pos rfl] at q ⊢
  exact hb e1.fh (rv.ext e1) q λ y hy u F2 H2 e2 i2=>k y hy u F2 H2 (e1.trans e2) i2
|false =>
  rw [if_neg Bool.false_ne_true] at q ⊢
  exact k _ q _ F1 H1 e1 (.bl _)
def dTest (de:DE):DT:=λ δ Q=>de δ λ d=>fB d Q
theorem rf_test (h:RfE K te de):RfT K (tTestU te) (dTest de):=by
 intro F H σ δ Qd Q s rv hd k
 refine h s rv hd λ x hx v F1 H1 e1 i1=>?_
 obtain ⟨b,rfl,q⟩:=fB_is i1 hx
 exact ⟨b,rfl,k b q F1 H1 e1⟩
def fTru:D->(Bool->Prop)->Prop
|.none,Q=>Q false
|.bool b,Q=>Q b
|.int i,Q=>Q (i != 0)
|.str z,Q=>z.length<=sizeLine/\Q ((z.length:Int) != 0)
|.list ds,Q=>Q (!ds.isEmpty)
|.tuple ds,Q=>Q (!ds.isEmpty)
|.dict _,_=>False
def dTru (de:DE):DT:=λ δ Q=>de δ λ d=>fTru d Q
theorem all_empty {F:Hp} {xs:List V} {ds:List D} (h:IsAll K F xs ds):xs.isEmpty=ds.isEmpty:=by cases h <;> rfl
theorem rf_tru (h:RfV K te de):RfT K (tTruU K te) (dTru de):=by
 intro F H σ δ Qd Q s rv hd k
 refine h s rv hd λ x hx v F1 H1 e1 i1=>?_
 unfold fTru at hx
 split at hx
 ·cases i1.is e1.fh;exact ⟨false,rfl,k _ hx F1 H1 e1⟩
 ·cases i1.bl;exact ⟨_,rfl,k _ hx F1 H1 e1⟩
 ·cases i1.int;exact ⟨_,rfl,k _ hx F1 H1 e1⟩
 ·cases i1.str;exact ⟨_,⟨hx.1,rfl⟩,k _ hx.2 F1 H1 e1⟩
 ·obtain ⟨p,xs,rfl,h1,i2⟩:=i1.list e1.fh
  refine ⟨_,.inl ⟨xs,h1,rfl⟩,?_⟩
  rw [all_empty i2];exact k _ hx F1 H1 e1
 ·obtain ⟨p,xs,rfl,h1,_,i2⟩:=i1.tuple e1.fh
  refine ⟨_,.inr (.inl ⟨xs,h1,rfl⟩),?_⟩
  rw [all_empty i2];exact k _ hx F1 H1 e1
 ·exact hx.elim
def dAnd (dt du:DT):DT:=λ δ Q=>dt δ λ b=>if b=true then du δ Q else Q false
def dOr (dt du:DT):DT:=λ δ Q=>dt δ λ b=>if b=true then Q true else du δ Q
def dNot (dt:DT):DT:=λ δ Q=>dt δ λ b=>Q (!b)
theorem rf_and (ht:RfT K tt dt) (hu:RfT K tu du):RfT K (tAnd tt tu) (dAnd dt du):=by
 intro F H σ δ Qd Q s rv h k
 refine ht s rv h λ b hb F1 H1 e1=>?_
 cases b with
|true =>
  rw [if_pos rfl] at hb ⊢
  exact hu e1.fh (rv.ext e1) hb λ c hc F2 H2 e2=>k c hc F2 H2 (e1.trans e2)
|false =>
  rw [if_neg Bool.false_ne_true] at hb ⊢
  exact k _ hb F1 H1 e1
theorem rf_or (ht:RfT K tt dt) (hu:RfT K tu du):RfT K (tOr tt tu) (dOr dt du):=by
 intro F H σ δ Qd Q s rv h k
 refine ht s rv h λ b hb F1 H1 e1=>?_
 cases b with
|false =>
  rw [if_neg Bool.false_ne_true] at hb ⊢
  exact hu e1.fh (rv.ext e1) hb λ c hc F2 H2 e2=>k c hc F2 H2 (e1.trans e2)
|true =>
  rw [if_pos rfl] at hb ⊢
  exact k _ hb F1 H1 e1
theorem rf_not (ht:RfT K tt dt):RfT K (tNot tt) (dNot dt):=λ s rv h k=>ht s rv h λ b hb F1 H1 e1=>k _ hb F1 H1 e1
def dIfE (dt:DT) (da db:DE):DE:=λ δ Q=>dt δ λ b=>if b=true then da δ Q else db δ Q
theorem rf_ifE (ht:RfT K tt dt) (ha:RfE K ta da) (hb:RfE K tb db):RfE K (tIf tt ta tb) (dIfE dt da db):=by
 intro F H σ δ Qd Q s rv h k
 refine ht s rv h λ b hb' F1 H1 e1=>?_
 cases b with
|true =>
  rw [if_pos rfl] at hb' ⊢
  exact ha e1.fh (rv.ext e1) hb' λ y hy u F2 H2 e2 i2=>k y hy u F2 H2 (e1.trans e2) i2
|false =>
  rw [if_neg Bool.false_ne_true] at hb' ⊢
  exact hb e1.fh (rv.ext e1) hb' λ y hy u F2 H2 e2 i2=>k y hy u F2 H2 (e1.trans e2) i2
def dNil:DF:=λ _ Q=>Q []
def dCons (da:DE) (dr:DF):DF:=λ δ Q=>da δ λ x=>dr δ λ xs=>Q (x :: xs)
theorem ra_nil:RfA K tNil dNil:=λ s rv h k=>k _ h _ _ _ (Ext.refl s) .nil
theorem ra_cons (ha:RfE K ta da) (hr:RfA K tA dA):RfA K (tCons ta tA) (dCons da dA):=by
 intro F H σ δ Qd Q s rv h k
 refine ha s rv h λ x hx v F1 H1 e1 i1=>hr e1.fh (rv.ext e1) hx λ xs hxs vs F2 H2 e2 i2=>?_
 exact k _ hxs _ F2 H2 (e1.trans e2) (.cons (i1.mono e2.f) i2)
theorem rw_nil:RfAV K tNil dNil:=λ s rv h k=>k _ h _ _ _ (Ext.refl s) .nil
theorem rw_cons (ha:RfV K ta da) (hr:RfAV K tA dA):RfAV K (tCons ta tA) (dCons da dA):=by
 intro F H σ δ Qd Q s rv h k
 refine ha s rv h λ x hx v F1 H1 e1 i1=>hr e1.fh (rv.ext e1) hx λ xs hxs vs F2 H2 e2 i2=>?_
 exact k _ hxs _ F2 H2 (e1.trans e2) (.cons (i1.ext e2) i2)
def dTup (dA:DF):DE:=λ δ Q=>dA δ λ xs=>xs.length<=sizeLine/\Q (.tuple xs)
theorem rf_tup (h:RfA K tA dA):RfE K (tTupU tA) (dTup dA):=by
 intro F H σ δ Qd Q s rv hd k
 refine h s rv hd λ xs hx vs F1 H1 e1 i1=>⟨by rw [i1.dlen];exact hx.1,λ p hp=>?_⟩
 obtain ⟨ex,ii⟩:=new_tup (K:=K) e1.fh hp i1
 exact k _ hx.2 _ _ _ (e1.trans ex) ii
def dLst (dA:DF):DF:=λ δ Q=>dA δ λ xs=>xs.length<=sizeLine/\Q xs
theorem rf_lst (h:RfA K tA dA):RfF K (tLstU tA) (dLst dA):=by
 intro F H σ δ Qd Q s rv hd k
 refine h s rv hd λ xs hx vs F1 H1 e1 i1=>⟨by rw [i1.dlen];exact hx.1,λ p hp=>?_⟩
 obtain ⟨ex,fn⟩:=new_lst (xs:=vs) e1.fh hp
 refine k _ hx.2 p vs F1 _ (e1.trans ex) ?_ upd_same fn i1
 cases q:H p with
|none=>rfl
|some o=>rw [e1.h p o q] at hp;cases hp
abbrev DSp:=List D->(D->Prop)->Prop
def spD (K:Fg) (p:DSp):Sp:=λ vs H Q _=>∃ F ds Qd,Same F H/\IsAll K F vs ds/\p ds Qd/\∀ d,Qd d->∀ v F' H',Ext F H F' H'->Is K F' v d->Q v H'
def dCall (p:DSp) (dA:DF):DE:=λ δ Q=>dA δ λ ds=>p ds Q
theorem rf_call {p:DSp} {E:XK} (h:RfA K tA dA):RfE K (tCall (spD K p) [] E tA) (dCall p dA):=by
 intro F H σ δ Qd Q s rv hd k
 refine h s rv hd λ ds hp vs F1 H1 e1 i1=>?_
 rw [List.append_nil]
 exact ⟨F1,ds,Qd,e1.fh,i1,hp,λ d q v F' H' e2 i2=>k d q v F' H' (e1.trans e2) i2⟩
def CB (K:Fg) (r:List V->Hp->VK->Prop) (f:List D->(D->Prop)->Prop):Prop:=∀ {F H:Hp} {vs:List V} {ds:List D} {Qd:D->Prop} {Q:VK},Same F H->VwAll K F H vs ds->f ds Qd->(∀ z,Qd z->∀ v F' H',Ext F H F' H'->Is K F' v z->Q v H')->r vs H Q
def CF (K:Fg) (r:List V->Hp->VK->Prop) (f:List D->(List D->Prop)->Prop):Prop:=∀ {F H:Hp} {vs:List V} {ds:List D} {Qd:List D->Prop} {Q:VK},Same F H->VwAll K F H vs ds->f ds Qd->(∀ z,Qd z->∀ a xs F' H',Ext F H F' H'->H a=none->H' a=some (.lst xs)->F' a=none->IsAll K F' xs z->Q (.ref a) H')->r vs H Q
def dCB (f:List D->(D->Prop)->Prop) (dA:DF):DE:=λ δ Q=>dA δ λ ds=>f ds Q
def dCF (f:List D->(List D->Prop)->Prop) (dA:DF):DF:=λ δ Q=>dA δ λ ds=>f ds Q
theorem rf_cb {r:List V->Hp->VK->Prop} {f:List D->(D->Prop)->Prop} (hr:CB K r f) (h:RfAV K tA dA):RfE K (tCB r tA) (dCB f dA):=by
 intro F H σ δ Qd Q s rv hd k
 refine h s rv hd λ ds hp vs F1 H1 e1 i1=>hr e1.fh i1 hp λ z q v F' H' e2 i2=>k z q v F' H' (e1.trans e2) i2
theorem rf_cf {r:List V->Hp->VK->Prop} {f:List D->(List D->Prop)->Prop} (hr:CF K r f) (h:RfAV K tA dA):RfF K (tCB r tA) (dCF f dA):=by
 intro F H σ δ Qd Q s rv hd k
 refine h s rv hd λ ds hp vs F1 H1 e1 i1=>hr e1.fh i1 hp λ z q a xs F' H' e2 hn h1 h2 h3=>k z q a xs F' H' (e1.trans e2) ?_ h1 h2 h3
 cases z:H a with
|none=>rfl
|some o=>rw [e1.h a o z] at hn;cases hn
theorem vw1 {F H:Hp} {vs:List V} {d:D} (h:VwAll K F H vs [d]):∃ v,vs=[v]/\Vw K F H v d:=by
 cases h with
|cons h r=>cases r;exact ⟨_,rfl,h⟩
theorem vw2 {F H:Hp} {vs:List V} {d e:D} (h:VwAll K F H vs [d,e]):∃ v u,vs=[v,u]/\Vw K F H v d/\Vw K F H u e:=by
 cases h with
|cons h r=>obtain ⟨u,rfl,r2⟩:=vw1 r;exact ⟨_,u,rfl,h,r2⟩
def fLen:List D->(D->Prop)->Prop
|[.list ds],Q=>Q (.int (ds.length:Nat))
|[.tuple ds],Q=>Q (.int (ds.length:Nat))
|[.str z],Q=>z.length<=sizeLine/\Q (.int (z.length:Nat))
|_,_=>False
theorem c_len:CB K (rLen K) fLen:=by
 intro F H vs ds Qd Q s hv h k
 unfold fLen at h
 split at h
 ·obtain ⟨v,rfl,hw⟩:=vw1 hv
  obtain ⟨p,xs,rfl,h1,i1⟩:=hw.list s
  refine ⟨_,_,rfl,.inl ⟨xs,h1,rfl⟩,?_⟩
  rw [i1.dlen];exact k _ h _ F H (Ext.refl s) (.int _)
 ·obtain ⟨v,rfl,hw⟩:=vw1 hv
  obtain ⟨p,xs,rfl,h1,_,i1⟩:=hw.tuple s
  refine ⟨_,_,rfl,.inr ⟨xs,h1,rfl⟩,?_⟩
  rw [i1.dlen];exact k _ h _ F H (Ext.refl s) (.int _)
 ·obtain ⟨v,rfl,hw⟩:=vw1 hv
  cases hw.str
  exact ⟨_,_,rfl,⟨h.1,rfl⟩,k _ h.2 _ F H (Ext.refl s) (.int _)⟩
 ·exact h.elim
def fMax2:List D->(D->Prop)->Prop
|[.int i,.int j],Q=>Q (.int (if j > i then j else i))
|_,_=>False
theorem c_max2:CB K rMax2 fMax2:=by
 intro F H vs ds Qd Q s hv h k
 unfold fMax2 at h
 split at h
 ·obtain ⟨v,u,rfl,h1,h2⟩:=vw2 hv
  cases h1.int;cases h2.int
  exact ⟨_,_,rfl,k _ h _ F H (Ext.refl s) (.int _)⟩
 ·exact h.elim
def intsD:List D->Option (List Int)
|[]=>some []
|.int i :: r=>(intsD r).map (i :: ·)
|_ :: _=>none
theorem ints_all {F:Hp}:∀ {xs:List V} {ds:List D} {ns:List Int},IsAll K F xs ds->intsD ds=some ns->xs=ns.map V.int
|_,_,_,.nil,e=>by cases e;rfl
|_,_,_,.cons h r,e=>by
  cases h with
 |int i =>
   unfold intsD at e
   obtain ⟨ms,e1,rfl⟩:=Option.map_eq_some_iff.mp e
   rw [ints_all r e1];rfl
 |_=>cases e
theorem ints_map (ns:List Int):intsD (ns.map PyData.int)=some ns:=by
 induction ns with
|nil=>rfl
|cons n r ih=>simp [intsD,ih]
def fSum:List D->(D->Prop)->Prop
|[.list ds],Q=>∃ ns,intsD ds=some ns/\Q (.int ns.sum)
|_,_=>False
theorem c_sum:CB K (rSum K) fSum:=by
 intro F H vs ds Qd Q s hv h k
 unfold fSum at h
 split at h
 ·obtain ⟨v,rfl,hw⟩:=vw1 hv
  obtain ⟨p,xs,rfl,h1,i1⟩:=hw.list s
  obtain ⟨ns,e,q⟩:=h
  have:=ints_all i1 e
  subst this
  exact ⟨p,ns,rfl,h1,k _ q _ F H (Ext.refl s) (.int _)⟩
 ·exact h.elim
def fList:List D->(List D->Prop)->Prop
|[.list ds],Q=>Q ds
|[.tuple ds],Q=>Q ds
|_,_=>False
theorem c_list:CF K (rList K) fList:=by
 intro F H vs ds Qd Q s hv h k
 unfold fList at h
 split at h
 ·obtain ⟨v,rfl,hw⟩:=vw1 hv
  obtain ⟨p,xs,rfl,h1,i1⟩:=hw.list s
  refine ⟨p,xs,rfl,.inl h1,λ l hl=>?_⟩
  obtain ⟨ex,fn⟩:=new_lst (xs:=xs) s hl
  exact k _ h l xs F _ ex hl upd_same fn i1
 ·obtain ⟨v,rfl,hw⟩:=vw1 hv
  obtain ⟨p,xs,rfl,h1,_,i1⟩:=hw.tuple s
  refine ⟨p,xs,rfl,.inr h1,λ l hl=>?_⟩
  obtain ⟨ex,fn⟩:=new_lst (xs:=xs) s hl
  exact k _ h l xs F _ ex hl upd_same fn i1
 ·exact h.elim
def tyD:D->String
|.none => "NoneType"|.bool _ => "bool"|.int _ => "int"|.str _ => "str"|.list _ => "list"|.tuple _ => "tuple"|.dict _ => "dict"
def isT (T:String) (d:D):Bool:=tyD d == T || (T == "int" && tyD d == "bool")
structure Kit (K:Fg):Prop where
 ok:∀ t∈["NoneType", "bool", "int", "str", "list", "tuple"],∀ T∈["int", "bool", "list", "tuple", "str"],PySem.W.kitOne K (.type t) (.type T)=some (t == T || (T == "int" && t == "bool"))
def dIs (T:String) (da:DE):DE:=λ δ Q=>da δ λ d=>(∀ kvs,d≠.dict kvs)/\Q (.bool (isT T d))
theorem rf_is {T:String} (kt:Kit K) (hT:T∈["int", "bool", "list", "tuple", "str"]) (ha:RfV K ta da):RfE K (tCB (rIsW K) (tCons ta (tCons (tC (.ty T)) tNil))) (dIs T da):=by
 intro F H σ δ Qd Q s rv hd k
 refine ha s rv hd λ d hd v F1 H1 e1 i1=>?_
 have q:=k _ hd.2 (.bl (isT T d)) F1 H1 e1 (.bl _)
 have i2:=i1.is e1.fh
 show rIsW K [v,.ty T] H1 Q
 cases i2 with
|non=>exact .inl ⟨_,_,_,_,_,rfl,rfl,.non,kt.ok _ (by simp) T hT,q⟩
|bl b=>exact .inl ⟨_,_,_,_,_,rfl,rfl,.bl b,kt.ok _ (by simp) T hT,q⟩
|int b=>exact .inl ⟨_,_,_,_,_,rfl,rfl,.int b,kt.ok _ (by simp) T hT,q⟩
|str b=>exact .inl ⟨_,_,_,_,_,rfl,rfl,.str b,kt.ok _ (by simp) T hT,q⟩
|lst h1 h2=>exact .inr ⟨_,_,_,_,rfl,rfl,.inl ⟨⟨_,h1⟩,kt.ok _ (by simp) T hT⟩,q⟩
|tup h1 h2=>exact .inr ⟨_,_,_,_,rfl,rfl,.inr ⟨⟨_,SqT.of h1⟩,kt.ok _ (by simp) T hT⟩,q⟩
|tuc h1 h2 _=>exact .inr ⟨_,_,_,_,rfl,rfl,.inr ⟨⟨_,h1⟩,kt.ok _ (by simp) T hT⟩,q⟩
end
section
variable {K:Fg} {te ta tb tc:TE} {de da db dc:DE} {tt tu:TT} {dt du:DT} {tA:TA} {dA:DF} {w:World}
abbrev DO:=DSt->(Option Int->Prop)->Prop
def dPart (de:DE):DO:=λ δ Q=>de δ λ d=>match d with
|.int i=>Q (some i)
|_=>False
variable {tl th tk:TO} {dl dh dk:DO}
theorem none_back {F H F' H':Hp} {p:Addr} (e:Ext F H F' H') (h:H' p=none):H p=none:=by
 cases q:H p with
|none=>rfl
|some o=>rw [e.h p o q] at h;cases h
def W0 (K:Fg) (J:It) (F H:Hp) (items:List D):Prop:=(∀ i,i < items.length->J.go i H)/\J.stop items.length H/\∀ i x H3 d,items[i]?=some d->J.yld i H x H3->H3=H/\Is K F x d
def W1 (K:Fg) (J:It) (F H:Hp) (items:List D):Prop:=(∀ i,i < items.length->J.go i H)/\J.stop items.length H/\∀ i x H3 d,items[i]?=some d->J.yld i H x H3->∃ F3,Ext F H F3 H3/\Is K F3 x d
def WD (K:Fg) (J:It) (F:Hp) (items:List D):Prop:=∀ F2 H2,Same F F2->Same F2 H2->W1 K J F2 H2 items
def WV (K:Fg) (J:It) (F H:Hp) (items:List D):Prop:=∀ F2 H2,Ext F H F2 H2->W1 K J F2 H2 items
theorem W0.w1 {J:It} {F H:Hp} {items:List D} (s:Same F H) (h:W0 K J F H items):W1 K J F H items:=⟨h.1,h.2.1,λ i x H3 d e y=>by
 obtain ⟨rfl,r⟩:=h.2.2 i x H3 d e y
 exact ⟨F,Ext.refl s,r⟩⟩
def RfI (K:Fg) (ti:TI) (di:DF):Prop:=∀ {F H:Hp} {σ:L2.St} {δ:DSt} {Qd:List D->Prop} {R:It->Hp->Prop},Same F H->RV K F H σ δ->di δ Qd->(∀ ds,Qd ds->∀ J F' H',Ext F H F' H'->WD K J F' ds->R J H')->ti σ H R
def RfJ (K:Fg) (ti:TI) (di:DF):Prop:=∀ {F H:Hp} {σ:L2.St} {δ:DSt} {Qd:List D->Prop} {R:It->Hp->Prop},Same F H->RV K F H σ δ->di δ Qd->(∀ ds,Qd ds->∀ J F' H',Ext F H F' H'->WV K J F' H' ds->R J H')->ti σ H R
theorem w0_list {F H:Hp} {a:Addr} {xs:List V} {ds:List D} (h:SqL K H a xs) (i:IsAll K F xs ds):W0 K (Itl K a) F H ds:=by
 have el:=i.dlen
 refine ⟨λ j hj=>⟨xs,xs[j]'(by lia),h,List.getElem?_eq_getElem _⟩,⟨xs,h,by lia⟩,λ j x H3 d e y=>?_⟩
 obtain ⟨e3,y⟩:=y
 obtain ⟨x',h1,h2⟩:=i.dget e
 have:=y xs h
 rw [h1] at this;cases this
 exact ⟨e3,h2⟩
theorem w0_tup {F H:Hp} {a:Addr} {xs:List V} {ds:List D} (h:SqT K H a xs) (i:IsAll K F xs ds):W0 K (Itt K a) F H ds:=by
 have el:=i.dlen
 refine ⟨λ j hj=>⟨xs,xs[j]'(by lia),h,List.getElem?_eq_getElem _⟩,⟨xs,h,by lia⟩,λ j x H3 d e y=>?_⟩
 obtain ⟨e3,y⟩:=y
 obtain ⟨x',h1,h2⟩:=i.dget e
 have:=y xs h
 rw [h1] at this;cases this
 exact ⟨e3,h2⟩
def fIter:D->(List D->Prop)->Prop
|.list ds,Q=>Q ds
|.tuple ds,Q=>Q ds
|.str z,Q=>z.cps.all (· < 128)=true/\Q (z.cps.toList.map λ c=>.str ⟨#[c]⟩)
|_,_=>False
def dIt (de:DE):DF:=λ δ Q=>de δ λ d=>fIter d Q
theorem w1_str {F H:Hp} (z:Str) (s:Same F H):W1 K (Its z) F H (z.cps.toList.map λ c=>.str ⟨#[c]⟩):=by
 have el:(z.cps.toList.map λ c=>(PyData.str ⟨#[c]⟩)).length=z.cps.size:=by simp
 refine ⟨λ j hj=>by rw [el] at hj;exact hj,by rw [el];exact Nat.le_refl _,λ j x H3 d e y=>?_⟩
 obtain ⟨e3,c,e1,e2⟩:=y
 subst e3
 rw [List.getElem?_map,Array.getElem?_toList,e1] at e
 simp at e
 subst e
 exact ⟨F,Ext.refl s,by rw [e2];exact .str _⟩
theorem rj_of (h:RfV K te de):RfJ K (iW K te) (dIt de):=by
 intro F H σ δ Qd R s rv hd k
 refine h s rv hd λ d hx v F1 H1 e1 i1=>?_
 unfold fIter at hx
 split at hx
 ·obtain ⟨p,xs,rfl,h1,i2⟩:=i1.list e1.fh
  exact .inl (.inl ⟨p,rfl,⟨xs,h1⟩,k _ hx _ F1 H1 e1 λ F2 H2 e2=>(w0_list (e2.h.seq h1) (i2.mono e2.f)).w1 e2.fh⟩)
 ·obtain ⟨p,xs,rfl,h1,_,i2⟩:=i1.tuple e1.fh
  exact .inl (.inr ⟨p,rfl,⟨xs,h1⟩,k _ hx _ F1 H1 e1 λ F2 H2 e2=>(w0_tup (sseqT e2.h h1) (i2.mono e2.f)).w1 e2.fh⟩)
 ·cases i1.str
  exact .inr ⟨_,rfl,hx.1,k _ hx.2 _ F1 H1 e1 λ F2 H2 e2=>w1_str _ e2.fh⟩
 ·exact hx.elim
theorem ri_of (h:RfE K te de):RfI K (iW K te) (dIt de):=by
 intro F H σ δ Qd R s rv hd k
 refine h s rv hd λ d hx v F1 H1 e1 i1=>?_
 unfold fIter at hx
 split at hx
 ·obtain ⟨p,xs,rfl,h1,i2⟩:=i1.list_inv
  exact .inl (.inl ⟨p,rfl,⟨xs,e1.fh.seq h1⟩,k _ hx _ F1 H1 e1 λ F2 H2 s2 t2=>(w0_list (t2.seq (s2.seq h1)) (i2.mono s2)).w1 t2⟩)
 ·obtain ⟨p,xs,rfl,h1,i2⟩:=i1.tuple_inv
  exact .inl (.inr ⟨p,rfl,⟨xs,sseqT e1.fh h1⟩,k _ hx _ F1 H1 e1 λ F2 H2 s2 t2=>(w0_tup (sseqT t2 (sseqT s2 h1)) (i2.mono s2)).w1 t2⟩)
 ·cases i1.str_inv
  exact .inr ⟨_,rfl,hx.1,k _ hx.2 _ F1 H1 e1 λ F2 H2 s2 t2=>w1_str _ t2⟩
 ·exact hx.elim
theorem RfI.j {ti:TI} {di:DF} (h:RfI K ti di):RfJ K ti di:=λ s rv hd k=>h s rv hd λ ds q J F' H' e w=>k ds q J F' H' e λ F2 H2 e2=>w F2 H2 e2.f e2.fh
def rngD (lo:Int) (n:Nat):List D:=(List.range n).map λ i=>.int (lo+(i:Nat))
theorem rngD_len (lo:Int) (n:Nat):(rngD lo n).length=n:=by simp [rngD]
theorem rngD_get {lo:Int} {n i:Nat} {d:D} (e:(rngD lo n)[i]?=some d):i < n/\d=.int (lo+(i:Nat)):=by
 unfold rngD at e
 rw [List.getElem?_map] at e
 obtain ⟨j,hj,rfl⟩:=Option.map_eq_some_iff.mp e
 obtain ⟨h1,h2⟩:=List.getElem?_eq_some_iff.mp hj
 simp at h1 h2
 subst h2
 exact ⟨h1,rfl⟩
theorem w1_rng {F H:Hp} (lo:Int) (n:Nat) (s:Same F H):W1 K (Itr lo n) F H (rngD lo n):=by
 refine ⟨λ j hj=>by rw [rngD_len] at hj;exact hj,by rw [rngD_len];exact Nat.le_refl _,λ j x H3 d e y=>?_⟩
 obtain ⟨e3,y⟩:=y
 subst e3
 obtain ⟨_,rfl⟩:=rngD_get e
 exact ⟨F,Ext.refl s,by rw [y];exact .int _⟩
def dRng1 (dA:DF):DF:=λ δ Q=>dA δ λ ds=>match ds with
|[.int j]=>-(2 ^ 62)<=j/\j < 2 ^ 62/\Q (rngD 0 j.toNat)
|_=>False
theorem ri_rng1 (h:RfA K tA dA):RfI K (iRng1 tA) (dRng1 dA):=by
 intro F H σ δ Qd R s rv hd k
 refine h s rv hd λ ds hx vs F1 H1 e1 i1=>?_
 split at hx
 ·cases i1 with
 |cons h1 r1 =>
   cases r1
   cases h1.int_inv
   exact ⟨_,rfl,hx.1,hx.2.1,k _ hx.2.2 _ F1 H1 e1 λ F2 H2 s2 t2=>w1_rng _ _ t2⟩
 ·exact hx.elim
def dRng2 (dA:DF):DF:=λ δ Q=>dA δ λ ds=>match ds with
|[.int i,.int j]=>(-(2 ^ 62)<=i/\i < 2 ^ 62/\-(2 ^ 62)<=j/\j < 2 ^ 62)/\Q (rngD i (j - i).toNat)
|_=>False
theorem ri_rng2 (h:RfA K tA dA):RfI K (iRng2 tA) (dRng2 dA):=by
 intro F H σ δ Qd R s rv hd k
 refine h s rv hd λ ds hx vs F1 H1 e1 i1=>?_
 split at hx
 ·cases i1 with
 |cons h1 r1 =>
   cases r1 with
  |cons h2 r2 =>
    cases r2
    cases h1.int_inv
    cases h2.int_inv
    exact ⟨_,_,rfl,hx.1,k _ hx.2 _ F1 H1 e1 λ F2 H2 s2 t2=>w1_rng _ _ t2⟩
 ·exact hx.elim
theorem all1 {F:Hp} {vs:List V} {d:D} (h:IsAll K F vs [d]):∃ v,vs=[v]/\Is K F v d:=by
 cases h with
|cons h r=>cases r;exact ⟨_,rfl,h⟩
end
inductive Upd (K:Fg) (F:Hp) (n:Nat):L2.St->DSt->L2.St->DSt->Prop
|refl {σ:L2.St} {δ:DSt}:Upd K F n σ δ σ δ
|set {σ σ':L2.St} {δ δ':DSt} {i:Nat} {v:V} {d:D}:i < n->Is K F v d->Upd K F n (σ.set i (some v)) (δ.set i (.sh d)) σ' δ'->Upd K F n σ δ σ' δ'
theorem getD_set {σ:L2.St} {i j:Nat} {v:Option V}:(σ.set i v).getD j none=if i=j/\j < σ.length then v else σ.getD j none:=by
 rw [List.getD_eq_getElem?_getD,List.getD_eq_getElem?_getD,List.getElem?_set]
 by_cases h:i=j
 ·subst h
  by_cases h2:i < σ.length
  ·simp [h2]
  ·simp [h2]
 ·simp [h]
theorem RV.set {K:Fg} {F H:Hp} {σ:L2.St} {δ:DSt} {i:Nat} {v:V} {sl:Sl} (r:RV K F H σ δ) (h:RSl K F H (some v) sl):RV K F H (σ.set i (some v)) (δ.set i sl):=by
 refine ⟨by rw [List.length_set,List.length_set];exact r.len,λ j s e=>?_⟩
 rw [List.getElem?_set] at e
 rw [getD_set,r.len]
 by_cases hij:i=j
 ·subst hij
  by_cases hl:i < δ.length
  ·simp [hl] at e ⊢;subst e;exact h
  ·simp [hl] at e
 ·simp [hij] at e ⊢;exact r.sl j s e
theorem Upd.rv {K:Fg} {F H:Hp} {n:Nat} {σ σ':L2.St} {δ δ':DSt} (u:Upd K F n σ δ σ' δ') (r:RV K F H σ δ):RV K F H σ' δ':=by
 induction u with
|refl=>exact r
|set hi hv _ ih=>exact ih (r.set ⟨_,rfl,hv⟩)
theorem Upd.keep {K:Fg} {F:Hp} {n:Nat} {σ σ':L2.St} {δ δ':DSt} (u:Upd K F n σ δ σ' δ'):σ'.length=σ.length/\∀ i,n<=i->σ'.getD i none=σ.getD i none:=by
 induction u with
|refl=>exact ⟨rfl,λ _ _=>rfl⟩
|set hi hv _ ih =>
  refine ⟨by rw [ih.1,List.length_set],λ j hj=>?_⟩
  rw [ih.2 j hj,getD_set,if_neg (by lia)]
abbrev DG:=D->DSt->(DSt->Prop)->Prop
abbrev DGs:=List D->DSt->(DSt->Prop)->Prop
def RfG (K:Fg) (n:Nat) (g:TG) (dg:DG):Prop:=∀ {F H:Hp} {σ:L2.St} {δ:DSt} {v:V} {d:D} {Gd:DSt->Prop} {G:L2.St->Hp->Prop},Same F H->Is K F v d->dg d δ Gd->(∀ σ' δ',Gd δ'->Upd K F n σ δ σ' δ'->G σ' H)->g v σ H G
def RfGs (K:Fg) (n:Nat) (g:TGs) (dg:DGs):Prop:=∀ {F H:Hp} {σ:L2.St} {δ:DSt} {vs:List V} {ds:List D} {Gd:DSt->Prop} {G:L2.St->Hp->Prop},Same F H->IsAll K F vs ds->dg ds δ Gd->(∀ σ' δ',Gd δ'->Upd K F n σ δ σ' δ'->G σ' H)->g vs σ H G
def gN (i:Nat):DG:=λ d δ G=>G (δ.set i (.sh d))
def gsNil:DGs:=λ ds δ G=>match ds with
|[]=>G δ
|_=>False
def gsCons (g:DG) (gs:DGs):DGs:=λ ds δ G=>match ds with
|d :: r=>g d δ λ δ'=>gs r δ' G
|[]=>False
def gT (n:Nat) (gs:DGs):DG:=λ d δ G=>match d with
|.tuple ds=>ds.length=n/\gs ds δ G
|_=>False
section
variable {K:Fg} {n m:Nat}
theorem rg_name {i:Nat} (hi:i < n):RfG K n (gName i) (gN i):=λ s h hd k=>k _ _ hd (.set hi h .refl)
theorem rgs_nil:RfGs K n gNil gsNil:=by
 intro F H σ δ vs ds Gd G s h hd k
 unfold gsNil at hd
 split at hd
 ·cases h;exact ⟨rfl,k _ _ hd .refl⟩
 ·exact hd.elim
theorem Upd.trans {F:Hp} {σ σ1 σ2:L2.St} {δ δ1 δ2:DSt} (a:Upd K F n σ δ σ1 δ1) (b:Upd K F n σ1 δ1 σ2 δ2):Upd K F n σ δ σ2 δ2:=by
 induction a with
|refl=>exact b
|set hi hv _ ih=>exact .set hi hv (ih b)
theorem rgs_cons {g:TG} {dg:DG} {gs:TGs} {dgs:DGs} (h1:RfG K n g dg) (h2:RfGs K n gs dgs):RfGs K n (gCons g gs) (gsCons dg dgs):=by
 intro F H σ δ vs ds Gd G s h hd k
 unfold gsCons at hd
 split at hd
 ·cases h with
 |cons hx hr =>
   refine ⟨_,_,rfl,h1 s hx hd λ σ1 δ1 hd1 u1=>h2 s hr hd1 λ σ2 δ2 hd2 u2=>k _ _ hd2 (u1.trans u2)⟩
 ·exact hd.elim
theorem rg_tup {gs:TGs} {dgs:DGs} (h:RfGs K n gs dgs):RfG K n (gTup K m gs) (gT m dgs):=by
 intro F H σ δ v d Gd G s hv hd k
 unfold gT at hd
 split at hd
 ·obtain ⟨a,xs,rfl,h1,h2⟩:=hv.tuple_inv
  exact ⟨a,xs,rfl,sseqT s h1,by rw [h2.dlen];exact hd.1,h s h2 hd.2 k⟩
 ·exact hd.elim
end
def cST (n:Nat) (ix:List Nat) (δ:DSt):DSt:=List.replicate n .un++ix.map λ i=>δ.getD i .un
theorem cST_rv {K:Fg} {F H:Hp} {σ:L2.St} {δ:DSt} (n:Nat) (ix:List Nat) (r:RV K F H σ δ):RV K F H (compσ n ix σ) (cST n ix δ):=by
 refine ⟨by simp [compσ,cST],λ i s e=>?_⟩
 unfold cST at e
 unfold compσ
 by_cases h:i < n
 ·rw [List.getElem?_append_left (by simpa using h)] at e
  simp [List.getElem?_replicate,h] at e
  subst e;trivial
 ·rw [List.getElem?_append_right (by simpa using h)] at e
  rw [List.getD_eq_getElem?_getD,List.getElem?_append_right (by simpa using h)]
  simp only [List.length_replicate,List.getElem?_map] at e ⊢
  obtain ⟨j,hj,rfl⟩:=Option.map_eq_some_iff.mp e
  rw [hj]
  show RSl K F H (σ.getD j none) _
  cases q:δ[j]? with
 |none=>rw [show δ.getD j .un=.un by rw [List.getD_eq_getElem?_getD,q];rfl];trivial
 |some t=>rw [show δ.getD j .un=t by rw [List.getD_eq_getElem?_getD,q];rfl];exact r.sl j t q
theorem RV.caps {K:Fg} {F H:Hp} {σ σ':L2.St} {n:Nat} {ix:List Nat} {δ:DSt} (r:RV K F H σ (cST n ix δ)) (hl:σ'.length=σ.length) (hk:∀ i,n<=i->σ'.getD i none=σ.getD i none):RV K F H σ' (cST n ix δ):=by
 refine ⟨by rw [hl];exact r.len,λ i s e=>?_⟩
 by_cases h:i < n
 ·unfold cST at e
  rw [List.getElem?_append_left (by simpa using h)] at e
  simp [List.getElem?_replicate,h] at e
  subst e;trivial
 ·rw [hk i (by lia)];exact r.sl i s e
def dComp (di:DF) (n:Nat) (ix:List Nat) (dg:DG) (dt:DT) (de:DE):DF:=λ δ Q=>di δ λ items=>items.length<=sizeLine/\∃ R:Nat->Option D->Prop,
 (∀ i d,items[i]?=some d->dg d (cST n ix δ) λ δ'=>dt δ' λ b=>if b=true then de δ' λ r=>R i (some r) else R i none) /\
 ∀ os:List (Option D),os.length=items.length->(∀ (j:Nat) o,os[j]?=some o->R j o)->Q (os.filterMap id)
def dTrue:DT:=λ _ Q=>Q true
section
variable {K:Fg} {wi:TI} {di:DF} {n:Nat} {ix:List Nat} {g:TG} {dg:DG} {tt:TT} {dt:DT} {te:TE} {de:DE}
theorem rt_true:RfT K tTrue dTrue:=λ s rv h k=>k _ h _ _ (Ext.refl s)
theorem rf_comp (hi:RfJ K wi di) (hg:RfG K n g dg) (ht:RfT K tt dt) (he:RfE K te de):RfF K (tComp wi n ix g tt te) (dComp di n ix dg dt de):=by
 intro F H σ δ Qd Q s rv hd k
 refine hi s rv hd λ items hx J F1 H1 e1 wj D hD=>?_
 obtain ⟨hz,R,hR,hQ⟩:=hx
 have rv1:=cST_rv n ix (rv.ext e1)
 have F1D:F1 D=none:=by
  cases q:F1 D with
 |none=>rfl
 |some o=>rw [e1.fh D o q] at hD;cases hD
 refine ⟨λ i m acc σ' H'=>m=items.length - i/\i<=items.length/\σ'.length=(compσ n ix σ).length/\(∀ j,n<=j->σ'.getD j none=(compσ n ix σ).getD j none)/\∃ (F':Hp) (os:List (Option PyData)),Ext F1 H1 F' H'/\F' D=none/\H' D=some (.lst acc)/\os.length=i/\(∀ (j:Nat) o,os[j]?=some o->R j o)/\IsAll K F' acc (os.filterMap id),⟨items.length,rfl,Nat.zero_le _,rfl,λ _ _=>rfl,F1,[],?_,F1D,upd_same,rfl,λ j o e=>by simp at e,.nil⟩,?_⟩
 ·exact (new_lst (xs:=[]) e1.fh hD).1
 rintro i m acc σ' H' ⟨rfl,hi',hl,hk,F',os,ex,fD,hDD,hos,hRs,hall⟩
 obtain ⟨go,stop,yld⟩:=wj F' H' ex
 by_cases hlt:i < items.length
 ·refine .inr ⟨go i hlt,λ acc' σ2 H2=>i+1<=items.length/\σ2.length=(compσ n ix σ).length/\(∀ j,n<=j->σ2.getD j none=(compσ n ix σ).getD j none)/\∃ (F':Hp) (os:List (Option PyData)),Ext F1 H1 F' H2/\F' D=none/\H2 D=some (.lst acc')/\os.length=i+1/\(∀ (j:Nat) o,os[j]?=some o->R j o)/\IsAll K F' acc' (os.filterMap id),λ acc' σ2 H2 p=>⟨items.length - (i+1),by lia,rfl,p⟩,λ x H2 y=>?_⟩
  have hit:items[i]?=some items[i]:=List.getElem?_eq_getElem hlt
  obtain ⟨F2,ex2,ix2⟩:=yld i x H2 _ hit y
  have rv2:RV K F2 H2 σ' (cST n ix δ):=RV.caps (rv1.ext (ex.trans ex2)) hl hk
  have hRn:∀ o,R i o->∀ (j:Nat) o',(os++[o])[j]?=some o'->R j o':=λ o ho j o' e=>by
   rcases Nat.lt_trichotomy j os.length with h|h|h
   ·rw [List.getElem?_append_left h] at e;exact hRs j o' e
   ·subst h;rw [List.getElem?_append_right (Nat.le_refl _)] at e;simp at e;subst e;rw [hos];exact ho
   ·rw [List.getElem?_append_right (Nat.le_of_lt h)] at e
    cases q:j - os.length with
   |zero=>lia
   |succ z=>rw [q] at e;simp at e
  refine hg ex2.fh ix2 (hR i _ hit) λ σ2 δ2 hd2 u2=>?_
  have rv3:=u2.rv rv2
  have kp:=u2.keep
  have hl2:σ2.length=(compσ n ix σ).length:=by rw [kp.1,hl]
  have hk2:∀ j,n<=j->σ2.getD j none=(compσ n ix σ).getD j none:=λ j hj=>by rw [kp.2 j hj,hk j hj]
  refine ht ex2.fh rv3 hd2 λ b hb F4 H4 e4=>?_
  have e24:=ex2.trans e4
  have hD4:H4 D=some (.lst acc):=e24.h _ _ hDD
  have fD4:F4 D=none:=e24.nwo hDD (λ _=>nofun) fD
  cases b with
 |true =>
   rw [if_pos rfl] at hb ⊢
   refine he e4.fh (rv3.ext e4) hb λ r hr v F5 H5 e5 i5=>?_
   have e25:=e24.trans e5
   have hD5:H5 D=some (.lst acc):=e25.h _ _ hDD
   have fD5:F5 D=none:=e25.nwo hDD (λ _=>nofun) fD
   have hlen:acc.length<=i:=by
    rw [hall.dlen,<- hos];exact List.length_filterMap_le _ _
   have e15:=ex.trans e25
   refine ⟨hD5,by lia,hlt,hl2,hk2,F5,os++[some r],⟨λ b o hb=>?_,e15.f,λ b o hb=>?_,e15.nw⟩,fD5,upd_same,by simp [hos],hRn _ hr,?_⟩
   ·have:b≠D:=λ z=>by subst z;rw [hD] at hb;cases hb
    rw [upd_ne this];exact e15.h b o hb
   ·have:b≠D:=λ z=>by subst z;rw [fD5] at hb;cases hb
    rw [upd_ne this];exact e15.fh b o hb
   ·rw [List.filterMap_append]
    exact (hall.mono e25.f).dapp (.cons i5 .nil)
 |false =>
   rw [if_neg Bool.false_ne_true] at hb ⊢
   refine ⟨hlt,hl2,hk2,F4,os++[none],ex.trans e24,fD4,hD4,by simp [hos],hRn _ hb,?_⟩
   rw [List.filterMap_append]
   have:List.filterMap id [(none:Option PyData)]=[]:=rfl
   rw [this,List.append_nil]
   exact hall.mono e24.f
 ·have e:i=items.length:=by lia
  refine .inl ⟨by rw [e];exact stop,k _ (hQ os (by lia) hRs) D acc F' H' (e1.trans ex) ?_ hDD fD hall⟩
  exact none_back e1 hD
end
inductive Stp where
|ix (j:Nat)|fl (f:Str)
abbrev Pth:=List Stp
def putA (f:Str) (t:T):List (Str×T)->List (Str×T)
|[]=>[(f,t)]
|(g,x) :: r=>if g=f then (g,t) :: r else (g,x) :: putA f t r
def setP:T->Pth->T->T
|_,[],u=>u
|.ls ts,.ix j :: p,u=>match ts[j]? with
 |some t=>.ls (ts.set j (setP t p u))
 |none=>.ls ts
|.tp ts,.ix j :: p,u=>match ts[j]? with
 |some t=>.tp (ts.set j (setP t p u))
 |none=>.tp ts
|.ob C fs,.fl f :: p,u=>match fs.lookup f with
 |some t=>.ob C (putA f (setP t p u) fs)
 |none=>.ob C fs
|t,_,_=>t
inductive At (H:Hp):V->T->Pth->V->T->Prop
|nil {v:V} {t:T}:At H v t [] v t
|ix {a:Addr} {xs:List V} {ts:List T} {j:Nat} {x v:V} {t u:T} {p:Pth}:H a=some (.lst xs)->xs[j]?=some x->ts[j]?=some t->At H x t p v u->At H (.ref a) (.ls ts) (.ix j :: p) v u
|tx {a:Addr} {xs:List V} {ts:List T} {j:Nat} {x v:V} {t u:T} {p:Pth}:H a=some (.tup xs)->xs[j]?=some x->ts[j]?=some t->At H x t p v u->At H (.ref a) (.tp ts) (.ix j :: p) v u
|fl {a C dx:Addr} {fs:List (Str×V)} {ts:List (Str×T)} {f:Str} {x v:V} {t u:T} {p:Pth}:H a=some (.ins C dx fs)->fs.lookup f=some x->ts.lookup f=some t->At H x t p v u->At H (.ref a) (.ob C ts) (.fl f :: p) v u
theorem At.mono {H H':Hp} (s:Same H H') {v v':V} {t t':T} {p:Pth} (h:At H v t p v' t'):At H' v t p v' t':=by
 induction h with
|nil=>exact .nil
|ix h1 h2 h3 _ ih=>exact .ix (s _ _ h1) h2 h3 ih
|tx h1 h2 h3 _ ih=>exact .tx (s _ _ h1) h2 h3 ih
|fl h1 h2 h3 _ ih=>exact .fl (s _ _ h1) h2 h3 ih
theorem At.snoc_fl {H:Hp} {v x:V} {t u:T} {ts:List (Str×T)} {a C dx:Addr} {fs:List (Str×V)} {f:Str} {p:Pth} (h:At H v t p (.ref a) (.ob C ts)) (h1:H a=some (.ins C dx fs)) (h2:fs.lookup f=some x) (h3:ts.lookup f=some u):At H v t (p++[.fl f]) x u:=by
 generalize e:V.ref a=w at h
 generalize e2:T.ob C ts=z at h
 induction h with
|nil=>subst e e2;exact .fl h1 h2 h3 .nil
|ix g1 g2 g3 _ ih=>exact .ix g1 g2 g3 (ih e e2)
|tx g1 g2 g3 _ ih=>exact .tx g1 g2 g3 (ih e e2)
|fl g1 g2 g3 _ ih=>exact .fl g1 g2 g3 (ih e e2)
section
variable {K:Fg}
theorem RtAll.len {F H:Hp}:∀ {xs:List V} {ts:List T} {fp:List Addr},RtAll K F H xs ts fp->xs.length=ts.length
|_,_,_,.nil=>rfl
|_,_,_,.cons _ r=>congrArg (·+1) (RtAll.len r)
theorem RtAll.split {F H:Hp}:∀ {xs:List V} {ts:List T} {fp:List Addr} {j:Nat} {x:V} {t:T},RtAll K F H xs ts fp->xs[j]?=some x->ts[j]?=some t ->
  ∃ fA fj fB,fp=fA++(fj++fB)/\Rt K F H x t fj/\∀ {F2 H2:Hp} {u:T} {fq:List Addr},Same F F2->(∀ b∈fA++fB,H2 b=H b/\F2 b=none)->Rt K F2 H2 x u fq->RtAll K F2 H2 xs (ts.set j u) (fA++(fq++fB))
|_,_,_,_,_,_,.nil,e,_=>by simp at e
|_,_,_,0,x,t,.cons (fp:=fp) (fq:=fq) h r,e1,e2=>by
  simp at e1 e2;subst e1 e2
  exact ⟨[],fp,fq,rfl,h,λ s k g=>(by have z:=RtAll.cons g (r.frame s λ b hb=>k b (by simp [hb]));exact z)⟩
|_,_,_,j+1,x,t,.cons (fp:=fp) (fq:=fq) h r,e1,e2=>by
  obtain ⟨fA,fj,fB,e,hr,g⟩:=RtAll.split (j:=j) r (by simpa using e1) (by simpa using e2)
  refine ⟨fp++fA,fj,fB,by rw [e,List.append_assoc],hr,λ s k hu=>?_⟩
  rw [List.append_assoc]
  exact .cons (h.frame s λ b hb=>k b (by simp [hb])) (g s (λ b hb=>k b (by rcases List.mem_append.mp hb with z|z <;> simp [z])) hu)
theorem RtFs.split {F H:Hp}:∀ {xs:List (Str×V)} {ts:List (Str×T)} {fp:List Addr} {f:Str} {x:V} {t:T},RtFs K F H xs ts fp->xs.lookup f=some x->ts.lookup f=some t ->
  ∃ fA fj fB,fp=fA++(fj++fB)/\Rt K F H x t fj/\(∀ {F2 H2:Hp} {u:T} {fq:List Addr},Same F F2->(∀ b∈fA++fB,H2 b=H b/\F2 b=none)->Rt K F2 H2 x u fq->RtFs K F2 H2 xs (putA f u ts) (fA++(fq++fB))) /\
   (∀ {F2 H2:Hp} {y:V} {u:T} {fq:List Addr},Same F F2->(∀ b∈fA++fB,H2 b=H b/\F2 b=none)->Rt K F2 H2 y u fq->RtFs K F2 H2 (putF f y xs) (putA f u ts) (fA++(fq++fB)))
|_,_,_,_,_,_,.nil,e,_=>by cases e
|_,_,_,f,x,t,.cons (f:=g) (x:=x') (t:=t') (fp:=fp) (fq:=fq) h r,e1,e2=>by
  by_cases hg:f=g
  ·subst hg
   simp [List.lookup] at e1 e2
   subst e1 e2
   refine ⟨[],fp,fq,rfl,h,λ s k u=>?_,λ s k u=>?_⟩
   ·show RtFs K _ _ _ (putA f _ ((f,_) :: _)) _
    rw [show putA f _ ((f,t') :: _)=(f,_) :: _ from if_pos rfl]
    have z:=RtFs.cons (f:=f) u (r.frame s λ b hb=>k b (by simp [hb]));exact z
   ·rw [show putA f _ ((f,t') :: _)=(f,_) :: _ from if_pos rfl,show putF f _ ((f,x') :: _)=(f,_) :: _ from if_pos rfl]
    have z:=RtFs.cons (f:=f) u (r.frame s λ b hb=>k b (by simp [hb]));exact z
  ·have hb:(f == g)=false:=beq_eq_false_iff_ne.mpr hg
   simp only [List.lookup,hb] at e1 e2
   obtain ⟨fA,fj,fB,e,hr,q1,q2⟩:=RtFs.split r e1 e2
   have hgf:¬g=f:=λ z=>hg z.symm
   refine ⟨fp++fA,fj,fB,by rw [e,List.append_assoc],hr,λ s k u=>?_,λ s k u=>?_⟩
   ·rw [show putA f _ ((g,t') :: _)=(g,t') :: putA f _ _ from if_neg hgf,List.append_assoc]
    exact .cons (h.frame s λ b hb=>k b (by simp [hb])) (q1 s (λ b hb=>k b (by rcases List.mem_append.mp hb with z|z <;> simp [z])) u)
   ·rw [show putA f _ ((g,t') :: _)=(g,t') :: putA f _ _ from if_neg hgf,show putF f _ ((g,x') :: _)=(g,x') :: putF f _ _ from if_neg hgf,List.append_assoc]
    exact .cons (h.frame s λ b hb=>k b (by simp [hb])) (q2 s (λ b hb=>k b (by rcases List.mem_append.mp hb with z|z <;> simp [z])) u)
theorem RtFs.add {F H F2 H2:Hp} {y:V} {u:T} {fq:List Addr} (s:Same F F2) (hu:Rt K F2 H2 y u fq):∀ {xs:List (Str×V)} {ts:List (Str×T)} {fp:List Addr} {f:Str},RtFs K F H xs ts fp->ts.lookup f=none->(∀ b∈fp,H2 b=H b/\F2 b=none)->RtFs K F2 H2 (putF f y xs) (putA f u ts) (fp++fq)
|_,_,_,f,.nil,_,_=>by
  show RtFs K F2 H2 [(f,y)] [(f,u)] fq
  have:=RtFs.cons (f:=f) hu (.nil (K:=K) (F:=F2) (H:=H2))
  rwa [List.append_nil] at this
|_,_,_,f,.cons (f:=g) (x:=x') (t:=t') (fp:=fp) (fq:=fq') h r,e,k=>by
  have hg:¬f=g:=λ z=>by subst z;simp [List.lookup] at e
  have hb:(f == g)=false:=beq_eq_false_iff_ne.mpr hg
  simp only [List.lookup,hb] at e
  have hgf:¬g=f:=λ z=>hg z.symm
  rw [show putA f u ((g,t') :: _)=(g,t') :: putA f u _ from if_neg hgf,show putF f y ((g,x') :: _)=(g,x') :: putF f y _ from if_neg hgf,List.append_assoc]
  exact .cons (h.frame s λ b hb=>k b (by simp [hb])) (RtFs.add s hu r e λ b hb=>k b (by simp [hb]))
theorem RtFs.keys {F H:Hp} {xs:List (Str×V)} {ts:List (Str×T)} {fp:List Addr} (f:Str) (h:RtFs K F H xs ts fp):(ts.lookup f=none->xs.lookup f=none)/\(∀ t,ts.lookup f=some t->∃ x,xs.lookup f=some x)/\xs.length=ts.length :=
 (Rt.ind (P:=λ _ _ _=>True) (Q:=λ _ _ _=>True) (R:=λ xs ts _=>(ts.lookup f=none->xs.lookup f=none)/\(∀ t,ts.lookup f=some t->∃ x,xs.lookup f=some x)/\xs.length=ts.length)
  (λ _=>trivial) (λ _ _ _=>trivial) (λ _ _ _=>trivial) (λ _ _ _ _ _=>trivial) (λ _ _ _=>trivial) (λ _ _ _=>trivial) (λ _ _ _ _=>trivial) trivial (λ _ _ _=>trivial) trivial (λ _ _=>trivial) ⟨λ _=>rfl,(λ t e=>by cases e),rfl⟩
  λ {g x _ _ _ _ _} _ ⟨k1,k2,k3⟩=>by
   rw [List.length_cons,List.length_cons,k3,List.lookup_cons,List.lookup_cons]
   cases f == g with
  |true=>exact ⟨(λ e=>by cases e),λ _ _=>⟨x,rfl⟩,rfl⟩
  |false=>exact ⟨k1,k2,rfl⟩).2.2 h
theorem focus {F H:Hp} {x v:V} {t u:T} {p:Pth} (h:At H x t p v u):∀ {fp:List Addr},Rt K F H x t fp->fp.Nodup->∃ fn,Rt K F H v u fn/\(∀ a∈fn,a∈fp)/\fn.Nodup /\
  ∀ {F2 H2:Hp} {u2:T} {fq:List Addr},Same F F2->(∀ b∈fp,b ∉ fn->H2 b=H b/\F2 b=none)->Rt K F2 H2 v u2 fq->fq.Nodup->(∀ b∈fq,b∈fn \/ b ∉ fp)->∃ fp2,Rt K F2 H2 x (setP t p u2) fp2/\fp2.Nodup/\∀ b∈fp2,(b∈fp/\b ∉ fn) \/ b∈fq:=by
 induction h with
|nil =>
  intro fp hr nd
  refine ⟨fp,hr,λ a z=>z,nd,λ {F2 H2 u2 fq} _ _ h2 n2 _=>⟨fq,?_,n2,λ b hb=>.inr hb⟩⟩
  cases u2 <;> exact h2
|@ix a0 xs0 ts0 j0 x0 v0 t0 u0 p0 h1 h2 h3 _ ih =>
  intro fp hr nd
  cases hr with
 |ls g1 g2 g3 =>
   rw [h1] at g1;cases g1
   obtain ⟨fA,fj,fB,e,hj,rep⟩:=g3.split h2 h3
   subst e
   have ndR:=(List.nodup_cons.mp nd).2
   have nA:=(List.nodup_cons.mp nd).1
   obtain ⟨ndA,ndJB,djA⟩:=List.nodup_append.mp ndR
   obtain ⟨ndj,ndB,djB⟩:=List.nodup_append.mp ndJB
   obtain ⟨fn,hn,sub,ndn,back⟩:=ih hj ndj
   refine ⟨fn,hn,λ a ha=>by simp [sub a ha],ndn,λ {F2 H2 u2 fq} s k hu nq hq=>?_⟩
   obtain ⟨f2,r2,n2,m2⟩:=back s (λ b hb hnb=>k b (by simp [hb]) hnb) hu nq λ b hb=>by
    rcases hq b hb with z|z
    ·exact .inl z
    ·exact .inr λ y=>z (by simp [y])
   have notin:∀ b,b∈fA \/ b∈fB->b ∉ fn:=λ b hb hn'=>by
    have:=sub b hn'
    rcases hb with z|z
    ·exact djA b z b (by simp [this]) rfl
    ·exact djB b this b z rfl
   have rA:=rep s (λ b hb=>by
    have hb':=List.mem_append.mp hb
    refine k b (by rcases hb' with z|z <;> simp [z]) (notin b hb')) r2
   have hnotq:∀ b,(b∈fA \/ b∈fB \/ b=a0)->b ∉ fq:=λ b hb hbq=>by
    rcases hq b hbq with z|z
    ·rcases hb with y|y|y
     ·exact notin b (.inl y) z
     ·exact notin b (.inr y) z
     ·subst y;exact nA (by simp [sub _ z])
    ·apply z
     rcases hb with y|y|y
     ·simp [y]
     ·simp [y]
     ·simp [y]
   have ha2:=k _ (List.mem_cons_self) (λ z=>nA (by simp [sub _ z]))
   refine ⟨a0 :: (fA++(f2++fB)),?_,?_,?_⟩
   ·unfold setP
    rw [h3]
    exact .ls (by rw [ha2.1];exact h1) ha2.2 rA
   ·refine List.nodup_cons.mpr ⟨λ z=>?_,?_⟩
    ·rcases List.mem_append.mp z with y|y
     ·exact nA (by simp [y])
     ·rcases List.mem_append.mp y with y|y
      ·rcases m2 _ y with ⟨y1,_⟩|y1
       ·exact nA (by simp [y1])
       ·exact hnotq _ (.inr (.inr rfl)) y1
      ·exact nA (by simp [y])
    ·refine List.nodup_append.mpr ⟨ndA,List.nodup_append.mpr ⟨n2,ndB,λ a ha b hb=>?_⟩,λ a ha b hb=>?_⟩
     ·rcases m2 a ha with ⟨y,_⟩|y
      ·exact djB a y b hb
      ·intro z;subst z;exact hnotq a (.inr (.inl hb)) y
     ·rcases List.mem_append.mp hb with y|y
      ·rcases m2 b y with ⟨y,_⟩|y
       ·exact djA a ha b (by simp [y])
       ·intro z;subst z;exact hnotq a (.inl ha) y
      ·exact djA a ha b (by simp [y])
   ·intro b hb
    rcases List.mem_cons.mp hb with y|y
    ·subst y;exact .inl ⟨by simp,λ z=>nA (by simp [sub _ z])⟩
    ·rcases List.mem_append.mp y with y|y
     ·exact .inl ⟨by simp [y],notin b (.inl y)⟩
     ·rcases List.mem_append.mp y with y|y
      ·rcases m2 b y with ⟨y1,y2⟩|y1
       ·exact .inl ⟨by simp [y1],y2⟩
       ·exact .inr y1
      ·exact .inl ⟨by simp [y],notin b (.inr y)⟩
|@tx a0 xs0 ts0 j0 x0 v0 t0 u0 p0 h1 h2 h3 _ ih =>
  intro fp hr nd
  cases hr with
 |tp g1 g2 gk g3 =>
   rw [h1] at g1;cases g1
   obtain ⟨fA,fj,fB,e,hj,rep⟩:=g3.split h2 h3
   subst e
   have ndR:=(List.nodup_cons.mp nd).2
   have nA:=(List.nodup_cons.mp nd).1
   obtain ⟨ndA,ndJB,djA⟩:=List.nodup_append.mp ndR
   obtain ⟨ndj,ndB,djB⟩:=List.nodup_append.mp ndJB
   obtain ⟨fn,hn,sub,ndn,back⟩:=ih hj ndj
   refine ⟨fn,hn,λ a ha=>by simp [sub a ha],ndn,λ {F2 H2 u2 fq} s k hu nq hq=>?_⟩
   obtain ⟨f2,r2,n2,m2⟩:=back s (λ b hb hnb=>k b (by simp [hb]) hnb) hu nq λ b hb=>by
    rcases hq b hb with z|z
    ·exact .inl z
    ·exact .inr λ y=>z (by simp [y])
   have notin:∀ b,b∈fA \/ b∈fB->b ∉ fn:=λ b hb hn'=>by
    have:=sub b hn'
    rcases hb with z|z
    ·exact djA b z b (by simp [this]) rfl
    ·exact djB b this b z rfl
   have rA:=rep s (λ b hb=>by
    have hb':=List.mem_append.mp hb
    refine k b (by rcases hb' with z|z <;> simp [z]) (notin b hb')) r2
   have hnotq:∀ b,(b∈fA \/ b∈fB \/ b=a0)->b ∉ fq:=λ b hb hbq=>by
    rcases hq b hbq with z|z
    ·rcases hb with y|y|y
     ·exact notin b (.inl y) z
     ·exact notin b (.inr y) z
     ·subst y;exact nA (by simp [sub _ z])
    ·apply z
     rcases hb with y|y|y
     ·simp [y]
     ·simp [y]
     ·simp [y]
   have ha2:=k _ (List.mem_cons_self) (λ z=>nA (by simp [sub _ z]))
   refine ⟨a0 :: (fA++(f2++fB)),?_,?_,?_⟩
   ·unfold setP
    rw [h3]
    exact .tp (by rw [ha2.1];exact h1) ha2.2 gk rA
   ·refine List.nodup_cons.mpr ⟨λ z=>?_,?_⟩
    ·rcases List.mem_append.mp z with y|y
     ·exact nA (by simp [y])
     ·rcases List.mem_append.mp y with y|y
      ·rcases m2 _ y with ⟨y1,_⟩|y1
       ·exact nA (by simp [y1])
       ·exact hnotq _ (.inr (.inr rfl)) y1
      ·exact nA (by simp [y])
    ·refine List.nodup_append.mpr ⟨ndA,List.nodup_append.mpr ⟨n2,ndB,λ a ha b hb=>?_⟩,λ a ha b hb=>?_⟩
     ·rcases m2 a ha with ⟨y,_⟩|y
      ·exact djB a y b hb
      ·intro z;subst z;exact hnotq a (.inr (.inl hb)) y
     ·rcases List.mem_append.mp hb with y|y
      ·rcases m2 b y with ⟨y,_⟩|y
       ·exact djA a ha b (by simp [y])
       ·intro z;subst z;exact hnotq a (.inl ha) y
      ·exact djA a ha b (by simp [y])
   ·intro b hb
    rcases List.mem_cons.mp hb with y|y
    ·subst y;exact .inl ⟨by simp,λ z=>nA (by simp [sub _ z])⟩
    ·rcases List.mem_append.mp y with y|y
     ·exact .inl ⟨by simp [y],notin b (.inl y)⟩
     ·rcases List.mem_append.mp y with y|y
      ·rcases m2 b y with ⟨y1,y2⟩|y1
       ·exact .inl ⟨by simp [y1],y2⟩
       ·exact .inr y1
      ·exact .inl ⟨by simp [y],notin b (.inr y)⟩
|@fl a0 C0 dx0 fs0 ts0 f0 x0 v0 t0 u0 p0 h1 h2 h3 _ ih =>
  intro fp hr nd
  cases hr with
 |ob g1 g2 g3 g4 g5 =>
   rw [h1] at g1;cases g1
   obtain ⟨fA,fj,fB,e,hj,rep,_⟩:=g5.split h2 h3
   subst e
   have nd1:=List.nodup_cons.mp nd
   have nd2:=List.nodup_cons.mp nd1.2
   have ndR:=nd2.2
   have nA:_ ∉ fA++(fj++fB):=λ z=>nd1.1 (List.mem_cons_of_mem _ z)
   have nX:=nd2.1
   obtain ⟨ndA,ndJB,djA⟩:=List.nodup_append.mp ndR
   obtain ⟨ndj,ndB,djB⟩:=List.nodup_append.mp ndJB
   obtain ⟨fn,hn,sub,ndn,back⟩:=ih hj ndj
   refine ⟨fn,hn,λ a ha=>by simp [sub a ha],ndn,λ {F2 H2 u2 fq} s k hu nq hq=>?_⟩
   obtain ⟨f2,r2,n2,m2⟩:=back s (λ b hb hnb=>k b (by simp [hb]) hnb) hu nq λ b hb=>by
    rcases hq b hb with z|z
    ·exact .inl z
    ·exact .inr λ y=>z (by simp [y])
   have notin:∀ b,b∈fA \/ b∈fB->b ∉ fn:=λ b hb hn'=>by
    have:=sub b hn'
    rcases hb with z|z
    ·exact djA b z b (by simp [this]) rfl
    ·exact djB b this b z rfl
   have rA:=rep s (λ b hb=>by
    have hb':=List.mem_append.mp hb
    refine k b (by rcases hb' with z|z <;> simp [z]) (notin b hb')) r2
   have hnotq:∀ b,(b∈fA \/ b∈fB)->b ∉ fq:=λ b hb hbq=>by
    rcases hq b hbq with z|z
    ·exact notin b hb z
    ·apply z
     rcases hb with y|y <;> simp [y]
   have hnq2:∀ b,b∈fn->b∈fA++(fj++fB):=λ b hb=>by simp [sub _ hb]
   have ha2:=k _ (List.mem_cons_self) (λ z=>nA (hnq2 _ z))
   have hx2:=k _ (List.mem_cons_of_mem _ List.mem_cons_self) (λ z=>nX (hnq2 _ z))
   have hf2:∀ b∈f2,b∈fj \/ b∈fq:=λ b hb=>by
    rcases m2 b hb with ⟨y,_⟩|y
    ·exact .inl y
    ·exact .inr y
   refine ⟨a0 :: dx0 :: (fA++(f2++fB)),?_,?_,?_⟩
   ·unfold setP
    rw [h3]
    exact .ob (by rw [ha2.1];exact h1) (by rw [hx2.1];exact g2) ha2.2 hx2.2 rA
   ·have inR:∀ b,b∈fA++(f2++fB)->b∈fA++(fj++fB) \/ b∈fq:=λ b hb=>by
     rcases List.mem_append.mp hb with y|y
     ·exact .inl (by simp [y])
     ·rcases List.mem_append.mp y with y|y
      ·rcases hf2 b y with y|y
       ·exact .inl (by simp [y])
       ·exact .inr y
      ·exact .inl (by simp [y])
    refine List.nodup_cons.mpr ⟨λ z=>?_,List.nodup_cons.mpr ⟨λ z=>?_,?_⟩⟩
    ·rcases List.mem_cons.mp z with y|y
     ·exact nd1.1 (by rw [y];simp)
     ·rcases inR _ y with y|y
      ·exact nA y
      ·rcases hq _ y with w|w
       ·exact nA (hnq2 _ w)
       ·exact w (by simp)
    ·rcases inR _ z with y|y
     ·exact nX y
     ·rcases hq _ y with w|w
      ·exact nX (hnq2 _ w)
      ·exact w (by simp)
    ·refine List.nodup_append.mpr ⟨ndA,List.nodup_append.mpr ⟨n2,ndB,λ a ha b hb=>?_⟩,λ a ha b hb=>?_⟩
     ·rcases m2 a ha with ⟨y,_⟩|y
      ·exact djB a y b hb
      ·intro z;subst z;exact hnotq a (.inr hb) y
     ·rcases List.mem_append.mp hb with y|y
      ·rcases m2 b y with ⟨y,_⟩|y
       ·exact djA a ha b (by simp [y])
       ·intro z;subst z;exact hnotq a (.inl ha) y
      ·exact djA a ha b (by simp [y])
   ·intro b hb
    rcases List.mem_cons.mp hb with y|y
    ·subst y;exact .inl ⟨by simp,λ z=>nA (hnq2 _ z)⟩
    ·rcases List.mem_cons.mp y with y|y
     ·subst y;exact .inl ⟨by simp,λ z=>nX (hnq2 _ z)⟩
     ·rcases List.mem_append.mp y with y|y
      ·exact .inl ⟨by simp [y],notin b (.inl y)⟩
      ·rcases List.mem_append.mp y with y|y
       ·rcases m2 b y with ⟨y1,y2⟩|y1
        ·exact .inl ⟨by simp [y1],y2⟩
        ·exact .inr y1
       ·exact .inl ⟨by simp [y],notin b (.inr y)⟩
end
def AtS (H:Hp) (σ:L2.St) (δ:DSt) (i:Nat) (p:Pth) (v:V) (u:T):Prop:=∃ s t x,δ[i]?=some s/\s.tree=some t/\σ.getD i none=some x/\At H x t p v u
abbrev DP:=DSt->(Nat->Pth->T->Prop)->Prop
def RfP (K:Fg) (te:TE) (dp:DP):Prop:=∀ {F H:Hp} {σ:L2.St} {δ:DSt} {Qd:Nat->Pth->T->Prop} {Q:VK},Same F H->RV K F H σ δ->dp δ Qd->(∀ i p u,Qd i p u->∀ v F' H',Ext F H F' H'->AtS H' σ δ i p v u->Q v H')->te σ H Q
section
variable {K:Fg} {te ti:TE} {dp:DP} {di:DE}
theorem at_rt {F H:Hp} {x v:V} {t u:T} {p:Pth} (h:At H x t p v u):∀ {fp:List Addr},Rt K F H x t fp->∃ fn,Rt K F H v u fn:=by
 induction h with
|nil=>intro fp hr;exact ⟨fp,hr⟩
|ix h1 h2 h3 _ ih =>
  intro fp hr
  cases hr with
 |ls g1 g2 g3 =>
   rw [h1] at g1;cases g1
   obtain ⟨fA,fj,fB,e,hj,_⟩:=g3.split h2 h3
   exact ih hj
|tx h1 h2 h3 _ ih =>
  intro fp hr
  cases hr with
 |tp g1 g2 gk g3 =>
   rw [h1] at g1;cases g1
   obtain ⟨fA,fj,fB,e,hj,_⟩:=g3.split h2 h3
   exact ih hj
|fl h1 h2 h3 _ ih =>
  intro fp hr
  cases hr with
 |ob g1 g2 g3 g4 g5 =>
   rw [h1] at g1;cases g1
   obtain ⟨fA,fj,fB,e,hj,_⟩:=g5.split h2 h3
   exact ih hj
theorem AtS.rt {F H:Hp} {σ:L2.St} {δ:DSt} {i:Nat} {p:Pth} {v:V} {u:T} (h:AtS H σ δ i p v u) (r:RV K F H σ δ):∃ fn,Rt K F H v u fn:=by
 obtain ⟨s,t,x,h1,h2,h3,h4⟩:=h
 obtain ⟨y,fp,e,hr,_⟩:=(r.sl i s h1).rt h2
 rw [h3] at e;cases e
 exact at_rt h4 hr
theorem AtS.mono {H H':Hp} {σ:L2.St} {δ:DSt} {i:Nat} {p:Pth} {v:V} {u:T} (s:Same H H') (h:AtS H σ δ i p v u):AtS H' σ δ i p v u:=by
 obtain ⟨s',t,x,h1,h2,h3,h4⟩:=h
 exact ⟨s',t,x,h1,h2,h3,h4.mono s⟩
def pVar (i:Nat):DP:=λ δ Q=>∃ s t,δ[i]?=some s/\s.tree=some t/\Q i [] t
theorem rp_var (i:Nat):RfP K (tVar i) (pVar i):=by
 intro F H σ δ Qd Q s r h k
 obtain ⟨sl,t,q,et,f⟩:=h
 obtain ⟨x,fp,e,hr,_⟩:=(r.sl i _ q).rt et
 exact ⟨x,slot_of (F:=F) (H:=H) (δ:=δ) e,k i [] t f x F H (Ext.refl s) ⟨sl,t,x,q,et,e,.nil⟩⟩
def nFld (f:Str) (u:T) (Q:T->Prop):Prop:=match u with
|.ob _ fs=>∃ t,fs.lookup f=some t/\Q t
|_=>False
def nCls (C:Addr) (u:T):Prop:=match u with
|.ob C' _=>C'=C
|_=>False
def pFld (C:Addr) (f:Str) (dp:DP):DP:=λ δ Q=>dp δ λ i p u=>nCls C u/\nFld f u λ t=>Q i (p++[.fl f]) t
theorem rp_fld {C:Addr} {f:Str} (c:Cls K C) (na:NoAttr K C f) (h:RfP K te dp):RfP K (tFldU K te f) (pFld C f dp):=by
 intro F H σ δ Qd Q s r hd k
 refine h s r hd λ i p u hu v F1 H1 e1 at1=>?_
 obtain ⟨hc,hf⟩:=hu
 obtain ⟨fn,hr⟩:=at1.rt (r.ext e1)
 cases hr with
|ob g1 g2 g3 g4 g5 =>
  cases (show _=C from hc)
  obtain ⟨t,et,q⟩:=hf
  obtain ⟨y,ey⟩:=(g5.keys f).2.1 t et
  refine ⟨_,_,_,_,y,rfl,g1,c,na,ey,k i _ t q y F1 H1 e1 ?_⟩
  obtain ⟨sl,t0,x,a1,a2,a3,a4⟩:=at1
  exact ⟨sl,t0,x,a1,a2,a3,a4.snoc_fl g1 ey et⟩
|fz _=>exact hc.elim
|li _ _ _=>exact hc.elim
|ls _ _ _=>exact hc.elim
|dk _ _ _=>exact hc.elim
|dt _ _ _=>exact hc.elim
|tp _ _ _ _=>exact hc.elim
|wh=>exact hc.elim
|dz _ _ _=>exact hc.elim
def dPV (dp:DP):DE:=λ δ Q=>dp δ λ _ _ u=>vwT u Q
def dPE (dp:DP):DE:=λ δ Q=>dp δ λ _ _ u=>fzT u Q
theorem RfP.v (h:RfP K te dp):RfV K te (dPV dp):=λ s r d k=>h s r d λ i p u hu v F1 H1 e1 at1=>by
 obtain ⟨fn,hr⟩:=at1.rt (r.ext e1)
 obtain ⟨d,qd,vw⟩:=vw_rt hr hu
 exact k d qd v F1 H1 e1 vw
theorem RfP.e (h:RfP K te dp):RfE K te (dPE dp):=λ s r d k=>h s r d λ i p u hu v F1 H1 e1 at1=>by
 obtain ⟨fn,hr⟩:=at1.rt (r.ext e1)
 obtain ⟨d,qd,vw⟩:=fz_rt hr hu
 exact k d qd v F1 H1 e1 vw
end
structure Bs where
 F0:Hp
 H0:Hp
 G:List Addr
def Sl.own:Sl->Bool
|.ow _=>true
|.io _ _=>true
|_=>false
def Sl.has:Sl->Bool
|.ow _=>true
|.io _ _=>true
|.bo _=>true
|_=>false
def Sl.wth:Sl->T->Sl
|.ow _,u=>.ow u
|.io a _,u=>.io a u
|s,_=>s
structure RS (K:Fg) (B:Bs) (F H:Hp) (σ:L2.St) (δ:DSt) (fps:Nat->List Addr):Prop where
 hh:∀ b o,b ∉ B.G->B.H0 b=some o->H b=some o
 ff:Same B.F0 F
 fh:Same F H
 nw:∀ b,HD (B.H0 b)->B.F0 b=none->F b=none
 al:∀ b,(B.H0 b≠none->H b≠none)/\(HD (B.H0 b)->HD (H b))
 len:σ.length=δ.length
 sh:∀ (i:Nat) d,δ[i]?=some (.sh d)->∃ x,σ.getD i none=some x/\Is K F x d
 rt:∀ (i:Nat) s,δ[i]?=some s->s.has=true->∃ x t,σ.getD i none=some x/\s.tree=some t/\Rt K F H x t (fps i)/\(∀ a u,s=.io a u->x=.ref a)/\(fps i).Nodup
 fr:∀ (i:Nat) s,δ[i]?=some s->s.own=true->∀ a∈fps i,B.H0 a=none \/ (a∈B.G/\∀ t,s≠.ow t)
 dj:∀ (i j:Nat) s s',i≠j->δ[i]?=some s->δ[j]?=some s'->s.own=true->s'.has=true->∀ a∈fps i,a ∉ fps j
section
variable {K:Fg} {B:Bs} {F H F' H':Hp} {σ:L2.St} {δ:DSt} {fps:Nat->List Addr}
theorem own_has:∀ {s:Sl},s.own=true->s.has=true
|.ow _,_=>rfl
|.io _ _,_=>rfl
|.un,e=>by cases e
|.sh _,e=>by cases e
|.bo _,e=>by cases e
theorem RS.rv (r:RS K B F H σ δ fps):RV K F H σ δ:=⟨r.len,λ i s e=>by
 cases s with
|un=>trivial
|sh d=>exact r.sh i d e
|ow t =>
  obtain ⟨x,t',h1,h2,h3,h4,h5⟩:=r.rt i _ e rfl
  cases h2;exact ⟨x,_,h1,h3,h5⟩
|bo t =>
  obtain ⟨x,t',h1,h2,h3,h4,h5⟩:=r.rt i _ e rfl
  cases h2;exact ⟨x,_,h1,h3,h5⟩
|io a t =>
  obtain ⟨x,t',h1,h2,h3,h4,h5⟩:=r.rt i _ e rfl
  cases h2
  cases h4 a t rfl
  exact ⟨_,h1,h3,h5⟩⟩
theorem RS.grow (r:RS K B F H σ δ fps) (e:Ext F H F' H'):RS K B F' H' σ δ fps where
 hh:=λ b o hb ho=>e.h b o (r.hh b o hb ho)
 ff:=r.ff.trans e.f
 fh:=e.fh
 nw:=λ b hb fb=>e.nw b ((r.al b).2 hb) (r.nw b hb fb)
 al:=λ b=>⟨(λ hb z=>by
  cases q:H b with
 |none=>exact (r.al b).1 hb q
 |some o=>rw [e.h b o q] at z;cases z),λ h=>((r.al b).2 h).mono e.h⟩
 len:=r.len
 sh:=λ i d h=>by obtain ⟨x,h1,h2⟩:=r.sh i d h;exact ⟨x,h1,h2.mono e.f⟩
 rt:=λ i s h1 h2=>by obtain ⟨x,t,a1,a2,a3,a4,a5⟩:=r.rt i s h1 h2;exact ⟨x,t,a1,a2,a3.ext e,a4,a5⟩
 fr:=r.fr
 dj:=r.dj
theorem RS.setS (r:RS K B F H σ δ fps) {i:Nat} {v:V} {d:D} (h:Is K F v d):RS K B F H (σ.set i (some v)) (δ.set i (.sh d)) fps:=by
 have key:∀ (j:Nat) s,(δ.set i (.sh d))[j]?=some s->(j=i/\s=.sh d/\(σ.set i (some v)).getD j none=some v) \/ (j≠i/\δ[j]?=some s/\(σ.set i (some v)).getD j none=σ.getD j none):=λ j s e=>by
  rw [List.getElem?_set] at e
  by_cases hij:i=j
  ·subst hij
   by_cases hl:i < δ.length
   ·simp [hl] at e;exact .inl ⟨rfl,e.symm,by rw [getD_set,r.len,if_pos ⟨rfl,hl⟩]⟩
   ·simp [hl] at e
  ·simp [hij] at e
   exact .inr ⟨λ z=>hij z.symm,e,by rw [getD_set,if_neg (by lia)]⟩
 refine ⟨r.hh,r.ff,r.fh,r.nw,r.al,by rw [List.length_set,List.length_set];exact r.len,λ j d' e=>?_,λ j s e hs=>?_,λ j s e hs=>?_,λ j k s s' hjk e1 e2 o1 o2=>?_⟩
 ·rcases key j _ e with ⟨_,e2,e3⟩|⟨_,e2,e3⟩
  ·cases e2;exact ⟨v,e3,h⟩
  ·obtain ⟨x,h1,h2⟩:=r.sh j d' e2;exact ⟨x,by rw [e3];exact h1,h2⟩
 ·rcases key j _ e with ⟨_,e2,e3⟩|⟨_,e2,e3⟩
  ·rw [e2] at hs;cases hs
  ·rw [e3];exact r.rt j s e2 hs
 ·rcases key j _ e with ⟨_,e2,e3⟩|⟨_,e2,e3⟩
  ·rw [e2] at hs;cases hs
  ·exact r.fr j s e2 hs
 ·rcases key j _ e1 with ⟨_,z,_⟩|⟨_,z1,_⟩
  ·rw [z] at o1;cases o1
  ·rcases key k _ e2 with ⟨_,z,_⟩|⟨_,z2,_⟩
   ·rw [z] at o2;cases o2
   ·exact r.dj j k s s' hjk z1 z2 o1 o2
theorem RS.byUpd {n:Nat} {σ':L2.St} {δ':DSt} (u:Upd K F n σ δ σ' δ') (r:RS K B F H σ δ fps):RS K B F H σ' δ' fps:=by
 induction u with
|refl=>exact r
|set hi hv _ ih=>exact ih (r.setS hv)
def NewOk (B:Bs) (δ:DSt) (fps:Nat->List Addr) (b:Addr):Prop:=B.H0 b=none/\∀ (j:Nat) s,δ[j]?=some s->s.has=true->b ∉ fps j
theorem RS.upd2 (r:RS K B F H σ δ fps) {i:Nat} {s:Sl} {x:V} {t2:T} {fp2:List Addr} {F2 H2:Hp} (hi:δ[i]?=some s) (ho:s.own=true) (hx:σ.getD i none=some x)
  (c1:∀ b o,b ∉ fps i->H b=some o->H2 b=some o) (c2:Same F F2) (c3:Same F2 H2) (c4:∀ b,HD (H b)->F b=none->b ∉ fps i->F2 b=none) (c5:∀ b,(H b≠none->H2 b≠none)/\(HD (H b)->HD (H2 b)))
  (h2:Rt K F2 H2 x t2 fp2) (n2:fp2.Nodup) (m2:∀ b∈fp2,b∈fps i \/ NewOk B δ fps b) (c6:∀ b∈fps i,F2 b≠none->B.H0 b=none) :
  RS K B F2 H2 σ (δ.set i (s.wth t2)) (λ j=>if j=i then fp2 else fps j):=by
 have hlt:i < δ.length:=by
  rcases Nat.lt_or_ge i δ.length with z|z
  ·exact z
  ·rw [List.getElem?_eq_none z] at hi;cases hi
 have hs:=own_has ho
 have wo:(s.wth t2).own=true/\(s.wth t2).has=true/\(s.wth t2).tree=some t2:=by
  cases s with
 |ow _=>exact ⟨rfl,rfl,rfl⟩
 |io _ _=>exact ⟨rfl,rfl,rfl⟩
 |un=>cases ho
 |sh _=>cases ho
 |bo _=>cases ho
 have key:∀ (j:Nat) s',(δ.set i (s.wth t2))[j]?=some s'->(j=i/\s'=s.wth t2) \/ (j≠i/\δ[j]?=some s'):=λ j s' e=>by
  rw [List.getElem?_set] at e
  by_cases hij:i=j
  ·subst hij;simp [hlt] at e;exact .inl ⟨rfl,e.symm⟩
  ·simp [hij] at e;exact .inr ⟨λ z=>hij z.symm,e⟩
 have old:∀ b∈fps i,H b≠none/\F b=none:=by
  obtain ⟨x',t',a1,a2,a3,a4,a5⟩:=r.rt i s hi hs
  exact a3.dom
 have own0:=r.fr i s hi ho
 refine ⟨λ b o hb h0=>?_,r.ff.trans c2,c3,λ b hb fb=>?_,λ b=>⟨λ hb=>(c5 b).1 ((r.al b).1 hb),λ hb=>(c5 b).2 ((r.al b).2 hb)⟩,by rw [List.length_set];exact r.len,λ j d e=>?_,λ j s' e hs'=>?_,λ j s' e ho' a ha=>?_,λ j k s1 s2 hjk e1 e2 o1 o2 a ha=>?_⟩
 ·refine c1 b o (λ z=>?_) (r.hh b o hb h0)
  rcases own0 b z with y|y
  ·rw [y] at h0;cases h0
  ·exact hb y.1
 ·by_cases hbi:b∈fps i
  ·cases z:F2 b with
  |none=>rfl
  |some o=>exact absurd (c6 b hbi (by rw [z];simp)) hb.1
  ·exact c4 b ((r.al b).2 hb) (r.nw b hb fb) hbi
 ·rcases key j _ e with ⟨_,z⟩|⟨_,z⟩
  ·rw [<- z] at wo;cases wo.1
  ·obtain ⟨y,h1,h2⟩:=r.sh j d z;exact ⟨y,h1,h2.mono c2⟩
 ·rcases key j _ e with ⟨zj,z⟩|⟨zj,z⟩
  ·subst zj
   rw [if_pos rfl]
   refine ⟨x,t2,hx,by rw [z];exact wo.2.2,h2,λ a u e'=>?_,n2⟩
   obtain ⟨x',t',a1,a2,a3,a4,a5⟩:=r.rt j s hi hs
   rw [hx] at a1;cases a1
   cases s with
  |ow _=>rw [z] at e';cases e'
  |io a' u'=>rw [z] at e';cases e';exact a4 _ _ rfl
  |un=>cases ho
  |sh _=>cases ho
  |bo _=>cases ho
  ·rw [if_neg zj]
   obtain ⟨y,t',a1,a2,a3,a4,a5⟩:=r.rt j s' z hs'
   refine ⟨y,t',a1,a2,a3.frame c2 λ a ha=>?_,a4,a5⟩
   obtain ⟨d1,d2⟩:=a3.dom a ha
   have na:a ∉ fps i:=λ w=>r.dj i j s s' (λ q=>zj q.symm) hi z ho hs' a w ha
   cases q:H a with
  |none=>exact absurd q d1
  |some o=>exact ⟨c1 a o na q,c4 a (a3.hdd a ha) d2 na⟩
 ·rcases key j _ e with ⟨zj,z⟩|⟨zj,z⟩
  ·rw [if_pos zj] at ha
   rcases m2 a ha with y|y
   ·rcases own0 a y with w|⟨w1,w2⟩
    ·exact .inl w
    ·refine .inr ⟨w1,λ t et=>?_⟩
     rw [z] at et
     cases s with
    |ow t'=>exact w2 t' rfl
    |io _ _=>cases et
    |un=>cases ho
    |sh _=>cases ho
    |bo _=>cases ho
   ·exact .inl y.1
  ·rw [if_neg zj] at ha;exact r.fr j s' z ho' a ha
 ·rcases key j _ e1 with ⟨zj,z1⟩|⟨zj,z1⟩ <;> rcases key k _ e2 with ⟨zk,z2⟩|⟨zk,z2⟩
  ·exact absurd (zj.trans zk.symm) hjk
  ·rw [if_pos zj] at ha;rw [if_neg zk]
   subst zj
   rcases m2 a ha with y|y
   ·exact r.dj j k s s2 hjk hi z2 ho o2 a y
   ·exact y.2 k s2 z2 o2
  ·rw [if_neg zj] at ha;rw [if_pos zk]
   subst zk
   intro w
   rcases m2 a w with y|y
   ·exact r.dj j k s1 s hjk z1 hi o1 hs a ha y
   ·exact y.2 j s1 z1 (own_has o1) ha
  ·rw [if_neg zj] at ha;rw [if_neg zk]
   exact r.dj j k s1 s2 hjk z1 z2 o1 o2 a ha
theorem RS.setT (r:RS K B F H σ δ fps) {i:Nat} {v:V} {t:T} {fp:List Addr} (h:Rt K F H v t fp) (nd:fp.Nodup) (hf:∀ a∈fp,B.H0 a=none) (hd:∀ (j:Nat) s,δ[j]?=some s->s.has=true->∀ a∈fps j,a ∉ fp) :
  RS K B F H (σ.set i (some v)) (δ.set i (.ow t)) (λ j=>if j=i then fp else fps j):=by
 have key:∀ (j:Nat) s,(δ.set i (.ow t))[j]?=some s->(j=i/\s=.ow t/\(σ.set i (some v)).getD j none=some v) \/ (j≠i/\δ[j]?=some s/\(σ.set i (some v)).getD j none=σ.getD j none):=λ j s e=>by
  rw [List.getElem?_set] at e
  by_cases hij:i=j
  ·subst hij
   by_cases hl:i < δ.length
   ·simp [hl] at e;exact .inl ⟨rfl,e.symm,by rw [getD_set,r.len,if_pos ⟨rfl,hl⟩]⟩
   ·simp [hl] at e
  ·simp [hij] at e
   exact .inr ⟨λ z=>hij z.symm,e,by rw [getD_set,if_neg (by lia)]⟩
 refine ⟨r.hh,r.ff,r.fh,r.nw,r.al,by rw [List.length_set,List.length_set];exact r.len,λ j d' e=>?_,λ j s e hs=>?_,λ j s e hs a ha=>?_,λ j k s s' hjk e1 e2 o1 o2 a ha=>?_⟩
 ·rcases key j _ e with ⟨_,e2,e3⟩|⟨_,e2,e3⟩
  ·cases e2
  ·obtain ⟨x,h1,h2⟩:=r.sh j d' e2;exact ⟨x,by rw [e3];exact h1,h2⟩
 ·rcases key j _ e with ⟨zj,e2,e3⟩|⟨zj,e2,e3⟩
  ·rw [if_pos zj,e3,e2];exact ⟨v,t,rfl,rfl,h,λ a u z=>(by cases z),nd⟩
  ·rw [if_neg zj,e3];exact r.rt j s e2 hs
 ·rcases key j _ e with ⟨zj,e2,e3⟩|⟨zj,e2,e3⟩
  ·rw [if_pos zj] at ha;exact .inl (hf a ha)
  ·rw [if_neg zj] at ha;exact r.fr j s e2 hs a ha
 ·rcases key j _ e1 with ⟨zj,z1,_⟩|⟨zj,z1,_⟩ <;> rcases key k _ e2 with ⟨zk,z2,_⟩|⟨zk,z2,_⟩
  ·exact absurd (zj.trans zk.symm) hjk
  ·rw [if_pos zj] at ha;rw [if_neg zk]
   exact λ w=>hd k s' z2 o2 a w ha
  ·rw [if_neg zj] at ha;rw [if_pos zk]
   exact hd j s z1 (own_has o1) a ha
  ·rw [if_neg zj] at ha;rw [if_neg zk]
   exact r.dj j k s s' hjk z1 z2 o1 o2 a ha
theorem RS.put (r:RS K B F H σ δ fps) {i:Nat} {s:Sl} {p:Pth} {v:V} {u:T} (hi:δ[i]?=some s) (ho:s.own=true) (ha:AtS H σ δ i p v u) :
  ∃ fn t,s.tree=some t/\Rt K F H v u fn/\fn.Nodup/\(∀ a∈fn,a∈fps i)/\∀ {F2 H2:Hp} {u2:T} {fq:List Addr},
   (∀ b o,b ∉ fn->H b=some o->H2 b=some o)->Same F F2->Same F2 H2->(∀ b,HD (H b)->F b=none->b ∉ fn->F2 b=none)->(∀ b,(H b≠none->H2 b≠none)/\(HD (H b)->HD (H2 b)))->(∀ b∈fn,F2 b≠none->B.H0 b=none) ->
   Rt K F2 H2 v u2 fq->fq.Nodup->(∀ b∈fq,b∈fn \/ NewOk B δ fps b)->∃ fps2,RS K B F2 H2 σ (δ.set i (s.wth (setP t p u2))) fps2/\(∀ j,j≠i->fps2 j=fps j)/\∀ b∈fps2 i,b∈fps i \/ b∈fq:=by
 obtain ⟨s',t,x,h1,h2,h3,h4⟩:=ha
 rw [hi] at h1;cases h1
 obtain ⟨x',t',a1,a2,a3,a4,a5⟩:=r.rt i s hi (own_has ho)
 rw [h3] at a1;cases a1
 rw [h2] at a2;cases a2
 obtain ⟨fn,hn,sub,ndn,back⟩:=focus h4 a3 a5
 refine ⟨fn,t,h2,hn,ndn,sub,λ {F2 H2 u2 fq} c1 c2 c3 c4 c5 c6 hu nq mq=>?_⟩
 obtain ⟨fp2,r2,n2,m2⟩:=back c2 (λ b hb hnb=>by
  obtain ⟨d1,d2⟩:=a3.dom b hb
  cases q:H b with
 |none=>exact absurd q d1
 |some o=>exact ⟨c1 b o hnb q,c4 b (a3.hdd b hb) d2 hnb⟩) hu nq λ b hb=>by
   rcases mq b hb with z|z
   ·exact .inl z
   ·exact .inr (z.2 i s hi (own_has ho))
 refine ⟨_,r.upd2 hi ho h3 (λ b o hb=>c1 b o λ z=>hb (sub b z)) c2 c3 (λ b hb fb hbi=>c4 b hb fb λ z=>hbi (sub b z)) c5 r2 n2 (λ b hb=>?_) (λ b hb f2=>?_),λ j hj=>if_neg hj,λ b hb=>?_⟩
 ·rcases m2 b hb with ⟨y,_⟩|y
  ·exact .inl y
  ·rcases mq b y with z|z
   ·exact .inl (sub b z)
   ·exact .inr z
 ·by_cases z:b∈fn
  ·exact c6 b z f2
  ·obtain ⟨d1,d2⟩:=a3.dom b hb
   exact absurd (c4 b (a3.hdd b hb) d2 z) f2
 ·rw [if_pos rfl] at hb
  rcases m2 b hb with ⟨y,_⟩|y
  ·exact .inl y
  ·exact .inr y
end
structure Res (K:Fg) (B:Bs) (F H:Hp) (σ:L2.St) (δ:DSt) (fps:Nat->List Addr) (v:V) (r:T) (fpr:List Addr):Prop where
 rs:RS K B F H σ δ fps
 rt:Rt K F H v r fpr
 nd:fpr.Nodup
 fr:∀ a∈fpr,B.H0 a=none
 dj:∀ (j:Nat) s,δ[j]?=some s->s.has=true->∀ a∈fps j,a ∉ fpr
abbrev DC:=DSt->(T->DSt->Prop)->Prop
def RfC (K:Fg) (te:TE) (dc:DC):Prop:=∀ {B:Bs} {F H:Hp} {σ:L2.St} {δ:DSt} {fps:Nat->List Addr} {Qd:T->DSt->Prop} {Q:VK},RS K B F H σ δ fps->dc δ Qd->(∀ r δ',Qd r δ'->∀ v F' H' fps' fpr,Res K B F' H' σ δ' fps' v r fpr->Q v H')->te σ H Q
structure DEnds where
 nx:DSt->Prop
 rt:T->DSt->Prop
 bk:DSt->Prop:=λ _=>False
 ct:DSt->Prop:=λ _=>False
abbrev DS:=DEnds->DSt->Prop
structure En (K:Fg) (B:Bs) (E:DEnds) (Z:Ends):Prop where
 nx:∀ {F H:Hp} {σ:L2.St} {δ:DSt} {fps:Nat->List Addr},RS K B F H σ δ fps->E.nx δ->Z.nx σ H
 bk:∀ {F H:Hp} {σ:L2.St} {δ:DSt} {fps:Nat->List Addr},RS K B F H σ δ fps->E.bk δ->Z.bk σ H
 ct:∀ {F H:Hp} {σ:L2.St} {δ:DSt} {fps:Nat->List Addr},RS K B F H σ δ fps->E.ct δ->Z.ct σ H
 rt:∀ {F H:Hp} {σ:L2.St} {δ:DSt} {fps:Nat->List Addr} {v:V} {r:T} {fpr:List Addr},Res K B F H σ δ fps v r fpr->E.rt r δ->Z.rt v H
def RfS (K:Fg) (ts:TS) (ds:DS):Prop:=∀ {B:Bs} {F H:Hp} {σ:L2.St} {δ:DSt} {fps:Nat->List Addr} {E:DEnds} {Z:Ends},RS K B F H σ δ fps->ds E δ->En K B E Z->ts Z σ H
section
variable {K:Fg} {te ta ti:TE} {de da di:DE} {dc:DC} {tt:TT} {dt:DT} {t u tb:TS} {d e db:DS} {tA:TA} {dA:DF} {g:TG} {dg:DG} {n:Nat} {dp:DP}
def cE (de:DE):DC:=λ δ Q=>de δ λ d=>Q (.fz d) δ
theorem RfE.c (h:RfE K te de):RfC K te (cE de):=by
 intro B F H σ δ fps Qd Q r hd k
 exact h r.fh r.rv hd λ d q v F1 H1 e1 i1=>k _ _ q v F1 H1 fps [] ⟨r.grow e1,.fz i1,.nil,λ a ha=>by simp at ha,λ _ _ _ _ a _ ha=>by simp at ha⟩
def cF (df:DF):DC:=λ δ Q=>df δ λ ds=>Q (.li ds) δ
theorem RfF.c {df:DF} (h:RfF K te df):RfC K te (cF df):=by
 intro B F H σ δ fps Qd Q r hd k
 refine h r.fh r.rv hd λ ds q a xs F1 H1 e1 hn h1 h2 h3=>k _ _ q (.ref a) F1 H1 fps [a] ⟨r.grow e1,.li h1 h2 h3,by simp,λ b hb=>?_,λ j s ej hs b hb hb2=>?_⟩
 ·simp at hb;subst hb
  by_cases z:B.H0 b=none
  ·exact z
  ·exact absurd hn ((r.al b).1 z)
 ·simp at hb2;subst hb2
  obtain ⟨x,t,a1,a2,a3,a4,a5⟩:=r.rt j s ej hs
  exact (a3.dom b hb).1 hn
def slot:T->Sl
|.fz d=>.sh d
|t=>.ow t
theorem Res.set {B:Bs} {F H:Hp} {σ:L2.St} {δ:DSt} {fps:Nat->List Addr} {v:V} {r:T} {fpr:List Addr} (h:Res K B F H σ δ fps v r fpr) (i:Nat):∃ fps',RS K B F H (σ.set i (some v)) (δ.set i (slot r)) fps':=by
 cases r with
|fz d=>cases h.rt with
 |fz hi=>exact ⟨_,h.rs.setS hi⟩
|li ds=>exact ⟨_,h.rs.setT h.rt h.nd h.fr h.dj⟩
|ls ds=>exact ⟨_,h.rs.setT h.rt h.nd h.fr h.dj⟩
|ob C ds=>exact ⟨_,h.rs.setT h.rt h.nd h.fr h.dj⟩
|dk ds=>exact ⟨_,h.rs.setT h.rt h.nd h.fr h.dj⟩
|dt ds=>exact ⟨_,h.rs.setT h.rt h.nd h.fr h.dj⟩
|tp ds=>exact ⟨_,h.rs.setT h.rt h.nd h.fr h.dj⟩
|wh=>exact ⟨_,h.rs.setT h.rt h.nd h.fr h.dj⟩
|dz _ _=>exact ⟨_,h.rs.setT h.rt h.nd h.fr h.dj⟩
def dNext:DS:=λ E δ=>E.nx δ
theorem rs_next:RfS K tNext dNext:=λ r h k=>k.nx r h
def dSeq (a b:DS):DS:=λ E δ=>∃ J:DSt->Prop,a { E with nx:=J } δ/\∀ δ',J δ'->b E δ'
theorem rs_seq (h1:RfS K t d) (h2:RfS K u e):RfS K (tSeq t u) (dSeq d e):=by
 intro B F H σ δ fps E Z r h k
 obtain ⟨J,ha,hb⟩:=h
 exact h1 r ha ⟨λ r' q=>h2 r' (hb _ q) k,k.bk,k.ct,k.rt⟩
def dAsg (de:DE) (dg:DG):DS:=λ E δ=>de δ λ d=>dg d δ E.nx
theorem rs_asg (he:RfE K te de) (hg:RfG K n g dg):RfS K (tAsg te g) (dAsg de dg):=by
 intro B F H σ δ fps E Z r h k
 exact he r.fh r.rv h λ d hd v F1 H1 e1 i1=>hg e1.fh i1 hd λ σ' δ' q u=>k.nx ((r.grow e1).byUpd u) q
def dSet (i:Nat) (dc:DC):DS:=λ E δ=>dc δ λ r δ'=>E.nx (δ'.set i (slot r))
theorem rs_set {i:Nat} (hc:RfC K te dc):RfS K (tAsg te (gName i)) (dSet i dc):=by
 intro B F H σ δ fps E Z r h k
 refine hc r h λ r2 δ' q v F1 H1 fps1 fpr res=>?_
 obtain ⟨fps2,r3⟩:=res.set i
 exact k.nx r3 q
def dDrop (dc:DC):DS:=λ E δ=>dc δ λ _ δ'=>E.nx δ'
theorem rs_drop (hc:RfC K te dc):RfS K (tDrop te) (dDrop dc):=by
 intro B F H σ δ fps E Z r h k
 exact hc r h λ r2 δ' q v F1 H1 fps1 fpr res=>k.nx res.rs q
def dRet (dc:DC):DS:=λ E δ=>dc δ E.rt
theorem rs_ret (hc:RfC K te dc):RfS K (tRet te) (dRet dc):=by
 intro B F H σ δ fps E Z r h k
 exact hc r h λ r2 δ' q v F1 H1 fps1 fpr res=>k.rt res q
def dRetO (i:Nat):DS:=λ E δ=>match δ[i]? with
|some (.ow t)=>E.rt t (δ.set i .un)
|some (.sh d)=>E.rt (.fz d) δ
|_=>False
def dIf (dt:DT) (d e:DS):DS:=λ E δ=>dt δ λ b=>if b=true then d E δ else e E δ
theorem rs_if (ht:RfT K tt dt) (h1:RfS K t d) (h2:RfS K u e):RfS K (tIfS tt t u) (dIf dt d e):=by
 intro B F H σ δ fps E Z r h k
 refine ht r.fh r.rv h λ b hb F1 H1 e1=>?_
 cases b with
|true=>rw [if_pos rfl] at hb ⊢;exact h1 (r.grow e1) hb k
|false=>rw [if_neg Bool.false_ne_true] at hb ⊢;exact h2 (r.grow e1) hb k
def dFor (di:DF) (dg:DG) (db:DS):DS:=λ E δ=>di δ λ items=>∃ W:Nat->DSt->Prop,W 0 δ /\
 (∀ i d δ',items[i]?=some d->W i δ'->dg d δ' λ δ2=>db { E with nx:=W (i+1),ct:=W (i+1),bk:=E.nx } δ2)/\∀ δ',W items.length δ'->E.nx δ'
def Bs.rem (B:Bs) (F1:Hp):Bs:=⟨F1,B.H0,B.G⟩
theorem RS.rem {B:Bs} {F H F1:Hp} {σ:L2.St} {δ:DSt} {fps:Nat->List Addr} (r:RS K B F H σ δ fps) (s0:Same B.F0 F1) (s:Same F1 F):RS K (B.rem F1) F H σ δ fps :=
 ⟨r.hh,s,r.fh,λ b hb fb=>r.nw b hb (by
  cases q:B.F0 b with
 |none=>rfl
 |some o=>rw [show (B.rem F1).F0 b=F1 b from rfl,s0 b o q] at fb;cases fb),r.al,r.len,r.sh,r.rt,r.fr,r.dj⟩
theorem RS.unrem {B:Bs} {F H F1:Hp} {σ:L2.St} {δ:DSt} {fps:Nat->List Addr} (r:RS K (B.rem F1) F H σ δ fps) (s0:Same B.F0 F1) (n0:∀ b,HD (B.H0 b)->B.F0 b=none->F1 b=none):RS K B F H σ δ fps :=
 ⟨r.hh,s0.trans r.ff,r.fh,λ b hb fb=>r.nw b hb (n0 b hb fb),r.al,r.len,r.sh,r.rt,r.fr,r.dj⟩
theorem rs_for {wi:TI} {di:DF} (hi:RfI K wi di) (hg:RfG K n g dg) (hb:RfS K tb db):RfS K (tFor wi g tb) (dFor di dg db):=by
 intro B F H σ δ fps E Z r h k
 refine hi r.fh r.rv h λ items hx J F1 H1 e1 wj=>?_
 obtain ⟨W,w0,ws,we⟩:=hx
 have r1:=r.grow e1
 have s0:=r1.ff
 have n0:=r1.nw
 refine ⟨λ i m σ' H'=>m=items.length - i/\i<=items.length/\∃ F' δ' fps',RS K (B.rem F1) F' H' σ' δ' fps'/\W i δ',⟨items.length,rfl,Nat.zero_le _,F1,δ,fps,r1.rem s0 (λ _ _ z=>z),w0⟩,?_⟩
 rintro i m σ' H' ⟨rfl,hi',F',δ',fps',r',w'⟩
 obtain ⟨go,stop,yld⟩:=wj F' H' r'.ff r'.fh
 by_cases hlt:i < items.length
 ·refine .inr ⟨go i hlt,λ σ2 H2=>i+1<=items.length/\∃ F2 δ2 fps2,RS K (B.rem F1) F2 H2 σ2 δ2 fps2/\W (i+1) δ2,λ σ2 H2 p=>⟨_,by lia,rfl,p⟩,λ x H2 y=>?_⟩
  have hit:items[i]?=some items[i]:=List.getElem?_eq_getElem hlt
  obtain ⟨F2,ex2,ix2⟩:=yld i x H2 _ hit y
  refine hg ex2.fh ix2 (ws i _ δ' hit w') λ σ2 δ2 hd2 u2=>?_
  refine hb ((r'.grow ex2).byUpd u2) hd2 ⟨λ r3 q=>⟨hlt,_,_,_,r3,q⟩,λ r3 q=>k.nx (r3.unrem s0 n0) q,λ r3 q=>⟨hlt,_,_,_,r3,q⟩,λ res q=>k.rt ⟨res.rs.unrem s0 n0,res.rt,res.nd,res.fr,res.dj⟩ q⟩
 ·have e:i=items.length:=by lia
  subst e
  exact .inl ⟨stop,k.nx (r'.unrem s0 n0) (we _ w')⟩
def mutS (δ:DSt) (i:Nat) (p:Pth) (u:T) (N:DSt->Prop):Prop:=match δ[i]? with
|some (.ow t)=>N (δ.set i (.ow (setP t p u)))
|some (.io a t)=>N (δ.set i (.io a (setP t p u)))
|_=>False
theorem RS.mut {B:Bs} {F H:Hp} {σ:L2.St} {δ:DSt} {fps:Nat->List Addr} {i:Nat} {p:Pth} {v:V} {u u2:T} {N:DSt->Prop} (r:RS K B F H σ δ fps) (ha:AtS H σ δ i p v u) (hm:mutS δ i p u2 N) :
  ∃ fn,Rt K F H v u fn/\fn.Nodup/\(∀ a∈fn,a∈fps i)/\∀ {F2 H2:Hp} {fq:List Addr},
   (∀ b o,b ∉ fn->H b=some o->H2 b=some o)->Same F F2->Same F2 H2->(∀ b,HD (H b)->F b=none->b ∉ fn->F2 b=none)->(∀ b,(H b≠none->H2 b≠none)/\(HD (H b)->HD (H2 b)))->(∀ b∈fn,F2 b≠none->B.H0 b=none) ->
   Rt K F2 H2 v u2 fq->fq.Nodup->(∀ b∈fq,b∈fn \/ NewOk B δ fps b)->∃ δ2 fps2,RS K B F2 H2 σ δ2 fps2/\N δ2/\(∀ j,j≠i->fps2 j=fps j/\δ2[j]?=δ[j]?)/\(∀ b∈fps2 i,b∈fps i \/ b∈fq)/\(∃ s,δ[i]?=some s/\s.own=true):=by
 obtain ⟨s,hi,ho,hN⟩:∃ s,δ[i]?=some s/\s.own=true/\∀ t,s.tree=some t->N (δ.set i (s.wth (setP t p u2))):=by
  unfold mutS at hm
  split at hm
  ·rename_i t q
   exact ⟨_,q,rfl,λ t' e=>by cases e;exact hm⟩
  ·rename_i a t q
   exact ⟨_,q,rfl,λ t' e=>by cases e;exact hm⟩
  ·exact hm.elim
 obtain ⟨fn,t,h1,h2,h3,h4,h5⟩:=r.put hi ho ha
 refine ⟨fn,h2,h3,h4,λ {F2 H2 fq} c1 c2 c3 c4 c5 c6 hu nq mq=>?_⟩
 obtain ⟨fps2,r2,e2⟩:=h5 c1 c2 c3 c4 c5 c6 hu nq mq
 refine ⟨_,fps2,r2,hN t h1,λ j hj=>⟨e2.1 j hj,?_⟩,e2.2,s,hi,ho⟩
 rw [List.getElem?_set_ne (λ z=>hj z.symm)]
theorem RS.one {B:Bs} {F H:Hp} {σ:L2.St} {δ:DSt} {fps:Nat->List Addr} {i:Nat} {p:Pth} {a:Addr} {u u2:T} {o o2:HO} {N:DSt->Prop} (r:RS K B F H σ δ fps) (ha:AtS H σ δ i p (.ref a) u) (hm:mutS δ i p u2 N) (ho:H a=some o)
  (hu:∀ fn,Rt K F H (.ref a) u fn->fn=[a]) (h2:F a=none->Rt K F (upd H a o2) (.ref a) u2 [a]):∃ δ2 fps2,RS K B F (upd H a o2) σ δ2 fps2/\N δ2/\(∀ j,j≠i->fps2 j=fps j/\δ2[j]?=δ[j]?):=by
 obtain ⟨fn,hr,nd,sub,back⟩:=r.mut ha hm
 have e:=hu fn hr
 subst e
 have fa:F a=none:=(hr.dom a (by simp)).2
 obtain ⟨δ2,fps2,g1,g2,g3,_⟩:=back (F2:=F) (H2:=upd H a o2) (fq:=[a]) (λ b o' hb ho'=>by rw [upd_ne (λ z=>hb (by simp [z]))];exact ho') (λ _ _ z=>z) (λ b o' z=>by
   have:b≠a:=λ w=>by subst w;rw [fa] at z;cases z
   rw [upd_ne this];exact r.fh b o' z) (λ b _ fb _=>fb) (al_upd ((h2 fa).hdd a (by simp))) (λ b hb f=>by simp at hb;subst hb;exact absurd fa f) (h2 fa) (by simp) (λ b hb=>.inl hb)
 exact ⟨δ2,fps2,g1,g2,g3⟩
abbrev FM:=T->List D->(T->D->Prop)->Prop
def MO (K:Fg) (r:V->List V->Hp->VK->Prop) (f:FM):Prop:=∀ {F H:Hp} {v:V} {u:T} {fn:List Addr} {vs:List V} {ds:List D} {Kd:T->D->Prop} {Q:VK},Same F H->Rt K F H v u fn->IsAll K F vs ds->f u ds Kd ->
 ∃ u2 d y o o2 a,Kd u2 d/\v=.ref a/\fn=[a]/\H a=some o/\Is K F y d/\Rt K F (upd H a o2) (.ref a) u2 [a]/\(Q y (upd H a o2)->r v vs H Q)
def tyN (T:String):L4.T->Prop
|.li _=>T = "list"
|.ls _=>T = "list"
|.dk _=>T = "dict"
|.dt _=>T = "dict"
|_=>False
theorem ty_of {F H:Hp} {T:String} {v:V} {u:L4.T} {fn:List Addr} (h:Rt K F H v u fn) (k:tyN T u):tyV K T v H:=by
 cases h with
|fz _=>exact k.elim
|li h1 _ _=>exact .inl ⟨k,_,SqL.of h1⟩
|ls h1 _ _=>exact .inl ⟨k,_,SqL.of h1⟩
|ob _ _ _ _ _=>exact k.elim
|tp _ _ _ _=>exact k.elim
|wh=>exact k.elim
|dz _ _ _=>exact k.elim
|dk h1 _ _=>exact .inr (.inr (.inl ⟨k,.inl ⟨_,h1⟩⟩))
|dt h1 _ _=>exact .inr (.inr (.inl ⟨k,.inr ⟨_,h1⟩⟩))
theorem node1 {F H:Hp} {v:V} {u:T} {fn:List Addr} {r:V->List V->Hp->VK->Prop} {f:FM} (hm:MO K r f) {vs:List V} {ds:List D} {Kd:T->D->Prop} {B:Bs} {σ:L2.St} {δ:DSt} {fps:Nat->List Addr} {i:Nat} {p:Pth} {Qd:T->DSt->Prop} {Q:VK}
  (rs:RS K B F H σ δ fps) (ha:AtS H σ δ i p v u) (hv:IsAll K F vs ds) (hf:f u ds λ u2 d=>mutS δ i p u2 λ δ'=>Qd (.fz d) δ')
  (k:∀ r δ',Qd r δ'->∀ v F' H' fps' fpr,Res K B F' H' σ δ' fps' v r fpr->Q v H'):r v vs H Q:=by
 obtain ⟨fn,hr⟩:=ha.rt rs.rv
 obtain ⟨u2,d,y,o,o2,a,kd,rfl,e2,h3,h4,h5,h6⟩:=hm (Q:=Q) rs.fh hr hv hf
 refine h6 ?_
 obtain ⟨δ2,fps2,r2,q2,_⟩:=rs.one ha kd h3 (λ fn' hr'=>by
  obtain ⟨_,_,_,_,_,a',_,e1,e2',_⟩:=hm (Q:=Q) rs.fh hr' hv hf
  cases e1;exact e2') (λ _=>h5)
 exact k _ _ q2 _ _ _ fps2 [] ⟨r2,.fz h4,.nil,λ a ha=>by simp at ha,λ _ _ _ _ a _ ha=>by simp at ha⟩
def cBM (ty:String) (f:FM) (dp:DP) (dA:DF):DC:=λ δ Q=>dp δ λ i p u=>tyN ty u/\dA δ λ ds=>f u ds λ u2 d=>mutS δ i p u2 λ δ'=>Q (.fz d) δ'
theorem rc_bm {T:String} {r:V->List V->Hp->VK->Prop} {f:FM} (hm:MO K r f) (hp:RfP K te dp) (hA:RfA K tA dA):RfC K (tBMU K T r te tA) (cBM T f dp dA):=by
 intro B F H σ δ fps Qd Q rs hd k
 refine hp rs.fh rs.rv hd λ i p u hu v F1 H1 e1 at1=>?_
 have r1:=rs.grow e1
 obtain ⟨fn,hr⟩:=at1.rt r1.rv
 refine ⟨ty_of hr hu.1,hA e1.fh r1.rv hu.2 λ ds hds vs F2 H2 e2 i2=>?_⟩
 exact node1 hm (fn:=fn) (Kd:=λ _ _=>True) (r1.grow e2) (at1.mono e2.h) i2 hds k
def mApp:FM:=λ u ds N=>match u,ds with
|.li xs,[d]=>xs.length < sizeLine/\N (.li (xs++[d])) .none
|_,_=>False
theorem mo_app:MO K rAppend mApp:=by
 intro F H v u fn vs ds Kd Q s hr hv hf
 unfold mApp at hf
 split at hf
 ·obtain ⟨y,rfl,iy⟩:=all1 hv
  cases hr with
 |li h1 h2 h3 =>
   have el:=h3.dlen
   exact ⟨_,_,.non,_,.lst (_++[y]),_,hf.2,rfl,rfl,h1,.non,.li upd_same h2 (h3.dapp (.cons iy .nil)),λ q=>⟨_,_,y,rfl,rfl,h1,by lia,q⟩⟩
 ·exact hf.elim
end
section
variable {K:Fg} {te ta ti tv:TE} {de da di dk:DE} {dc:DC} {tt:TT} {dt:DT} {t u tb:TS} {d e db:DS} {tA:TA} {dA:DF} {g:TG} {dg:DG} {n:Nat} {dp:DP} {w:World}
def keyD:D->Option Key
|.int i=>some (.inl i)
|.str x=>some (.inr x)
|_=>none
theorem key_is {F:Hp} {v:V} {d:D} {k:Key} (h:Is K F v d) (e:keyD d=some k):v=kV k:=by
 cases h <;> simp [keyD] at e <;> subst e <;> rfl
def keysOf:List D->Option (List Key)
|[]=>some []
|d :: ds=>match keyD d,keysOf ds with
 |some k,some ks=>some (k :: ks)
 |_,_=>none
def keyT:D->Option (List Key)
|.tuple ds=>keysOf ds
|_=>none
theorem keysOf_all {F:Hp}:∀ {xs:List V} {ds:List D} {k:List Key},IsAll K F xs ds->keysOf ds=some k->xs=k.map kV/\ds.all keyish=true
|_,_,_,.nil,e=>by simp [keysOf] at e;subst e;exact ⟨rfl,rfl⟩
|_,_,_,.cons (d:=d) h r,e=>by
  unfold keysOf at e
  split at e
  ·rename_i k ks h1 h2
   cases e
   obtain ⟨e1,e2⟩:=keysOf_all r h2
   have:=key_is h h1
   rw [List.map_cons,this,e1,List.all_cons,e2]
   refine ⟨rfl,?_⟩
   cases d <;> simp [keyD] at h1 <;> rfl
  ·cases e
theorem keyT_is {F:Hp} {v:V} {d:D} {k:List Key} (h:Is K F v d) (e:keyT d=some k):∃ b,v=.ref b/\F b=some (.tup (k.map kV)):=by
 cases h with
|tup h1 h2 =>
  obtain ⟨e1,_⟩:=keysOf_all h2 e
  subst e1
  exact ⟨_,rfl,h1⟩
|tuc h1 h2 h3 =>
  obtain ⟨_,e2⟩:=keysOf_all h2 e
  rw [e2] at h3;cases h3
|_=>simp [keyT] at e
def getA {κ:Type} [DecidableEq κ] (kvs:List (κ×D)) (k:κ):Option D:=(kvs.find? λ kv=>decide (kv.1=k)).map (·.2)
def putD {κ:Type} [DecidableEq κ] (kvs:List (κ×D)) (k:κ) (d:D):List (κ×D) :=
 if (kvs.any λ kv=>decide (kv.1=k))=true then kvs.map (λ kv=>if kv.1=k then (kv.1,d) else kv) else kvs++[(k,d)]
theorem KvIs.len {F:Hp} {κ:Type}:∀ {r:List (κ×V)} {s:List (κ×D)},KvIs K F r s->r.length=s.length
|_,_,.nil=>rfl
|_,_,.cons _ r=>congrArg (·+1) (KvIs.len r)
theorem KvIs.get {F:Hp} {κ:Type} [DecidableEq κ] {k:κ}:∀ {r:List (κ×V)} {s:List (κ×D)},KvIs K F r s->(getA s k=none/\valV r k=none) \/ ∃ d v,getA s k=some d/\valV r k=some v/\Is K F v d
|_,_,.nil=>.inl ⟨rfl,rfl⟩
|_,_,.cons (k:=k') (v:=v) (d:=d) h r=>by
  by_cases e:k'=k
  ·exact .inr ⟨d,v,by simp [getA,e],by simp [valV,e],h⟩
  ·rcases KvIs.get (k:=k) r with ⟨h1,h2⟩|⟨d',v',h1,h2,h3⟩
   ·exact .inl ⟨by simp [getA,e];simpa [getA] using h1,by simp [valV,e];simpa [valV] using h2⟩
   ·refine .inr ⟨d',v',?_,?_,h3⟩
    ·simp [getA,e];simpa [getA] using h1
    ·simp [valV,e];simpa [valV] using h2
theorem KvIs.any {F:Hp} {κ:Type} [DecidableEq κ] {k:κ}:∀ {r:List (κ×V)} {s:List (κ×D)},KvIs K F r s->(r.any λ kv=>decide (kv.1=k))=(s.any λ kv=>decide (kv.1=k))
|_,_,.nil=>rfl
|_,_,.cons _ r=>by rw [List.any_cons,List.any_cons,KvIs.any r]
theorem KvIs.app {F:Hp} {κ:Type}:∀ {r r':List (κ×V)} {s s':List (κ×D)},KvIs K F r s->KvIs K F r' s'->KvIs K F (r++r') (s++s')
|_,_,_,_,.nil,h=>h
|_,_,_,_,.cons h r,h'=>.cons h (r.app h')
theorem KvIs.map {F:Hp} {κ:Type} [DecidableEq κ] {k:κ} {v:V} {d:D} (hv:Is K F v d):∀ {r:List (κ×V)} {s:List (κ×D)},KvIs K F r s->KvIs K F (r.map λ kv=>if kv.1=k then (kv.1,v) else kv) (s.map λ kv=>if kv.1=k then (kv.1,d) else kv)
|_,_,.nil=>.nil
|_,_,.cons (k:=k') h r=>by
  by_cases e:k'=k
  ·simp only [List.map_cons,e,if_true];exact .cons hv (r.map hv)
  ·simp only [List.map_cons,e,if_false];exact .cons h (r.map hv)
theorem KvIs.put {F:Hp} {κ:Type} [DecidableEq κ] {k:κ} {v:V} {d:D} (hv:Is K F v d) {r:List (κ×V)} {s:List (κ×D)} (h:KvIs K F r s):KvIs K F (putK r k v) (putD s k d):=by
 unfold putK putD
 rw [h.any]
 split
 ·exact h.map hv
 ·exact h.app (.cons hv .nil)
def fPut (u:T) (k d:D) (N:T->Prop):Prop:=match u with
|.li ds=>match k with
 |.int z=>∃ j,ixN ds.length z=some j/\N (.li (ds.set j d))
 |_=>False
|.dk kvs=>∃ key,keyD k=some key/\kvs.length < sizeLine/\N (.dk (putD kvs key d))
|.dt kvs=>∃ key,keyT k=some key/\kvs.length < sizeLine/\N (.dt (putD kvs key d))
|_=>False
theorem put_ok {B:Bs} {F H:Hp} {σ:L2.St} {δ:DSt} {fps:Nat->List Addr} {i:Nat} {p:Pth} {v kv y:V} {u:T} {k d:D} {N:DSt->Prop} {Q:Hp->Prop} (rs:RS K B F H σ δ fps) (ha:AtS H σ δ i p v u) (hk:Is K F kv k) (hy:Is K F y d)
  (hf:fPut u k d λ u2=>mutS δ i p u2 N) (q:∀ δ2 fps2 H2,RS K B F H2 σ δ2 fps2->N δ2->Q H2):rSetV v kv y H Q:=by
 obtain ⟨fn,hr⟩:=ha.rt rs.rv
 cases hr with
|li h1 h2 h3 =>
  simp only [fPut] at hf
  split at hf
  ·rename_i z
   obtain ⟨j,ej,hm⟩:=hf
   cases hk.int_inv
   have el:=h3.dlen
   obtain ⟨δ2,fps2,r2,n2,_⟩:=rs.one (o2:=.lst (_)) ha hm h1 (λ fn' hr'=>by cases hr';rfl) (λ fa=>.li upd_same fa (h3.dset hy j))
   exact .inl ⟨_,_,z,j,rfl,rfl,h1,by rw [el];exact ej,q _ _ _ r2 n2⟩
  ·exact hf.elim
|dk h1 h2 h3 =>
  simp only [fPut] at hf
  obtain ⟨key,ek,hl,hm⟩:=hf
  have:=key_is hk ek
  subst this
  have el:=h3.len
  obtain ⟨δ2,fps2,r2,n2,_⟩:=rs.one (o2:=.dK _) ha hm h1 (λ fn' hr'=>by cases hr';rfl) (λ fa=>.dk upd_same fa (h3.put (k:=key) hy))
  exact .inr ⟨_,_,rfl,DPut.k h1 (by lia),q _ _ _ r2 n2⟩
|fz _=>exact hf.elim
|ls _ _ _=>exact hf.elim
|ob _ _ _ _ _=>exact hf.elim
|tp _ _ _ _=>exact hf.elim
|wh=>exact hf.elim
|dz _ _ _=>exact hf.elim
|dt h1 h2 h3 =>
  simp only [fPut] at hf
  obtain ⟨key,ek,hl,hm⟩:=hf
  obtain ⟨kb,rfl,hb⟩:=keyT_is hk ek
  have el:=h3.len
  obtain ⟨δ2,fps2,r2,n2,_⟩:=rs.one (o2:=.dT _) ha hm h1 (λ fn' hr'=>by cases hr';rfl) (λ fa=>.dt upd_same fa (h3.put (k:=key) hy))
  exact .inr ⟨_,_,rfl,DPut.t h1 (rs.fh _ _ hb) (by lia),q _ _ _ r2 n2⟩
def dPut (dp:DP) (dk de:DE):DS:=λ E δ=>de δ λ d=>dp δ λ i p u=>dk δ λ k=>fPut u k d λ u2=>mutS δ i p u2 E.nx
theorem rs_put (he:RfE K te de) (hp:RfP K ta dp) (hk:RfE K ti dk):RfS K (tAsg te (gSub ta ti rSetV)) (dPut dp dk de):=by
 intro B F H σ δ fps E Z r h k
 refine he r.fh r.rv h λ d hd y F1 H1 e1 i1=>?_
 have r1:=r.grow e1
 refine hp r1.fh r1.rv hd λ i p u hu v F2 H2 e2 at2=>?_
 have r2:=r1.grow e2
 refine hk r2.fh r2.rv hu λ kd hkd kv F3 H3 e3 i3=>?_
 exact put_ok (r2.grow e3) (at2.mono e3.h) i3 (i1.mono (e2.f.trans e3.f)) hkd λ δ2 fps2 H4 r4 n4=>k.nx r4 n4
def fII (f:Int->Int->Int) (x y:D) (Q:D->Prop):Prop:=match x,y with
|.int i,.int j=>Q (.int (f i j))
|_,_=>False
def dAug (i:Nat) (f:Int->Int->Int) (de:DE):DS:=λ E δ=>match δ[i]? with
|some (.sh x)=>de δ λ y=>fII f x y λ z=>E.nx (δ.set i (.sh z))
|_=>False
theorem rs_aug {i:Nat} {f:Int->Int->Int} (he:RfE K te de):RfS K (tAug i te (ipI f)) (dAug i f de):=by
 intro B F H σ δ fps E Z r h k
 unfold dAug at h
 split at h
 ·rename_i x q
  obtain ⟨v,e0,i0⟩:=r.sh i _ q
  refine ⟨_,slot_of (F:=F) (H:=H) (δ:=δ) e0,he r.fh r.rv h λ d hd v2 F1 H1 e1 i1=>?_⟩
  unfold fII at hd
  split at hd
  ·cases i0.int_inv
   cases i1.int_inv
   exact ⟨_,_,rfl,rfl,k.nx ((r.grow e1).setS (.int _)) hd⟩
  ·exact hd.elim
 ·exact h.elim
end
section
variable {K:Fg} {te ta ti tv:TE} {de da di dk:DE} {dc:DC} {tt:TT} {dt:DT} {t u tb:TS} {d e db:DS} {tA:TA} {dA:DF} {g:TG} {dg:DG} {n:Nat} {dp:DP} {w:World}
theorem new_any {F H:Hp} {p:Addr} {o:HO} (s:Same F H) (hn:H p=none):Ext F H F (upd H p o) :=
 ⟨same_new hn _,λ _ _ z=>z,λ b o z=>same_new hn _ b o (s b o z),λ _ _ z=>z⟩
def fHas (neg:Bool) (u:T) (k:D) (Q:D->Prop):Prop:=match u with
|.dk kvs=>∃ key,keyD k=some key/\Q (.bool (if neg then !(getA kvs key).isSome else (getA kvs key).isSome))
|.dt kvs=>∃ key,keyT k=some key/\Q (.bool (if neg then !(getA kvs key).isSome else (getA kvs key).isSome))
|.dz _ kvs=>∃ key,keyT k=some key/\Q (.bool (if neg then !(getA kvs key).isSome else (getA kvs key).isSome))
|_=>False
def nIn (neg:Bool) (dk:DE) (dp:DP):DE:=λ δ Q=>dk δ λ k=>dp δ λ _ _ u=>fHas neg u k Q
theorem has_ok {F H:Hp} {v kv:V} {u:T} {fn:List Addr} {k:D} {Qd:D->Prop} {neg:Bool} (s:Same F H) (hr:Rt K F H v u fn) (hk:Is K F kv k) (hf:fHas neg u k Qd):∃ a o,v=.ref a/\DGet H a kv o/\Qd (.bool (if neg then !o.isSome else o.isSome)):=by
 cases hr with
|dk h1 h2 h3 =>
  obtain ⟨key,ek,q⟩:=hf
  have:=key_is hk ek
  subst this
  rcases h3.get (k:=key) with ⟨g1,g2⟩|⟨d',y,g1,g2,g3⟩
  ·rw [g1] at q;exact ⟨_,none,rfl,by rw [<- g2];exact DGet.k h1,q⟩
  ·rw [g1] at q;exact ⟨_,some y,rfl,by rw [<- g2];exact DGet.k h1,q⟩
|fz _=>exact hf.elim
|li _ _ _=>exact hf.elim
|ls _ _ _=>exact hf.elim
|ob _ _ _ _ _=>exact hf.elim
|tp _ _ _ _=>exact hf.elim
|wh=>exact hf.elim
|dz h1 h2 h3 =>
  obtain ⟨key,ek,q⟩:=hf
  obtain ⟨kb,rfl,hb⟩:=keyT_is hk ek
  rcases h3.get (k:=key) with ⟨g1,g2⟩|⟨d',y,g1,g2,g3⟩
  ·rw [g1] at q;exact ⟨_,none,rfl,by rw [<- g2];exact .inr ⟨_,key,kb,.inr ⟨_,h1⟩,rfl,s _ _ hb,rfl⟩,q⟩
  ·rw [g1] at q;exact ⟨_,some y,rfl,by rw [<- g2];exact .inr ⟨_,key,kb,.inr ⟨_,h1⟩,rfl,s _ _ hb,rfl⟩,q⟩
|dt h1 h2 h3 =>
  obtain ⟨key,ek,q⟩:=hf
  obtain ⟨kb,rfl,hb⟩:=keyT_is hk ek
  rcases h3.get (k:=key) with ⟨g1,g2⟩|⟨d',y,g1,g2,g3⟩
  ·rw [g1] at q;exact ⟨_,none,rfl,by rw [<- g2];exact DGet.t h1 (s _ _ hb),q⟩
  ·rw [g1] at q;exact ⟨_,some y,rfl,by rw [<- g2];exact DGet.t h1 (s _ _ hb),q⟩
theorem rf_nin (hk:RfE K ti dk) (hp:RfP K ta dp):RfE K (tOp (rInV w K) ti ta) (nIn false dk dp):=by
 intro F H σ δ Qd Q s rv h k
 refine hk s rv h λ kd hkd kv F1 H1 e1 i1=>hp e1.fh (rv.ext e1) hkd λ i p u hu v F2 H2 e2 at2=>?_
 have e12:=e1.trans e2
 obtain ⟨fn,hr⟩:=at2.rt (rv.ext e12)
 obtain ⟨a,o,rfl,g,q⟩:=has_ok e12.fh hr (i1.mono e2.f) hu
 exact .inr ⟨a,o,rfl,g,k _ q _ F2 H2 e12 (.bl _)⟩
theorem rf_nnin (hk:RfE K ti dk) (hp:RfP K ta dp):RfE K (tOp (rNotInV w K) ti ta) (nIn true dk dp):=by
 intro F H σ δ Qd Q s rv h k
 refine hk s rv h λ kd hkd kv F1 H1 e1 i1=>hp e1.fh (rv.ext e1) hkd λ i p u hu v F2 H2 e2 at2=>?_
 have e12:=e1.trans e2
 obtain ⟨fn,hr⟩:=at2.rt (rv.ext e12)
 obtain ⟨a,o,rfl,g,q⟩:=has_ok e12.fh hr (i1.mono e2.f) hu
 exact .inr ⟨a,o,rfl,g,k _ q _ F2 H2 e12 (.bl _)⟩
def cDT:DC:=λ δ Q=>Q (.dt []) δ
theorem rc_dt:RfC K tDNewT cDT:=by
 intro B F H σ δ fps Qd Q r hd k
 intro p hp
 have fn:F p=none:=by
  cases e:F p with
 |none=>rfl
 |some o=>rw [r.fh p o e] at hp;cases hp
 refine k _ _ hd (.ref p) F _ fps [p] ⟨r.grow (new_any r.fh hp),.dt upd_same fn .nil,by simp,λ b hb=>?_,λ j s ej hs b hb hb2=>?_⟩
 ·simp at hb;subst hb
  by_cases z:B.H0 b=none
  ·exact z
  ·exact absurd hp ((r.al b).1 z)
 ·simp at hb2;subst hb2
  obtain ⟨x,t,a1,a2,a3,a4,a5⟩:=r.rt j s ej hs
  exact (a3.dom b hb).1 hp
abbrev DN:=DSt->(T->Prop)->Prop
def RfN (K:Fg) (te:TE) (dn:DN):Prop:=∀ {F H:Hp} {σ:L2.St} {δ:DSt} {Qd:T->Prop} {Q:VK},Same F H->RV K F H σ δ->dn δ Qd->(∀ r,Qd r->∀ v F' H' fp,Ext F H F' H'->Rt K F' H' v r fp->fp.Nodup->(∀ a∈fp,H a=none)->Q v H')->te σ H Q
def cN (dn:DN):DC:=λ δ Q=>dn δ λ r=>Q r δ
theorem RfN.c {dn:DN} (h:RfN K te dn):RfC K te (cN dn):=by
 intro B F H σ δ fps Qd Q r hd k
 refine h r.fh r.rv hd λ r2 q v F1 H1 fp e1 hr nd fr=>k _ _ q v F1 H1 fps fp ⟨r.grow e1,hr,nd,λ a ha=>?_,λ j s ej hs b hb hb2=>?_⟩
 ·by_cases z:B.H0 a=none
  ·exact z
  ·exact absurd (fr a ha) ((r.al a).1 z)
 ·obtain ⟨x,t,a1,a2,a3,a4,a5⟩:=r.rt j s ej hs
  exact (a3.dom b hb).1 (fr b hb2)
def nComp (di:DF) (n:Nat) (ix:List Nat) (dg:DG) (dn:DN):DN:=λ δ Q=>di δ λ items=>items.length<=sizeLine/\∃ R:Nat->T->Prop,
 (∀ i d,items[i]?=some d->dg d (cST n ix δ) λ δ'=>dn δ' λ r=>R i r)/\∀ rs:List T,rs.length=items.length->(∀ (j:Nat) r,rs[j]?=some r->R j r)->Q (.ls rs)
end
section
variable {K:Fg} {te ta ti tv:TE} {de da di dk:DE} {dc:DC} {tt:TT} {dt:DT} {t u tb:TS} {d e db:DS} {tA:TA} {dA:DF} {g:TG} {dg:DG} {n:Nat} {dp:DP} {w:World}
def nSet (f:Str) (u r:T) (N:T->Prop):Prop:=match u with
|.ob C fs=>fs.length < 1000/\N (.ob C (putA f r fs))
|_=>False
theorem Res.grow {B:Bs} {F H F' H':Hp} {σ:L2.St} {δ:DSt} {fps:Nat->List Addr} {v:V} {r:T} {fpr:List Addr} (h:Res K B F H σ δ fps v r fpr) (e:Ext F H F' H'):Res K B F' H' σ δ fps v r fpr :=
 ⟨h.rs.grow e,h.rt.ext e,h.nd,h.fr,h.dj⟩
theorem fld_ok {B:Bs} {F H:Hp} {σ:L2.St} {δ:DSt} {fps:Nat->List Addr} {y:V} {r:T} {fpr:List Addr} {i:Nat} {p:Pth} {a C dx:Addr} {fs:List (Str×V)} {ts:List (Str×T)} {f:Str} {N:DSt->Prop}
  (res:Res K B F H σ δ fps y r fpr) (ha:AtS H σ δ i p (.ref a) (.ob C ts)) (hH:H a=some (.ins C dx fs)) (hm:mutS δ i p (.ob C (putA f r ts)) N):∃ δ2 fps2,RS K B F (upd H a (.ins C dx (putF f y fs))) σ δ2 fps2/\N δ2:=by
 obtain ⟨fn,hr,nd,sub,back⟩:=res.rs.mut ha hm
 obtain ⟨s,hs,ho⟩:∃ s,δ[i]?=some s/\s.own=true:=by
  unfold mutS at hm
  split at hm
  ·rename_i t q;exact ⟨_,q,rfl⟩
  ·rename_i a t q;exact ⟨_,q,rfl⟩
  ·exact hm.elim
 have dis:∀ b∈fn,b ∉ fpr:=λ b hb=>res.dj i s hs (own_has ho) b (sub b hb)
 cases hr with
|ob g1 g2 g3 g4 g5 =>
  rename_i dx' fs' fp
  rw [hH] at g1;cases g1
  have nd1:=List.nodup_cons.mp nd
  have nd2:=List.nodup_cons.mp nd1.2
  have na:a ∉ fp:=λ z=>nd1.1 (List.mem_cons_of_mem _ z)
  have nx:dx≠a:=λ z=>nd1.1 (by rw [z];simp)
  have nxf:dx ∉ fp:=nd2.1
  have dp':∀ b∈fp,b ∉ fpr:=λ b hb=>dis b (by simp [hb])
  have ra:a ∉ fpr:=dis a (by simp)
  have rx:dx ∉ fpr:=dis dx (by simp)
  have hy:Rt K F (upd H a (.ins C dx (putF f y fs))) y r fpr:=res.rt.frame (λ _ _ z=>z) λ b hb=>⟨upd_ne λ z=>by subst z;exact ra hb,(res.rt.dom b hb).2⟩
  have fr0:∀ b∈fp,upd H a (.ins C dx (putF f y fs)) b=H b/\F b=none:=λ b hb=>⟨upd_ne λ z=>by subst z;exact na hb,(g5.dom b hb).2⟩
  obtain ⟨fq,hq,ndq,mq⟩:∃ fq,RtFs K F (upd H a (.ins C dx (putF f y fs))) (putF f y fs) (putA f r ts) fq/\fq.Nodup/\∀ b∈fq,b∈fp \/ b∈fpr:=by
   cases q:ts.lookup f with
  |none =>
    refine ⟨fp++fpr,RtFs.add (λ _ _ z=>z) hy g5 q fr0,List.nodup_append.mpr ⟨nd2.2,res.nd,λ b hb c hc z=>?_⟩,λ b hb=>List.mem_append.mp hb⟩
    subst z;exact dp' b hb hc
  |some t0 =>
    obtain ⟨x0,ex⟩:=(g5.keys f).2.1 t0 q
    obtain ⟨fA,fj,fB,e,hj,_,rep⟩:=g5.split ex q
    subst e
    obtain ⟨ndA,ndJB,djA⟩:=List.nodup_append.mp nd2.2
    obtain ⟨ndj,ndB,djB⟩:=List.nodup_append.mp ndJB
    refine ⟨fA++(fpr++fB),rep (λ _ _ z=>z) (λ b hb=>fr0 b (by rcases List.mem_append.mp hb with z|z <;> simp [z])) hy,List.nodup_append.mpr ⟨ndA,List.nodup_append.mpr ⟨res.nd,ndB,λ b hb c hc z=>?_⟩,λ b hb c hc z=>?_⟩,λ b hb=>?_⟩
    ·subst z;exact dp' b (by simp [hc]) hb
    ·subst z
     rcases List.mem_append.mp hc with z|z
     ·exact dp' b (by simp [hb]) z
     ·exact djA b hb b (by simp [z]) rfl
    ·rcases List.mem_append.mp hb with z|z
     ·exact .inl (by simp [z])
     ·rcases List.mem_append.mp z with z|z
      ·exact .inr z
      ·exact .inl (by simp [z])
  obtain ⟨δ2,fps2,r2,n2,_⟩:=back (F2:=F) (H2:=upd H a (.ins C dx (putF f y fs))) (fq:=a :: dx :: fq) (λ b o hb hbo=>by rw [upd_ne (λ z=>hb (by simp [z]))];exact hbo) (λ _ _ z=>z) (λ b o z=>by
    have:b≠a:=λ q=>by subst q;rw [g3] at z;cases z
    rw [upd_ne this];exact res.rs.fh b o z) (λ b _ fb _=>fb) (al_upd (.of upd_same λ _=>nofun)) (λ b hb hf=>by
    have:F b=none:=by
     rcases List.mem_cons.mp hb with z|z
     ·rw [z];exact g3
     ·rcases List.mem_cons.mp z with z|z
      ·rw [z];exact g4
      ·exact (g5.dom b z).2
    exact absurd this hf) (.ob upd_same (by rw [upd_ne nx];exact g2) g3 g4 hq) (List.nodup_cons.mpr ⟨λ z=>by
    rcases List.mem_cons.mp z with y|y
    ·exact nx y.symm
    ·rcases mq a y with y|y
     ·exact na y
     ·exact ra y,List.nodup_cons.mpr ⟨λ z=>by
    rcases mq dx z with y|y
    ·exact nxf y
    ·exact rx y,ndq⟩⟩) (λ b hb=>by
    rcases List.mem_cons.mp hb with z|z
    ·exact .inl (by simp [z])
    ·rcases List.mem_cons.mp z with z|z
     ·exact .inl (by simp [z])
     ·rcases mq b z with z|z
      ·exact .inl (by simp [z])
      ·exact .inr ⟨res.fr b z,λ j s' ej hs' hbj=>res.dj j s' ej hs' b hbj z⟩)
  exact ⟨δ2,fps2,r2,n2⟩
def dFld (C:Addr) (f:Str) (dc:DC) (dp:DP):DS:=λ E δ=>dc δ λ r δ1=>dp δ1 λ i p u=>nCls C u/\nSet f u r λ u2=>mutS δ1 i p u2 E.nx
theorem rs_fld {C:Addr} {f:Str} (c:Cls K C) (na:NoAttr K C f) (hc:RfC K tv dc) (hp:RfP K ta dp):RfS K (sFld K ta tv f) (dFld C f dc dp):=by
 intro B F H σ δ fps E Z r h k
 refine hc r h λ r2 δ1 q y F1 H1 fps1 fpr res=>hp res.rs.fh res.rs.rv q λ i p u hu v F2 H2 e2 at2=>?_
 have res2:=res.grow e2
 obtain ⟨fn,hr⟩:=at2.rt res2.rs.rv
 cases hr with
|ob g1 g2 g3 g4 g5 =>
  obtain ⟨hcl,hl,hm⟩:=hu
  cases (show _=C from hcl)
  have len:=(g5.keys f).2.2
  obtain ⟨δ2,fps2,r3,n3⟩:=fld_ok res2 at2 g1 hm
  exact ⟨_,_,_,_,rfl,g1,c,na,by lia,k.nx r3 n3⟩
|fz _=>exact hu.1.elim
|li _ _ _=>exact hu.1.elim
|ls _ _ _=>exact hu.1.elim
|dk _ _ _=>exact hu.1.elim
|dt _ _ _=>exact hu.1.elim
|tp _ _ _ _=>exact hu.1.elim
|wh=>exact hu.1.elim
|dz _ _ _=>exact hu.1.elim
def allLi:List T->Option (List (List D))
|[]=>some []
|.li ds :: r=>(allLi r).map (ds :: ·)
|_ :: _=>none
def toD:T->Option D
|.fz d=>some d
|.li ds=>some (.list ds)
|.ls ts=>(allLi ts).map λ dss=>.list (dss.map PyData.list)
|_=>none
theorem frz_all {F H:Hp} (s:Same F H):∀ {xs:List V} {ts:List T} {fp:List Addr} {dss:List (List D)},RtAll K F H xs ts fp->allLi ts=some dss->fp.Nodup->∃ F2,Same F F2/\Same F2 H/\(∀ b,b ∉ fp->F2 b=F b)/\IsAll K F2 xs (dss.map PyData.list)
|_,_,_,_,.nil,e,_=>by cases e;exact ⟨F,λ _ _ z=>z,s,λ _ _=>rfl,.nil⟩
|_,_,_,_,.cons (fp:=fp) (fq:=fq) h r,e,nd=>by
  cases h with
 |li h1 h2 h3 =>
   rename_i a xs0 ds0
   unfold allLi at e
   obtain ⟨dss',e1,rfl⟩:=Option.map_eq_some_iff.mp e
   have nd':=List.nodup_cons.mp nd
   obtain ⟨F1,s1,s2,s3,s4⟩:=frz_all s r e1 nd'.2
   have fa:F1 a=none:=by rw [s3 a nd'.1];exact h2
   have sn:Same F1 (upd F1 a (.lst xs0)):=same_new fa _
   refine ⟨upd F1 a (.lst xs0),s1.trans sn,λ b o z=>?_,λ b hb=>?_,.cons (.lst (SqL.of upd_same) (h3.mono (s1.trans sn))) (s4.mono sn)⟩
   ·by_cases q:b=a
    ·subst q;rw [upd_same] at z;cases z;exact h1
    ·rw [upd_ne q] at z;exact s2 b o z
   ·have hb1:b≠a:=λ z=>hb (by simp [z])
    rw [upd_ne hb1];exact s3 b λ z=>hb (by simp [z])
 |_=>cases e
theorem frz_t {F H:Hp} (s:Same F H) {v:V} {t:T} {fp:List Addr} {d:D} (h:Rt K F H v t fp) (e:toD t=some d) (nd:fp.Nodup):∃ F2,Same F F2/\Same F2 H/\(∀ b,b ∉ fp->F2 b=F b)/\Is K F2 v d:=by
 cases h with
|fz i=>cases e;exact ⟨F,λ _ _ z=>z,s,λ _ _=>rfl,i⟩
|li h1 h2 h3 =>
  cases e
  rename_i a xs ds
  have sn:=same_new (H:=F) h2 (.lst xs)
  refine ⟨_,sn,λ b o z=>?_,λ b hb=>upd_ne λ q=>hb (by simp [q]),.lst (SqL.of upd_same) (h3.mono sn)⟩
  by_cases q:b=a
  ·subst q;rw [upd_same] at z;cases z;exact h1
  ·rw [upd_ne q] at z;exact s b o z
|ls h1 h2 h3 =>
  rename_i a xs ts fp
  unfold toD at e
  obtain ⟨dss,e1,rfl⟩:=Option.map_eq_some_iff.mp e
  have nd':=List.nodup_cons.mp nd
  obtain ⟨F1,s1,s2,s3,s4⟩:=frz_all s h3 e1 nd'.2
  have fa:F1 a=none:=by rw [s3 a nd'.1];exact h2
  have sn:Same F1 (upd F1 a (.lst xs)):=same_new fa _
  refine ⟨upd F1 a (.lst xs),s1.trans sn,λ b o z=>?_,λ b hb=>?_,.lst (SqL.of upd_same) (s4.mono sn)⟩
  ·by_cases q:b=a
   ·subst q;rw [upd_same] at z;cases z;exact h1
   ·rw [upd_ne q] at z;exact s2 b o z
  ·have hb1:b≠a:=λ z=>hb (by simp [z])
   rw [upd_ne hb1];exact s3 b λ z=>hb (by simp [z])
|ob _ _ _ _ _=>cases e
|dk _ _ _=>cases e
|dt _ _ _=>cases e
|tp _ _ _ _=>cases e
|wh=>cases e
|dz _ _ _=>cases e
def getP:T->Pth->Option T
|t,[]=>some t
|.ls ts,.ix j :: p=>(ts[j]?).bind λ t=>getP t p
|.tp ts,.ix j :: p=>(ts[j]?).bind λ t=>getP t p
|.ob _ fs,.fl f :: p=>(fs.lookup f).bind λ t=>getP t p
|_,_=>none
theorem at_get {F H:Hp} {p:Pth}:∀ {x:V} {t u:T} {fp:List Addr},Rt K F H x t fp->getP t p=some u->∃ v,At H x t p v u:=by
 induction p with
|nil=>intro x t u fp _ e;unfold getP at e;cases e;exact ⟨x,.nil⟩
|cons q p ih =>
  intro x t u fp h e
  cases h with
 |ls h1 h2 h3 =>
   cases q with
  |ix j =>
    unfold getP at e
    obtain ⟨t1,e1,e2⟩:=Option.bind_eq_some_iff.mp e
    rename_i xs ts fp'
    have el:=h3.len
    have hj:j < ts.length:=by
     rcases Nat.lt_or_ge j ts.length with y|y
     ·exact y
     ·rw [List.getElem?_eq_none y] at e1;cases e1
    obtain ⟨y,hy⟩:∃ y,xs[j]?=some y:=⟨xs[j]'(by lia),List.getElem?_eq_getElem _⟩
    obtain ⟨fA,fj,fB,_,hr,_⟩:=h3.split hy e1
    obtain ⟨v,hv⟩:=ih hr e2
    exact ⟨v,.ix h1 hy e1 hv⟩
  |fl f=>cases e
 |tp h1 h2 gk h3 =>
   cases q with
  |ix j =>
    unfold getP at e
    obtain ⟨t1,e1,e2⟩:=Option.bind_eq_some_iff.mp e
    rename_i xs ts fp'
    have el:=h3.len
    have hj:j < ts.length:=by
     rcases Nat.lt_or_ge j ts.length with y|y
     ·exact y
     ·rw [List.getElem?_eq_none y] at e1;cases e1
    obtain ⟨y,hy⟩:∃ y,xs[j]?=some y:=⟨xs[j]'(by lia),List.getElem?_eq_getElem _⟩
    obtain ⟨fA,fj,fB,_,hr,_⟩:=h3.split hy e1
    obtain ⟨v,hv⟩:=ih hr e2
    exact ⟨v,.tx h1 hy e1 hv⟩
  |fl f=>cases e
 |ob h1 h2 h3 h4 h5 =>
   cases q with
  |fl f =>
    unfold getP at e
    obtain ⟨t1,e1,e2⟩:=Option.bind_eq_some_iff.mp e
    obtain ⟨y,hy⟩:=(h5.keys f).2.1 t1 e1
    obtain ⟨fA,fj,fB,_,hr,_⟩:=h5.split hy e1
    obtain ⟨v,hv⟩:=ih hr e2
    exact ⟨v,.fl h1 hy e1 hv⟩
  |ix j=>cases e
 |fz _=>cases q <;> cases e
 |li _ _ _=>cases q <;> cases e
 |dk _ _ _=>cases q <;> cases e
 |dt _ _ _=>cases q <;> cases e
 |wh=>cases q <;> cases e
 |dz _ _ _=>cases q <;> cases e
def fzS (δ:DSt) (i:Nat) (p:Pth) (N:DSt->Prop):Prop:=match δ[i]? with
|some (.ow t)=>∃ u d,getP t p=some u/\toD u=some d/\N (δ.set i (slot (setP t p (.fz d))))
|some (.sh _)=>N δ
|_=>False
def dFrz (i:Nat) (p:Pth) (d:DS):DS:=λ E δ=>fzS δ i p λ δ'=>d E δ'
theorem RS.frz {B:Bs} {F H:Hp} {σ:L2.St} {δ:DSt} {fps:Nat->List Addr} {i:Nat} {p:Pth} {N:DSt->Prop} (r:RS K B F H σ δ fps) (h:fzS δ i p N):∃ F2 δ2 fps2,RS K B F2 H σ δ2 fps2/\N δ2:=by
 unfold fzS at h
 split at h
 ·rename_i t q
  obtain ⟨u,d,eg,ed,hN⟩:=h
  obtain ⟨x,t',a1,a2,a3,a4,a5⟩:=r.rt i _ q rfl
  cases a2
  obtain ⟨v,hv⟩:=at_get a3 eg
  obtain ⟨fn,t1,h1,h2,h3,h4,back⟩:=r.put q rfl ⟨_,_,x,q,rfl,a1,hv⟩
  cases h1
  obtain ⟨F2,s1,s2,s3,s4⟩:=frz_t r.fh h2 ed h3
  obtain ⟨fps2,r2,_⟩:=back (F2:=F2) (H2:=H) (fq:=[]) (λ _ _ _ z=>z) s1 s2 (λ b _ fb hb=>by rw [s3 b hb];exact fb) (λ _=>⟨id,id⟩) (λ b hb _=>(r.fr i _ q rfl b (h4 b hb)).elim id λ z=>absurd rfl (z.2 t)) (.fz s4) .nil (λ b hb=>by simp at hb)
  have hw:(Sl.ow t).wth (setP t p (.fz d))=.ow (setP t p (.fz d)):=rfl
  rw [hw] at r2
  -- a slot whose whole is frozen becomes a plain one
  cases hs:setP t p (.fz d) with
 |fz d' =>
   rw [hs] at r2 hN
   obtain ⟨x',t'',b1,b2,b3,b4,b5⟩:=r2.rt i _ (List.getElem?_set_self (by
    rcases Nat.lt_or_ge i δ.length with z|z
    ·exact z
    ·rw [List.getElem?_eq_none z] at q;cases q)) rfl
   cases b2
   obtain ⟨d2,hd2,hi⟩:=fz_rt (Q:=λ z=>z=d') b3 rfl
   subst hd2
   ·have r3:=r2.setS (i:=i) hi
    rw [List.set_set] at r3
    have eσ:σ.set i (some x')=σ:=by
     apply List.ext_getElem?
     intro j
     rw [List.getElem?_set]
     by_cases hij:i=j
     ·subst hij
      have hlt:i < σ.length:=by
       rw [r.len]
       rcases Nat.lt_or_ge i δ.length with z|z
       ·exact z
       ·rw [List.getElem?_eq_none z] at q;cases q
      simp [hlt]
      have:=slot_of (F:=F) (H:=H) (δ:=δ) b1
      rw [List.getElem?_eq_getElem hlt] at this
      exact (Option.some.inj this).symm
     ·simp [hij]
    rw [eσ] at r3
    exact ⟨F2,_,fps2,r3,hN⟩
 |li _=>rw [hs] at r2 hN;exact ⟨F2,_,fps2,r2,hN⟩
 |ls _=>rw [hs] at r2 hN;exact ⟨F2,_,fps2,r2,hN⟩
 |ob _ _=>rw [hs] at r2 hN;exact ⟨F2,_,fps2,r2,hN⟩
 |dk _=>rw [hs] at r2 hN;exact ⟨F2,_,fps2,r2,hN⟩
 |dt _=>rw [hs] at r2 hN;exact ⟨F2,_,fps2,r2,hN⟩
 |tp _=>rw [hs] at r2 hN;exact ⟨F2,_,fps2,r2,hN⟩
 |wh=>rw [hs] at r2 hN;exact ⟨F2,_,fps2,r2,hN⟩
 |dz _ _=>rw [hs] at r2 hN;exact ⟨F2,_,fps2,r2,hN⟩
 ·exact ⟨F,δ,fps,r,h⟩
 ·exact h.elim
theorem rs_frz (i:Nat) (p:Pth) (h:RfS K t d):RfS K t (dFrz i p d):=by
 intro B F H σ δ fps E Z r hd k
 obtain ⟨F2,δ2,fps2,r2,h2⟩:=r.frz hd
 exact h r2 h2 k
end
inductive Arg where
|d (d:D)|b (t:T)|o (t:T)
inductive ArgP where
|d (d:D)|b (i:Nat) (p:Pth) (t:T)|o (i:Nat) (p:Pth) (t:T)
def ArgP.arg:ArgP->Arg
|.d x=>.d x
|.b _ _ x=>.b x
|.o _ _ x=>.o x
inductive ArgsR (K:Fg) (F H:Hp):List V->List Arg->List Addr->Option (Addr×List Addr)->Prop
|nil:ArgsR K F H [] [] [] none
|d {v:V} {d:D} {vs:List V} {as:List Arg} {bf:List Addr} {oo:Option (Addr×List Addr)}:Is K F v d->ArgsR K F H vs as bf oo->ArgsR K F H (v :: vs) (.d d :: as) bf oo
|b {v:V} {t:T} {fp:List Addr} {vs:List V} {as:List Arg} {bf:List Addr} {oo:Option (Addr×List Addr)}:Rt K F H v t fp->fp.Nodup->ArgsR K F H vs as bf oo->ArgsR K F H (v :: vs) (.b t :: as) (fp++bf) oo
|o {a:Addr} {t:T} {fp:List Addr} {vs:List V} {as:List Arg} {bf:List Addr}:Rt K F H (.ref a) t fp->fp.Nodup->ArgsR K F H vs as bf none->ArgsR K F H (.ref a :: vs) (.o t :: as) bf (some (a,fp))
def ofp:Option (Addr×List Addr)->List Addr
|none=>[]
|some x=>x.2
structure Post (K:Fg) (F H:Hp) (oo:Option (Addr×List Addr)) (F' H':Hp) (v:V) (r:T) (fpr:List Addr) (t':T) (fpo:List Addr):Prop where
 hh:∀ b o,b ∉ ofp oo->H b=some o->H' b=some o
 ff:Same F F'
 fh:Same F' H'
 nw:∀ b,HD (H b)->F b=none->F' b=none
 al:∀ b,(H b≠none->H' b≠none)/\(HD (H b)->HD (H' b))
 rt:Rt K F' H' v r fpr
 nd:fpr.Nodup
 fr:∀ a∈fpr,H a=none
 io:∀ a fp,oo=some (a,fp)->Rt K F' H' (.ref a) t' fpo/\fpo.Nodup/\(∀ b∈fpo,b∈fp \/ H b=none)/\∀ b∈fpo,b ∉ fpr
abbrev DSpT:=List Arg->(T->T->Prop)->Prop
def spT (K:Fg) (p:DSpT):Sp:=λ vs H Q _=>∃ F as bf oo Qd,Same F H/\ArgsR K F H vs as bf oo/\(∀ b∈ofp oo,b ∉ bf)/\p as Qd/\∀ r t',Qd r t'->∀ v F' H' fpr fpo,Post K F H oo F' H' v r fpr t' fpo->Q v H'
section
variable {K:Fg} {te ta ti tv:TE} {de da di dk:DE} {dc:DC} {tt:TT} {dt:DT} {t u tb:TS} {d e db:DS} {tA:TA} {dA:DF} {g:TG} {dg:DG} {n:Nat} {dp:DP} {w:World}
inductive ArgsP (K:Fg) (F H:Hp) (σ:L2.St) (δ:DSt):List V->List ArgP->Prop
|nil:ArgsP K F H σ δ [] []
|d {v:V} {d:D} {vs:List V} {as:List ArgP}:Is K F v d->ArgsP K F H σ δ vs as->ArgsP K F H σ δ (v :: vs) (.d d :: as)
|b {v:V} {i:Nat} {p:Pth} {t:T} {vs:List V} {as:List ArgP}:AtS H σ δ i p v t->ArgsP K F H σ δ vs as->ArgsP K F H σ δ (v :: vs) (.b i p t :: as)
|o {v:V} {i:Nat} {p:Pth} {t:T} {vs:List V} {as:List ArgP}:AtS H σ δ i p v t->ArgsP K F H σ δ vs as->ArgsP K F H σ δ (v :: vs) (.o i p t :: as)
theorem ArgsP.ext {F H F' H':Hp} {σ:L2.St} {δ:DSt} (e:Ext F H F' H'):∀ {vs:List V} {as:List ArgP},ArgsP K F H σ δ vs as->ArgsP K F' H' σ δ vs as
|_,_,.nil=>.nil
|_,_,.d h r=>.d (h.mono e.f) (r.ext e)
|_,_,.b h r=>.b (h.mono e.h) (r.ext e)
|_,_,.o h r=>.o (h.mono e.h) (r.ext e)
abbrev DAT:=DSt->(List ArgP->Prop)->Prop
def RfAT (K:Fg) (ta:TA) (da:DAT):Prop:=∀ {F H:Hp} {σ:L2.St} {δ:DSt} {Qd:List ArgP->Prop} {Q:List V->Hp->Prop},Same F H->RV K F H σ δ->da δ Qd->(∀ as,Qd as->∀ vs F' H',Ext F H F' H'->ArgsP K F' H' σ δ vs as->Q vs H')->ta σ H Q
variable {dA':DAT}
def aNil:DAT:=λ _ Q=>Q []
def aD (de:DE) (dr:DAT):DAT:=λ δ Q=>de δ λ x=>dr δ λ as=>Q (.d x :: as)
def aB (dp:DP) (dr:DAT):DAT:=λ δ Q=>dp δ λ i p t=>dr δ λ as=>Q (.b i p t :: as)
theorem at_nil:RfAT K tNil aNil:=λ s rv h k=>k _ h _ _ _ (Ext.refl s) .nil
theorem at_d (ha:RfE K ta da) (hr:RfAT K tA dA'):RfAT K (tCons ta tA) (aD da dA'):=by
 intro F H σ δ Qd Q s rv h k
 refine ha s rv h λ x hx v F1 H1 e1 i1=>hr e1.fh (rv.ext e1) hx λ as has vs F2 H2 e2 i2=>?_
 exact k _ has _ F2 H2 (e1.trans e2) (.d (i1.mono e2.f) i2)
theorem at_b (ha:RfP K ta dp) (hr:RfAT K tA dA'):RfAT K (tCons ta tA) (aB dp dA'):=by
 intro F H σ δ Qd Q s rv h k
 refine ha s rv h λ i p t hx v F1 H1 e1 i1=>hr e1.fh (rv.ext e1) hx λ as has vs F2 H2 e2 i2=>?_
 exact k _ has _ F2 H2 (e1.trans e2) (.b (i1.mono e2.h) i2)
def noO:List ArgP->Prop
|[]=>True
|.o _ _ _ :: _=>False
|.d _ :: r=>noO r
|.b _ _ _ :: r=>noO r
def noS (i:Nat):List ArgP->Prop
|[]=>True
|.b j _ _ :: r=>j≠i/\noS i r
|.d _ :: r=>noS i r
|.o _ _ _ :: r=>noS i r
def oSlot:List ArgP->Option (Nat×Pth×T)
|[]=>none
|.o i p t :: _=>some (i,p,t)
|.d _ :: r=>oSlot r
|.b _ _ _ :: r=>oSlot r
def oneO (i:Nat):List ArgP->Prop
|[]=>False
|.o _ _ _ :: r=>noO r/\noS i r
|.d _ :: r=>oneO i r
|.b j _ _ :: r=>j≠i/\oneO i r
def isOwn (δ:DSt) (i:Nat):Prop:=match δ[i]? with
|some (.ow _)=>True
|some (.io _ _)=>True
|_=>False
def notFz:T->Prop
|.fz _=>False
|_=>True
theorem args_no {F H:Hp} {σ:L2.St} {δ:DSt} {fps:Nat->List Addr} (rt:∀ {i:Nat} {p:Pth} {v:V} {u:T},AtS H σ δ i p v u->∃ fn,Rt K F H v u fn/\fn.Nodup/\∀ a∈fn,a∈fps i/\∃ s,δ[i]?=some s/\s.has=true):∀ {vs:List V} {as:List ArgP},ArgsP K F H σ δ vs as->noO as->∃ bf,ArgsR K F H vs (as.map ArgP.arg) bf none/\∀ i,noS i as->∀ b∈bf,∃ j,j≠i/\b∈fps j/\∃ s,δ[j]?=some s/\s.has=true
|_,_,.nil,_=>⟨[],.nil,λ i _ b hb=>by simp at hb⟩
|_,_,.d h r,hn=>by
  obtain ⟨bf,h1,h2⟩:=args_no rt r hn
  exact ⟨bf,.d h h1,h2⟩
|_,_,.b (i:=i') h r,hn=>by
  obtain ⟨bf,h1,h2⟩:=args_no rt r hn
  obtain ⟨fn,g1,g2,g3⟩:=rt h
  refine ⟨fn++bf,.b g1 g2 h1,λ i hi b hb=>?_⟩
  rcases List.mem_append.mp hb with z|z
  ·exact ⟨i',hi.1,(g3 b z).1,(g3 b z).2⟩
  ·exact h2 i hi.2 b z
|_,_,.o h r,hn=>hn.elim
def noM (m:Str) (u:T):Prop:=match u with
|.ob _ fs=>fs.lookup m=none
|_=>False
def nCore (p:DSpT) (as:List ArgP) (Q:T->Prop):Prop:=noO as/\p (as.map ArgP.arg) λ r _=>Q r
theorem AtS.rtV {F H:Hp} {σ:L2.St} {δ:DSt} (r:RV K F H σ δ) {i:Nat} {p:Pth} {v:V} {u:T} (h:AtS H σ δ i p v u):∃ fn,Rt K F H v u fn/\fn.Nodup:=by
 obtain ⟨s,t,x,h1,h2,h3,h4⟩:=h
 obtain ⟨y,fp,e,hr,nd⟩:=(r.sl i s h1).rt h2
 rw [h3] at e;cases e
 obtain ⟨fn,g1,_,g3,_⟩:=focus h4 hr nd
 exact ⟨fn,g1,g3⟩
theorem args_nv {F H:Hp} {σ:L2.St} {δ:DSt} (r:RV K F H σ δ):∀ {vs:List V} {as:List ArgP},ArgsP K F H σ δ vs as->noO as->∃ bf,ArgsR K F H vs (as.map ArgP.arg) bf none
|_,_,.nil,_=>⟨[],.nil⟩
|_,_,.d h q,hn=>by
  obtain ⟨bf,h1⟩:=args_nv r q hn
  exact ⟨bf,.d h h1⟩
|_,_,.b h q,hn=>by
  obtain ⟨bf,h1⟩:=args_nv r q hn
  obtain ⟨fn,g1,g2⟩:=h.rtV r
  exact ⟨fn++bf,.b g1 g2 h1⟩
|_,_,.o h r,hn=>hn.elim
theorem ncore_ok {F H:Hp} {σ:L2.St} {δ:DSt} {p:DSpT} {vs:List V} {as:List ArgP} {Qd:T->Prop} {Q:VK} {E:XK} (s:Same F H) (r:RV K F H σ δ) (ha:ArgsP K F H σ δ vs as) (hc:nCore p as Qd)
  (k:∀ r,Qd r->∀ v F' H' fp,Ext F H F' H'->Rt K F' H' v r fp->fp.Nodup->(∀ a∈fp,H a=none)->Q v H'):spT K p vs H Q E:=by
 obtain ⟨bf,m1⟩:=args_nv r ha hc.1
 refine ⟨F,_,bf,none,_,s,m1,λ b hb=>by simp [ofp] at hb,hc.2,λ r2 t2 q2 v F' H' fpr fpo post=>?_⟩
 exact k _ q2 v F' H' fpr ⟨λ b o hb=>post.hh b o (by simp [ofp]) hb,post.ff,post.fh,post.nw⟩ post.rt post.nd post.fr
def nCall (p:DSpT) (da:DAT):DN:=λ δ Q=>da δ λ as=>nCore p as Q
theorem rn_call {p:DSpT} {E:XK} (h:RfAT K tA dA'):RfN K (tCall (spT K p) [] E tA) (nCall p dA'):=by
 intro F H σ δ Qd Q s rv hd k
 refine h s rv hd λ as has vs F1 H1 e1 i1=>?_
 rw [List.append_nil]
 exact ncore_ok e1.fh (rv.ext e1) i1 has λ r q v F' H' fp e2 h1 h2 h3=>k r q v F' H' fp (e1.trans e2) h1 h2 λ a ha=>none_back e1 (h3 a ha)
def eN (dn:DN):DE:=λ δ Q=>dn δ λ r=>fzT r Q
theorem RfN.ex {dn:DN} (h:RfN K te dn):RfE K te (eN dn):=λ s rv hd k=>h s rv hd λ r q v F' H' fp e1 h1 h2 h3=>by
 obtain ⟨d,qd,i⟩:=fz_rt h1 q
 exact k d qd v F' H' e1 i
def nMake (C:Addr) (p:DSpT) (da:DAT):DN:=λ δ Q=>da δ λ as=>noO as/\p (.o (.ob C []) :: as.map ArgP.arg) λ r t2=>(match r with|.fz .none=>True|_=>False)/\Q t2
theorem rn_make {p:DSpT} {E:XK} {C:Addr} (h:RfAT K tA dA'):RfN K (tMake C (spT K p) [] E tA) (nMake C p dA'):=by
 intro F H σ δ Qd Q s rv hd k
 refine h s rv hd λ as has vs F1 H1 e1 i1=>?_
 intro x dx hx hdx hne
 obtain ⟨bf,m1⟩:=args_nv (rv.ext e1) i1 has.1
 have hH:∀ b,b≠x->b≠dx->upd (upd H1 dx (.own x)) x (.ins C dx []) b=H1 b:=λ b h1 h2=>by rw [upd_ne h1,upd_ne h2]
 have s2:Same H1 (upd (upd H1 dx (.own x)) x (.ins C dx [])):=λ b o z=>by
  rw [hH b (λ q=>by subst q;rw [hx] at z;cases z) (λ q=>by subst q;rw [hdx] at z;cases z)];exact z
 have fx:F1 x=none:=by
  cases q:F1 x with
 |none=>rfl
 |some o=>rw [e1.fh x o q] at hx;cases hx
 have fdx:F1 dx=none:=by
  cases q:F1 dx with
 |none=>rfl
 |some o=>rw [e1.fh dx o q] at hdx;cases hdx
 have m2:ArgsR K F1 (upd (upd H1 dx (.own x)) x (.ins C dx [])) vs (as.map ArgP.arg) bf none/\∀ b∈bf,H1 b≠none:=by
  have key:∀ {vs:List V} {as:List Arg} {bf:List Addr} {oo:Option (Addr×List Addr)},ArgsR K F1 H1 vs as bf oo->oo=none->ArgsR K F1 (upd (upd H1 dx (.own x)) x (.ins C dx [])) vs as bf none/\∀ b∈bf,H1 b≠none:=λ {vs as bf oo} hh=>by
   induction hh with
  |nil=>intro _;exact ⟨.nil,λ b hb=>by simp at hb⟩
  |d h1 _ ih=>intro e;exact ⟨.d h1 (ih e).1,(ih e).2⟩
  |b h1 h2 _ ih =>
    intro e
    refine ⟨.b (h1.frame (λ _ _ z=>z) λ b hb=>⟨?_,(h1.dom b hb).2⟩) h2 (ih e).1,λ b hb=>?_⟩
    ·exact hH b (λ q=>by subst q;exact (h1.dom b hb).1 hx) (λ q=>by subst q;exact (h1.dom b hb).1 hdx)
    ·rcases List.mem_append.mp hb with z|z
     ·exact (h1.dom b z).1
     ·exact (ih e).2 b z
  |o _ _ _ _=>intro e;cases e
  exact key m1 rfl
 refine ⟨F1,_,bf,some (x,[x,dx]),_,e1.fh.trans s2,.o (.ob upd_same (by rw [upd_ne hne,upd_same]) fx fdx .nil) (by simp [Ne.symm hne]) (by rw [List.append_nil];exact m2.1),λ b hb hbf=>?_,has.2,λ r t2 q2 v F' H' fpr fpo post=>?_⟩
 ·have:=m2.2 b hbf
  simp [ofp] at hb
  rcases hb with z|z
  ·exact this (by rw [z];exact hx)
  ·exact this (by rw [z];exact hdx)
 ·obtain ⟨q0,q1⟩:=q2
  obtain ⟨io1,io2,io3,io4⟩:=post.io x [x,dx] rfl
  refine ⟨?_,k _ q1 (.ref x) F' H' fpo (e1.trans ⟨λ b o z=>?_,post.ff,post.fh,λ b hb fb=>post.nw b (hb.mono s2) fb⟩) io1 io2 λ b hb=>none_back e1 ?_⟩
  ·split at q0
   ·cases post.rt with
   |fz i=>exact i.non_inv
   ·exact q0.elim
  ·refine post.hh b o (λ w=>?_) (s2 b o z)
   simp [ofp] at w
   rcases w with w|w
   ·rw [w,hx] at z;cases z
   ·rw [w,hdx] at z;cases z
  ·rcases io3 b hb with z|z
   ·simp at z
    rcases z with z|z
    ·rw [z];exact hx
    ·rw [z];exact hdx
   ·cases q:H1 b with
   |none=>rfl
   |some o=>rw [s2 b o q] at z;cases z
end
section
variable {P:Program} {w:World} {K:Fg} {mg:Str->Option Value} {base:Heap}
def slotA (a:Addr):Arg->Sl
|.d x=>.sh x
|.b x=>.bo x
|.o x=>.io a x
def tStart (N:List Str) (a:Addr) (as:List Arg):DSt:=as.map (slotA a)++List.replicate (N.length - as.length) .un
def oIx:List Arg->Option Nat
|[]=>none
|.o _ :: _=>some 0
|.d _ :: r=>(oIx r).map (·+1)
|.b _ :: r=>(oIx r).map (·+1)
def exA (as:List Arg) (a:Addr) (Qd:T->T->Prop) (r:T) (δ:DSt):Prop:=match oIx as with
|none=>Qd r (.fz .none)
|some k=>∃ t',δ[k]?=some (.io a t')/\Qd r t'
def tEnds (as:List Arg) (a:Addr) (Qd:T->T->Prop):DEnds:={ nx:=exA as a Qd (.fz .none),rt:=exA as a Qd }
theorem args_at {F H:Hp}:∀ {vs:List V} {as:List Arg} {bf:List Addr} {oo:Option (Addr×List Addr)},ArgsR K F H vs as bf oo->vs.length=as.length/\∃ fl:Nat->List Addr,
  (∀ (k:Nat) x,as[k]?=some (.d x)->∃ v,vs[k]?=some v/\Is K F v x) /\
  (∀ (k:Nat) x,as[k]?=some (.b x)->∃ v,vs[k]?=some v/\Rt K F H v x (fl k)/\(fl k).Nodup/\∀ b∈fl k,b∈bf) /\
  (∀ (k:Nat) x,as[k]?=some (.o x)->∃ a,vs[k]?=some (.ref a)/\oo=some (a,fl k)/\Rt K F H (.ref a) x (fl k)/\(fl k).Nodup/\oIx as=some k)/\(oo=none->oIx as=none)/\(∀ a fp,oo=some (a,fp)->∃ k x,as[k]?=some (.o x)/\fl k=fp/\oIx as=some k)
|_,_,_,_,.nil=>⟨rfl,λ _=>[],λ k x e=>by simp at e,λ k x e=>by simp at e,λ k x e=>by simp at e,λ _=>rfl,λ a fp e=>by cases e⟩
|_,_,_,_,.d h r=>by
  obtain ⟨hl,fl,h1,h2,h3,h4,h5⟩:=args_at r
  refine ⟨by simp [hl],λ k=>fl (k - 1),λ k x e=>?_,λ k x e=>?_,λ k x e=>?_,λ e=>?_,λ a fp e=>?_⟩
  ·cases k with
  |zero=>simp at e;subst e;exact ⟨_,rfl,h⟩
  |succ k=>obtain ⟨v,g1,g2⟩:=h1 k x (by simpa using e);exact ⟨v,by simpa using g1,g2⟩
  ·cases k with
  |zero=>simp at e
  |succ k=>obtain ⟨v,g1,g2⟩:=h2 k x (by simpa using e);exact ⟨v,by simpa using g1,g2⟩
  ·cases k with
  |zero=>simp at e
  |succ k=>obtain ⟨v,g1,g2,g3,g4,g5⟩:=h3 k x (by simpa using e);exact ⟨v,by simpa using g1,g2,g3,g4,by simp [oIx,g5]⟩
  ·simp [oIx,h4 e]
  ·obtain ⟨k,x,g1,g2,g3⟩:=h5 a fp e
   exact ⟨k+1,x,by simpa using g1,g2,by simp [oIx,g3]⟩
|_,_,_,_,.b (fp:=fp) (bf:=bf) h nd r=>by
  obtain ⟨hl,fl,h1,h2,h3,h4,h5⟩:=args_at r
  refine ⟨by simp [hl],λ k=>if k=0 then fp else fl (k - 1),λ k x e=>?_,λ k x e=>?_,λ k x e=>?_,λ e=>?_,λ a fp' e=>?_⟩
  ·cases k with
  |zero=>simp at e
  |succ k=>obtain ⟨v,g1,g2⟩:=h1 k x (by simpa using e);exact ⟨v,by simpa using g1,g2⟩
  ·cases k with
  |zero=>simp at e;subst e;exact ⟨_,rfl,h,nd,λ b hb=>by simp at hb ⊢;exact .inl hb⟩
  |succ k=>obtain ⟨v,g1,g2,g3,g4⟩:=h2 k x (by simpa using e);exact ⟨v,by simpa using g1,g2,g3,λ b hb=>by have:=g4 b (by simpa using hb);simp [this]⟩
  ·cases k with
  |zero=>simp at e
  |succ k=>obtain ⟨v,g1,g2,g3,g4,g5⟩:=h3 k x (by simpa using e);exact ⟨v,by simpa using g1,g2,g3,g4,by simp [oIx,g5]⟩
  ·simp [oIx,h4 e]
  ·obtain ⟨k,x,g1,g2,g3⟩:=h5 a fp' e
   exact ⟨k+1,x,by simpa using g1,by simpa using g2,by simp [oIx,g3]⟩
|_,_,_,_,.o (a:=a) (fp:=fp) h nd r=>by
  obtain ⟨hl,fl,h1,h2,h3,h4,h5⟩:=args_at r
  refine ⟨by simp [hl],λ k=>if k=0 then fp else fl (k - 1),λ k x e=>?_,λ k x e=>?_,λ k x e=>?_,λ e=>(by cases e),λ a' fp' e=>?_⟩
  ·cases k with
  |zero=>simp at e
  |succ k=>obtain ⟨v,g1,g2⟩:=h1 k x (by simpa using e);exact ⟨v,by simpa using g1,g2⟩
  ·cases k with
  |zero=>simp at e
  |succ k=>obtain ⟨v,g1,g2,g3,g4⟩:=h2 k x (by simpa using e);exact ⟨v,by simpa using g1,g2,g3,λ b hb=>g4 b (by simpa using hb)⟩
  ·cases k with
  |zero=>simp at e;subst e;exact ⟨a,rfl,rfl,h,nd,rfl⟩
  |succ k =>
    obtain ⟨v,g1,g2,g3,g4,g5⟩:=h3 k x (by simpa using e)
    cases g2
  ·cases e
   exact ⟨0,_,rfl,rfl,rfl⟩
theorem body_T {qual:Str} {st:Stmt} {N:List Str} {k:Nat} {p:DSpT}
  (body:∀ (f:Addr) (cdv:Value) (A:Around) (outer:List Env) (s:Shared) (H:Hp) (E:XK),Room k (A.deeper (envOfC qual (defScope st) s.heap.objs.size f cdv))->∃ t d,PSs (cxOf CX0 P w K mg base N qual (defScope st) f cdv A outer s H E).nox (defBody st) t/\RfS K t d/\∀ as Qd a,p as Qd->d (tEnds as a Qd) (tStart N a as)) :
  BodyFact P w K mg base qual st N k (spT K p):=by
 intro f cdv A outer s H vs Q E hr h
 obtain ⟨F,as,bf,oo,Qd,sf,ha,hd,hp,hq⟩:=h
 obtain ⟨t,d,h1,h2,h3⟩:=body f cdv A outer s H E hr
 obtain ⟨hl,fl,a1,a2,a3,a4,a5⟩:=args_at ha
 obtain ⟨a,haa⟩:∃ a:Addr,∀ a' fp,oo=some (a',fp)->a'=a:=by
  cases oo with
 |none=>exact ⟨0,λ a' fp e=>by cases e⟩
 |some x=>exact ⟨x.1,λ a' fp e=>by cases e;rfl⟩
 have slot:∀ (i:Nat) sl,(tStart N a as)[i]?=some sl->(sl=.un/\as.length<=i) \/ ∃ g,as[i]?=some g/\sl=slotA a g:=λ i sl e=>by
  unfold tStart at e
  by_cases hi:i < as.length
  ·rw [List.getElem?_append_left (by simpa using hi),List.getElem?_map] at e
   obtain ⟨g,h1,h2⟩:=Option.map_eq_some_iff.mp e
   exact .inr ⟨g,h1,h2.symm⟩
  ·rw [List.getElem?_append_right (by simpa using hi),List.getElem?_replicate] at e
   split at e
   ·cases e;exact .inl ⟨rfl,by lia⟩
   ·cases e
 have val:∀ (i:Nat) v,vs[i]?=some v->(L2.start N vs).getD i none=some v:=λ i v e=>by
  have hi:i < vs.length:=by
   rcases Nat.lt_or_ge i vs.length with z|z
   ·exact z
   ·rw [List.getElem?_eq_none z] at e;cases e
  unfold L2.start
  rw [List.getD_eq_getElem?_getD,List.getElem?_append_left (by simpa using hi),List.getElem?_map,e]
  rfl
 have rs:RS K ⟨F,H,ofp oo⟩ F H (L2.start N vs) (tStart N a as) fl:=by
  refine ⟨λ b o _ z=>z,λ _ _ z=>z,sf,λ b _ z=>z,λ b=>⟨id,id⟩,by simp [L2.start,tStart,hl],λ i x e=>?_,λ i sl e hs=>?_,λ i sl e ho b hb=>?_,λ i j sl sl' hij e1 e2 o1 o2 b hb hb2=>?_⟩
  ·rcases slot i _ e with ⟨z,_⟩|⟨g,e1,e2⟩
   ·cases z
   ·cases g with
   |d x'=>cases e2;obtain ⟨v,g1,g2⟩:=a1 i x e1;exact ⟨v,val i v g1,g2⟩
   |b _=>cases e2
   |o _=>cases e2
  ·rcases slot i _ e with ⟨z,_⟩|⟨g,e1,e2⟩
   ·rw [z] at hs;cases hs
   ·cases g with
   |d x'=>rw [e2] at hs;cases hs
   |b x' =>
     obtain ⟨v,g1,g2,g3,g4⟩:=a2 i x' e1
     rw [e2]
     exact ⟨v,x',val i v g1,rfl,g2,λ a u z=>(by cases z),g3⟩
   |o x' =>
     obtain ⟨a',g1,g2,g3,g4,g5⟩:=a3 i x' e1
     have:=haa a' _ g2
     subst this
     rw [e2]
     exact ⟨_,x',val i _ g1,rfl,g3,λ a u z=>(by cases z;rfl),g4⟩
  ·rcases slot i _ e with ⟨z,_⟩|⟨g,e1,e2⟩
   ·rw [z] at ho;cases ho
   ·cases g with
   |d x'=>rw [e2] at ho;cases ho
   |b x'=>rw [e2] at ho;cases ho
   |o x' =>
     obtain ⟨a',g1,g2,g3,g4,g5⟩:=a3 i x' e1
     refine .inr ⟨?_,λ t z=>?_⟩
     ·show b∈ofp oo
      rw [g2];exact hb
     ·rw [e2] at z;cases z
  ·rcases slot i _ e1 with ⟨z,_⟩|⟨g,f1,f2⟩
   ·rw [z] at o1;cases o1
   ·cases g with
   |d x'=>rw [f2] at o1;cases o1
   |b x'=>rw [f2] at o1;cases o1
   |o x' =>
     obtain ⟨a',g1,g2,g3,g4,g5⟩:=a3 i x' f1
     rcases slot j _ e2 with ⟨z,_⟩|⟨g',f1',f2'⟩
     ·rw [z] at o2;cases o2
     ·cases g' with
     |d x''=>rw [f2'] at o2;cases o2
     |b x'' =>
       obtain ⟨v,k1,k2,k3,k4⟩:=a2 j x'' f1'
       exact hd b (by rw [g2];exact hb) (k4 b hb2)
     |o x'' =>
       obtain ⟨a'',k1,k2,k3,k4,k5⟩:=a3 j x'' f1'
       rw [g5] at k5
       exact hij (Option.some.inj k5)
 have fin:∀ {F' H':Hp} {σ':L2.St} {δ':DSt} {fps':Nat->List Addr} {v:V} {r:T} {fpr:List Addr},Res K ⟨F,H,ofp oo⟩ F' H' σ' δ' fps' v r fpr->exA as a Qd r δ'->Q v H':=λ {F' H' σ' δ' fps' v r fpr} res ex=>by
  unfold exA at ex
  split at ex
  ·rename_i eo
   refine hq r (.fz .none) ex v F' H' fpr [] ⟨res.rs.hh,res.rs.ff,res.rs.fh,res.rs.nw,res.rs.al,res.rt,res.nd,res.fr,λ a' fp e=>?_⟩
   obtain ⟨k,x,g1,g2,g3⟩:=a5 a' fp e
   rw [eo] at g3;cases g3
  ·rename_i ko eo
   obtain ⟨t',et,qd⟩:=ex
   obtain ⟨x',t'',b1,b2,b3,b4,b5⟩:=res.rs.rt ko _ et rfl
   cases b2
   have:=b4 a t' rfl
   subst this
   refine hq r t' qd v F' H' fpr (fps' ko) ⟨res.rs.hh,res.rs.ff,res.rs.fh,res.rs.nw,res.rs.al,res.rt,res.nd,res.fr,λ a' fp e=>?_⟩
   have ea:=haa a' fp e
   subst ea
   refine ⟨b3,b5,λ b hb=>?_,λ b hb=>res.dj ko _ et rfl b hb⟩
   rcases res.rs.fr ko _ et rfl b hb with z|⟨z,_⟩
   ·exact .inr z
   ·have:b∈ofp oo:=z
    rw [e] at this
    exact .inl this
 refine ⟨t,h1,h2 rs (h3 as Qd a hp) ⟨λ r q=>fin ⟨r,.fz .non,.nil,λ a ha=>by simp at ha,λ _ _ _ _ a _ ha=>by simp at ha⟩ q,λ _ z=>z.elim,λ _ z=>z.elim,λ res q=>fin res q⟩⟩
theorem args_len {F H:Hp} {vs:List V} {as:List Arg} {bf:List Addr} {oo:Option (Addr×List Addr)} (h:ArgsR K F H vs as bf oo):vs.length=as.length:=(args_at h).1
theorem len_T {p:DSpT} {ps:List Str} (h:∀ as Qd,p as Qd->as.length=ps.length):∀ vs H Q E,spT K p vs H Q E->vs.length=ps.length:=λ vs H Q E z=>by
 obtain ⟨F,as,bf,oo,Qd,_,ha,_,hp,_⟩:=z
 rw [args_len ha];exact h as Qd hp
def dStart (N:List Str) (ds:List D):DSt:=ds.map Sl.sh++List.replicate (N.length - ds.length) .un
def rD (Qd:D->Prop) (r:T) (_:DSt):Prop:=match r with
|.fz d=>Qd d
|.li ds=>Qd (.list ds)
|.ls ts=>∃ d,toD (.ls ts)=some d/\Qd d
|_=>False
theorem rD_toD {Qd:D->Prop} {r:T} {δ:DSt} (h:rD Qd r δ):∃ d,toD r=some d/\Qd d:=by
 cases r with
|fz d=>exact ⟨d,rfl,h⟩
|li ds=>exact ⟨_,rfl,h⟩
|ls ts=>exact h
|ob _ _=>exact h.elim
|dk _=>exact h.elim
|dt _=>exact h.elim
|tp _=>exact h.elim
|wh=>exact h.elim
|dz _ _=>exact h.elim
theorem start_rs {F H:Hp} {N:List Str} {vs:List V} {ds:List D} (s:Same F H) (h:IsAll K F vs ds):RS K ⟨F,H,[]⟩ F H (L2.start N vs) (dStart N ds) (λ _=>[]):=by
 have el:=h.dlen
 have no:∀ (i:Nat) sl,(dStart N ds)[i]?=some sl->sl.has=true->False:=λ i sl e hs=>by
  unfold dStart at e
  by_cases hi:i < ds.length
  ·rw [List.getElem?_append_left (by simpa using hi),List.getElem?_map] at e
   obtain ⟨x,_,z⟩:=Option.map_eq_some_iff.mp e
   subst z;cases hs
  ·rw [List.getElem?_append_right (by simpa using hi),List.getElem?_replicate] at e
   split at e
   ·cases e;cases hs
   ·cases e
 refine ⟨λ b o _ z=>z,λ _ _ z=>z,s,λ b _ z=>z,λ b=>⟨id,id⟩,by simp [L2.start,dStart,el],λ i x e=>?_,λ i sl e hs=>(no i sl e hs).elim,λ i sl e ho=>(no i sl e (own_has ho)).elim,λ i j sl sl' _ e _ o _=>(no i sl e (own_has o)).elim⟩
 unfold dStart at e
 unfold L2.start
 by_cases hi:i < ds.length
 ·rw [List.getElem?_append_left (by simpa using hi),List.getElem?_map] at e
  obtain ⟨y,hx,z⟩:=Option.map_eq_some_iff.mp e
  cases z
  obtain ⟨v,hv,iv⟩:=h.dget hx
  refine ⟨v,?_,iv⟩
  rw [List.getD_eq_getElem?_getD,List.getElem?_append_left (by simp;lia),List.getElem?_map,hv]
  rfl
 ·rw [List.getElem?_append_right (by simpa using hi),List.getElem?_replicate] at e
  split at e <;> cases e
theorem res_D {F0 H0 F H:Hp} {σ:L2.St} {δ:DSt} {fps:Nat->List Addr} {v:V} {r:T} {fpr:List Addr} {d:D} (res:Res K ⟨F0,H0,[]⟩ F H σ δ fps v r fpr) (e:toD r=some d):∃ F',Ext F0 H0 F' H/\Is K F' v d:=by
 obtain ⟨F2,s1,s2,s3,s4⟩:=frz_t res.rs.fh res.rt e res.nd
 refine ⟨F2,⟨λ b o z=>res.rs.hh b o (by simp) z,res.rs.ff.trans s1,s2,λ b hb fb=>?_⟩,s4⟩
 have:b ∉ fpr:=λ z=>hb.1 (res.fr b z)
 rw [s3 b this]
 exact res.rs.nw b hb fb
theorem body_D {qual:Str} {st:Stmt} {N:List Str} {k:Nat} {p:DSp}
  (body:∀ (f:Addr) (cdv:Value) (A:Around) (outer:List Env) (s:Shared) (H:Hp) (E:XK),Room k (A.deeper (envOfC qual (defScope st) s.heap.objs.size f cdv))->∃ t d,PSs (cxOf CX0 P w K mg base N qual (defScope st) f cdv A outer s H E).nox (defBody st) t/\RfS K t d/\∀ ds Qd,p ds Qd->d { nx:=λ _=>Qd .none,rt:=rD Qd } (dStart N ds)) :
  BodyFact P w K mg base qual st N k (spD K p):=by
 intro f cdv A outer s H vs Q E hr h
 obtain ⟨F,ds,Qd,sf,i,hp,hq⟩:=h
 obtain ⟨t,d,h1,h2,h3⟩:=body f cdv A outer s H E hr
 refine ⟨t,h1,h2 (start_rs sf i) (h3 ds Qd hp) ⟨λ r q=>hq _ q _ _ _ ⟨λ b o z=>r.hh b o (by simp) z,r.ff,r.fh,r.nw⟩ .non,λ _ z=>z.elim,λ _ z=>z.elim,λ res q=>?_⟩⟩
 obtain ⟨d',e1,e2⟩:=rD_toD (δ:=[]) q
 obtain ⟨F',ex,is⟩:=res_D res e1
 exact hq _ e2 _ _ _ ex is
theorem all_len {F:Hp} {vs:List V} {ds:List D} (h:IsAll K F vs ds):vs.length=ds.length:=h.dlen
theorem len_D {p:DSp} {ps:List Str} (h:∀ ds Qd,p ds Qd->ds.length=ps.length):∀ vs H Q E,spD K p vs H Q E->vs.length=ps.length:=λ vs H Q E z=>by
 obtain ⟨F,ds,Qd,_,i,hp,_⟩:=z
 rw [all_len i];exact h ds Qd hp
theorem ints_is {F:Hp}:∀ ns:List Int,IsAll K F (ns.map V.int) (ns.map PyData.int)
|[]=>.nil
|n :: r=>.cons (.int n) (ints_is r)
theorem law_D {st:Stmt} {N:List Str} {k:Nat} {fa:Addr} (M:Md K mg) (T:TopDef K "law" st) (hfa:mg "law"=some (.ref fa)) (S:FnScope N ["script"] (defScope st)) (hb:BindFact "law" "law" st ["script"])
  (body:∀ base:Heap,K.In base->base.Ns mainGlobals mg->∀ (f:Addr) (cdv:Value) (A:Around) (outer:List Env) (s:Shared) (H:Hp) (E:XK),Room k (A.deeper (envOfC "law" (defScope st) s.heap.objs.size f cdv)) ->
   ∃ t d,PSs (cxOf CX0 P w K mg base N "law" (defScope st) f cdv A outer s H E).nox (defBody st) t/\RfS K t d/\∀ (ns:List Int) (Qd:D->Prop),ns.length<=63->Qd (.bool true)->d { nx:=λ _=>Qd .none,rt:=rD Qd } (dStart N [.list (ns.map .int)])) :
  ∃ fd:FuncData,(∀ (s:Shared) (v:Value),BindsTo s fd ⟨[v],[]⟩ [("script",v)])/\∀ base:Heap,K.In base->base.Ns mainGlobals mg->FnOk P w K mg base CX0 (k+1) fa fd ["script"] (spLaw K):=by
 refine law_of M T hfa S hb (λ vs H Q E h=>by obtain ⟨a,ns,rfl,_⟩:=h;rfl) λ base kb nb=>?_
 intro f cdv A outer s H vs Q E hr h
 obtain ⟨a,ns,rfl,hS,hl,hq⟩:=h
 obtain ⟨t,d,h1,h2,h3⟩:=body base kb nb f cdv A outer s H E hr
 refine ⟨t,h1,h2 (start_rs (F:=H) (λ _ _ z=>z) (.cons (.lst hS (ints_is ns)) .nil)) (h3 ns (λ d=>d=.bool true) hl rfl) ⟨λ r q=>(by cases q),λ _ z=>z.elim,λ _ z=>z.elim,λ res q=>?_⟩⟩
 obtain ⟨d',e1,e2⟩:=rD_toD (δ:=[]) q
 obtain ⟨F',ex,is⟩:=res_D res e1
 subst e2
 cases is
 exact hq _
end
end L4
namespace L3
open PySem PySem.Spec PyProof.Rows L2
section
variable {X:Cx} {tg:Expr}
end
end L3
namespace L4
open PySem PySem.Spec PyProof.Rows L2 L3
section
variable {K:Fg} {tA:TA} {dA:DF}
def rngD3 (lo st:Int) (n:Nat):List D:=(List.range n).map λ i=>.int (lo+(i:Nat) * st)
def dRng3 (dA:DF):DF:=λ δ Q=>dA δ λ ds=>match ds with
|[.int i,.int j,.int c]=>c≠0/\(-(2 ^ 40)<=i/\i < 2 ^ 40/\-(2 ^ 40)<=j/\j < 2 ^ 40/\-(2 ^ 20)<=c/\c < 2 ^ 20)/\∃ n:Nat,Builtin.Range.rangeSize i j c=(n:Int)/\n < 2 ^ 41/\Q (rngD3 i c n)
|_=>False
def fMin2:List D->(D->Prop)->Prop
|[.int i,.int j],Q=>Q (.int (if j < i then j else i))
|_,_=>False
theorem c_min2:CB K (λ xs H Q=>∃ i j,xs=[V.int i,V.int j]/\Q (V.int (if j < i then j else i)) H) fMin2:=by
 intro F H vs ds Qd Q s hv h k
 unfold fMin2 at h
 split at h
 ·obtain ⟨v,u,rfl,h1,h2⟩:=vw2 hv
  cases h1.int;cases h2.int
  exact ⟨_,_,rfl,k _ h _ F H (Ext.refl s) (.int _)⟩
 ·exact h.elim
end
theorem e_dF (df:DF) (δ:DSt) (Q:D->Prop):dF df δ Q=( df δ λ ds=>Q (.list ds)):=rfl
theorem e_dC (d:D) (x_0:DSt) (Q:D->Prop):dC d x_0 Q=( Q d):=rfl
theorem e_dOp (f:D->D->(D->Prop)->Prop) (da db:DE) (δ:DSt) (Q:D->Prop):dOp f da db δ Q=( da δ λ x=>db δ λ y=>f x y Q):=rfl
theorem e_dNotV (da:DE) (δ:DSt) (Q:D->Prop):dNotV da δ Q=( da δ λ x=>fB x λ b=>Q (.bool (!b))):=rfl
theorem e_dAndV (da db:DE) (δ:DSt) (Q:D->Prop):dAndV da db δ Q=( da δ λ x=>fB x λ b=>if b=true then db δ Q else Q (.bool false)):=rfl
theorem e_dTest (de:DE) (δ:DSt) (Q:Bool->Prop):dTest de δ Q=( de δ λ d=>fB d Q):=rfl
theorem e_dTru (de:DE) (δ:DSt) (Q:Bool->Prop):dTru de δ Q=( de δ λ d=>fTru d Q):=rfl
theorem e_dAnd (dt du:DT) (δ:DSt) (Q:Bool->Prop):dAnd dt du δ Q=( dt δ λ b=>if b=true then du δ Q else Q false):=rfl
theorem e_dOr (dt du:DT) (δ:DSt) (Q:Bool->Prop):dOr dt du δ Q=( dt δ λ b=>if b=true then Q true else du δ Q):=rfl
theorem e_dNot (dt:DT) (δ:DSt) (Q:Bool->Prop):dNot dt δ Q=( dt δ λ b=>Q (!b)):=rfl
theorem e_dIfE (dt:DT) (da db:DE) (δ:DSt) (Q:D->Prop):dIfE dt da db δ Q=( dt δ λ b=>if b=true then da δ Q else db δ Q):=rfl
theorem e_dNil (x_0:DSt) (Q:List D->Prop):dNil x_0 Q=( Q []):=rfl
theorem e_dCons (da:DE) (dr:DF) (δ:DSt) (Q:List D->Prop):dCons da dr δ Q=( da δ λ x=>dr δ λ xs=>Q (x :: xs)):=rfl
theorem e_dTup (dA:DF) (δ:DSt) (Q:D->Prop):dTup dA δ Q=( dA δ λ xs=>xs.length<=sizeLine/\Q (.tuple xs)):=rfl
theorem e_dLst (dA:DF) (δ:DSt) (Q:List D->Prop):dLst dA δ Q=( dA δ λ xs=>xs.length<=sizeLine/\Q xs):=rfl
theorem e_dCall (p:DSp) (dA:DF) (δ:DSt) (Q:D->Prop):dCall p dA δ Q=( dA δ λ ds=>p ds Q):=rfl
theorem e_dCB (f:List D->(D->Prop)->Prop) (dA:DF) (δ:DSt) (Q:D->Prop):dCB f dA δ Q=( dA δ λ ds=>f ds Q):=rfl
theorem e_dCF (f:List D->(List D->Prop)->Prop) (dA:DF) (δ:DSt) (Q:List D->Prop):dCF f dA δ Q=( dA δ λ ds=>f ds Q):=rfl
theorem e_dIs (T:String) (da:DE) (δ:DSt) (Q:D->Prop):dIs T da δ Q=( da δ λ d=>(∀ kvs,d≠.dict kvs)/\Q (.bool (isT T d))):=rfl
theorem e_dPart (de:DE) (δ:DSt) (Q:Option Int->Prop):dPart de δ Q=( de δ λ d=>match d with
|.int i=>Q (some i)
|_=>False):=rfl
theorem e_dIt (de:DE) (δ:DSt) (Q:List D->Prop):dIt de δ Q=( de δ λ d=>fIter d Q):=rfl
theorem e_dRng1 (dA:DF) (δ:DSt) (Q:List D->Prop):dRng1 dA δ Q=( dA δ λ ds=>match ds with
|[.int j]=>-(2 ^ 62)<=j/\j < 2 ^ 62/\Q (rngD 0 j.toNat)
|_=>False):=rfl
theorem e_dRng2 (dA:DF) (δ:DSt) (Q:List D->Prop):dRng2 dA δ Q=( dA δ λ ds=>match ds with
|[.int i,.int j]=>(-(2 ^ 62)<=i/\i < 2 ^ 62/\-(2 ^ 62)<=j/\j < 2 ^ 62)/\Q (rngD i (j - i).toNat)
|_=>False):=rfl
theorem e_gN (i:Nat) (d:D) (δ:DSt) (G:DSt->Prop):gN i d δ G=( G (δ.set i (.sh d))):=rfl
theorem e_gsNil (ds:List D) (δ:DSt) (G:DSt->Prop):gsNil ds δ G=( match ds with
|[]=>G δ
|_=>False):=rfl
theorem e_gsCons (g:DG) (gs:DGs) (ds:List D) (δ:DSt) (G:DSt->Prop):gsCons g gs ds δ G=( match ds with
|d :: r=>g d δ λ δ'=>gs r δ' G
|[]=>False):=rfl
theorem e_gT (n:Nat) (gs:DGs) (d:D) (δ:DSt) (G:DSt->Prop):gT n gs d δ G=( match d with
|.tuple ds=>ds.length=n/\gs ds δ G
|_=>False):=rfl
theorem e_dTrue (x_0:DSt) (Q:Bool->Prop):dTrue x_0 Q=( Q true):=rfl
theorem e_pFld (C:Addr) (f:Str) (dp:DP) (δ:DSt) (Q:Nat->Pth->T->Prop):pFld C f dp δ Q=( dp δ λ i p u=>nCls C u/\nFld f u λ t=>Q i (p++[.fl f]) t):=rfl
theorem e_dPV (dp:DP) (δ:DSt) (Q:D->Prop):dPV dp δ Q=( dp δ λ _ _ u=>vwT u Q):=rfl
theorem e_dPE (dp:DP) (δ:DSt) (Q:D->Prop):dPE dp δ Q=( dp δ λ _ _ u=>fzT u Q):=rfl
theorem e_cE (de:DE) (δ:DSt) (Q:T->DSt->Prop):cE de δ Q=( de δ λ d=>Q (.fz d) δ):=rfl
theorem e_cF (df:DF) (δ:DSt) (Q:T->DSt->Prop):cF df δ Q=( df δ λ ds=>Q (.li ds) δ):=rfl
theorem e_dNext (E:DEnds) (δ:DSt):dNext E δ=( E.nx δ):=rfl
theorem e_dAsg (de:DE) (dg:DG) (E:DEnds) (δ:DSt):dAsg de dg E δ=( de δ λ d=>dg d δ E.nx):=rfl
theorem e_dSet (i:Nat) (dc:DC) (E:DEnds) (δ:DSt):dSet i dc E δ=( dc δ λ r δ'=>E.nx (δ'.set i (slot r))):=rfl
theorem e_dDrop (dc:DC) (E:DEnds) (δ:DSt):dDrop dc E δ=( dc δ λ _ δ'=>E.nx δ'):=rfl
theorem e_dRet (dc:DC) (E:DEnds) (δ:DSt):dRet dc E δ=( dc δ E.rt):=rfl
theorem e_dRetO (i:Nat) (E:DEnds) (δ:DSt):dRetO i E δ=( match δ[i]? with
|some (.ow t)=>E.rt t (δ.set i .un)
|some (.sh d)=>E.rt (.fz d) δ
|_=>False):=rfl
theorem e_dIf (dt:DT) (d e:DS) (E:DEnds) (δ:DSt):dIf dt d e E δ=( dt δ λ b=>if b=true then d E δ else e E δ):=rfl
theorem e_cBM (ty:String) (f:FM) (dp:DP) (dA:DF) (δ:DSt) (Q:T->DSt->Prop):cBM ty f dp dA δ Q=( dp δ λ i p u=>tyN ty u/\dA δ λ ds=>f u ds λ u2 d=>mutS δ i p u2 λ δ'=>Q (.fz d) δ'):=rfl
theorem e_dPut (dp:DP) (dk de:DE) (E:DEnds) (δ:DSt):dPut dp dk de E δ=( de δ λ d=>dp δ λ i p u=>dk δ λ k=>fPut u k d λ u2=>mutS δ i p u2 E.nx):=rfl
theorem e_dAug (i:Nat) (f:Int->Int->Int) (de:DE) (E:DEnds) (δ:DSt):dAug i f de E δ=( match δ[i]? with
|some (.sh x)=>de δ λ y=>fII f x y λ z=>E.nx (δ.set i (.sh z))
|_=>False):=rfl
theorem e_nIn (neg:Bool) (dk:DE) (dp:DP) (δ:DSt) (Q:D->Prop):nIn neg dk dp δ Q=( dk δ λ k=>dp δ λ _ _ u=>fHas neg u k Q):=rfl
theorem e_cDT (δ:DSt) (Q:T->DSt->Prop):cDT δ Q=( Q (.dt []) δ):=rfl
theorem e_cN (dn:DN) (δ:DSt) (Q:T->DSt->Prop):cN dn δ Q=( dn δ λ r=>Q r δ):=rfl
theorem e_dFld (C:Addr) (f:Str) (dc:DC) (dp:DP) (E:DEnds) (δ:DSt):dFld C f dc dp E δ=( dc δ λ r δ1=>dp δ1 λ i p u=>nCls C u/\nSet f u r λ u2=>mutS δ1 i p u2 E.nx):=rfl
theorem e_dFrz (i:Nat) (p:Pth) (d:DS) (E:DEnds) (δ:DSt):dFrz i p d E δ=( fzS δ i p λ δ'=>d E δ'):=rfl
theorem e_aNil (x_0:DSt) (Q:List ArgP->Prop):aNil x_0 Q=( Q []):=rfl
theorem e_aD (de:DE) (dr:DAT) (δ:DSt) (Q:List ArgP->Prop):aD de dr δ Q=( de δ λ x=>dr δ λ as=>Q (.d x :: as)):=rfl
theorem e_aB (dp:DP) (dr:DAT) (δ:DSt) (Q:List ArgP->Prop):aB dp dr δ Q=( dp δ λ i p t=>dr δ λ as=>Q (.b i p t :: as)):=rfl
theorem e_nCall (p:DSpT) (da:DAT) (δ:DSt) (Q:T->Prop):nCall p da δ Q=( da δ λ as=>nCore p as Q):=rfl
theorem e_eN (dn:DN) (δ:DSt) (Q:D->Prop):eN dn δ Q=( dn δ λ r=>fzT r Q):=rfl
theorem e_nMake (C:Addr) (p:DSpT) (da:DAT) (δ:DSt) (Q:T->Prop):nMake C p da δ Q=( da δ λ as=>noO as/\p (.o (.ob C []) :: as.map ArgP.arg) λ r t2=>(match r with|.fz .none=>True|_=>False)/\Q t2):=rfl
theorem e_dRng3 (dA:DF) (δ:DSt) (Q:List D->Prop):dRng3 dA δ Q=(dA δ λ ds=>match ds with
|[.int i,.int j,.int c]=>c≠0/\(-(2 ^ 40)<=i/\i < 2 ^ 40/\-(2 ^ 40)<=j/\j < 2 ^ 40/\-(2 ^ 20)<=c/\c < 2 ^ 20)/\∃ n:Nat,Builtin.Range.rangeSize i j c=(n:Int)/\n < 2 ^ 41/\Q (rngD3 i c n)
|_=>False):=rfl
def slT:Sl->(T->Prop)->Prop
|.sh d,N=>N (.fz d)
|.ow t,N=>N t
|.bo t,N=>N t
|.io _ t,N=>N t
|.un,_=>False
def pAt (δ:DSt) (i:Nat) (N:T->Prop):Prop:=∃ s t,δ[i]?=some s/\s.tree=some t/\N t
theorem e_dVar (i:Nat) (δ:DSt) (Q:D->Prop):dVar i δ Q=pAt δ i λ t=>fzT t Q:=rfl
theorem e_dVarV (i:Nat) (δ:DSt) (Q:D->Prop):dVarV i δ Q=pAt δ i λ t=>vwT t Q:=rfl
theorem e_pVar (i:Nat) (δ:DSt) (Q:Nat->Pth->T->Prop):pVar i δ Q=pAt δ i λ t=>Q i [] t:=rfl
theorem e_pAt0 (s:Sl) (δ:DSt) (N:T->Prop):pAt (s :: δ) 0 N=slT s N:=by
 apply propext
 cases s <;> simp [pAt,slT,Sl.tree]
theorem e_pAtS (i:Nat) (s:Sl) (δ:DSt) (N:T->Prop):pAt (s :: δ) (i+1) N=pAt δ i N:=by simp [pAt]
theorem e_mutS (δ:DSt) (i:Nat) (p:Pth) (u:T) (N:DSt->Prop):mutS δ i p u N=(match δ[i]? with
|some (.ow t)=>N (δ.set i (.ow (setP t p u)))
|some (.io a t)=>N (δ.set i (.io a (setP t p u)))
|_=>False):=rfl
theorem e_fzS (δ:DSt) (i:Nat) (p:Pth) (N:DSt->Prop):fzS δ i p N=(match δ[i]? with
|some (.ow t)=>∃ u d,getP t p=some u/\toD u=some d/\N (δ.set i (slot (setP t p (.fz d))))
|some (.sh _)=>N δ
|_=>False):=rfl
theorem e_setP0 (t u:T):setP t [] u=u:=by cases t <;> rfl
theorem e_tyN1 (ds:List D):tyN "list" (.li ds)=True:=by simp [tyN]
theorem e_tyN2 (ds:List T):tyN "list" (.ls ds)=True:=by simp [tyN]
theorem e_tyN3 (ds:List (Key×D)):tyN "dict" (.dk ds)=True:=by simp [tyN]
theorem e_tyN4 (ds:List (List Key×D)):tyN "dict" (.dt ds)=True:=by simp [tyN]
theorem e_rDf (Qd:D->Prop) (d:D) (δ:DSt):rD Qd (.fz d) δ=Qd d:=rfl
theorem e_rDl (Qd:D->Prop) (d:List D) (δ:DSt):rD Qd (.li d) δ=Qd (.list d):=rfl
theorem e_rDs (Qd:D->Prop) (d:List T) (δ:DSt):rD Qd (.ls d) δ=∃ e,toD (.ls d)=some e/\Qd e:=rfl
theorem e_nCore (p:DSpT) (as:List ArgP) (Q:T->Prop):nCore p as Q=(noO as/\p (as.map ArgP.arg) λ r _=>Q r):=rfl
def NCompB (items:List D) (n:Nat) (ix:List Nat) (dg:DG) (dn:DN) (δ:DSt) (Q:T->Prop):Prop:=items.length<=sizeLine/\∃ R:Nat->T->Prop,
 (∀ i d,items[i]?=some d->dg d (cST n ix δ) λ δ'=>dn δ' λ r=>R i r)/\∀ rs:List T,rs.length=items.length->(∀ (j:Nat) r,rs[j]?=some r->R j r)->Q (.ls rs)
theorem e_ncomp (di:DF) (n:Nat) (ix:List Nat) (dg:DG) (dn:DN) (δ:DSt) (Q:T->Prop):nComp di n ix dg dn δ Q=di δ λ items=>NCompB items n ix dg dn δ Q:=rfl
def CompB (items:List D) (n:Nat) (ix:List Nat) (dg:DG) (dt:DT) (de:DE) (δ:DSt) (Q:List D->Prop):Prop:=items.length<=sizeLine/\∃ R:Nat->Option D->Prop,
 (∀ i d,items[i]?=some d->dg d (cST n ix δ) λ δ'=>dt δ' λ b=>if b=true then de δ' λ r=>R i (some r) else R i none) /\
 ∀ os:List (Option D),os.length=items.length->(∀ (j:Nat) o,os[j]?=some o->R j o)->Q (os.filterMap id)
theorem e_comp (di:DF) (n:Nat) (ix:List Nat) (dg:DG) (dt:DT) (de:DE) (δ:DSt) (Q:List D->Prop):dComp di n ix dg dt de δ Q=di δ λ items=>CompB items n ix dg dt de δ Q:=rfl
def ForB (items:List D) (dg:DG) (db:DS) (E:DEnds) (δ:DSt):Prop:=∃ W:Nat->DSt->Prop,W 0 δ /\
 (∀ i d δ',items[i]?=some d->W i δ'->dg d δ' λ δ2=>db { E with nx:=W (i+1),ct:=W (i+1),bk:=E.nx } δ2)/\∀ δ',W items.length δ'->E.nx δ'
theorem e_for (di:DF) (dg:DG) (db:DS) (E:DEnds) (δ:DSt):dFor di dg db E δ=di δ λ items=>ForB items dg db E δ:=rfl
theorem seq_go {a b:DS} {E:DEnds} {δ:DSt} (h:a { E with nx:=b E } δ):dSeq a b E δ:=⟨b E,h,λ _ z=>z⟩
theorem seq_join {a b:DS} {E:DEnds} {δ:DSt} (J:DSt->Prop) (h:a { E with nx:=J } δ) (hj:∀ δ',J δ'->b E δ'):dSeq a b E δ:=⟨J,h,hj⟩
theorem seq_hide {a b:DS} {E:DEnds} {δ:DSt} (h:∀ J:DSt->Prop,(∀ δ',b E δ'->J δ')->a { E with nx:=J } δ):dSeq a b E δ:=⟨b E,h (b E) λ _ z=>z,λ _ z=>z⟩
theorem fm_of {α:Type} {f:α->Option D}:∀ {xs:List α} {os:List (Option D)},os.length=xs.length->(∀ (j:Nat) o x,os[j]?=some o->xs[j]?=some x->o=f x)->os.filterMap id=xs.filterMap f
|[],[],_,_=>rfl
|x :: xs,o :: os,hl,h=>by
  have e:o=f x:=h 0 o x rfl rfl
  have ih:=fm_of (f:=f) (xs:=xs) (os:=os) (by simpa using hl) λ j o' x' h1 h2=>h (j+1) o' x' (by simpa using h1) (by simpa using h2)
  rw [List.filterMap_cons,List.filterMap_cons,e,ih]
  rfl
theorem compF {α:Type} {xs:List α} {enc:α->D} (f:α->Option D) {n:Nat} {ix:List Nat} {dg:DG} {dt:DT} {de:DE} {δ:DSt} {Q:List D->Prop} (hz:xs.length<=sizeLine)
  (h:∀ x∈xs,dg (enc x) (cST n ix δ) λ δ'=>dt δ' λ b=>if b=true then de δ' λ r=>some r=f x else none=f x) (q:Q (xs.filterMap f)):CompB (xs.map enc) n ix dg dt de δ Q:=by
 refine ⟨by rw [List.length_map];exact hz,λ i o=>∀ x,xs[i]?=some x->o=f x,λ i d e=>?_,λ os hl hR=>?_⟩
 ·rw [List.getElem?_map] at e
  obtain ⟨x,hx,rfl⟩:=Option.map_eq_some_iff.mp e
  have:=h x (List.mem_of_getElem? hx)
  have e1:(λ r=>∀ y,xs[i]?=some y->some r=f y)=λ r=>some r=f x:=by
   funext r;rw [hx];simp
  have e2:(∀ y,xs[i]?=some y->(none:Option D)=f y)=(none=f x):=by rw [hx];simp
  show dg (enc x) (cST n ix δ) λ δ'=>dt δ' λ b=>if b=true then de δ' λ r=>∀ y,xs[i]?=some y->some r=f y else ∀ y,xs[i]?=some y->(none:Option D)=f y
  rw [e1,e2]
  exact this
 ·rw [List.length_map] at hl
  rw [fm_of hl λ j o x h1 h2=>hR j o h1 x h2]
  exact q
theorem compM {α:Type} {xs:List α} {enc:α->D} (g:α->D) {n:Nat} {ix:List Nat} {dg:DG} {de:DE} {δ:DSt} {Q:List D->Prop} (hz:xs.length<=sizeLine)
  (h:∀ x∈xs,dg (enc x) (cST n ix δ) λ δ'=>de δ' λ r=>r=g x) (q:Q (xs.map g)):CompB (xs.map enc) n ix dg dTrue de δ Q:=by
 refine compF (λ x=>some (g x)) hz (λ x hx=>?_) ?_
 ·have:=h x hx
  have e:(λ r=>some r=some (g x))=λ r=>r=g x:=by funext r;simp
  show dg (enc x) (cST n ix δ) λ δ'=>if true=true then de δ' λ r=>some r=some (g x) else none=some (g x)
  rw [e]
  simp only [if_true]
  exact this
 ·rw [show xs.filterMap (λ x=>some (g x))=xs.map g from congrFun List.filterMap_eq_map' xs]
  exact q
theorem for_inv {α:Type} {xs:List α} {enc:α->D} (W:Nat->DSt->Prop) {dg:DG} {db:DS} {E:DEnds} {δ:DSt} (h0:W 0 δ)
  (hs:∀ (i:Nat) x δ',xs[i]?=some x->W i δ'->dg (enc x) δ' λ δ2=>db { E with nx:=W (i+1),ct:=W (i+1),bk:=E.nx } δ2) (he:∀ δ',W xs.length δ'->E.nx δ'):ForB (xs.map enc) dg db E δ:=by
 refine ⟨W,h0,λ i d δ' e w=>?_,λ δ' w=>he δ' (by rw [List.length_map] at w;exact w)⟩
 rw [List.getElem?_map] at e
 obtain ⟨x,hx,rfl⟩:=Option.map_eq_some_iff.mp e
 exact hs i x δ' hx w
theorem two {c:Prop} [Decidable c] {A B:Prop} (h1:c->A) (h2:¬c->B):if c then A else B:=by
 by_cases h:c
 ·rw [if_pos h];exact h1 h
 ·rw [if_neg h];exact h2 h
theorem at_nat {α:Type} {xs:List α} {i:Int} {x:α} (h0:0<=i) (h:xs[i.toNat]?=some x):atI xs i=some x:=by
 have e:((i.toNat:Nat):Int)=i:=by lia
 have:=atI_nat (xs:=xs) (j:=i.toNat) (v:=x) h
 rwa [e] at this
theorem at_of {α:Type} {xs:List α} {i:Int} (h0:0<=i) (h1:i < (xs.length:Int)):∃ x,xs[i.toNat]?=some x/\atI xs i=some x:=by
 have h:i.toNat < xs.length:=by lia
 exact ⟨xs[i.toNat],List.getElem?_eq_getElem h,at_nat h0 (List.getElem?_eq_getElem h)⟩
theorem at_map_of {α:Type} {xs:List α} (f:α->D) {i:Int} (h0:0<=i) (h1:i < (xs.length:Int)):∃ x,xs[i.toNat]?=some x/\atI (xs.map f) i=some (f x):=by
 have h:i.toNat < xs.length:=by lia
 exact ⟨xs[i.toNat],List.getElem?_eq_getElem h,at_nat h0 (by rw [List.getElem?_map,List.getElem?_eq_getElem h];rfl)⟩
section
variable (K:Fg)
def RfH (te:TE) (de:DE):Prop:=∀ {F H:Hp} {σ:L2.St} {δ:DSt} {Qd:D->Prop} {Q:VK},Same F H->RV K F H σ δ->de δ Qd->(∀ d,Qd d->∀ v F' H',Ext F H F' H'->Is K H' v d->Q v H')->te σ H Q
def RfAH (ta:TA) (da:DF):Prop:=∀ {F H:Hp} {σ:L2.St} {δ:DSt} {Qd:List D->Prop} {Q:List V->Hp->Prop},Same F H->RV K F H σ δ->da δ Qd->(∀ ds,Qd ds->∀ vs F' H',Ext F H F' H'->IsAll K H' vs ds->Q vs H')->ta σ H Q
end
section
variable {K:Fg} {te ta tb:TE} {de da db:DE} {tA:TA} {dA:DF}
theorem RfV.h (h:RfV K te de):RfH K te de:=λ s r d k=>h s r d λ x q v F' H' e i=>k x q v F' H' e (i.is e.fh)
theorem rh_nil:RfAH K tNil dNil:=λ s rv h k=>k _ h _ _ _ (Ext.refl s) .nil
theorem rh_cons (ha:RfH K ta da) (hr:RfAH K tA dA):RfAH K (tCons ta tA) (dCons da dA):=by
 intro F H σ δ Qd Q s rv h k
 refine ha s rv h λ x hx v F1 H1 e1 i1=>hr e1.fh (rv.ext e1) hx λ xs hxs vs F2 H2 e2 i2=>?_
 exact k _ hxs _ F2 H2 (e1.trans e2) (.cons (i1.mono e2.h) i2)
theorem grow_new {F H:Hp} {p:Addr} {o:HO} (s:Same F H) (hn:H p=none):Ext F H F (upd H p o) :=
 ⟨same_new hn _,λ _ _ z=>z,λ b o z=>same_new hn _ b o (s b o z),λ _ _ z=>z⟩
theorem rh_tup (h:RfAH K tA dA):RfH K (tTupU tA) (dTup dA):=by
 intro F H σ δ Qd Q s rv hd k
 refine h s rv hd λ xs hx vs F1 H1 e1 i1=>⟨by rw [i1.dlen];exact hx.1,λ p hp=>?_⟩
 exact k _ hx.2 _ _ _ (e1.trans (grow_new e1.fh hp)) (.tup upd_same (i1.mono (same_new hp _)))
def R2H (K:Fg) (r:R2) (f:D->D->(D->Prop)->Prop):Prop:=∀ {F H:Hp} {x y:V} {d e:D} {Qd:D->Prop} {Q:VK},Same F H->Is K H x d->Is K H y e->f d e Qd->(∀ z,Qd z->∀ v F' H',Ext F H F' H'->Is K F' v z->Q v H')->r x y H Q
theorem rf_opH {r:R2} {f:D->D->(D->Prop)->Prop} (hr:R2H K r f) (ha:RfH K ta da) (hb:RfH K tb db):RfE K (tOp r ta tb) (dOp f da db):=by
 intro F H σ δ Qd Q s rv h k
 refine ha s rv h λ x hx v F1 H1 e1 i1=>hb e1.fh (rv.ext e1) hx λ y hy u F2 H2 e2 i2=>?_
 exact hr e2.fh (i1.mono e2.h) i2 hy λ z hz w F3 H3 e3 i3=>k z hz w F3 H3 ((e1.trans e2).trans e3) i3
theorem q_eq:R2H K (rEqU K) fEq:=by
 intro F H x y d e Qd Q s hx hy h k
 unfold fEq at h
 split at h
 ·cases hx.int_inv;cases hy.int_inv
  refine .inl ⟨rfl,k _ h _ F H (Ext.refl s) ?_⟩
  rw [dec_int];exact .bl _
 ·cases hx.str_inv;cases hy.str_inv
  refine .inl ⟨rfl,k _ h _ F H (Ext.refl s) ?_⟩
  rw [dec_str];exact .bl _
 ·cases hx.bl_inv;cases hy.bl_inv
  refine .inl ⟨rfl,k _ h _ F H (Ext.refl s) ?_⟩
  rw [dec_bl];exact .bl _
 ·exact .inr ⟨_,_,hx,hy,h.1,h.2.1,k _ h.2.2 _ F H (Ext.refl s) (.bl _)⟩
theorem q_ne:R2H K (rNeU K) fNe:=by
 intro F H x y d e Qd Q s hx hy h k
 unfold fNe at h
 split at h
 ·cases hx.int_inv;cases hy.int_inv
  refine .inl ⟨rfl,k _ h _ F H (Ext.refl s) ?_⟩
  rw [dec_int];exact .bl _
 ·cases hx.str_inv;cases hy.str_inv
  refine .inl ⟨rfl,k _ h _ F H (Ext.refl s) ?_⟩
  rw [dec_str];exact .bl _
 ·cases hx.bl_inv;cases hy.bl_inv
  refine .inl ⟨rfl,k _ h _ F H (Ext.refl s) ?_⟩
  rw [dec_bl];exact .bl _
 ·exact .inr ⟨_,_,hx,hy,h.1,h.2.1,k _ h.2.2 _ F H (Ext.refl s) (.bl _)⟩
end
theorem isT_ii (i:Int):isT "int" (.int i)=true:=rfl
theorem isT_bi (i:Int):isT "bool" (.int i)=false:=by simp [isT,tyD]
theorem isT_ll (i:List D):isT "list" (.list i)=true:=rfl
theorem isT_tt (i:List D):isT "tuple" (.tuple i)=true:=rfl
theorem isT_ss (i:Str):isT "str" (.str i)=true:=rfl
theorem nd_int (i:Int):(∀ kvs,PyData.int i≠.dict kvs)=True:=by simp
theorem nd_list (i:List D):(∀ kvs,PyData.list i≠.dict kvs)=True:=by simp
theorem nd_tup (i:List D):(∀ kvs,PyData.tuple i≠.dict kvs)=True:=by simp
theorem nd_str (i:Str):(∀ kvs,PyData.str i≠.dict kvs)=True:=by simp
theorem nd_bl (i:Bool):(∀ kvs,PyData.bool i≠.dict kvs)=True:=by simp
theorem nd_non:(∀ kvs,PyData.none≠.dict kvs)=True:=by simp
end L4
namespace L3
open PySem PySem.Spec PyProof.Rows L2
section
variable {X:Cx}
end
end L3
namespace L4
open PySem PySem.Spec PyProof.Rows L2 L3
section
variable {K:Fg} {te ta ti tv tk tb:TE} {de da di dk db:DE} {dc:DC} {tA:TA} {dA:DF}
theorem xor_one (x:Int):Builtin.bitXor x 1=x+1 - 2 * (x % 2):=by
 rw [PyProof.Rows.bitXor_and,PyProof.Rows.bitAnd_m1]
end
end L4
namespace L3
open PySem PySem.Spec PyProof.Rows L2
section
variable {X:Cx}
end
end L3
namespace L4
open PySem PySem.Spec PyProof.Rows L2 L3
section
variable {K:Fg} {te ta ti tv tk tb:TE} {de da di dk db:DE} {dc:DC} {dp:DP} {tA:TA} {dA:DF}
theorem is_ints {F:Hp}:∀ (ns:List Int),IsAll K F (ns.map V.int) (ns.map PyData.int)
|[]=>.nil
|n :: r=>.cons (.int n) (is_ints r)
end
end L4
namespace L3
open PySem PySem.Spec PyProof.Rows L2
structure TopDefN (K:Fg) (x:Str) (st:Stmt):Prop where
 ex:∃ (f T:Addr) (oc:Value) (od:Option Addr) (kV doc pm:Value) (an:Option Addr) (cdv ct:Value) (osl:Array (Option Value)) (o:Obj) (n:Nat),PySem.W.nsIn K mainGlobals x=some (some (.ref f)) /\
  K.lookup f=some ⟨oc,od,.func (PySem.W.fnOf x x (defArgs st) (defBody st) (defScope st) (.ref T) kV doc pm an cdv ct),osl⟩/\PySem.W.codeIn K cdv x=true/\PySem.W.keepIn K (.ref f)=true/\K.lookup T=some o/\o.data=.seq #[.none] n
theorem topDefN_mk {K:Fg} {x:Str} {st:Stmt} {f T:Addr} {oc:Value} {od an:Option Addr} {osl:Array (Option Value)} {kV doc pm cdv ct:Value} {o:Obj} {n:Nat} (a:PySem.W.nsIn K mainGlobals x=some (some (.ref f)))
  (l:K.lookup f=some ⟨oc,od,.func (PySem.W.fnOf x x (defArgs st) (defBody st) (defScope st) (.ref T) kV doc pm an cdv ct),osl⟩) (c:PySem.W.codeIn K cdv x=true) (k:PySem.W.keepIn K (.ref f)=true) (lt:K.lookup T=some o) (hd:o.data=.seq #[.none] n):TopDefN K x st :=
 ⟨f,T,oc,od,kV,doc,pm,an,cdv,ct,osl,o,n,a,l,c,k,lt,hd⟩
def DefN (P:Program) (w:World) (K:Fg) (mg:Str->Option Value) (base:Heap) (x:Str) (k:Nat) (ps:List Str) (sp:Sp):Prop :=
 ∃ f fd,FnOk P w K mg base CX0 k f fd ps sp/\Binds K fd ps []/\Binds K fd ps [.none]/\PySem.W.keepIn K (.ref f)=true/\mg x=some (.ref f)
theorem DefN.d {P:Program} {w:World} {K:Fg} {mg:Str->Option Value} {base:Heap} {x:Str} {k:Nat} {ps:List Str} {sp:Sp} (h:DefN P w K mg base x k ps sp):Def P w K mg base x k ps sp:=by
 obtain ⟨f,fd,F,b,_,kp,m⟩:=h
 exact ⟨f,fd,F,b,kp,m⟩
section
variable {P:Program} {w:World} {K:Fg} {mg:Str->Option Value} {base:Heap}
end
section
variable {X:Cx} {k:Nat} {C:Addr} {ps:List Str} {sp:Sp} {x m:Str} {p pos apos:Pos} {e o:Expr} {es:List Expr} {ta:TE} {t:TA}
end
end L3
namespace L4
open PySem PySem.Spec PyProof.Rows L2 L3
section
variable {K:Fg} {te ta ti tv tk tb:TE} {de da di dk db:DE} {dc:DC} {dp:DP} {tA:TA} {dA:DF}
end
section
variable {K:Fg} {tA:TA} {dA:DF}
end
end L4
namespace L5
open PySem PySem.Spec PyProof.Rows L2 L3 L4
theorem ar1 {α:Type} {us:List α} (h:us.length=1):∃ a,us=[a]:=by
 rcases us with _|⟨a,_|⟨b,us⟩⟩
 ·cases h
 ·exact ⟨a,rfl⟩
 ·cases h
theorem ars {α:Type} {n:Nat} {us:List α} (h:us.length=n+1):∃ a r,us=a :: r/\r.length=n:=by
 rcases us with _|⟨a,us⟩
 ·cases h
 ·exact ⟨a,us,rfl,Nat.succ.inj h⟩
theorem ar2 {α:Type} {us:List α} (h:us.length=2):∃ a b,us=[a,b]:=by
 obtain ⟨a,r,rfl,k⟩:=ars h
 obtain ⟨b,rfl⟩:=ar1 k
 exact ⟨a,b,rfl⟩
theorem ar3 {α:Type} {us:List α} (h:us.length=3):∃ a b c,us=[a,b,c]:=by
 obtain ⟨a,r,rfl,k⟩:=ars h
 obtain ⟨b,c,rfl⟩:=ar2 k
 exact ⟨a,b,c,rfl⟩
theorem ar4 {α:Type} {us:List α} (h:us.length=4):∃ a b c d,us=[a,b,c,d]:=by
 obtain ⟨a,r,rfl,k⟩:=ars h
 obtain ⟨b,c,d,rfl⟩:=ar3 k
 exact ⟨a,b,c,d,rfl⟩
section
variable {prog:Program} {w:World} {A:Around} {E:Value->Shared->Prop}
end
section
variable {prog:Program} {w:World} {A:Around} {R:Result->Shared->Prop} {I:Addr} {fp wr:List Addr} {n:Nat} {P:Nat->Value->Prop} {St:Nat->Heap->Prop} {d:Value}
end
section
variable {X:Cx} {x:Str} {p pos kp:Pos} {e e2:Expr} {te te2:TE}
end
section
variable {K:Fg} {te te2:TE} {df:DE} {dd:DE}
end
section
variable {P:Program} {w:World} {K:Fg} {mg:Str->Option Value} {base:Heap} {m:Str} {k:Nat} {ta:TE} {tA:TA} {dn:DN} {dA:DF}
abbrev Tab:=List (Addr×DSpT)
def nMethX (m:Str) (tab:Tab) (dn:DN) (dA:DF):DN:=λ δ Q=>dn δ λ u=>match u with
|.ob C fs=>noM m (.ob C fs)/\∃ p,(C,p)∈tab/\dA δ λ ds=>p (.b (.ob C fs) :: ds.map .d) λ r _=>Q r
|_=>False
theorem e_nMethX (m:Str) (tab:Tab) (dn:DN) (dA:DF) (δ:DSt) (Q:T->Prop):nMethX m tab dn dA δ Q=(dn δ λ u=>match u with
|.ob C fs=>noM m (.ob C fs)/\∃ p,(C,p)∈tab/\dA δ λ ds=>p (.b (.ob C fs) :: ds.map .d) λ r _=>Q r
|_=>False):=rfl
theorem args_d {F H:Hp}:∀ {vs:List V} {ds:List D},IsAll K F vs ds->ArgsR K F H vs (ds.map .d) [] none
|_,_,.nil=>.nil
|_,_,.cons h r=>.d h (args_d r)
theorem rn_methX {tab:Tab} (ht:∀ C p,(C,p)∈tab->∃ ps,MethD P w K mg base C m k ps (spT K p)) (h1:RfN K ta dn) (h2:RfA K tA dA):RfN K (tMethX P w K mg base m k ta tA) (nMethX m tab dn dA):=by
 intro F H σ δ Qd Q s rv hd kk
 refine h1 s rv hd λ u hu v F1 H1 fp e1 r1 nd1 fr1=>?_
 cases r1 with
|ob g1 g2 g3 g4 g5 =>
  rename_i a C dx kvs fs fp'
  obtain ⟨nm,p,hp,hq⟩:=hu
  obtain ⟨ps,md⟩:=ht C p hp
  refine ⟨a,C,dx,kvs,ps,_,rfl,g1,(g5.keys m).1 nm,md,h2 e1.fh (rv.ext e1) hq λ ds hds vs F2 H2 e2 i2=>?_⟩
  have r2:Rt K F2 H2 (.ref a) (.ob C fs) (a :: dx :: fp'):=(Rt.ob g1 g2 g3 g4 g5).ext e2
  have e12:=e1.trans e2
  refine ⟨F2,_,_,none,_,e2.fh,.b r2 nd1 (args_d i2),(λ b hb=>by simp [ofp] at hb),hds,λ r2 t2 q2 v F' H' fpr fpo post=>?_⟩
  exact kk _ q2 v F' H' fpr (e12.trans ⟨λ b o hb=>post.hh b o (by simp [ofp]) hb,post.ff,post.fh,post.nw⟩) post.rt post.nd λ b hb=>none_back e12 (post.fr b hb)
|fz _=>exact hu.elim
|li _ _ _=>exact hu.elim
|ls _ _ _=>exact hu.elim
|dk _ _ _=>exact hu.elim
|dt _ _ _=>exact hu.elim
|tp _ _ _ _=>exact hu.elim
|wh=>exact hu.elim
|dz _ _ _=>exact hu.elim
theorem tab3 {C1 C2 C3:Addr} {p1 p2 p3:DSpT} (h1:∃ ps,MethD P w K mg base C1 m k ps (spT K p1)) (h2:∃ ps,MethD P w K mg base C2 m k ps (spT K p2)) (h3:∃ ps,MethD P w K mg base C3 m k ps (spT K p3)) :
  ∀ C p,(C,p)∈[(C1,p1),(C2,p2),(C3,p3)]->∃ ps,MethD P w K mg base C m k ps (spT K p):=λ C p h=>by
 rcases List.mem_cons.mp h with e|h
 ·cases e;exact h1
 rcases List.mem_cons.mp h with e|h
 ·cases e;exact h2
 rcases List.mem_cons.mp h with e|h
 ·cases e;exact h3
 ·simp at h
end
section
variable {P:Program} {w:World} {K:Fg} {mg:Str->Option Value} {base:Heap} {m:Str} {k:Nat} {ta tk tx:TE} {tA:TA} {dp:DP} {dk dx:DE} {dA:DF}
end
end L5
namespace L5
open PySem
theorem nb_wide_since:((Str.ofString "wide") == (Str.ofString "since"))=false:=by decide +kernel
theorem nb_wide_other:((Str.ofString "wide") == (Str.ofString "other"))=false:=by decide +kernel
theorem nb_wide_turn:((Str.ofString "wide") == (Str.ofString "turn"))=false:=by decide +kernel
theorem nb_since_wide:((Str.ofString "since") == (Str.ofString "wide"))=false:=by decide +kernel
theorem nb_other_wide:((Str.ofString "other") == (Str.ofString "wide"))=false:=by decide +kernel
theorem nb_other_turn:((Str.ofString "other") == (Str.ofString "turn"))=false:=by decide +kernel
theorem nb_turn_wide:((Str.ofString "turn") == (Str.ofString "wide"))=false:=by decide +kernel
theorem nb_turn_other:((Str.ofString "turn") == (Str.ofString "other"))=false:=by decide +kernel
theorem nb_width_at_wide:((Str.ofString "width_at") == (Str.ofString "wide"))=false:=by decide +kernel
theorem nb_width_at_since:((Str.ofString "width_at") == (Str.ofString "since"))=false:=by decide +kernel
theorem nb_width_at_other:((Str.ofString "width_at") == (Str.ofString "other"))=false:=by decide +kernel
theorem nb_width_at_turn:((Str.ofString "width_at") == (Str.ofString "turn"))=false:=by decide +kernel
theorem nq_wide_since:((Str.ofString "wide")=(Str.ofString "since"))=False:=eq_false (by intro h;have:=nb_wide_since;rw [h] at this;simp at this)
theorem nq_wide_other:((Str.ofString "wide")=(Str.ofString "other"))=False:=eq_false (by intro h;have:=nb_wide_other;rw [h] at this;simp at this)
theorem nq_wide_turn:((Str.ofString "wide")=(Str.ofString "turn"))=False:=eq_false (by intro h;have:=nb_wide_turn;rw [h] at this;simp at this)
theorem nq_other_turn:((Str.ofString "other")=(Str.ofString "turn"))=False:=eq_false (by intro h;have:=nb_other_turn;rw [h] at this;simp at this)
end L5
namespace L3
open PySem PySem.Spec PyProof.Rows L2
section
variable {s:Shared} {w:World} {prog:Program} {E:Value->Shared->Prop} {A:Around}
end
section
variable {X:Cx} {pins:List (Addr×Obj)} {σ:L2.St} {H:Hp} {s:Shared} {a:Addr} {u:HO} {o:Obj}
theorem freeze (I:L2.Inv X pins σ H s) (mu:Mut (H a)) (e:H a=some u) (ho:s.heap.get? a=some o):L2.Inv X pins σ (upd H a (.frz o u)) s:=by
 have nown:∀ c y,H c=some (.own y)->c≠a:=λ c y r z=>by subst z;rw [r] at mu;exact mu
 have ntup:∀ c xs,H c=some (.tup xs)->c≠a:=λ c xs r z=>by subst z;rw [r] at mu;exact mu
 refine I.write (s:=s) (t':=s.toks) (h':=s.heap) (e:=a) mu (.inl rfl) (λ _ _ _ q=>q) ⟨o,ho⟩ ⟨ho,?_⟩
 exact (I.hok a u e).stay (λ _ _ _ q=>q) (λ c r=>by rw [upd_ne (nown c a r)];exact r) λ c xs r=>by rw [upd_ne (ntup c xs r)];exact r
theorem thaw (I:L2.Inv X pins σ H s) (e:H a=some (.frz o u)) (h0:∀ ob v,X.H₀ a≠some (.frz ob v)):L2.Inv X pins σ (upd H a u) s:=by
 have ne:∀ b,H b=none->b≠a:=λ b n z=>by subst z;rw [e] at n;cases n
 have nt:∀ b xs,H b=some (.tup xs)->b≠a:=λ b xs n z=>by subst z;rw [e] at n;cases n
 have no:∀ b y,H b=some (.own y)->b≠a:=λ b y n z=>by subst z;rw [e] at n;cases n
 refine ⟨I.ok,I.os,I.bare,⟨I.base.keep,I.base.slot,λ b ob q n hx=>?_,I.base.there,λ b xs q=>?_,λ b ob v q=>?_,λ b ps q=>?_⟩,I.loc,I.cell,by rw [upd_ne (ne _ I.free)];exact I.free,λ x c q=>by rw [upd_ne (ne _ (I.freeC x c q))];exact I.freeC x c q,λ p hp=>?_,λ b v q=>?_,I.len⟩
 ·have:=I.base.free b ob q n hx
  rw [upd_ne (ne b this)];exact this
 ·have:=I.base.tups b xs q
  rw [upd_ne (nt b xs this)];exact this
 ·have:=I.base.frzs b ob v q
  have hb:b≠a:=λ z=>by subst z;exact h0 ob v q
  rw [upd_ne hb];exact this
 ·obtain ⟨m,hm⟩:=I.base.tbls b ps q
  exact ⟨m,by rw [upd_ne (λ z=>by subst z;rw [e] at hm;cases hm)];exact hm⟩
 ·obtain ⟨p1,p2,p3⟩:=I.pin p hp
  exact ⟨p1,by rw [upd_ne (ne _ p2)];exact p2,p3⟩
 ·by_cases hb:b=a
  ·subst hb
   rw [upd_same] at q;cases q
   exact (I.hok b _ e).2.stay (λ _ _ _ q=>q) (λ c r=>by rw [upd_ne (no c b r)];exact r) λ c xs r=>by rw [upd_ne (nt c xs r)];exact r
  ·rw [upd_ne hb] at q
   exact (I.hok b v q).stay (λ _ _ _ q=>q) (λ c r=>by rw [upd_ne (no c b r)];exact r) λ c xs r=>by rw [upd_ne (nt c xs r)];exact r
end
def Itd (a:Addr) (o:Obj) (kvs:List (List Key×V)):It:=⟨λ i H=>H a=some (.frz o (.dT kvs))/\i < kvs.length,
 λ i H x H'=>∃ k v b p,kvs[i]?=some (k,v)/\H b=some (.tup (k.map kV))/\H p=none/\x=.ref p/\H'=upd H p (.tup [.ref b,v]),λ i H=>H a=some (.frz o (.dT kvs))/\kvs.length<=i⟩
theorem kt_get {H:Hp}:∀ {kvs:List (List Key×V)} {xs:List (List Key×Addr×Value)} {i:Nat} {k:List Key} {v:V},KT H kvs xs->kvs[i]?=some (k,v)->∃ b u,xs[i]?=some (k,b,u)/\H b=some (.tup (k.map kV))/\RelV v u:=by
 intro kvs xs i k v h
 induction h generalizing i with
|nil=>intro e;simp at e
|@cons p q ps qs hq t ih =>
  intro e
  cases i with
 |zero =>
   simp at e
   subst e
   obtain ⟨q1,q2,q3⟩:=q
   obtain ⟨h1,h2,h3⟩:=hq
   dsimp only at h1 h2 h3
   subst h1
   exact ⟨q2,q3,rfl,h2,h3⟩
 |succ i=>simp at e ⊢;exact ih e
section
variable {X:Cx} {elts:List Expr}
def kItems (v:V) (H:Hp) (R:It->Hp->Prop):Prop:=∃ a kvs,v=.ref a/\H a=some (.dT kvs)/\∀ o,R (Itd a o kvs) (upd H a (.frz o (.dT kvs)))
def iItems (te:TE):TI:=λ σ H R=>te σ H λ v H1=>kItems v H1 R
end
end L3
namespace L4
open PySem PySem.Spec PyProof.Rows L2 L3
section
variable {K:Fg} {ta:TE} {dp:DP}
def kD:Key->D
|.inl i=>.int i
|.inr x=>.str x
theorem is_keys {F:Hp}:∀ (k:List Key),IsAll K F (k.map kV) (k.map kD)
|[]=>.nil
|.inl i :: r=>.cons (.int i) (is_keys r)
|.inr x :: r=>.cons (.str x) (is_keys r)
theorem KvIs.at {κ:Type} {F:Hp}:∀ {r:List (κ×V)} {t:List (κ×D)} {i:Nat} {k:κ} {v:V},KvIs K F r t->r[i]?=some (k,v)->∃ d,t[i]?=some (k,d)/\Is K F v d:=by
 intro r t i k v h
 induction h generalizing i with
|nil=>intro e;simp at e
|cons h1 h2 ih =>
  intro e
  cases i with
 |zero=>simp at e;obtain ⟨rfl,rfl⟩:=e;exact ⟨_,rfl,h1⟩
 |succ i=>simp at e ⊢;exact ih e
end
end L4
namespace L3
open PySem PySem.Spec PyProof.Rows L2
section
variable {s:Shared} {w:World} {prog:Program} {E:Value->Shared->Prop} {A:Around}
theorem sort_few {a:Addr} {vs:List Value} {n:Nat} {P:Fin->Shared->Prop} (go:s.heap.get? a=some (seqObj "list" vs.toArray n)) (few:vs.toArray.size < 2)
  (h:P (.done (.ret .none)) { s with heap:=sortedHeap s.heap a vs ((vs.toArray.zip vs.toArray).map (·.2)) }):wpAny (model prog w) A (Builtin.«list.sort» ⟨[.ref a],[]⟩) P E s:=by
 have al:a < s.heap.objs.size:=Heap.lt_size go
 obtain ⟨e1,g1⟩:∃ e1,(s.heap.update a (Obj.mapSeq λ _=>#[])).get? a=some (seqObj "list" #[] e1):=⟨_,get?_update_seq go λ _=>#[]⟩
 rw [list_sort_plain]
 refine wpAny_bind (listItems_at go rfl (wpAny_bind (listUpdate_at go rfl (wpAny_bind (seqEpoch_at g1 rfl (wpAny_bind (wpAny_newTuple (wpAny_bind (wpAny_newList (wpAny_holding ?_))))))))))
 have g6:(((s.heap.update a (Obj.mapSeq λ _=>#[])).push (seqObj "tuple" vs.toArray 0)).push (seqObj "list" #[] 0)).get? a=some (seqObj "list" #[] e1):=Heap.get?_push_of_some _ (Heap.get?_push_of_some _ g1)
 refine (show wpAny (model prog w) A _ P E { s with heap:=((s.heap.update a (Obj.mapSeq λ _=>#[])).push (seqObj "tuple" vs.toArray 0)).push (seqObj "list" #[] 0) } from ?_)
 dsimp only
 rw [if_pos few,if_pos few]
 refine wpAny_bind (wpAny_pure ?_)
 rw [StateT.run_pure]
 refine wpAny_bind (wpAny_pure ?_);dsimp only
 refine wpAny_bind (seqEpoch_at g6 rfl (wpAny_bind (listUpdate_at (hsz2:=?_) g6 rfl ?_)))
 ·rw [if_neg (by simp)]
  exact wpAny_pure h
 ·have z2:(arrOf (SortSt.mk' general' (vs.toArray.zip vs.toArray) #[] 7 none))=vs.toArray.zip vs.toArray:=rfl
  rw [z2]
  have:((vs.toArray.zip vs.toArray).map λ x=>x.2).size<=2:=by simp;simp at few;lia
  refine Nat.le_trans this ?_
  rw [sizeLine_eq];lia
end
end L3
namespace L4
open PySem PySem.Spec PyProof.Rows L2 L3
section
variable {K:Fg}
end
end L4
namespace L3
open PySem PySem.Spec PyProof.Rows L2
section
variable {s:Shared} {w:World} {prog:Program} {E:Value->Shared->Prop} {A:Around} {Ky:Type} [DecidableEq Ky] {knd:HeapKind prog w Ky}
end
end L3
namespace L4
open PySem PySem.Spec PyProof.Rows L2 L3
section
variable {K:Fg} {ta tb ti tk tx:TE} {dp dq:DP} {dk dy dz:DE}
end
end L4
namespace L5
def xr (s:Nat):Nat:=if s % 2=0 then s+1 else s - 1
def hd (E:List Nat) (s:Nat):Nat:=E.getD s 0
def tl (E:List Nat) (s:Nat):Nat:=hd E (xr s)
def lf (L:List Int) (s:Nat):Int:=L.getD s 0
def lkp (lv:List (Nat×Nat)) (v:Nat):Option Nat:=(lv.find? λ p=>decide (p.1=v)).map (·.2)
theorem len_le_of_nodup:∀ (n:Nat) (l:List Nat),l.Nodup->(∀ x∈l,x < n)->l.length<=n
|0,[],_,_=>Nat.le_refl _
|0,x :: r,_,h=>absurd (h x (by simp)) (by lia)
|n+1,l,nd,h=>by
  by_cases hm:n∈l
  ·have h1:(l.erase n).length=l.length - 1:=List.length_erase_of_mem hm
   have h2:(l.erase n).Nodup:=nd.erase n
   have h3:∀ x∈l.erase n,x < n:=λ x hx=>by
    have hx1:=(List.Nodup.mem_erase_iff nd).mp hx
    have:=h x hx1.2
    lia
   have:=len_le_of_nodup n _ h2 h3
   lia
  ·have h3:∀ x∈l,x < n:=λ x hx=>by
    have:=h x hx
    have:x≠n:=λ e=>hm (e ▸ hx)
    lia
   have:=len_le_of_nodup n l nd h3
   lia
structure Lev (n m:Nat) (E:List Nat) (L:List Int) (src:Nat) (lv:List (Nat×Nat)):Prop where
 nd:(lv.map (·.1)).Nodup
 bd:∀ p∈lv,p.1 < n
 l0:lkp lv src=some 0
 z0:∀ v,lkp lv v=some 0->v=src
 cl:∀ s,s < 2 * m->0 < lf L s->(lkp lv (tl E s)).isSome=true->(lkp lv (hd E s)).isSome=true
 pr:∀ v a,lkp lv v=some (a+1)->∃ s,s < 2 * m/\0 < lf L s/\hd E s=v/\lkp lv (tl E s)=some a
def Adm (E:List Nat) (L:List Int) (lv:List (Nat×Nat)) (s:Nat):Prop:=0 < lf L s/\∃ a,lkp lv (tl E s)=some a/\lkp lv (hd E s)=some (a+1)
inductive Rch (m:Nat) (E:List Nat) (L:List Int) (lv:List (Nat×Nat)) (t:Nat):Nat->Prop
|here:Rch m E L lv t t
|step {s:Nat}:s < 2 * m->Adm E L lv s->Rch m E L lv t (hd E s)->Rch m E L lv t (tl E s)
structure Tri (m:Nat) (E:List Nat) (S:List (List Nat)) (L:List Int) (lv:List (Nat×Nat)) (t:Nat) (TT:List (List Nat)):Prop where
 len:TT.length=S.length
 pre:∀ (v:Nat) l,TT[v]?=some l->∃ k,S[v]?=some k/\l <+: k
 vain:∀ (v:Nat) l k,TT[v]?=some l->S[v]?=some k->∀ (j:Nat) s,l.length<=j->k[j]?=some s->¬(Adm E L lv s/\Rch m E L lv t (hd E s))
theorem Tri.all {m:Nat} {E:List Nat} {S:List (List Nat)} {L:List Int} {lv:List (Nat×Nat)} {t:Nat}:Tri m E S L lv t S :=
 ⟨rfl,λ v l h=>⟨l,h,List.prefix_refl _⟩,λ v l k h1 h2 j s hj hs=>by
  rw [h1] at h2;cases h2
  rw [List.getElem?_eq_none hj] at hs;cases hs⟩
end L5
namespace L5
def term (E:List Nat) (L:List Int) (v k:Nat):Int:=(if hd E (2 * k)=v then lf L (2 * k+1) else 0) - (if hd E (2 * k+1)=v then lf L (2 * k+1) else 0)
def bal (m:Nat) (E:List Nat) (L:List Int) (v:Nat):Int:=((List.range m).map (term E L v)).sum
structure Cap (m:Nat) (most:Nat->Int) (L:List Int):Prop where
 len:L.length=2 * m
 nn:∀ s,s < 2 * m->0<=lf L s
 sm:∀ k,k < m->lf L (2 * k)+lf L (2 * k+1)=most k
def tot (m:Nat) (most:Nat->Int):Int:=((List.range m).map most).sum
end L5
namespace L5
open PySem PySem.Spec PyProof.Rows L2 L3 L4
def nI (x:Nat):D:=.int (x:Int)
def kN (lv:List (Nat×Nat)):List (Key×D):=lv.map λ p=>(.inl (p.1:Int),nI p.2)
theorem inl_eq (p v:Nat):((Sum.inl (p:Int):Key)=Sum.inl (v:Int))=(p=v):=by
 apply propext
 constructor
 ·intro z;injection z with z;exact_mod_cast z
 ·intro z;rw [z]
theorem getA_kN (lv:List (Nat×Nat)) (v:Nat):getA (kN lv) (.inl (v:Int))=(lkp lv v).map nI:=by
 unfold getA kN lkp
 induction lv with
|nil=>rfl
|cons p r ih =>
  by_cases e:p.1=v
  ·simp [e]
  ·have e2:¬ (Sum.inl (p.1:Int):Key)=Sum.inl (v:Int):=by rw [inl_eq];exact e
   simp only [List.map_cons,List.find?_cons]
   simp only [e,e2,decide_false]
   exact ih
end L5
namespace L5
structure Bfs (n m:Nat) (E:List Nat) (L:List Int) (src:Nat) (lv:List (Nat×Nat)) (row:List Nat) (lev:Nat):Prop where
 nd:(lv.map (·.1)).Nodup
 bd:∀ p∈lv,p.1 < n
 l0:lkp lv src=some 0
 z0:∀ v,lkp lv v=some 0->v=src
 ro:∀ v∈row,lkp lv v=some lev
 le:∀ v b,lkp lv v=some b->b<=lev/\(b=lev->v∈row)
 cl:∀ v b,lkp lv v=some b->b < lev->∀ s,s < 2 * m->tl E s=v->0 < lf L s->(lkp lv (hd E s)).isSome=true
 pr:∀ v a,lkp lv v=some (a+1)->∃ s,s < 2 * m/\0 < lf L s/\hd E s=v/\lkp lv (tl E s)=some a
structure Mid (n m:Nat) (E:List Nat) (L:List Int) (lv:List (Nat×Nat)) (lev:Nat) (lv1:List (Nat×Nat)) (beh:List Nat):Prop where
 nd:(lv1.map (·.1)).Nodup
 bd:∀ p∈lv1,p.1 < n
 old:∀ v b,lkp lv v=some b->lkp lv1 v=some b
 new:∀ v b,lkp lv1 v=some b->lkp lv v=some b \/ (b=lev+1/\v∈beh)
 ro:∀ v∈beh,lkp lv1 v=some (lev+1)
 pr:∀ v a,lkp lv1 v=some (a+1)->∃ s,s < 2 * m/\0 < lf L s/\hd E s=v/\lkp lv1 (tl E s)=some a
 len:lv1.length=lv.length+beh.length
end L5
namespace L5
open PySem PySem.Spec PyProof.Rows L2 L3 L4
end L5
namespace L5
structure Up (m:Nat) (most:Nat->Int) (E:List Nat) (L L':List Int) (src snk:Nat):Prop where
 cap:Cap m most L'
 eqb:∀ v,v≠src->v≠snk->bal m E L' v=bal m E L v
 out:∀ k,k < m->hd E (2 * k+1)=src->lf L (2 * k+1)<=lf L' (2 * k+1)
 inn:∀ k,k < m->hd E (2 * k)=snk->lf L (2 * k+1)<=lf L' (2 * k+1)
 bs:bal m E L' src<=bal m E L src
 bt:bal m E L snk<=bal m E L' snk
theorem Up.trans {m:Nat} {most:Nat->Int} {E:List Nat} {L L' L2:List Int} {src snk:Nat} (h:Up m most E L L' src snk) (k:Up m most E L' L2 src snk):Up m most E L L2 src snk :=
 ⟨k.cap,λ v a b=>(k.eqb v a b).trans (h.eqb v a b),λ i a b=>Int.le_trans (h.out i a b) (k.out i a b),λ i a b=>Int.le_trans (h.inn i a b) (k.inn i a b),Int.le_trans k.bs h.bs,Int.le_trans h.bt k.bt⟩
end L5
namespace L5
open PySem PySem.Spec PyProof.Rows L2 L3 L4
abbrev Ar:=Nat×Nat×Int
def sm (m:Nat) (g:Nat->Int):Int:=((List.range m).map g).sum
theorem sm_succ (m:Nat) (g:Nat->Int):sm (m+1) g=sm m g+g m:=by
 unfold sm
 rw [List.range_succ,List.map_append,List.sum_append]
 simp
theorem sm_congr {m:Nat} {g h:Nat->Int} (e:∀ k,k < m->g k=h k):sm m g=sm m h:=by
 unfold sm
 rw [List.map_congr_left λ k hk=>e k (List.mem_range.mp hk)]
theorem sm_add (g h:Nat->Int):∀ m,sm m (λ k=>g k+h k)=sm m g+sm m h
|0=>rfl
|m+1=>by rw [sm_succ,sm_succ,sm_succ,sm_add g h m];lia
theorem sm_zero:∀ m,sm m (λ _=>0)=0
|0=>rfl
|m+1=>by rw [sm_succ,sm_zero m];rfl
theorem sm_one {j:Nat} (d:Int):∀ {m:Nat},j < m->sm m (λ k=>if k=j then d else 0)=d
|0,h=>by lia
|m+1,h=>by
  rw [sm_succ]
  by_cases z:m=j
  ·subst z
   rw [if_pos rfl,sm_congr (h:=λ _=>0) λ k hk=>if_neg (by lia),sm_zero];lia
  ·rw [sm_one d (m:=m) (by lia),if_neg z];lia
def trm (u v:Nat) (x:Int) (w:Nat):Int:=(if v=w then x else 0) - (if u=w then x else 0)
def bl (m:Nat) (eu ev:Nat->Nat) (x:Nat->Int) (w:Nat):Int:=sm m λ k=>trm (eu k) (ev k) (x k) w
def within (m:Nat) (cap x:Nat->Int):Prop:=∀ k,k < m->0<=x k/\x k<=cap k
abbrev Pr:=Nat×Nat
def pU (P:List Pr) (k:Nat):Nat:=((P[k]?).map λ a=>a.1).getD 0
def pV (P:List Pr) (k:Nat):Nat:=((P[k]?).map λ a=>a.2).getD 0
def fx (f:List Int) (k:Nat):Int:=(f[k]?).getD 0
def nb (P:List Pr) (f:List Int) (w:Nat):Int:=bl P.length (pU P) (pV P) (fx f) w
end L5
namespace L4
open PySem PySem.Spec PyProof.Rows L2 L3
section
variable {P:Program} {w:World} {K:Fg} {mg:Str->Option Value} {base:Heap}
end
section
variable {K:Fg} {g:TG} {dg:DG} {tb:TS} {db:DS} {n:Nat}
end
section
variable {K:Fg} {t1 t2 t3 te:TE} {d1 d2 d3:DE} {dn:DN}
end
end L4
namespace L5
open PySem PySem.W PyProof.Rows
def Whole (n:Nat) (p:Array Nat):Prop:=p.toList.Perm (List.range n)
section
variable {n:Nat} {lt:Nat->Nat->Bool} {cmp:Nat->Nat->(Bool->Shared->Prop)->Shared->Prop} {s:Shared} {p:Array Nat}
theorem Whole.size (h:Whole n p):p.size=n:=by have:=h.length_eq;simpa using this
end
end L5
namespace L3
open PySem PySem.W PySem.Spec PyProof.Rows L2 L5
def lexB:List Int->List Int->Bool
|[],[]=>false
|[],_ :: _=>true
|_ :: _,[]=>false
|a :: r,b :: t=>if a=b then lexB r t else decide (a < b)
theorem lexB_cons (a b:Int) (r t:List Int):lexB (a :: r) (b :: t)=if a=b then lexB r t else decide (a < b):=by rw [lexB]
section
variable {s:Shared} {w:World} {prog:Program} {E:Value->Shared->Prop} {A:Around}
theorem lex_at {Q:Bool->Shared->Prop} {fin:Bool}:∀ (xs ys:List Int) (vs ws:List Value) (i:Nat),IntsAre vs xs->IntsAre ws ys->fin=decide (xs.length < ys.length)->Q (lexB xs ys) s->KatLex prog w A true fin Q (vs.zip ws) i s
|[],[],_,_,i,.nil,.nil,e,q=>by subst e;exact q
|[],_ :: _,_,_,i,.nil,.cons _ _ _,e,q=>by
  have:fin=true:=by rw [e];simp
  subst this
  exact kat_nil q
|_ :: _,[],_,_,i,.cons _ _ _,.nil,e,q=>by
  have:fin=false:=by rw [e];simp
  subst this
  exact kat_nil q
|a :: r,b :: t,_,_,i,.cons _ u h,.cons _ u2 k,e,q=>by
  rw [List.zip_cons_cons]
  rw [lexB_cons] at q
  refine kat_cons (wpAny_eqBool_int (kat_go (λ e1=>kat_yes ?_) λ e1=>kat_no ?_))
  ·have:a=b:=by simpa using e1
   subst this
   rw [if_pos rfl] at q
   exact lex_at r t _ _ (i+1) h k (by rw [e];simp) q
  ·have:a≠b:=by simpa using e1
   rw [if_neg this] at q
   cases (true && i == 0) with
  |true=>exact oneLt_int q
  |false=>exact kat_one _ _ (PyProof.Rows.lt_int q)
inductive TupRows (h:Heap):List Value->List (List Int)->Prop
|nil:TupRows h [] []
|cons {v:Value} {r:List Int} {vs:List Value} {rows:List (List Int)}:(∃ b o its k,v=.ref b/\h.get? b=some o/\o.cls=.type "tuple"/\o.data=.seq its k/\IntsAre its.toList r/\r≠[])->TupRows h vs rows->TupRows h (v :: vs) (r :: rows)
theorem TupRows.mono {h h':Heap} {vs:List Value} {rows:List (List Int)} (t:TupRows h vs rows) (k:∀ b o,h.get? b=some o->o.cls=.type "tuple"->h'.get? b=some o):TupRows h' vs rows:=by
 induction t with
|nil=>exact .nil
|cons a t ih =>
  obtain ⟨b,o,its,n,e1,e2,e3,e4,e5,e6⟩:=a
  exact .cons ⟨b,o,its,n,e1,k b o e2 e3,e3,e4,e5,e6⟩ ih
theorem TupRows.at {h:Heap}:∀ {vs:List Value} {rows:List (List Int)},TupRows h vs rows->∀ {i:Nat},i < vs.length->∃ b o its k,vs.getD i .none=.ref b/\h.get? b=some o/\o.cls=.type "tuple"/\o.data=.seq its k/\IntsAre its.toList (rows.getD i [])/\rows.getD i []≠[]
|_,_,.nil,i,hi=>by simp at hi
|_,_,.cons a t,0,_=>a
|_,_,.cons a t,i+1,hi=>by simpa using TupRows.at t (i:=i) (by simpa using hi)
theorem TupRows.firsts {h:Heap}:∀ {vs:List Value} {rows:List (List Int)},TupRows h vs rows->∃ fs:List Value,KatTups h vs fs/\fs.length=vs.length/\∀ v∈fs,∃ n t,v=Value.int n t
|_,_,.nil=>⟨[],.nil,rfl,by simp⟩
|_,_,.cons ⟨b,o,its,n,e1,e2,e3,e4,e5,e6⟩ t=>by
  obtain ⟨fs,k1,k2,k3⟩:=TupRows.firsts t
  subst e1
  obtain ⟨l,hl⟩:∃ l,its.toList=l:=⟨_,rfl⟩
  rw [hl] at e5
  cases e5 with
 |nil=>exact absurd rfl e6
 |cons x u r =>
   refine ⟨.int x u :: fs,KatTups.cons e2 e3 e4 ?_ k1,by simp [k2],?_⟩
   ·rw [<- Array.getElem?_toList,hl];rfl
   ·intro v hv
    rcases List.mem_cons.mp hv with rfl|hv
    ·exact ⟨_,_,rfl⟩
    ·exact k3 v hv
end
inductive RowsV (K:Fg) (H:Hp):List V->List (List Int)->Prop
|nil:RowsV K H [] []
|cons {b:Addr} {r:List Int} {xs:List V} {rows:List (List Int)}:SqT K H b (r.map V.int)->r≠[]->RowsV K H xs rows->RowsV K H (.ref b :: xs) (r :: rows)
theorem RowsV.len {K:Fg} {H:Hp} {xs:List V} {rows:List (List Int)} (h:RowsV K H xs rows):xs.length=rows.length:=by
 induction h with
|nil=>rfl
|cons _ _ _ ih=>simp [ih]
theorem Vals.getP {xs:List V} {us:List Value} (h:Vals xs us) {i:Nat} (hi:i < xs.length):RelV (xs.getD i .non) (us.getD i .none):=by
 obtain ⟨u,e,r⟩:=Vals.get h (List.getElem?_eq_getElem hi)
 rw [List.getD_eq_getElem?_getD,List.getD_eq_getElem?_getD,List.getElem?_eq_getElem hi,e]
 exact r
end L3
namespace L4
open PySem PySem.Spec PyProof.Rows L2 L3
section
variable {K:Fg}
def rowD (r:List Int):D:=.tuple (r.map .int)
end
end L4
namespace L3
open PySem PySem.Spec PyProof.Rows L2
section
variable {s:Shared} {w:World} {prog:Program} {E:Value->Shared->Prop} {A:Around}
theorem kiter_new {d:Addr} {od:Obj} {es:Array DictEntry} {ep:Nat} {Q:Value->Shared->Prop} (go:s.heap.get? d=some od) (gc:od.cls=.type "dict") (gd:od.data=.dict es ep) (gs:(d == sysModules)=false)
  (q:Q (.ref s.heap.objs.size) { s with heap:=s.heap.push { cls:=.type "dict_keyiterator",data:=.fields #[.ref d,.int 0 0,.int es.size 0,.int ep 0] } }):wpAny (model prog w) A (pyIter (.ref d)) Q E s:=by
 have ty:s.TypeIs (.ref d) "dict":=⟨od,go,gc⟩
 refine wpAny_pyIter_slot ty F.slot_dict_iter (wpAny_call_entry F.slot_dict_iter ty F.entry_dict_iter ?_ (F.args_dict_iter_1 _))
 unfold Builtin.«dict.__iter__» Builtin.Dict.dictSlotNone
 refine wpAny_bind (wpAny_bind (wpAny_notOrdered_dict ty (show wpAny _ _ (pure (Value.ref d)) _ _ s from wpAny_pure (show wpAny _ _ (Builtin.Dict.showsAll d >>= _) _ _ s from ?_))))
 unfold Builtin.Dict.showsAll
 rw [gs,if_neg Bool.false_ne_true]
 refine wpAny_bind (wpAny_pure (wpAny_bind (wpAny_dictEntries go gd (wpAny_bind (wpAny_dictEpoch go gd (wpAny_bind (wpAny_newObj_type (wpAny_pure ⟨_,rfl, "dict_keyiterator",_,⟨_,Heap.get?_push_size _ rfl,rfl⟩,F.slot_dict_keyiterator_next.lookup,?_⟩))))))))
 simpa [rawInt] using q
theorem ownk:Builtin.Dict_items.ownsTuple "dict_keyiterator"=false:=by decide
theorem next_keys {it d:Addr} {od:Obj} {es:Array DictEntry} {i ep:Nat} {Q:Option Value->Shared->Prop} (calm:A.handled=none) (gi:s.heap.IsKeyIter it d i es.size ep) (go:s.heap.get? d=some od) (gd:od.data=.dict es ep)
  (q1:∀ (lt:i < es.size) (h':Heap),h'.IsKeyIter it d (i+1) es.size ep->Heap.SameBut it s.heap h'->Q (some es[i].key) { s with heap:=h' })
  (q2:es.size<=i->∀ h':Heap,Heap.ExtBut it s.heap h'->Q none { s with heap:=h' }):wpAny (model prog w) A (pyNext (.ref it)) Q E s:=by
 have ty:=gi.typeIs
 obtain ⟨io,g1,g2,g3⟩:=id gi
 unfold pyNext
 refine wpAny_bind (wpAny_attempt (wpAny_callSpecial?_slot (name:=Str.ofString "__next__") ty F.slot_dict_keyiterator_next (wpAny_call_entry F.slot_dict_keyiterator_next ty F.entry_dict_keyiterator_next ?_ (F.args_dict_keyiterator_next_1 _))))
 refine wpAny_bind (wpAny_pure (wpAny_bind (wpAny_bind (wpAny_bind (wpAny_typeNameOfWhole_keyiter ty (wpAny_pure (wpAny_bind (wpAny_fieldsOf g1 g3 ?_))))))))
 simp only [ownk,Bool.false_eq_true,if_false]
 refine (show wpAny _ _ (if (Value.ref d == Value.none)=true then _ else _) _ _ _ from ?_)
 rw [if_neg (show ¬ (Value.ref d == Value.none)=true from nofun)]
 refine wpAny_bind (wpAny_pure (wpAny_bind (wpAny_dictEntries go gd ?_)))
 rw [if_neg (by simp)]
 refine wpAny_bind (wpAny_pure (wpAny_bind (wpAny_dictEpoch go gd ?_)))
 rw [if_neg (by simp)]
 refine wpAny_pure ?_
 rcases Nat.lt_or_ge i es.size with lt|ge
 ·simp only [Array.getElem?_eq_getElem lt,Int.toNat_natCast,if_neg (Int.not_lt.mpr (Int.natCast_nonneg i))]
  refine wpAny_bind (wpAny_bind (wpAny_typeNameOfWhole_keyiter ty (wpAny_pure (wpAny_bind (wpAny_isOneOf_keyiter ty ?_)))))
  refine wpAny_bind (show wpAny _ _ (setField (.ref it) 1 (rawInt ((i:Int)+1))) _ _ _ from wpAny_setField g1 g3 (by simp) ?_)
  have gi':(s.heap.update it (Obj.mapFields (·.setIfInBounds 1 (rawInt ((i:Int)+1))))).IsKeyIter it d (i+1) es.size ep:=by
   refine ⟨_,Heap.get?_update_self _ g1 (Obj.isFreed_of_fields (Obj.data_mapFields g3 _)),(Obj.cls_mapFields ..).trans g2,?_⟩
   rw [Obj.data_mapFields g3];simp [rawInt]
  refine wpAny_bind (wpAny_holding (wpAny_bind (wpAny_isOneOf_keyiter (s:={ s with heap:=s.heap.update it (Obj.mapFields (·.setIfInBounds 1 (rawInt ((i:Int)+1)))) }) gi'.typeIs (show wpAny _ _ (pure es[i].key) _ _ _ from wpAny_pure (wpAny_pure ⟨_,rfl,wpAny_pure (q1 lt _ gi' (Heap.SameBut.update ..))⟩)))))
 ·simp only [Array.getElem?_eq_none ge,Int.toNat_natCast,if_neg (Int.not_lt.mpr (Int.natCast_nonneg i))]
  refine wpAny_bind (wpAny_bind (wpAny_typeNameOfWhole_keyiter ty (wpAny_pure (wpAny_bind (show wpAny _ _ (setField (.ref it) 0 .none) _ _ _ from wpAny_setField g1 g3 (by simp) ?_)))))
  refine wpAny_bind (show wpAny _ _ (newExc (.type "StopIteration") []) _ _ _ from ?_)
  simp only [newExc,newTuple]
  refine wpAny_bind (wpAny_newObj_type (hd:=by size_fits) (wpAny_bind (m:=firstArgMember _ _) (wpAny_of_eq (a:=Value.none) (by rfl) (wpAny_newObj_type (hd:=by size_fits) ?_))))
  simp only [raiseNew]
  refine wpAny_bind (wpAny_handled ?_)
  rw [show A.in1.handled=none from calm]
  refine wpAny_bind (wpAny_pure (wpAny_throw ?_));refine wpAny_bind (wpAny_isInstance (b:=true) (T := "StopIteration") ⟨_,Heap.get?_push_size _ rfl,rfl⟩ isSubtype_stop (wpAny_pure (q2 ge _ ?_)))
  exact ((Heap.SameBut.update ..).extBut.push _).push _
end
def Itk (a:Addr) (o:Obj) (kvs:List (List Key×V)):It:=⟨λ i H=>H a=some (.frz o (.dT kvs))/\i < kvs.length,
 λ i H x H'=>∃ k v b,kvs[i]?=some (k,v)/\H b=some (.tup (k.map kV))/\x=.ref b/\H'=H,λ i H=>H a=some (.frz o (.dT kvs))/\kvs.length<=i⟩
theorem turn_keys {P:Program} {w:World} {K:Fg} {tg:Expr} {a it:Addr} {o:Obj} {kvs:List (List Key×V)} {es:Array DictEntry} {ep:Nat} (hd:o.data=.dict es ep) :
  Turn P w K tg (Itk a o kvs) [it] it (λ i h=>h.IsKeyIter it a i es.size ep) where
 mem:=by simp
 obj:=λ i h S b hb=>by
  obtain ⟨io,g1,g2,g3⟩:=S
  simp at hb
  subst hb
  exact ⟨_,g1,λ v q=>by rw [g3] at q;cases q⟩
 keep:=λ i h h' S k=>by
  obtain ⟨io,g1,g2,g3⟩:=S
  exact ⟨io,k _ (by simp) _ g1,g2,g3⟩
 item:=by
  intro X hP hw hK hc i pins s σ H E I hf S hg
  subst hP hw hK
  obtain ⟨hq,hlt⟩:=hg
  obtain ⟨ho,hdt⟩:=(show ObjOk X.prog X.w H s.heap a (.frz o (.dT kvs)) from I.hok a _ hq)
  obtain ⟨z,_,xs,r,o',es',ep',h1,h2,h3,h4,h5⟩:=hdt
  rw [ho] at h1;cases h1
  rw [hd] at h3;cases h3
  have hx:kvs[i]?=some (kvs[i].1,kvs[i].2):=by rw [List.getElem?_eq_getElem hlt]
  obtain ⟨kb,u,g1,g2,g3⟩:=kt_get r hx
  have hes:i < es.size:=by
   rw [<- Array.length_toList,h4,List.length_map]
   exact (List.getElem?_eq_some_iff.mp g1).1
  have hent:es[i]=entryOfKey (tupleKind (mixKind X.prog X.w)) (kvs[i].1,kb,u):=by
   have e1:es.toList[i]?=some (entryOfKey (tupleKind (mixKind X.prog X.w)) (kvs[i].1,kb,u)):=by rw [h4,List.getElem?_map,g1];rfl
   rw [Array.getElem?_toList,Array.getElem?_eq_getElem hes] at e1
   exact Option.some.inj e1
  have ek:es[i].key=.ref kb:=by rw [hent];rfl
  have fi:=hf it (by simp)
  refine next_keys (I.ok.hd hc) S ho hd (λ _ h' S' sb=>?_) λ ge=>absurd hes (Nat.not_lt.mpr ge)
  rw [ek]
  obtain ⟨io,i1,i2,i3⟩:=id S'
  exact ⟨.ref kb,rfl,go_of (s:={ s with heap:=h' }) i1 i2 i3 (by decide) ⟨.ref kb,H,fp_ext (tk:=s.toks) I fi sb.extBut,rfl,⟨_,_,kb,hx,g2,rfl,rfl⟩,S',λ b hb=>(hf b hb).1⟩⟩
 done:=by
  intro X hP hw hK hc i pins s σ H E I hf S hg
  subst hP hw hK
  obtain ⟨hq,hge⟩:=hg
  obtain ⟨ho,hdt⟩:=(show ObjOk X.prog X.w H s.heap a (.frz o (.dT kvs)) from I.hok a _ hq)
  obtain ⟨z,_,xs,r,o',es',ep',h1,h2,h3,h4,h5⟩:=hdt
  rw [ho] at h1;cases h1
  rw [hd] at h3;cases h3
  have hl:kvs.length=xs.length:=r.length
  have hz:es.size=xs.length:=by rw [<- Array.length_toList,h4,List.length_map]
  exact next_keys (I.ok.hd hc) S ho hd (λ lt=>absurd lt (by lia)) λ _ h' eb=>⟨rfl,fp_ext (tk:=s.toks) I (hf it (by simp)) eb⟩
 self:=λ _ _ _ _ _ S h=>wpAny_pyIter_keyiter S h
section
variable {X:Cx} {tg:Expr}
def kKeys (v:V) (H:Hp) (R:It->Hp->Prop):Prop:=∃ a kvs,v=.ref a/\H a=some (.dT kvs)/\∀ o,R (Itk a o kvs) (upd H a (.frz o (.dT kvs)))
def iKeys (te:TE):TI:=λ σ H R=>te σ H λ v H1=>kKeys v H1 R
theorem pi_keys {e:Expr} {te:TE} (ho:PE X e te):PI X tg e (iKeys te):=by
 intro pins s σ H R I h
 refine thn (ho pins s σ H _ I h) λ v s1 ⟨x,H1,I1,r1,a,kvs,ex,e,q⟩=>?_
 subst ex
 obtain rfl:v=Value.ref a:=r1
 obtain ⟨t1,t2,hm⟩:=isD_at I1 (.inr ⟨kvs,.inl e⟩)
 obtain ⟨z,_,xs,r,od,es,ep,h1,h2,h3,h4,h5⟩:=(show ObjOk X.prog X.w H1 s1.heap a (.dT kvs) from I1.hok a _ e)
 refine kiter_new h1 h2.1 h3 hm ?_
 have aL:a < s1.heap.objs.size:=Heap.lt_size h1
 have k2:∀ b u,s1.heap.get? b=some u->(s1.heap.push { cls:=.type "dict_keyiterator",data:=.fields #[.ref a,.int 0 0,.int es.size 0,.int ep 0] }).get? b=some u:=λ b u q=>Heap.get?_push_of_some _ q
 have I2:=I1.kept (t':=s1.toks) k2
 have I3:=freeze I2 (a:=a) (by rw [e];trivial) e (k2 _ _ h1)
 refine ⟨_,[_],_,_,_,rfl,I3,turn_keys (es:=es) (ep:=ep) h3,⟨_,Heap.get?_push_size _ rfl,rfl,rfl⟩,λ b hb=>?_,q od⟩
 simp only [List.mem_singleton] at hb
 have hb':s1.heap.objs.size<=b:=Nat.le_of_eq hb.symm
 exact I1.fpOk hb' (by rw [upd_ne (λ z=>by rw [z] at hb';exact absurd aL (Nat.not_lt.mpr hb'))];exact I1.hok.fresh hb')
end
end L3
namespace L4
open PySem PySem.Spec PyProof.Rows L2 L3
section
variable {K:Fg} {w:World}
theorem KvIs.keysT {κ:Type} {F:Hp} {r:List (κ×V)} {t:List (κ×D)} (h:KvIs K F r t):r.map (·.1)=t.map (·.1):=by
 induction h with
|nil=>rfl
|cons a r ih=>simp_all
end
section
variable {K:Fg} {g:TG} {dg:DG} {tb:TS} {db:DS} {n:Nat} {B:Bs} {F H:Hp} {σ:L2.St} {δ:DSt} {fps:Nat->List Addr}
def ioF (δ:DSt) (fps:Nat->List Addr):List Addr:=(List.range δ.length).flatMap λ i=>match (δ[i]?:Option Sl) with
|some (.io _ _)=>fps i
|_=>[]
theorem mem_ioF {a:Addr}:a∈ioF δ fps ↔ ∃ (i:Nat) (b:Addr) (t:T),δ[i]?=some (.io b t)/\a∈fps i:=by
 unfold ioF
 rw [List.mem_flatMap]
 constructor
 ·rintro ⟨i,_,h⟩
  split at h
  ·rename_i b t e;exact ⟨i,b,t,e,h⟩
  ·simp at h
 ·rintro ⟨i,b,t,e,h⟩
  refine ⟨i,List.mem_range.mpr (List.getElem?_eq_some_iff.mp e).1,?_⟩
  rw [e];exact h
theorem RS.rebase (r:RS K B F H σ δ fps):∃ B':Bs,RS K B' F H σ δ fps/\B'.F0=F/\(∀ a o,H a=some o->(∀ (i:Nat) s,δ[i]?=some s->s.own=true->a ∉ fps i)->B'.H0 a=some o/\a ∉ B'.G) /\
  (∀ {F2 H2:Hp} {σ2:L2.St} {δ2:DSt} {fps2:Nat->List Addr},RS K B' F2 H2 σ2 δ2 fps2->RS K B F2 H2 σ2 δ2 fps2)/\∀ a,B'.H0 a=none->B.H0 a=none:=by
 classical
 have ow:∀ a,(∃ (i:Nat) (t:T),δ[i]?=some (.ow t)/\a∈fps i)->B.H0 a=none:=λ a ⟨i,t,e,h⟩=>by
  rcases r.fr i _ e rfl a h with z|⟨_,z⟩
  ·exact z
  ·exact absurd rfl (z t)
 have io:∀ a,a∈ioF δ fps->B.H0 a=none \/ a∈B.G:=λ a h=>by
  obtain ⟨i,b,t,e,h⟩:=mem_ioF.mp h
  rcases r.fr i _ e rfl a h with z|⟨z,_⟩
  ·exact .inl z
  ·exact .inr z
 let B':Bs:=⟨F,λ a=>if ∃ (i:Nat) (t:T),δ[i]?=some (.ow t)/\a∈fps i then none else H a,ioF δ fps⟩
 have hn:∀ a,B'.H0 a=none->B.H0 a=none:=λ a h=>by
  by_cases z:∃ (i:Nat) (t:T),δ[i]?=some (.ow t)/\a∈fps i
  ·exact ow a z
  ·have h:(if ∃ (i:Nat) (t:T),δ[i]?=some (.ow t)/\a∈fps i then none else H a)=none:=h
   rw [if_neg z] at h
   cases q:B.H0 a with
  |none=>rfl
  |some o=>exact absurd h ((r.al a).1 (by rw [q];simp))
 have hs:∀ a o,B'.H0 a=some o->H a=some o:=λ a o h=>by
  have h:(if ∃ (i:Nat) (t:T),δ[i]?=some (.ow t)/\a∈fps i then none else H a)=some o:=h
  split at h
  ·cases h
  ·exact h
 have hp:∀ a o,H a=some o->B.H0 a≠none->B'.H0 a=some o:=λ a o h q=>by
  show (if ∃ (i:Nat) (t:T),δ[i]?=some (.ow t)/\a∈fps i then none else H a)=some o
  rw [if_neg (λ z=>q (ow a z))];exact h
 refine ⟨B',⟨λ b o _ e=>hs b o e,λ _ _ e=>e,r.fh,λ b _ e=>e,λ b=>⟨λ e q=>?_,λ e=>HD.mono (H:=B'.H0) e λ b' o z=>hs b' o z⟩,r.len,r.sh,r.rt,λ i s e o a ha=>?_,r.dj⟩,rfl,λ a o h q=>⟨?_,λ z=>?_⟩,λ {F2 H2 σ2 δ2 fps2} r2=>⟨λ b o hb e=>?_,r.ff.trans r2.ff,r2.fh,λ b h1 h2=>?_,λ b=>?_,r2.len,r2.sh,r2.rt,λ i s e o a ha=>?_,r2.dj⟩,hn⟩
 ·cases z:B'.H0 b with
 |none=>exact e z
 |some o=>rw [hs b o z] at q;cases q
 ·cases s with
 |ow t =>
   refine .inl ?_
   show (if ∃ (i:Nat) (t:T),δ[i]?=some (.ow t)/\a∈fps i then none else H a)=none
   rw [if_pos ⟨i,t,e,ha⟩]
 |io b t=>exact .inr ⟨mem_ioF.mpr ⟨i,b,t,e,ha⟩,λ t z=>by cases z⟩
 |un=>cases o
 |sh d=>cases o
 |bo t=>cases o
 ·show (if ∃ (i:Nat) (t:T),δ[i]?=some (.ow t)/\a∈fps i then none else H a)=some o
  rw [if_neg (λ ⟨i,t,e,ha⟩=>q i _ e rfl ha)];exact h
 ·obtain ⟨i,b,t,e,ha⟩:=mem_ioF.mp z
  exact q i _ e rfl ha
 ·have h1:=r.hh b o hb e
  refine r2.hh b o (λ z=>?_) (hp b o h1 (by rw [e];simp))
  rcases io b z with y|y
  ·rw [e] at y;cases y
  ·exact hb y
 ·have h3:=r.nw b h1 h2
  refine r2.nw b ?_ h3
  have h4:=(r.al b).2 h1
  cases z:H b with
 |none=>exact absurd z h4.1
 |some o=>rw [hp b o z h1.1,<- z];exact h4
 ·refine ⟨λ h1=>(r2.al b).1 ?_,λ h1=>(r2.al b).2 ?_⟩
  ·cases z:H b with
  |none=>exact absurd z ((r.al b).1 h1)
  |some o=>rw [hp b o z h1];simp
  ·have h4:=(r.al b).2 h1
   cases z:H b with
  |none=>exact absurd z h4.1
  |some o=>rw [hp b o z h1.1,<- z];exact h4
 ·rcases r2.fr i s e o a ha with z|⟨z,y⟩
  ·exact .inl (hn a z)
  ·rcases io a z with q|q
   ·exact .inl q
   ·exact .inr ⟨q,y⟩
end
section
variable {K:Fg} {te:TE} {tA:TA} {dA:DF} {dc:DC} {tt tu:TT} {dt:DT} {t u:TS} {d e:DS}
variable {du:DU}
end
abbrev DX:=Addr->DSt->Prop
abbrev DSpX:=List Arg->(T->T->Prop)->(Addr->T->Prop)->Prop
section
variable {K:Fg} {Eσ:L2.St->XK} {ex:DX} {te ta:TE} {tA:TA} {dA:DF} {dc:DCX} {tt:TT} {dt:DT} {t u tb:TS} {d e db:DS} {g:TG} {dg:DG} {n:Nat} {dp:DP} {dA':DAT}
def cCoreX (p:DSpX) (δ:DSt) (as:List ArgP) (Q:T->DSt->Prop) (X:DX):Prop:=match oSlot as with
|some (i,q,t)=>isOwn δ i/\oneO i as/\notFz t/\p (as.map ArgP.arg) (λ r t2=>mutS δ i q t2 λ δ'=>Q r δ') λ C t2=>mutS δ i q t2 λ δ'=>X C δ'
|none=>noO as/\p (as.map ArgP.arg) (λ r _=>Q r δ) λ C _=>X C δ
def dHand (K:Fg):List (Value×DS)->Addr->DEnds->DSt->Prop
|[],_,_,_=>False
|(c,d) :: r,C,E,δ=>∃ b,PySem.W.exmOne K (.ref C) c=some b/\if b=true then d E δ else dHand K r C E δ
inductive RfHs (K:Fg):List (Value×TS)->List (Value×DS)->Prop
|nil:RfHs K [] []
|cons {c:Value} {t:TS} {d:DS} {l:List (Value×TS)} {hs:List (Value×DS)}:RfS K t d->RfHs K l hs->RfHs K ((c,t) :: l) ((c,d) :: hs)
end
section
variable {P:Program} {w:World} {K:Fg} {mg:Str->Option Value} {base:Heap}
end
end L4
namespace L3
open PySem PySem.Spec PyProof.Rows L2
section
variable {X:Cx}
variable {k:Nat} {m:Str} {pos apos:Pos} {o:Expr} {ta:TE} {Eσ:St->XK}
end
end L3
namespace L4
open PySem PySem.Spec PyProof.Rows L2 L3
section
variable {K:Fg} {te:TE} {de:DE} {tj:TJ}
variable {dj:DJ}
end
theorem e_dHand0 (K:Fg) (C:Addr) (E:DEnds) (δ:DSt):dHand K [] C E δ=False:=rfl
theorem e_dHandS (K:Fg) (c:Value) (d:DS) (r:List (Value×DS)) (C:Addr) (E:DEnds) (δ:DSt):dHand K ((c,d) :: r) C E δ=∃ b,PySem.W.exmOne K (.ref C) c=some b/\if b=true then d E δ else dHand K r C E δ:=rfl
theorem e_cCoreX0 (p:DSpX) (δ:DSt) (as:List ArgP) (Q:T->DSt->Prop) (X:DX):cCoreX p δ as Q X=match oSlot as with
|some (i,q,t)=>isOwn δ i/\oneO i as/\notFz t/\p (as.map ArgP.arg) (λ r t2=>mutS δ i q t2 λ δ'=>Q r δ') λ C t2=>mutS δ i q t2 λ δ'=>X C δ'
|none=>noO as/\p (as.map ArgP.arg) (λ r _=>Q r δ) λ C _=>X C δ:=rfl
section
variable {K:Fg} {te ta:TE} {tA:TA} {da de:DE} {dA:DF} {dp:DP} {dn:DN}
end
end L4
namespace L4
open PySem PySem.W PySem.Spec PySem.Calls PyProof.Rows PySem.Builtin PySem.Builtin.ObjectAttr PySem.Builtin.Getset_descriptor
section
variable {prog:Program} {w:World} {A:Around} {E:Value->Shared->Prop} {s:Shared} {K:Fg} {x D:Addr} {ox:Obj}
structure XAt (h:Heap) (x:Addr) (ox:Obj) (C:Addr):Prop where
 at_:h.get? x=some ox
 cls:ox.cls=.ref C
structure ExK (K:Fg) (D:Addr):Prop where
 hc:(clsIn K D).isSome=true
 hga:findIn K (.ref D) "__getattribute__"=some (some (.builtin "BaseException.__getattribute__"))
 hgn:findIn K (.ref D) "__getattr__"=some none
 ha:findIn K (.ref D) "__class__"=some (some (.builtin "object.__class__"))
 hn:specialIn K (.builtin "object.__class__") "__get__"=some (some (.builtin "getset_descriptor.__get__"))
 htk:takesIn K (.builtin "object.__class__")=some true
 hm:mroIn K D (.type "object")=some true
 hmB:mroIn K D (.type "BaseException")=some true
end
end L4
namespace L3
open PySem PySem.Spec PyProof.Rows L2
section
variable {X:Cx} {pins:List (Addr×Obj)} {σ:St} {H:Hp} {s:Shared}
end
def asX (X:Cx) (ea:Addr) (oe:Obj):Cx:={ markX X ea with pn:=X.pn++[(ea,oe)] }
section
variable {X:Cx} {pins:List (Addr×Obj)} {σ:St} {H H':Hp} {s s':Shared} {ea C:Addr} {oe:Obj} {B:Heap} {a0:Value}
def unD (i:Nat) (D:Ends):Ends:={ nx:=λ σ H=>D.nx (σ.set i none) H,rt:=D.rt,bk:=λ σ H=>D.bk (σ.set i none) H,ct:=λ σ H=>D.ct (σ.set i none) H }
def tAs (i:Nat) (t:Addr->TS):TS:=λ D σ H=>∀ ea,H ea=none->t ea (unD i D) (σ.set i (some (.ref ea))) H
inductive HandsN (X:Cx):List ExceptHandler->List (Value×(Addr->TS))->Prop
|nil:HandsN X [] []
|cons {x n:Str} {np pos:Pos} {i:Nat} {b₀:Stmt} {suite:List Stmt} {c:Value} {t:Addr->Addr->TS} {hs:List ExceptHandler} {l:List (Value×(Addr->TS))}:Gl X x->(X.mg x=some c \/ (X.mg x=none/\bootBuiltins x=some c/\x ≠ "__name__"))->(x == ("__debug__":Str))=false ->
   X.N.Nodup->X.N[i]?=some n->X.env.kindOf n=some .local->(∀ ea oe C,oe.cls=.ref C->PSs (asX X ea oe) (b₀ :: suite) (t C ea))->HandsN X hs l ->
   HandsN X (.ExceptHandler (some (.Name x np)) (some n) (b₀ :: suite) pos :: hs) ((c,λ C=>tAs i (t C)) :: l)
end
end L3
namespace L4
open PySem PySem.Spec PyProof.Rows L2 L3
section
variable {i j:Nat} {ea:Addr}
structure ImpS (i:Nat) (ea:Addr) (ts ts':TS):Prop where
 of:∀ {D:Ends} {σ:L2.St} {H:Hp},σ[i]?=some (some (.ref ea))->ts' D σ H->ts D σ H
variable {te te':TE} {ta ta':TA} {u u':TS}
end
section
variable {K:Fg} {B:Bs} {F H:Hp} {σ:L2.St} {δ:DSt} {fps:Nat->List Addr} {i:Nat}
def dHandN (K:Fg):List (Value×(Addr->DS))->Addr->DEnds->DSt->Prop
|[],_,_,_=>False
|(c,d) :: r,C,E,δ=>∃ b,PySem.W.exmOne K (.ref C) c=some b/\if b=true then d C E δ else dHandN K r C E δ
def dAs (i:Nat) (d:DS):DS:=λ E δ=>δ[i]?=some .un/\d { nx:=λ δ'=>δ'[i]?=some .un/\E.nx δ',bk:=λ δ'=>δ'[i]?=some .un/\E.bk δ',ct:=λ δ'=>δ'[i]?=some .un/\E.ct δ',rt:=E.rt } δ
def dG (Cs:List Addr) (C:Addr) (d:DS):DS:=λ E δ=>C∈Cs/\d E δ
inductive RfHsN (K:Fg):List (Value×(Addr->TS))->List (Value×(Addr->DS))->Prop
|nil:RfHsN K [] []
|cons {Cs:List Addr} {c:Value} {i:Nat} {t:Addr->Addr->TS} {t':Addr->TS} {d:Addr->DS} {l:List (Value×(Addr->TS))} {hs:List (Value×(Addr->DS))}:(∀ C,C∈Cs->∀ ea,ImpS i ea (t C ea) (t' C))->(∀ C,C∈Cs->RfS K (t' C) (d C))->RfHsN K l hs->RfHsN K ((c,λ C=>tAs i (t C)) :: l) ((c,λ C=>dAs i (dG Cs C (d C))) :: hs)
end
structure KxT (K:Fg) (Cs Ds:List Addr):Prop where
 ex:∀ C∈Cs,ExK K C
 one:∀ C∈Cs,∀ D∈Ds,PySem.W.kitOne K (.ref C) (.ref D)=some (C == D)
 ve:∀ C∈Cs,PySem.W.kitOne K (.ref C) (.type "ValueError")=some true
 nd:Ds.Nodup
theorem e_dHandN0 (K:Fg) (C:Addr) (E:DEnds) (δ:DSt):dHandN K [] C E δ=False:=rfl
theorem e_dHandNS (K:Fg) (c:Value) (d:Addr->DS) (r:List (Value×(Addr->DS))) (C:Addr) (E:DEnds) (δ:DSt):dHandN K ((c,d) :: r) C E δ=∃ b,PySem.W.exmOne K (.ref C) c=some b/\if b=true then d C E δ else dHandN K r C E δ:=rfl
theorem e_dAs (i:Nat) (d:DS) (E:DEnds) (δ:DSt):dAs i d E δ=(δ[i]?=some .un/\d { nx:=λ δ'=>δ'[i]?=some .un/\E.nx δ',bk:=λ δ'=>δ'[i]?=some .un/\E.bk δ',ct:=λ δ'=>δ'[i]?=some .un/\E.ct δ',rt:=E.rt } δ):=rfl
theorem e_dG (Cs:List Addr) (C:Addr) (d:DS) (E:DEnds) (δ:DSt):dG Cs C d E δ=(C∈Cs/\d E δ):=rfl
end L4
namespace L3
open PySem PySem.Spec PyProof.Rows L2
section
variable {X:Cx} {tg:Expr}
end
end L3
namespace L4
open PySem PySem.Spec PyProof.Rows L2 L3
section
variable {K:Fg} {w:World}
end
section
variable {K:Fg} {te:TE} {de:DE} {tj:TJ} {dj:DJ}
end
section
variable {K:Fg} {te te1 te2:TE} {df:DF} {de:DE} {dc:DC}
end
section
variable {X:Cx} {x:Str} {pos pos':Pos} {e a b:Expr} {te ta tb:TE} {k j:Nat} {K:Fg}
theorem pset (i:Nat) (hN:X.N.Nodup) (he:PE X e te) (hi:X.N[i]?=some x:=by rfl) (hx:Loc X.env.scope x:=by first|exact Or.inl rfl|exact Or.inr rfl) (hs:swapsWith e (some (.Name x pos')) pos.line X.env=pure false:=by rfl) (hf:X.fn x=true \/ X.env.scope.names.lookup x=some .local:=by first|exact .inl rfl|exact .inr rfl|assumption):PS X (.Assign [.Name x pos'] e pos) (tAsg te (gName i)):=ps_set hN hi hx he hs hf
theorem pgn (i:Nat) (hN:X.N.Nodup) (hi:X.N[i]?=some x:=by rfl) (hx:Loc X.env.scope x:=by first|exact Or.inl rfl|exact Or.inr rfl) (hf:X.fn x=true \/ X.env.scope.names.lookup x=some .local:=by first|exact .inl rfl|exact .inr rfl|assumption):PG X (.Name x pos) (gName i):=pg_name hN hi hx hf
theorem pix (w:World) (K:Fg) (hr:Room k X.A) (ha:PE X a ta) (hb:PE X b tb) (hw:X.w=w:=by rfl) (hK:X.K=K:=by rfl) (hs:PlainIx b:=by exact λ _ _=>rfl):PE X (.Subscript a b pos) (tOp (rIxV w K) ta tb):=pe_ix (ix_V (Room.units hr) hw hK) ha hb hs
theorem nds (l:List Str) (h:l.Nodup:=by decide +kernel):l.Nodup:=h
theorem rvi {i:Int}:RfV K (tC (.int i)) (dC (.int i)):=RfE.v rf_int
theorem rgn (i:Nat) (hi:i < 100:=by decide):RfG K 100 (gName i) (gN i):=rg_name hi
theorem rmn {A:Around} (hr:Room k A) (h:j<=k:=by decide):Room j A:=Room.mono hr h
end
section
variable {K:Fg} {te ta te1 te2:TE} {dn1 dn2:DN} {dp:DP}
variable {tA:TA} {dA:DAT}
end
section
variable {K:Fg} {B:Bs} {F H F' H':Hp} {σ:L2.St} {δ:DSt} {fps:Nat->List Addr}
end
section
structure PreM (K:Fg) (F H:Hp) (vs:List V) (as:List Arg) (fl:Nat->List Addr):Prop where
 len:vs.length=as.length
 d:∀ (k:Nat) x,as[k]?=some (.d x)->∃ v,vs[k]?=some v/\Is K F v x
 b:∀ (k:Nat) x,as[k]?=some (.b x)->∃ v,vs[k]?=some v/\Rt K F H v x (fl k)/\(fl k).Nodup
 o:∀ (k:Nat) x,as[k]?=some (.o x)->∃ a,vs[k]?=some (.ref a)/\Rt K F H (.ref a) x (fl k)/\(fl k).Nodup
 dj:∀ (j k:Nat) x y,j≠k->as[j]?=some (.o x)->(as[k]?=some (.b y) \/ as[k]?=some (.o y))->∀ b∈fl j,b ∉ fl k
structure PostM (K:Fg) (F H:Hp) (vs:List V) (as:List Arg) (fl:Nat->List Addr) (F' H':Hp) (v:V) (r:T) (fpr:List Addr) (ts:List T) (fq:Nat->List Addr):Prop where
 hh:∀ b o,(∀ (k:Nat) x,as[k]?=some (.o x)->b ∉ fl k)->H b=some o->H' b=some o
 ff:Same F F'
 fh:Same F' H'
 nw:∀ b,HD (H b)->F b=none->F' b=none
 al:∀ b,(H b≠none->H' b≠none)/\(HD (H b)->HD (H' b))
 rt:Rt K F' H' v r fpr
 nd:fpr.Nodup
 fr:∀ a∈fpr,H a=none
 io:∀ (k:Nat) x a,as[k]?=some (.o x)->vs[k]?=some (.ref a)->∃ t',ts[k]?=some t'/\Rt K F' H' (.ref a) t' (fq k)/\(fq k).Nodup/\(∀ b∈fq k,(∃ (j:Nat) (y:T),as[j]?=some (.o y)/\b∈fl j) \/ H b=none)/\∀ b∈fq k,b ∉ fpr
 dj:∀ (j k:Nat) x y,j≠k->as[j]?=some (.o x)->as[k]?=some (.o y)->∀ b∈fq j,b ∉ fq k
variable {P:Program} {w:World} {K:Fg} {mg:Str->Option Value} {base:Heap}
end
section
variable {K:Fg} {B:Bs} {F H:Hp} {σ:L2.St} {δ:DSt} {fps:Nat->List Addr}
end
section
variable {K:Fg} {B:Bs} {F H:Hp} {σ:L2.St} {δ:DSt} {fps:Nat->List Addr}
structure FoO (K:Fg) (F H:Hp) (σ:L2.St) (δ:DSt) (fps:Nat->List Addr) (v:Option V) (i:Nat) (q:Pth) (t:T) (fn:List Addr) (a:Addr) (s:Sl) (t0:T) (x:V):Prop where
 ev:v=some (.ref a)
 es:δ[i]?=some s
 os:s.own=true
 et:s.tree=some t0
 ex:σ.getD i none=some x
 rt0:Rt K F H x t0 (fps i)
 rta:Rt K F H (.ref a) t fn
 nd:fn.Nodup
 sub:∀ b∈fn,b∈fps i
 back:∀ (F2 H2:Hp) (u2:T) (fq:List Addr),Same F F2->(∀ b∈fps i,b ∉ fn->H2 b=H b/\F2 b=none)->Rt K F2 H2 (.ref a) u2 fq->fq.Nodup->(∀ b∈fq,b∈fn \/ b ∉ fps i)->∃ fp2,Rt K F2 H2 x (setP t0 q u2) fp2/\fp2.Nodup/\∀ b∈fp2,(b∈fps i/\b ∉ fn) \/ b∈fq
structure FoP (K:Fg) (F H:Hp) (σ:L2.St) (δ:DSt) (j:Nat) (q:Pth) (fp2 fn fm fq:List Addr) (fpr:List Addr) (old:Addr->Prop) (t1:Option T) (s:Sl) (t0:T) (x:V) (tk:T):Prop where
 es:δ[j]?=some s
 et:s.tree=some t0
 ex:σ.getD j none=some x
 ek:t1=some tk
 rt:Rt K F H x (setP t0 q tk) fp2
 nd:fp2.Nodup
 m2:∀ b∈fp2,(b∈fn/\b ∉ fm) \/ b∈fq
 mo:∀ b∈fq,old b
 fk:∀ b∈fq,b ∉ fpr
variable {tA:TA} {dA:DAT}
end
end L4
namespace L5
open PySem PySem.Spec PyProof.Rows L2 L3 L4
section
variable {K:Fg} {te ta:TE} {df:DF} {da:DE} {tt tu:TT} {dt:DT} {du dv:DU}
end
theorem bt_dict:bootBuiltins "dict"=some (.type "dict"):=by decide +kernel
theorem list_no_keys:typeLookup (.type "list") "keys"=pure none:=by rw [typeLookup_type,builtinLookup_eq_fast];kernel_rfl
theorem entry_uloop:entryFor table "dict.update.loop"=some Builtin.«dict.update.loop»:=entryFor_of_fast (by kernel_rfl)
theorem plain_uloop:plainId "dict.update.loop"=true:=by decide +kernel
section
variable {prog:Program} {w:World} {A:Around} {E:Value->Shared->Prop}
theorem noAttrQ {s:Shared} {l:Addr} {ob:Obj} {ys:Array Value} {n:Nat} {Q:Option Value->Shared->Prop} (h1:s.heap.get? l=some ob) (h2:ob.cls=.type "list") (h3:ob.data=.seq ys n) (h4:ob.dict=none) (hA:A.handled=none)
  (k:∀ g tk e,Heap.NewExcOf s.heap g e "AttributeError"->Q none { s with heap:=g,toks:=tk }):wpAny (model prog w) A (getAttr? (.ref l) "keys") Q E s:=by
 obtain ⟨c,dct,dat,sl⟩:=ob
 simp only at h2 h3 h4
 subst h2;subst h3;subst h4
 obtain ⟨hp,g,d,tk,os⟩:=s
 have tyL:∀ t',(⟨hp,g,d,t',os⟩:Shared).TypeIs (.ref l) "list":=λ _=>⟨_,h1,rfl⟩
 have g1:=sub_AttributeError
 have g3:=F.slot_list_getattribute.lookup
 have g4:=F.slot_list_getattribute.bind (.ref l)
 have g5:=am_list_getattr_none
 unfold getAttr? getAttrBy? getAttrBy
 repeat (any_goals (first|assumption|exact tyL _|((with_reducible show wpAny _ _ (call (Value.builtin "list.__getattribute__") _ _) _ _ _);refine call_meets F.slot_list_getattribute (tyL _) am_entry_list_getattribute (F.args_list_getattribute_2 _ _) (meets_getattribute_miss_list l ys n sl "keys" _ list_no_keys (by decide +kernel)) ⟨h1,hA,λ g' tk' e ne=>?_⟩)|wp_step))
 obtain ⟨t',u',he⟩:=ne.there
 show wpAny _ _ (getattributeRaised _ _ _ _ _ _ _) _ _ _
 unfold getattributeRaised
 repeat (any_goals (first|assumption|wp_step))
 exact k _ _ _ ne.of
end
section
variable {X:Cx} {pins:List (Addr×Obj)} {σ:L2.St} {A:Around} {E:Value->Shared->Prop}
theorem d_dictSet {H H':Hp} {s:Shared} {a:Addr} {y v:V} {u r:Value} {Q:Unit->Shared->Prop} (hu:A.units+1 < cLine) (I:L2.Inv X pins σ H s) (g:DPut H a y v H') (ry:RelV y u) (rv:RelV v r)
  (k:∀ g t,Heap.SameBut a s.heap g->L2.Inv X pins σ H' { s with heap:=g,toks:=t }->Q () { s with heap:=g,toks:=t }):wpAny (model X.prog X.w) A.in1 (dictSet a u r) Q E s:=by
 rcases g with ⟨kvs,c,e,ey,l,eH⟩|⟨kvs,c,b,e,ey,eb,l,eH⟩
 ·subst ey;subst eH
  obtain ⟨z,hd,vs,rel,dd⟩:=dk_of I.hok e
  refine wpAny_dictSet_pairs (hsz:=by rw [<- rel.length];exact z) (kV_is ry) dd λ g dd' hs=>k g _ hs ?_
  refine d_write I (by rw [e];exact True.intro) hs ?_ (dk_new (by have:=length_putK kvs c v;lia) hd (rel.put c rv) dd')
  obtain ⟨q,_,_,hq,_⟩:=dd'
  exact ⟨q,hq⟩
 ·subst ey;subst eH
  cases (show u=Value.ref b from ry)
  obtain ⟨z,hd,xs,rel,dd⟩:=dt_of I.hok e
  refine wpAny_dictSet_heap (hsz:=by rw [<- Paired.length rel];exact z) (tupleKind_room_in1 hu) (key_of I.hok eb) dd λ g dd' hs=>k g _ hs ?_
  obtain ⟨q,es,ep,hq,p2,p3,p4,_,p5⟩:=dd'
  refine d_write I (by rw [e];exact True.intro) hs ⟨q,hq⟩ ⟨by have:=length_putK kvs c v;lia,hd,_,(rel.put c eb rv).keeps λ f ys ec=>?_,q,es,ep,hq,p2,p3,p4,p5⟩
  rw [upd_ne (ne_of ec e (λ z=>nomatch z))];exact ec
theorem pair_loop (hA:A.handled=none) (hu:A.units+1 < cLine) {R:Result->Shared->Prop} {p l it:Addr} {ys:List V} {H:Hp} {G:Nat->HO} (hq:SqL X.K H p ys) (hl:H l=none) (nl:it≠l) (fo:FpOk X pins H it)
  (hG:∀ (i:Nat) y,ys[i]?=some y->∃ q k v,y=.ref q/\SqT X.K H q [k,v]/\DPut (upd H l (G i)) l k v (upd H l (G (i+1)))) (hR:∀ s',L2.Inv X pins σ (upd H l (G ys.length)) s'->R (.ok (.ret .none)) s') :
  ∀ (n i:Nat) (s:Shared) (z:Int) (t:Tok),ys.length - i=n->i<=ys.length->L2.Inv X pins σ (upd H l (G i)) s->s.heap.IsListIter it p i->codeAny (model X.prog X.w) A (.builtin "dict.update.loop" ⟨[.ref l,.ref it,.int z t,.none],[]⟩) R s:=by
 have hit:∀ o,upd H l o it=none:=λ o=>by rw [upd_ne nl];exact fo.1
 have turn:∀ {i:Nat} {s:Shared} {g:Heap},L2.Inv X pins σ (upd H l (G i)) s->(∀ b o,b≠it->s.heap.get? b=some o->g.get? b=some o)->L2.Inv X pins σ (upd H l (G i)) { s with heap:=g }:=λ I kp=>I.turned (t':=_) kp (hit _) fo.2.1 fo.2.2.2.1 fo.2.2.2.2.1 fo.2.2.2.2.2
 intro n
 induction n with
|zero =>
  intro i s z t hn hi I hI
  have ei:i=ys.length:=by lia
  subst ei
  obtain ⟨its,rv,pl,_⟩:=I.list ((same_new hl (G ys.length)).seq hq)
  have hlen:=rv.length
  refine codeAny_builtin entry_uloop ?_
  rw [Around.under_plainId plain_uloop _]
  show wpAny _ A.in1 (pyNext (.ref it) >>= _) _ _ s
  refine wpAny_bind (wpAny_pyNext_list_end hA hI pl.isList (by simp [hlen]) λ g hx=>?_)
  show wpAny _ _ (Builtin.Dict.addKeywords l [] >>= _) _ _ _
  exact wpAny_bind (wpAny_pure (wpAny_pure (hR _ (turn I λ b o hb e=>hx b o hb e))))
|succ n ih =>
  intro i s z t hn hi I hI
  have hlt:i < ys.length:=by lia
  obtain ⟨q,kk,v,ey,sq,dp⟩:=hG i ys[i] (List.getElem?_eq_getElem hlt)
  obtain ⟨its,rv,pl,_⟩:=I.list ((same_new hl (G i)).seq hq)
  have hlen:=rv.length
  have hlt2:i < its.length:=by lia
  obtain ⟨uq,gq,rq⟩:=rv.get (List.getElem?_eq_getElem hlt)
  rw [ey] at rq
  cases (show uq=Value.ref q from rq)
  refine codeAny_builtin entry_uloop ?_
  rw [Around.under_plainId plain_uloop _]
  show wpAny _ A.in1 (pyNext (.ref it) >>= _) _ _ s
  refine wpAny_bind (wpAny_pyNext_list_item hI pl.isList (x:=.ref q) (by simpa using gq) λ g hI2 hs=>?_)
  have I2:=turn I λ b o hb e=>(hs.2 b hb).trans e
  obtain ⟨tis,rt,tp,tz⟩:=I2.tuple (sseqT (same_new hl (G i)) sq)
  obtain ⟨u1,u2,rfl,r1,r2⟩:=vals2 rt
  obtain ⟨ob,o1,o2,o3,o4⟩:=tp
  refine wpAny_bind (wpAny_holding ?_)
  refine wpAny_bind (wpAny_tryCatch ?_)
  unfold Builtin.Dict.pairItems
  refine wpAny_bind (wpAny_typeOf (T := "tuple") ⟨ob,o1,o2⟩ ?_)
  rw [if_pos (by decide)]
  refine wpAny_bind (wpAny_seqItems o1 o4 (wpAny_pure ?_))
  refine wpAny_holding (d_dictSet hu I2 dp r1 r2 λ g2 t2 hs2 I3=>?_)
  refine wpAny_pure ⟨plainId_quiet plain_uloop _,ih (i+1) _ _ _ (by lia) hlt I3 ?_⟩
  obtain ⟨oi,j1,j2⟩:=hI2
  exact ⟨oi,(hs2.2 it nl).trans j1,j2⟩
end
def rDict (K:Fg):List V->Hp->VK->Prop:=λ xs H Q=>∃ p ys,∃ G:Nat->HO,xs=[.ref p]/\SqL K H p ys/\(G 0=.dK [] \/ G 0=.dT []) /\
 (∀ l,H l=none->∀ (i:Nat) y,ys[i]?=some y->∃ q k v,y=.ref q/\SqT K H q [k,v]/\DPut (upd H l (G i)) l k v (upd H l (G (i+1))))/\∀ l,H l=none->Q (.ref l) (upd H l (G ys.length))
theorem call_dictU {X:Cx} {K:Fg} (hK:X.K=K) (hc:X.calm=true) (hu:X.A.units+64 < cLine):CallR X (.type "dict") (rDict K):=by
 subst hK
 intro pins s σ H xs us Q I r hw
 obtain ⟨p,ys,G,rfl,hq,h0,hG,q⟩:=hw
 obtain ⟨u,rfl,rx⟩:=vals1 r
 cases rx
 have hl:H s.heap.objs.size=none:=I.hok.fresh (Nat.le_refl _)
 have hA:=I.ok.hd hc
 refine callType_codes (Q₁:=λ ob s'=>ob=.ref s.heap.objs.size/\s'={ s with heap:=s.heap.push { cls:=.type "dict",data:=.dict #[] } }) F.kt_called_dict (F.kt_typeCall_dict_1 _) F.entry_dict_init (kt_code_dict_new _ ⟨rfl,rfl⟩) ?_
 rintro ob s' ⟨rfl,rfl⟩
 have I1:L2.Inv X pins σ (upd H s.heap.objs.size (G 0)) { s with heap:=s.heap.push { cls:=.type "dict",data:=.dict #[] } }:=by
  rcases h0 with e|e
  ·rw [e];exact I.laid (t':=s.toks) (λ _ _ z=>Heap.get?_push_of_some _ z) (Nat.le_refl _) (dk_empty s.heap I.big)
  ·rw [e];exact I.laid (t':=s.toks) (λ _ _ z=>Heap.get?_push_of_some _ z) (Nat.le_refl _) (dt_empty s.heap I.big)
 have tyD:Shared.TypeIs { s with heap:=s.heap.push { cls:=.type "dict",data:=.dict #[] } } (.ref s.heap.objs.size) "dict":=⟨_,Heap.get?_push_size _ rfl,rfl⟩
 refine ⟨tyD,F.args_dict_init_2 _ _,?_⟩
 unfold Builtin.«dict.__init__»
 refine wpAny_bind ?_
 unfold Builtin.Dict.selfAndRest
 refine wpAny_bind (wpAny_notOrdered_dict tyD ?_)
 show wpAny _ _ (pure (s.heap.objs.size,[Value.ref p])) _ _ _
 refine wpAny_pure ?_
 show wpAny _ _ (Builtin.Dict.updateFrom "dict.__init__" s.heap.objs.size (.ref p) [] .none) _ _ _
 obtain ⟨its,rv,pl,_⟩:=I1.list ((same_new hl (G 0)).seq hq)
 obtain ⟨o,n,o1,o2,o3,o4⟩:=pl
 unfold Builtin.Dict.updateFrom
 refine wpAny_bind (wpAny_typeOf (T := "list") ⟨o,o1,o2⟩ ?_)
 rw [if_pos (by decide)]
 refine wpAny_bind (noAttrQ o1 o2 o4 o3 hA λ g tk e ne=>?_)
 rw [if_pos (show (none:Option Value).isNone=true from rfl)]
 refine wpAny_bind (wpAny_rule ?_)
 have I2:L2.Inv X pins σ (upd H s.heap.objs.size (G 0)) { s with heap:=g,toks:=tk }:=I1.kept ne.keeps
 refine wpAny_bind (wpAny_pyIter_list ⟨o,ne.keeps _ _ o1,o2,n,o4⟩ ?_)
 have lt:s.heap.objs.size < g.objs.size:=Heap.lt_size (ne.keeps _ _ (Heap.get?_push_size _ rfl))
 have fo:FpOk X pins H g.objs.size:=I2.fpOk (Nat.le_refl _) (by have:=I2.hok.fresh (a:=g.objs.size) (Nat.le_refl _);rw [upd_ne (Nat.ne_of_gt lt)] at this;exact this)
 exact wpAny_pure ⟨plainId_quiet plain_uloop _,pair_loop (A:=X.A.in1) (R:=wants (λ r s₂=>r=Value.none/\EP X pins σ Q (Value.ref s.heap.objs.size) s₂) X.xe) (X:=X) (l:=s.heap.objs.size) (it:=g.objs.size) hA (by show X.A.units+1+1 < cLine;lia) hq hl (Nat.ne_of_gt lt) fo (hG _ hl) (λ s' I'=>⟨rfl,.ref _,_,I',rfl,q _ hl⟩) ys.length 0 _ _ _ (by lia) (Nat.zero_le _)
  (I2.kept (t':=tk) λ b u z=>Heap.get?_push_of_some _ z) ⟨_,Heap.get?_push_size _ rfl,rfl,rfl⟩⟩
theorem upd_upd {H:Hp} {l:Addr} {a b:HO}:upd (upd H l a) l b=upd H l b:=by funext x;unfold upd;split <;> rfl
section
variable {K:Fg} {te:TE} {de:DE}
theorem keyD_kD (k:Key):keyD (kD k)=some k:=by cases k <;> rfl
theorem keysOf_kD:∀ ks:List Key,keysOf (ks.map kD)=some ks
|[]=>rfl
|k :: r=>by rw [List.map_cons,keysOf,keyD_kD,keysOf_kD r]
def mG {κ:Type} [DecidableEq κ] (l:List (κ×V)):List (κ×V):=l.foldl (λ a x=>putK a x.1 x.2) []
def mD {κ:Type} [DecidableEq κ] (l:List (κ×D)):List (κ×D):=l.foldl (λ a x=>putD a x.1 x.2) []
theorem mG_snoc {κ:Type} [DecidableEq κ] {l:List (κ×V)} {i:Nat} {k:κ} {v:V} (h:l[i]?=some (k,v)):mG (l.take (i+1))=putK (mG (l.take i)) k v:=by
 unfold mG
 rw [List.take_succ,h,List.foldl_append];rfl
theorem mG_len {κ:Type} [DecidableEq κ] (l:List (κ×V)):(mG l).length<=l.length:=by
 have:∀ (l:List (κ×V)) (a:List (κ×V)),(l.foldl (λ a x=>putK a x.1 x.2) a).length<=a.length+l.length:=by
  intro l
  induction l with
 |nil=>intro a;simp
 |cons x r ih=>intro a;have:=ih (putK a x.1 x.2);have:=length_putK a x.1 x.2;simp only [List.foldl_cons,List.length_cons];lia
 simpa [mG] using this l []
theorem mG_is {κ:Type} [DecidableEq κ] {F:Hp} {r:List (κ×V)} {t:List (κ×D)} (h:KvIs K F r t):KvIs K F (mG r) (mD t):=by
 have:∀ {r:List (κ×V)} {t:List (κ×D)},KvIs K F r t->∀ {a:List (κ×V)} {b:List (κ×D)},KvIs K F a b->KvIs K F (r.foldl (λ a x=>putK a x.1 x.2) a) (t.foldl (λ a x=>putD a x.1 x.2) b):=by
  intro r t h
  induction h with
 |nil=>intro a b h;exact h
 |cons hv _ ih=>intro a b h;exact ih (h.put hv)
 exact this h .nil
theorem is_pair {F:Hp} {v:V} {d1 d2:D} (h:Is K F v (.tuple [d1,d2])):∃ q v1 v2,v=.ref q/\SqT K F q [v1,v2]/\Is K F v1 d1/\Is K F v2 d2:=by
 obtain ⟨a,xs,rfl,h1,h2⟩:=h.tuple_inv
 cases h2 with
|cons i1 r =>
  cases r with
 |cons i2 r=>cases r;exact ⟨a,_,_,rfl,h1,i1,i2⟩
theorem pairsT {F:Hp}:∀ {ys:List V} {ps:List (List Key×D)},IsAll K F ys (ps.map λ p=>.tuple [.tuple (p.1.map kD),p.2])->∃ vp:List (List Key×V),KvIs K F vp ps/\vp.length=ys.length/\∀ (i:Nat) y,ys[i]?=some y->∃ q b k v,y=.ref q/\SqT K F q [.ref b,v]/\F b=some (.tup (k.map kV))/\vp[i]?=some (k,v)
|_,[],.nil=>⟨[],.nil,rfl,λ i y h=>by simp at h⟩
|_,p :: ps,.cons h r=>by
  obtain ⟨vp,h1,h2,h3⟩:=pairsT r
  obtain ⟨q,v1,v2,rfl,s1,i1,i2⟩:=is_pair h
  obtain ⟨b,rfl,hb⟩:=keyT_is (k:=p.1) i1 (keysOf_kD p.1)
  refine ⟨(p.1,v2) :: vp,.cons i2 h1,by simp [h2],λ i y e=>?_⟩
  cases i with
 |zero=>simp at e;subst e;exact ⟨q,b,p.1,v2,rfl,s1,hb,rfl⟩
 |succ i=>exact h3 i y (by simpa using e)
def nDictT (de:DE):DN:=λ δ Q=>de δ λ d=>∃ ps:List (List Key×D),d=.list (ps.map λ p=>.tuple [.tuple (p.1.map kD),p.2])/\ps.length < sizeLine/\Q (.dt (mD ps))
theorem e_nDictT (de:DE) (δ:DSt) (Q:T->Prop):nDictT de δ Q=(de δ λ d=>∃ ps:List (List Key×D),d=.list (ps.map λ p=>.tuple [.tuple (p.1.map kD),p.2])/\ps.length < sizeLine/\Q (.dt (mD ps))):=rfl
theorem not_in {F H:Hp} {l:Addr} (s:Same F H) (h:H l=none):F l=none:=by
 cases e:F l with
|none=>rfl
|some o=>rw [s l o e] at h;cases h
theorem rn_dictT (h:RfE K te de):RfN K (tCB (rDict K) (tCons te tNil)) (nDictT de):=by
 intro F H σ δ Qd Q s rv hd k
 refine h s rv hd λ d q v F1 H1 e1 i1=>?_
 obtain ⟨ps,rfl,hz,q⟩:=q
 obtain ⟨p,ys,rfl,h1,h2⟩:=i1.list_inv
 obtain ⟨vp,k1,k2,k3⟩:=pairsT h2
 have hl:=k1.len
 refine ⟨p,ys,λ i=>.dT (mG (vp.take i)),rfl,e1.fh.seq h1,.inr rfl,λ l hn i y ey=>?_,λ l hn=>?_⟩
 ·obtain ⟨q,b,kk,vv,rfl,s1,hb,g1⟩:=k3 i y ey
  have hi:=(List.getElem?_eq_some_iff.mp g1).1
  have hb1:=e1.fh _ _ hb
  refine ⟨q,.ref b,vv,rfl,sseqT e1.fh s1,.inr ⟨mG (vp.take i),kk,b,upd_same,rfl,same_new hn _ _ _ hb1,?_,?_⟩⟩
  ·have:=mG_len (vp.take i);rw [List.length_take] at this;lia
  ·show upd H1 l (.dT (mG (vp.take (i+1))))=upd (upd H1 l (.dT (mG (vp.take i)))) l _
   rw [mG_snoc g1,upd_upd]
 ·have fl:=not_in e1.fh hn
  have e2:Ext F1 H1 F1 (upd H1 l (.dT (mG vp))):=new_any e1.fh hn
  show Q (.ref l) (upd H1 l (.dT (mG (vp.take ys.length))))
  rw [<- k2,List.take_length]
  refine k _ q (.ref l) F1 _ [l] (e1.trans e2) (.dt upd_same fl (mG_is k1)) (by simp) λ a ha=>?_
  simp at ha;subst ha
  cases z:H a with
 |none=>rfl
 |some o=>rw [e1.h a o z] at hn;cases hn
end
section
variable {K:Fg}
end
end L5
namespace L4
open PySem PySem.Spec PyProof.Rows L2 L3
section
variable {K:Fg} {te ta ti tj:TE} {de d1 d2:DE} {dp:DP} {w:World}
end
end L4
namespace L5
open PySem PySem.Spec PyProof.Rows L2 L3 L4
def su {α:Type} (l:List α) (f:α->Int):Int:=(l.map f).sum
section
variable {α β:Type}
theorem su_nil (f:α->Int):su [] f=0:=rfl
theorem su_cons (x:α) (l:List α) (f:α->Int):su (x :: l) f=f x+su l f:=by unfold su;simp
theorem su_app (l m:List α) (f:α->Int):su (l++m) f=su l f+su m f:=by unfold su;simp
theorem su_map (l:List β) (p:β->α) (f:α->Int):su (l.map p) f=su l λ x=>f (p x):=by unfold su;rw [List.map_map];rfl
theorem su_congr {l:List α} {f g:α->Int} (h:∀ x∈l,f x=g x):su l f=su l g:=by unfold su;rw [List.map_congr_left h]
theorem su_zero (l:List α):su l (λ _=>0)=0:=by
 induction l with
|nil=>rfl
|cons x r ih=>rw [su_cons,ih];rfl
theorem su_zero' {l:List α} {f:α->Int} (h:∀ x∈l,f x=0):su l f=0:=by rw [su_congr h,su_zero]
theorem su_add (l:List α) (f g:α->Int):su l (λ x=>f x+g x)=su l f+su l g:=by
 induction l with
|nil=>rfl
|cons x r ih=>rw [su_cons,su_cons,su_cons,ih];lia
theorem su_one {n k:Nat} (d:Nat->Int) (h:k < n):su (List.range n) (λ j=>if j=k then d j else 0)=d k:=by
 have:=sm_one (j:=k) (d k) h
 unfold sm at this
 refine Eq.trans (su_congr λ j _=>?_) this
 by_cases e:j=k
 ·subst e;simp
 ·simp [e]
end
structure Nt where
 N:Nat
 n:Nat
 fl:Nat->Int
 rm:Nat->Int
 P:Nat->List Nat
 U:Nat->Nat
 V:Nat->Nat
 Ln:Nat->Nat
 W:Nat->Nat->Int
structure Fm where
 a:Nat->Int
 r:Nat->Nat->Int
 g:Nat->Nat->Int
 t:List (Nat->Int)
def Nt.nd (T:Nt) (m k:Nat):Nat:=2+m * T.N+k
def Nt.arcs (T:Nt) (cs:List (Nat->Int)):List Ar :=
 (List.range T.N).map (λ k=>(0,T.nd 0 k,T.fl k))++((List.range T.n).flatMap λ m=>(List.range T.N).map (λ k=>(T.nd m k,T.nd (m+1) k,T.rm k))++(T.P m).map λ i=>(T.nd m (T.U i),T.nd (m+T.Ln i) (T.V i),T.W i m)) ++
  cs.flatMap λ c=>(List.range T.N).map λ k=>(T.nd T.n k,1,c k)
def Nt.flow (T:Nt) (f:Fm):List Int :=
 (List.range T.N).map f.a++((List.range T.n).flatMap λ m=>(List.range T.N).map (f.r m)++(T.P m).map (f.g m))++f.t.flatMap λ t=>(List.range T.N).map t
section
variable {T:Nt} {cs:List (Nat->Int)} {f:Fm}
theorem flat_len {α β γ:Type} {p:γ->List α} {q:γ->List β} (l:List γ) (h:∀ x,(p x).length=(q x).length):(l.flatMap p).length=(l.flatMap q).length:=by
 induction l with
|nil=>rfl
|cons x r ih=>simp only [List.flatMap_cons,List.length_append,ih,h]
theorem snk_zip (n:Nat) (e:(Nat->Int)->Nat->Ar):∀ (cs ts:List (Nat->Int)),cs.length=ts.length->(cs.flatMap λ c=>(List.range n).map (e c)).zip (ts.flatMap λ t=>(List.range n).map t)=(cs.zip ts).flatMap λ c=>(List.range n).map λ k=>(e c.1 k,c.2 k)
|[],[],_=>rfl
|c :: cs,t :: ts,h=>by
  rw [List.flatMap_cons,List.flatMap_cons,List.zip_append (by simp),List.zip_cons_cons,List.flatMap_cons,snk_zip n e cs ts (by simpa using h),List.zip_map']
theorem snk_len (n:Nat) (e:(Nat->Int)->Nat->Ar):∀ (cs ts:List (Nat->Int)),cs.length=ts.length->(cs.flatMap λ c=>(List.range n).map (e c)).length=(ts.flatMap λ t=>(List.range n).map t).length
|[],[],_=>rfl
|c :: cs,t :: ts,h=>by
  rw [List.flatMap_cons,List.flatMap_cons,List.length_append,List.length_append,snk_len n e cs ts (by simpa using h)];simp
theorem Nt.len (h:cs.length=f.t.length):(T.flow f).length=(T.arcs cs).length:=by
 unfold Nt.flow Nt.arcs
 rw [List.length_append,List.length_append,List.length_append,List.length_append,snk_len T.N _ cs f.t h]
 congr 1
 congr 1
 ·simp
 ·exact flat_len _ λ m=>by simp
end
def Nt.inn (T:Nt) (f:Fm) (m k:Nat):Int:=su (List.range T.n) λ m'=>su (T.P m') λ i=>if m'+T.Ln i=m/\T.V i=k then f.g m' i else 0
def Nt.out (T:Nt) (f:Fm) (m k:Nat):Int:=if m < T.n then su (T.P m) λ i=>if T.U i=k then f.g m i else 0 else 0
structure Nt.Ok (T:Nt):Prop where
 nd:∀ m,(T.P m).Nodup
 ub:∀ m,∀ i∈T.P m,T.U i < T.N
 vb:∀ m,∀ i∈T.P m,T.V i < T.N
 ln:∀ m,∀ i∈T.P m,1<=T.Ln i/\m+T.Ln i<=T.n
section
variable {T:Nt} {cs:List (Nat->Int)} {f:Fm}
structure Nt.Fl (T:Nt) (cs:List (Nat->Int)) (f:Fm):Prop where
 t:cs.length=f.t.length
 a:∀ k,k < T.N->0<=f.a k/\f.a k<=T.fl k
 r:∀ m k,m < T.n->k < T.N->0<=f.r m k/\f.r m k<=T.rm k
 g:∀ m i,m < T.n->i∈T.P m->0<=f.g m i/\f.g m i<=T.W i m
 s:∀ c∈cs.zip f.t,∀ k,k < T.N->0<=c.2 k/\c.2 k<=c.1 k
 b:∀ m k,m<=T.n->k < T.N->(if m=0 then f.a k else f.r (m - 1) k)+T.inn f m k=T.out f m k+(if m < T.n then f.r m k else su f.t λ t=>t k)
end
theorem su_mem {c:Nat} (g:Nat->Int):∀ {l:List Nat},l.Nodup->(∀ x∈l,x < c)->su (List.range c) (λ i=>if i∈l then g i else 0)=su l g
|[],_,_=>by rw [su_nil];exact su_zero' λ i _=>by simp
|x :: l,nd,h=>by
  obtain ⟨h1,h2⟩:=List.nodup_cons.mp nd
  rw [su_cons,<- su_mem g h2 λ y hy=>h y (List.mem_cons_of_mem _ hy),<- su_one g (h x List.mem_cons_self),<- su_add]
  refine su_congr λ i _=>?_
  by_cases e:i=x
  ·subst e;simp [h1]
  ·simp [e]
structure Nt.Lk (T:Nt) (cs:List (Nat->Int)) (f:Fm):Prop where
 t:cs.length=f.t.length
 a:∀ k,k < T.N->0<=f.a k/\f.a k<=T.fl k
 r:∀ m k,m < T.n->k < T.N->0<=f.r m k/\f.r m k<=T.rm k
 g:∀ m i,m < T.n->i∈T.P m->0<=f.g m i/\f.g m i<=T.W i m
 s:∀ c∈cs.zip f.t,∀ k,k < T.N->0<=c.2 k/\c.2 k<=c.1 k
 b:∀ m k,m<=T.n->k < T.N->T.out f m k+(if m < T.n then f.r m k else su f.t λ t=>t k)<=(if m=0 then f.a k else f.r (m - 1) k)+T.inn f m k
section
variable {T:Nt} {cs:List (Nat->Int)} {f:Fm}
end
structure Nt.Val (T:Nt) (c:Nat->Int) (M:Int):Prop where
 ex:∃ f t,T.Fl [c] f/\f.t=[t]/\su (List.range T.N) t=M
 mx:∀ f t,T.Lk [c] f->f.t=[t]->su (List.range T.N) t<=M
section
variable {T:Nt} {c c':Nat->Int} {M M':Int}
end
end L5
namespace L5
open PySem L2 L3 L4
theorem su_filter {α:Type} (l:List α) (p:α->Bool) (f:α->Int):su (l.filter p) f=su l λ x=>if p x=true then f x else 0:=by
 induction l with
|nil=>rfl
|cons a l ih =>
  rw [su_cons]
  by_cases h:p a=true
  ·rw [List.filter_cons_of_pos h,su_cons,ih,if_pos h]
  ·rw [List.filter_cons_of_neg h,ih,if_neg h,Int.zero_add]
theorem nodup_map' {α β:Type} (f:α->β):∀ {l:List α},l.Nodup->(∀ x∈l,∀ y∈l,f x=f y->x=y)->(l.map f).Nodup
|[],_,_=>by simp
|a :: l,nd,h=>by
  have nd':=List.nodup_cons.mp nd
  rw [List.map_cons,List.nodup_cons]
  refine ⟨λ z=>?_,nodup_map' f nd'.2 λ x hx y hy=>h x (by simp [hx]) y (by simp [hy])⟩
  obtain ⟨b,hb,e⟩:=List.mem_map.mp z
  have:=h b (by simp [hb]) a (by simp) e
  subst this;exact nd'.1 hb
section
variable {n u np:Nat} {st go ln:Nat->Nat} {wd G R:Nat->Nat->Int} {fl rm:Nat->Int} {S:List (Nat×Nat)}
def spI (S:List (Nat×Nat)) (fl rm:Nat->Int) (x:Nat×Nat):Int:=if x.1=0 then fl x.2 else if (x.1 - 1,x.2)∈S then 0 else rm x.2
def ppI (S:List (Nat×Nat)) (st go ln:Nat) (wd:Nat->Int) (x:Nat×Nat):Int:=if x.2=go/\ln<=x.1/\(x.1 - ln,st) ∉ S then wd (x.1 - ln) else 0
end
end L5
namespace L3
open PySem PySem.W PySem.Spec PyProof.Rows L2 L5
section
variable {w:World} {prog:Program}
theorem walks_tups {A:Around} {it d:Addr} {od:Obj} {es:Array DictEntry} {ep:Nat} (hh:A.handled=none) (ne:d≠it) (gd:od.data=.dict es ep) :
  PySem.Walks prog w A it [it,d] [it] es.size (λ i v=>∃ e,es[i]?=some e/\v=e.key) (λ i h=>h.IsKeyIter it d i es.size ep/\h.get? d=some od) where
 sub:=by simp
 frame:=λ i h h' ⟨⟨io,g1,g2,g3⟩,hd⟩ k=>⟨⟨io,k _ (by simp) _ g1,g2,g3⟩,k _ (by simp) _ hd⟩
 item:=λ i s Q E hi ⟨S,hm⟩ hQ=>next_keys hh S hm gd (λ lt h' S' sb=>hQ _ h' s.toks ⟨_,Array.getElem?_eq_getElem lt,rfl⟩ ⟨S',sb.extBut d od ne hm⟩ λ b o nb z=>sb.extBut b o (by simpa using nb) z) λ ge=>absurd hi (Nat.not_lt.mpr ge)
 done:=λ s Q E ⟨S,hm⟩ hQ=>next_keys hh S hm gd (λ lt=>absurd lt (Nat.lt_irrefl _)) λ _ h' eb=>hQ h' s.toks λ b o nb z=>eb b o (by simpa using nb) z
 self:=λ i s Q E S h=>wpAny_pyIter_keyiter S.1 h
theorem kdl_tups {d:Addr} {od:Obj} {es:Array DictEntry} {ep:Nat} (gc:od.cls=.type "dict") (gd:od.data=.dict es ep) (lo:(d == sysModules)=false) :
  KdlSrc prog w "dict" d d es.size (λ i v=>∃ e,es[i]?=some e/\v=e.key) (λ h=>h.get? d=some od) where
 type:=λ _ hm=>⟨od,hm,gc⟩
 there:=λ _ hm=>⟨Heap.lt_size hm,Heap.lt_size hm⟩
 keep:=λ _ _ hm hk=>hk d (.inl rfl) _ hm
 notList:=by decide
 notTuple:=by decide
 hint:=λ _ _ _ _ hm hq=>kdl_hint_dict ⟨od,hm,gc⟩ hq
 iter:=λ A s hh hm=>⟨_,_,(λ _ _ hq=>kiter_new hm gc gd lo hq),walks_tups hh (Nat.ne_of_lt (Heap.lt_size hm)) gd,⟨⟨_,Heap.get?_push_size _ rfl,rfl,rfl⟩,Heap.get?_push_of_some _ hm⟩⟩
end
def KeysAt (H:Hp) (rows:List (List Int)) (bs:List Addr):Prop:=bs.length=rows.length/\∀ (i:Nat) b r,bs[i]?=some b->rows[i]?=some r->H b=some (.tup (r.map V.int))
theorem kts_len {H:Hp} {kvs:List (List Key×V)} {xs:List (List Key×Addr×Value)} (h:KT H kvs xs):kvs.length=xs.length:=h.length
theorem map_kv (r:List Int):(r.map Sum.inl).map kV=r.map V.int:=by rw [List.map_map];rfl
theorem tupRows_of {h:Heap}:∀ {vs:List Value} {rows:List (List Int)},vs.length=rows.length->(∀ (i:Nat) v r,vs[i]?=some v->rows[i]?=some r->∃ b o its k,v=.ref b/\h.get? b=some o/\o.cls=.type "tuple"/\o.data=.seq its k/\IntsAre its.toList r/\r≠[])->TupRows h vs rows
|[],[],_,_=>.nil
|[],_ :: _,e,_=>by simp at e
|_ :: _,[],e,_=>by simp at e
|v :: vs,r :: rows,e,q=>.cons (q 0 v r rfl rfl) (tupRows_of (by simpa using e) λ i v r a b=>q (i+1) v r (by simpa using a) (by simpa using b))
end L3
namespace L4
open PySem PySem.Spec PyProof.Rows L2 L3
section
variable {K:Fg} {ta:TE} {dp:DP}
theorem fz_keys {F H:Hp} (s:Same F H) (bs:List Addr) (hb:∀ b∈bs,∃ ks:List Key,H b=some (.tup (ks.map kV))):∃ F':Hp,Ext F H F' H/\∀ b∈bs,F' b=H b:=by
 classical
 refine ⟨λ a=>if a∈bs then H a else F a,⟨λ _ _ z=>z,λ a o z=>?_,λ a o z=>?_,λ a h f=>?_⟩,λ b h=>if_pos h⟩
 ·show (if a∈bs then H a else F a)=some o
  split
  ·exact s a o z
  ·exact z
 ·have z:(if a∈bs then H a else F a)=some o:=z
  split at z
  ·exact z
  ·exact s a o z
 ·show (if a∈bs then H a else F a)=none
  split
  ·rename_i q
   obtain ⟨ks,e⟩:=hb a q
   exact absurd e (h.2 ks)
  ·exact f
end
end L4
namespace L3
open PySem PySem.Spec PyProof.Rows L2
def tThawS (t:TS):TS:=λ D σ H=>t { nx:=λ σ' H'=>∃ a o u,(∀ ob y,H a≠some (.frz ob y))/\H' a=some (.frz o u)/\D.nx σ' (upd H' a u),rt:=λ _ _=>False } σ H
theorem ps_thaw {X:Cx} {st:Stmt} {t:TS} (h:PS X st t):PS X st (tThawS t):=by
 intro pins s σ H D I q
 refine thn (h pins s σ H _ I q) λ f s1 hs=>?_
 cases f with
|next =>
  obtain ⟨σ',H1,I1,a,o,u,e2,e3,q1⟩:=hs
  exact ⟨σ',_,thaw I1 e3 λ ob y z=>e2 ob y (I.base.frzs a ob y z),q1⟩
|brk=>obtain ⟨σ',H1,I1,z⟩:=hs;exact z.elim
|cont=>obtain ⟨σ',H1,I1,z⟩:=hs;exact z.elim
|ret u=>obtain ⟨v,σ',H1,I1,r1,z⟩:=hs;exact z.elim
end L3
namespace L4
open PySem PySem.Spec PyProof.Rows L2 L3
section
variable {K:Fg} {g:TG} {dg:DG} {tb:TS} {db:DS} {n:Nat}
def offB:Sl->Sl
|.bo _=>.un
|s=>s
def offA (δ:DSt):DSt:=δ.map offB
theorem offB_has:∀ {s:Sl},(offB s).has=true->offB s=s/\s.own=true
|.ow _,_=>⟨rfl,rfl⟩
|.io _ _,_=>⟨rfl,rfl⟩
|.bo _,h=>by cases h
|.un,h=>by cases h
|.sh _,h=>by cases h
theorem offA_at {δ:DSt} {j:Nat} {s:Sl} (h:(offA δ)[j]?=some s):∃ s0,δ[j]?=some s0/\s=offB s0:=by
 unfold offA at h
 rw [List.getElem?_map] at h
 obtain ⟨s0,h1,h2⟩:=Option.map_eq_some_iff.mp h
 exact ⟨s0,h1,h2.symm⟩
theorem RS.off {B:Bs} {F H:Hp} {σ:L2.St} {δ:DSt} {fps:Nat->List Addr} (r:RS K B F H σ δ fps):RS K B F H σ (offA δ) fps:=by
 refine ⟨r.hh,r.ff,r.fh,r.nw,r.al,by unfold offA;rw [List.length_map];exact r.len,λ j d e=>?_,λ j s e hs=>?_,λ j s e ho=>?_,λ j k s s2 hjk e1 e2 o1 o2=>?_⟩
 ·obtain ⟨s0,e1,e2⟩:=offA_at e
  cases s0 with
 |sh d'=>cases e2;exact r.sh j _ e1
 |un=>cases e2
 |ow _=>cases e2
 |bo _=>cases e2
 |io _ _=>cases e2
 ·obtain ⟨s0,e1,rfl⟩:=offA_at e
  obtain ⟨z,_⟩:=offB_has hs
  rw [z] at hs ⊢;exact r.rt j _ e1 hs
 ·obtain ⟨s0,e1,rfl⟩:=offA_at e
  obtain ⟨z,_⟩:=offB_has (own_has ho)
  rw [z] at ho ⊢;exact r.fr j _ e1 ho
 ·obtain ⟨s0,e0,rfl⟩:=offA_at e1
  obtain ⟨s3,e3,rfl⟩:=offA_at e2
  obtain ⟨z,_⟩:=offB_has (own_has o1)
  obtain ⟨z2,_⟩:=offB_has o2
  rw [z] at o1;rw [z2] at o2
  exact r.dj j k _ _ hjk e0 e3 o1 o2
theorem RS.repl {B:Bs} {F H:Hp} {σ:L2.St} {δ:DSt} {fps:Nat->List Addr} (r:RS K B F H σ δ fps) {i:Nat} {a:Addr} {o':HO} {s':Sl} {fp':List Addr} {x:V} {t:T} (h0:B.H0 a=none) (fa:F a=none)
  (oth:∀ (j:Nat) s,j≠i->δ[j]?=some s->s.has=true->a ∉ fps j) (hs:s'.has=true) (gx:σ.getD i none=some x) (gt:s'.tree=some t) (gr:Rt K F (upd H a o') x t fp') (gi:∀ b u,s'=.io b u->x=.ref b) (gn:fp'.Nodup) (ga:∀ b∈fp',b=a) :
  RS K B F (upd H a o') σ (δ.set i s') (λ j=>if j=i then fp' else fps j):=by
 have key:∀ (j:Nat) s,(δ.set i s')[j]?=some s->(j=i/\s=s') \/ (j≠i/\δ[j]?=some s):=λ j s e=>by
  rw [List.getElem?_set] at e
  by_cases hij:i=j
  ·subst hij
   by_cases hl:i < δ.length
   ·simp [hl] at e;exact .inl ⟨rfl,e.symm⟩
   ·simp [hl] at e
  ·simp [hij] at e;exact .inr ⟨λ z=>hij z.symm,e⟩
 refine ⟨λ b o hb e=>?_,r.ff,λ b o e=>?_,r.nw,λ b=>?_,by rw [List.length_set];exact r.len,λ j d e=>?_,λ j s e hs'=>?_,λ j s e ho b hb=>?_,λ j k s s2 hjk e1 e2 o1 o2 b hb=>?_⟩
 ·rw [upd_ne (λ z=>by subst z;rw [h0] at e;cases e)];exact r.hh b o hb e
 ·rw [upd_ne (λ z=>by subst z;rw [fa] at e;cases e)];exact r.fh b o e
 ·by_cases z:b=a
  ·subst z;exact ⟨λ e=>absurd h0 e,λ e=>absurd h0 e.1⟩
  ·rw [upd_ne z];exact r.al b
 ·rcases key j _ e with ⟨_,z⟩|⟨_,z⟩
  ·subst z;cases hs
  ·exact r.sh j d z
 ·rcases key j _ e with ⟨z,z2⟩|⟨z,z2⟩
  ·subst z z2;simp only [if_true];exact ⟨x,t,gx,gt,gr,gi,gn⟩
  ·obtain ⟨x',t',a1,a2,a3,a4,a5⟩:=r.rt j s z2 hs'
   simp only [if_neg z]
   refine ⟨x',t',a1,a2,a3.frame (λ _ _ q=>q) λ b hb=>⟨upd_ne λ y=>?_,(a3.dom b hb).2⟩,a4,a5⟩
   subst y;exact oth j s z z2 hs' hb
 ·rcases key j _ e with ⟨z,z2⟩|⟨z,z2⟩
  ·simp only [if_pos z] at hb
   rw [ga b hb];exact .inl h0
  ·simp only [if_neg z] at hb;exact r.fr j s z2 ho b hb
 ·rcases key j _ e1 with ⟨z,z2⟩|⟨z,z2⟩
  ·simp only [if_pos z] at hb
   rcases key k _ e2 with ⟨y,_⟩|⟨y,y2⟩
   ·exact absurd (z.trans y.symm) hjk
   ·simp only [if_neg y]
    rw [ga b hb];exact oth k s2 y y2 o2
  ·simp only [if_neg z] at hb
   rcases key k _ e2 with ⟨y,_⟩|⟨y,y2⟩
   ·simp only [if_pos y]
    intro q
    rw [ga b q] at hb
    exact oth j s z z2 (own_has o1) hb
   ·simp only [if_neg y];exact r.dj j k s s2 hjk z2 y2 o1 o2 b hb
def itD (kv:List Key×D):D:=.tuple [.tuple (kv.1.map kD),kv.2]
def dForI (i:Nat) (dg:DG) (db:DS):DS:=λ E δ=>∃ kvs,δ[i]?=some (.ow (.dt kvs))/\∀ a,∃ W:Nat->DSt->Prop,W 0 (δ.set i (.io a .wh))/\(∀ j δ',W j δ'->δ'[i]?=some (.io a .wh)) /\
 (∀ j kv δ',kvs[j]?=some kv->W j δ'->dg (itD kv) δ' λ δ2=>db { nx:=W (j+1),rt:=λ _ _=>False,ct:=W (j+1),bk:=λ _=>False } δ2)/\∀ δ',W kvs.length δ'->E.nx ((offA δ').set i (.ow (.dt kvs)))
theorem rs_forI {i:Nat} (hg:RfG K n g dg) (hb:RfS K tb db):RfS K (tThawS (tFor (iItems (tVar i)) g tb)) (dForI i dg db):=by
 intro B F H σ δ fps E Z r h k
 obtain ⟨kvs,hi,h⟩:=h
 obtain ⟨x,t,g1,g2,g3,g4,g5⟩:=r.rt i _ hi rfl
 cases g2
 generalize hf:fps i=fp at g3
 cases g3 with
|dt a1 a2 a3 =>
  rename_i a kvs'
  have h0:B.H0 a=none:=by
   rcases r.fr i _ hi rfl a (by rw [hf];simp) with z|⟨_,z⟩
   ·exact z
   ·exact absurd rfl (z _)
  obtain ⟨W,w0,wi,ws,we⟩:=h a
  refine ⟨.ref a,slot_of (F:=F) (H:=H) (δ:=δ) g1,a,kvs',rfl,a1,λ o=>?_⟩
  have r0:RS K B F (upd H a (.frz o (.dT kvs'))) σ (δ.set i (.io a .wh)) (λ j=>if j=i then [] else fps j) :=
   r.repl h0 a2 (λ j s ne e hs q=>r.dj i j _ s (Ne.symm ne) hi e rfl hs a (by rw [hf];simp) q) rfl g1 rfl .wh (λ b u z=>by cases z;rfl) .nil λ b hb=>nomatch hb
  obtain ⟨B',r1,eF,fr,bk,bn⟩:=r0.rebase
  obtain ⟨b1,b2⟩:=fr a _ upd_same λ j s e ho ha=>by
   by_cases ji:j=i
   ·simp only [if_pos ji] at ha;exact nomatch ha
   ·simp only [if_neg ji] at ha
    have e':δ[j]?=some s:=by rw [List.getElem?_set_ne (Ne.symm ji)] at e;exact e
    exact r.dj i j _ s (Ne.symm ji) hi e' rfl (own_has ho) a (by rw [hf];simp) ha
  refine ⟨λ j m σ' H'=>m=kvs.length - j/\j<=kvs.length/\∃ F' δ' fps',RS K B' F' H' σ' δ' fps'/\W j δ',⟨kvs.length,rfl,Nat.zero_le _,F,_,_,r1,w0⟩,?_⟩
  rintro j m σ' H' ⟨rfl,hj',F',δ',fps',r',w'⟩
  have c1:H' a=some (.frz o (.dT kvs')):=r'.hh a _ b2 b1
  have c2:KvIs K F' kvs' kvs:=a3.mono (by rw [<- eF];exact r'.ff)
  have el:=a3.len
  by_cases hlt:j < kvs.length
  ·refine .inr ⟨⟨c1,by lia⟩,λ σ2 H2=>j+1<=kvs.length/\∃ F2 δ2 fps2,RS K B' F2 H2 σ2 δ2 fps2/\W (j+1) δ2,λ σ2 H2 p=>⟨_,by lia,rfl,p⟩,λ y H2 hy=>?_⟩
   obtain ⟨ky,v,b,p,d1,d2,d3,rfl,rfl⟩:=hy
   obtain ⟨d,e1,e2⟩:=c2.at d1
   obtain ⟨F3,x3,f3⟩:=fz_keys r'.fh [b] λ b' hb'=>by simp at hb';subst hb';exact ⟨ky,d2⟩
   have i3:IsAll K F3 [.ref b,v] [.tuple (ky.map kD),d]:=.cons (.tup (by rw [f3 b (by simp)];exact d2) (is_keys ky)) (.cons (e2.mono x3.f) .nil)
   obtain ⟨x4,i4⟩:=new_tup (p:=p) x3.fh d3 i3
   have r2:=r'.grow (x3.trans x4)
   refine hg r2.fh i4 (ws j _ δ' e1 w') λ σ2 δ2 hd2 u2=>?_
   exact hb (r2.byUpd u2) hd2 ⟨λ r3 q=>⟨hlt,_,_,_,r3,q⟩,λ r3 q=>q.elim,λ r3 q=>⟨hlt,_,_,_,r3,q⟩,λ res q=>q.elim⟩
  ·have e:j=kvs.length:=by lia
   subst e
   refine .inl ⟨⟨c1,by lia⟩,a,o,.dT kvs',(λ ob y z=>by rw [a1] at z;cases z),c1,?_⟩
   have hi':=wi _ δ' w'
   obtain ⟨x',t',k1,k2,k3,k4,k5⟩:=r'.rt i _ hi' rfl
   have ex:=k4 a _ rfl
   subst ex
   have fa':F' a=none:=r'.nw a (by rw [b1];exact ⟨by simp,λ ks=>by simp⟩) (by rw [eF];exact a2)
   refine k.nx ((bk r').off.repl (t:=.dt kvs) (fp':=[a]) h0 fa' (λ j' s ne e hs q=>?_) rfl k1 rfl (.dt upd_same fa' c2) (λ b u z=>by cases z) (by simp) λ b hb=>by simpa using hb) (we _ w')
   obtain ⟨s0,e1,rfl⟩:=offA_at e
   obtain ⟨z,z2⟩:=offB_has hs
   rcases r'.fr j' _ e1 z2 a q with y|⟨y,_⟩
   ·rw [b1] at y;cases y
   ·exact b2 y
theorem RS.turnB {B:Bs} {F H:Hp} {σ:L2.St} {δ:DSt} {fps:Nat->List Addr} (r:RS K B F H σ δ fps) {i:Nat} {a:Addr} {u1 u2:HO} {t t':T} {x:V} (hi:δ[i]?=some (.bo t)) (ha:a∈fps i) (h0:B.H0 a=some u1) (fa:F a=none) (hd:HD (some u2)) (gx:σ.getD i none=some x) (gr:Rt K F (upd H a u2) x t' [a]) :
  RS K ⟨B.F0,upd B.H0 a u2,B.G⟩ F (upd H a u2) σ ((offA δ).set i (.bo t')) (λ j=>if j=i then [a] else fps j):=by
 have key:∀ (j:Nat) s,((offA δ).set i (.bo t'))[j]?=some s->(j=i/\s=.bo t') \/ (j≠i/\∃ s0,δ[j]?=some s0/\s=offB s0):=λ j s e=>by
  rw [List.getElem?_set] at e
  by_cases hij:i=j
  ·subst hij
   by_cases hl:i < (offA δ).length
   ·simp [hl] at e;exact .inl ⟨rfl,e.symm⟩
   ·simp [hl] at e
  ·simp [hij] at e;exact .inr ⟨λ z=>hij z.symm,offA_at e⟩
 have nin:∀ (j:Nat) s0,j≠i->δ[j]?=some s0->s0.own=true->a ∉ fps j:=λ j s0 hj e ho q=>r.dj j i s0 _ hj e hi ho rfl a q ha
 refine ⟨λ b o hb e=>?_,r.ff,λ b o e=>?_,λ b hb fb=>?_,λ b=>?_,by unfold offA;rw [List.length_set,List.length_map];exact r.len,λ j d e=>?_,λ j s e hs=>?_,λ j s e ho b hb=>?_,λ j k s s2 hjk e1 e2 o1 o2 b hb=>?_⟩
 ·by_cases z:b=a
  ·have e:upd B.H0 a u2 b=some o:=e
   subst z;rw [upd_same] at e ⊢;exact e
  ·have e:upd B.H0 a u2 b=some o:=e
   rw [upd_ne z] at e ⊢;exact r.hh b o hb e
 ·rw [upd_ne (λ z=>by subst z;rw [fa] at e;cases e)];exact r.fh b o e
 ·by_cases z:b=a
  ·subst z;exact fa
  ·have hb:HD (upd B.H0 a u2 b):=hb
   rw [upd_ne z] at hb;exact r.nw b hb fb
 ·show (upd B.H0 a u2 b≠none->upd H a u2 b≠none)/\(HD (upd B.H0 a u2 b)->HD (upd H a u2 b))
  by_cases z:b=a
  ·subst z;rw [upd_same,upd_same];exact ⟨id,id⟩
  ·rw [upd_ne z,upd_ne z];exact r.al b
 ·rcases key j _ e with ⟨_,z⟩|⟨_,s0,z,z2⟩
  ·cases z
  ·cases s0 with
  |sh d'=>cases z2;exact r.sh j _ z
  |un=>cases z2
  |ow _=>cases z2
  |bo _=>cases z2
  |io _ _=>cases z2
 ·rcases key j _ e with ⟨z,z2⟩|⟨z,s0,z2,z3⟩
  ·subst z z2;simp only [if_true];exact ⟨x,t',gx,rfl,gr,(λ b u y=>by cases y),by simp⟩
  ·subst z3
   obtain ⟨y,y2⟩:=offB_has hs
   rw [y] at hs ⊢
   obtain ⟨x',t2,a1,a2,a3,a4,a5⟩:=r.rt j s0 z2 hs
   simp only [if_neg z]
   refine ⟨x',t2,a1,a2,a3.frame (λ _ _ q=>q) λ b hb=>⟨upd_ne λ y=>?_,(a3.dom b hb).2⟩,a4,a5⟩
   subst y;exact nin j s0 z z2 y2 hb
 ·rcases key j _ e with ⟨z,z2⟩|⟨z,s0,z2,z3⟩
  ·subst z2;cases ho
  ·subst z3
   obtain ⟨y,y2⟩:=offB_has (own_has ho)
   rw [y] at ho ⊢
   simp only [if_neg z] at hb
   have ba:b≠a:=λ q=>by subst q;exact nin j s0 z z2 y2 hb
   show upd B.H0 a u2 b=none \/ _
   rw [upd_ne ba]
   exact r.fr j s0 z2 ho b hb
 ·rcases key j _ e1 with ⟨z,z2⟩|⟨z,s0,z2,z3⟩
  ·subst z2;cases o1
  ·subst z3
   obtain ⟨y,y2⟩:=offB_has (own_has o1)
   simp only [if_neg z] at hb
   rcases key k _ e2 with ⟨w,w2⟩|⟨w,s3,w2,w3⟩
   ·simp only [if_pos w]
    intro q
    have q:=List.mem_singleton.mp q
    subst q
    exact nin j s0 z z2 y2 hb
   ·subst w3
    obtain ⟨v,v2⟩:=offB_has o2
    rw [v] at o2
    simp only [if_neg w];exact r.dj j k s0 s3 hjk z2 w2 y2 o2 b hb
def dForK (i:Nat) (dg:DG) (db:DS):DS:=λ E δ=>∃ kvs,δ[i]?=some (.bo (.dt kvs))/\∀ a,∃ W:Nat->DSt->Prop,W 0 ((offA δ).set i (.bo (.dz a kvs)))/\(∀ j δ',W j δ'->δ'[i]?=some (.bo (.dz a kvs))) /\
 (∀ j kv δ',kvs[j]?=some kv->W j δ'->dg (.tuple (kv.1.map kD)) δ' λ δ2=>db { nx:=W (j+1),rt:=λ _ _=>False,ct:=W (j+1),bk:=λ _=>False } δ2)/\∀ δ',W kvs.length δ'->E.nx ((offA δ').set i (.bo (.dt kvs)))
theorem rs_forK {i:Nat} (hg:RfG K n g dg) (hb:RfS K tb db):RfS K (tThawS (tFor (iKeys (tVar i)) g tb)) (dForK i dg db):=by
 intro B F H σ δ fps E Z r h k
 obtain ⟨kvs,hi,h⟩:=h
 obtain ⟨B1,r1,eF,fr,bk,bn⟩:=r.rebase
 obtain ⟨x,t,g1,g2,g3,g4,g5⟩:=r.rt i _ hi rfl
 cases g2
 generalize hf:fps i=fp at g3
 cases g3 with
|dt a1 a2 a3 =>
  rename_i a kvs'
  have hai:a∈fps i:=by rw [hf];simp
  obtain ⟨b1,b2⟩:=fr a _ a1 λ j s e o ha=>r.dj j i s _ (λ z=>by subst z;rw [hi] at e;cases e;cases o) e hi o rfl a ha hai
  obtain ⟨W,w0,wi,ws,we⟩:=h a
  refine ⟨.ref a,slot_of (F:=F) (H:=H) (δ:=δ) g1,a,kvs',rfl,a1,λ o=>?_⟩
  have r0:=r1.turnB (u2:=.frz o (.dT kvs')) (t':=.dz a kvs) hi hai b1 a2 ⟨by simp,λ ks=>by simp⟩ g1 (.dz upd_same a2 a3)
  refine ⟨λ j m σ' H'=>m=kvs.length - j/\j<=kvs.length/\∃ F' δ' fps',RS K ⟨B1.F0,upd B1.H0 a (.frz o (.dT kvs')),B1.G⟩ F' H' σ' δ' fps'/\W j δ',⟨kvs.length,rfl,Nat.zero_le _,F,_,_,r0,w0⟩,?_⟩
  rintro j m σ' H' ⟨rfl,hj',F',δ',fps',r',w'⟩
  have c1:H' a=some (.frz o (.dT kvs')):=r'.hh a _ b2 upd_same
  have c2:KvIs K F' kvs' kvs:=a3.mono (by rw [<- eF];exact r'.ff)
  have el:=a3.len
  by_cases hlt:j < kvs.length
  ·refine .inr ⟨⟨c1,by lia⟩,λ σ2 H2=>j+1<=kvs.length/\∃ F2 δ2 fps2,RS K ⟨B1.F0,upd B1.H0 a (.frz o (.dT kvs')),B1.G⟩ F2 H2 σ2 δ2 fps2/\W (j+1) δ2,λ σ2 H2 p=>⟨_,by lia,rfl,p⟩,λ y H2 hy=>?_⟩
   obtain ⟨ky,v,b,d1,d2,rfl,rfl⟩:=hy
   obtain ⟨d,e1,e2⟩:=c2.at d1
   obtain ⟨F3,x3,f3⟩:=fz_keys r'.fh [b] λ b' hb'=>by simp at hb';subst hb';exact ⟨ky,d2⟩
   have i3:Is K F3 (.ref b) (.tuple (ky.map kD)):=.tup (by rw [f3 b (by simp)];exact d2) (is_keys ky)
   have r2:=r'.grow x3
   refine hg r2.fh i3 (ws j _ δ' e1 w') λ σ2 δ2 hd2 u2=>?_
   exact hb (r2.byUpd u2) hd2 ⟨λ r3 q=>⟨hlt,_,_,_,r3,q⟩,λ r3 q=>q.elim,λ r3 q=>⟨hlt,_,_,_,r3,q⟩,λ res q=>q.elim⟩
  ·have e:j=kvs.length:=by lia
   subst e
   refine .inl ⟨⟨c1,by lia⟩,a,o,.dT kvs',(λ ob y z=>by rw [a1] at z;cases z),c1,?_⟩
   have hi':=wi _ δ' w'
   obtain ⟨x',t',k1,k2,k3,k4,k5⟩:=r'.rt i _ hi' rfl
   cases k2
   generalize hf':fps' i=fp' at k3
   cases k3 with
  |dz m1 m2 m3 =>
    have r3:=r'.turnB (u2:=.dT kvs') (t':=.dt kvs) hi' (by rw [hf'];simp) upd_same m2 ⟨by simp,λ ks=>by simp⟩ k1 (.dt upd_same m2 c2)
    have eB:(⟨B1.F0,upd (upd B1.H0 a (.frz o (.dT kvs'))) a (.dT kvs'),B1.G⟩:Bs)=B1:=by
     obtain ⟨f0,h0,g0⟩:=B1
     congr 1
     funext b
     by_cases z:b=a
     ·subst z;rw [upd_same];exact b1.symm
     ·rw [upd_ne z,upd_ne z]
    dsimp only at r3
    rw [eB] at r3
    exact k.nx (bk r3) (we _ w')
theorem forK_inv {i:Nat} {E:DEnds} {δ:DSt} {kvs:List (List Key×D)} (hi:δ[i]?=some (.bo (.dt kvs))) (W:Addr->Nat->DSt->Prop) (h0:∀ a,W a 0 ((offA δ).set i (.bo (.dz a kvs)))) (hs:∀ a j δ',W a j δ'->δ'[i]?=some (.bo (.dz a kvs)))
  (hb:∀ a (j:Nat) kv δ',kvs[j]?=some kv->W a j δ'->dg (.tuple (kv.1.map kD)) δ' λ δ2=>db { nx:=W a (j+1),rt:=λ _ _=>False,ct:=W a (j+1),bk:=λ _=>False } δ2) (he:∀ a δ',W a kvs.length δ'->E.nx ((offA δ').set i (.bo (.dt kvs)))):dForK i dg db E δ :=
 ⟨_,hi,λ a=>⟨W a,h0 a,hs a,λ j kv δ' e w=>hb a j kv δ' e w,λ δ' w=>he a δ' w⟩⟩
end
end L4
namespace L3
open PySem PySem.Spec PyProof.Rows L2
theorem star_tup (xs:List Expr) (k) (pos:Pos) (rest:List Expr) (env:Env):starEach (.Tuple xs k pos :: rest) env=(false,eval (.Tuple xs k pos) env) :: starEach rest env:=rfl
theorem pe_i3 {X:Cx} {a b c:Int} {i j l k} {p q r s:Pos}:PE X (.Tuple [.Constant (.int a) i p,.Constant (.int b) j q,.Constant (.int c) l r] k s) (tTupU (tCons (tC (.int a)) (tCons (tC (.int b)) (tCons (tC (.int c)) tNil)))):=pe_tupU (pa_cons pe_int (pa_cons pe_int (pa_cons pe_int pa_nil)))
structure PAX (X:Cx) (es:List Expr) (t:TA):Prop where
 h:PA X es t
theorem pax_nil {X:Cx}:PAX X [] tNil:=⟨pa_nil⟩
theorem pax_i3 {X:Cx} {a b c:Int} {i j l k} {p q r s:Pos} {es:List Expr} {t:TA} (h:PAX X es t):PAX X (.Tuple [.Constant (.int a) i p,.Constant (.int b) j q,.Constant (.int c) l r] k s :: es) (tCons (tTupU (tCons (tC (.int a)) (tCons (tC (.int b)) (tCons (tC (.int c)) tNil)))) t):=⟨pa_cons pe_i3 h.h (star_tup _ _ _ _ _)⟩
@[irreducible] def hid (es:List Expr):List Expr:=es
theorem hid_eq (es:List Expr):hid es=es:=by unfold hid;rfl
theorem pe_lstH {X:Cx} {es:List Expr} {t:TA} {pos:Pos} (h:PAX X es t):PE X (.List (hid es) pos) (tLstU t):=by rw [hid_eq];exact pe_lst h.h
def hidS:Stmt->Stmt
|.Assign ts (.List (.Tuple a k b :: es) p) q=>.Assign ts (.List (hid (.Tuple a k b :: es)) p) q
|.Assign ts (.Subscript (.BinOp a op (.List es p) p2) i p3) q=>.Assign ts (.Subscript (.BinOp a op (.List (hid es) p) p2) i p3) q
|s=>s
theorem hidS_eq (s:Stmt):hidS s=s:=by
 unfold hidS
 split
 ·rw [hid_eq]
 ·rw [hid_eq]
 ·rfl
theorem pss_hid {X:Cx} {ss:List Stmt} {t:TS} (h:PSs X (ss.map hidS) t):PSs X ss t:=by
 have e:ss.map hidS=ss:=by
  conv=>rhs;rw [<- List.map_id ss]
  exact List.map_congr_left λ s _=>hidS_eq s
 rw [e] at h
 exact h
end L3
namespace L5
open PySem PySem.Spec PyProof.Rows L2 L3 L4
theorem for_hide {di:DF} {dg:DG} {db:DS} {E:DEnds} {δ:DSt} (h:∀ B:DS,(∀ E δ,db E δ->B E δ)->dFor di dg B E δ):dFor di dg db E δ:=h db λ _ _ z=>z
end L5
namespace L4
open PySem PySem.Spec PyProof.Rows L2 L3
section
variable {K:Fg} {w:World}
end
end L4
namespace L5
open PySem PySem.W PyProof.Rows
section
variable {prog:Program} {w:World} {A:Around} {E:Value->Shared->Prop} {s:Shared} {κ:SortKind} {a₀:Array Keyed} {st:SortSt}
def Cmp (prog:Program) (w:World) (A:Around) (s:Shared) (κ:SortKind) (a₀:Array Keyed):Prop:=∀ x y,x∈a₀.toList->y∈a₀.toList->∃ b:Bool,∀ Q:Bool->Shared->Prop,Q b s->wpAny (model prog w) A (keyLt' κ x.1 y.1) Q (λ _ _=>False) s
structure PB (κ:SortKind) (a₀:Array Keyed) (st:SortSt):Prop where
 perm:(arrOf st).Perm a₀
 kind:kindOf st=κ
 failed:failedOf st=none
theorem PB.size (h:PB κ a₀ st):(arrOf st).size=a₀.size:=h.perm.size_eq
theorem PB.mem (h:PB κ a₀ st) {x:Keyed} (hx:x∈(arrOf st).toList):x∈a₀.toList:=(Array.perm_iff_toList_perm.mp h.perm).mem_iff.mp hx
theorem ps_lt (hc:Cmp prog w A s κ a₀) (hk:kindOf st=κ) {x y:Keyed} (hx:x∈a₀.toList) (hy:y∈a₀.toList) {Q:Option Bool->SortSt->Prop} (h:∀ b,Q (some b) st):wpS (model prog w) A E s (lt' x y) Q st:=by
 obtain ⟨b,hb⟩:=hc x y hx hy
 rw [lt'_eq]
 refine wpS_bind (wpS_get ?_)
 refine wpS_bind (wpS_lift (wpAny_attempt ?_))
 rw [hk]
 exact wpAny_mono (hb _ ⟨rfl,wpS_pure (h b)⟩) (λ _ _ z=>z) λ _ _ z=>z.elim
theorem ps_elem {arr:Array Keyed} {i:Nat} (hi:i < arr.size) {Q:Keyed->SortSt->Prop} (h:Q arr[i] st):wpS (model prog w) A E s (elem' arr i) Q st:=by
 rw [elem'_eq,Array.getElem?_eq_getElem hi]
 exact wpS_pure h
theorem ps_ltAt (hc:Cmp prog w A s κ a₀) (hB:PB κ a₀ st) {i j:Nat} (hi:i < a₀.size) (hj:j < a₀.size) {Q:Option Bool->SortSt->Prop} (h:∀ b,Q (some b) st):wpS (model prog w) A E s (ltAt' i j) Q st:=by
 rw [ltAt'_eq]
 have h1:i < (arrOf st).size:=by rw [hB.size];exact hi
 have h2:j < (arrOf st).size:=by rw [hB.size];exact hj
 exact wpS_bind (wpS_get (wpS_bind (ps_elem h1 (wpS_bind (ps_elem h2 (ps_lt hc hB.kind (hB.mem (by simp)) (hB.mem (by simp)) h))))))
theorem ps_rev {i j:Nat} (hB:PB κ a₀ st) {Q:Unit->SortSt->Prop} (h:∀ st',PB κ a₀ st'->pendingOf st'=pendingOf st->Q () st'):wpS (model prog w) A E s (reverseSlice' i j) Q st:=by
 rw [reverseSlice'_eq]
 exact wpS_modify (h _ ⟨(mirror_perm _ _ _ _).trans hB.perm,hB.kind,hB.failed⟩ rfl)
theorem ps_down {i j:Nat} (hB:PB κ a₀ st) {Q:Unit->SortSt->Prop} (h:∀ st',PB κ a₀ st'->pendingOf st'=pendingOf st->Q () st'):wpS (model prog w) A E s (moveDown' i j) Q st:=by
 rw [moveDown'_eq]
 exact wpS_modify (h _ ⟨(bubble_perm _ _ _).trans hB.perm,hB.kind,hB.failed⟩ rfl)
theorem ps_bin (hc:Cmp prog w A s κ a₀) (hB:PB κ a₀ st) {lo n ok:Nat} (hn:lo+n<=a₀.size) {Q:Bool->SortSt->Prop} (h:∀ st',PB κ a₀ st'->pendingOf st'=pendingOf st->Q true st'):wpS (model prog w) A E s (binarySort' lo n ok) Q st:=by
 rw [binarySort'_eq]
 refine wpS_bind (wpS_mono (wpS_forRange (I:=λ _ c st'=>c=(none,())/\PB κ a₀ st'/\pendingOf st'=pendingOf st) (Q:=λ c st'=>c=(none,())/\PB κ a₀ st'/\pendingOf st'=pendingOf st) ?step (λ c st' z=>z) ⟨rfl,hB,rfl⟩) ?post)
 case post =>
  rintro c st' ⟨rfl,b1,b2⟩
  exact wpS_pure (h st' b1 b2)
 case step =>
  rintro k c st1 hk1 hk2 ⟨rfl,b1,b2⟩
  refine wpS_bind (wpS_mono (wpS_forRange (I:=λ _ c st'=>st'=st1/\∃ l r,c=(none,l,r)/\r<=k) (Q:=λ c st'=>st'=st1/\∃ l r,c=(none,l,r)/\r<=k) ?s2 (λ c st' z=>z) ⟨rfl,0,k,rfl,Nat.le_refl _⟩) ?p2)
  case p2 =>
   rintro c st2 ⟨rfl,l,r,rfl,hr⟩
   exact wpS_bind (ps_down b1 λ st3 b3 b4=>wpS_pure ⟨rfl,b3,b4.trans b2⟩)
  case s2 =>
   rintro x c st2 _ _ ⟨rfl,l,r,rfl,hr⟩
   dsimp only
   split
   ·exact wpS_pure ⟨rfl,l,r,rfl,hr⟩
   ·rename_i hlr
    refine wpS_bind (ps_ltAt hc b1 (by lia) (by lia) λ b=>?_)
    cases b
    ·exact wpS_pure ⟨rfl,_,_,rfl,hr⟩
    ·exact wpS_pure ⟨rfl,_,_,rfl,by lia⟩
end
section
variable {prog:Program} {w:World} {A:Around} {E:Value->Shared->Prop} {s:Shared} {κ:SortKind} {a₀:Array Keyed} {st:SortSt}
theorem ps_count (hc:Cmp prog w A s κ a₀) (hB:PB κ a₀ st) {lo nrem:Nat} (h1:1<=nrem) (hn:lo+nrem<=a₀.size) {Q:Option Nat->SortSt->Prop} (h:∀ m st',1<=m->m<=nrem->PB κ a₀ st'->pendingOf st'=pendingOf st->Q (some m) st'):wpS (model prog w) A E s (countRun' lo nrem) Q st:=by
 rw [countRun'_eq]
 refine wpS_bind (wpS_mono (wpS_forRange (I:=λ x c st'=>st'=st/\c=(none,x)) (Q:=λ c st'=>st'=st/\∃ m,c=(none,m)/\1<=m/\m<=nrem) ?s1 ?f1 ⟨rfl,rfl⟩) ?p1)
 case f1 =>
  rintro c st' ⟨rfl,rfl⟩
  exact ⟨rfl,_,rfl,by lia,by lia⟩
 case s1 =>
  rintro x c st' hx1 hx2 ⟨rfl,rfl⟩
  dsimp only
  refine wpS_bind (ps_ltAt hc hB (by lia) (by lia) λ b=>?_)
  cases b
  ·exact wpS_pure ⟨rfl,rfl⟩
  ·exact wpS_pure ⟨rfl,x,rfl,hx1,by lia⟩
 case p1 =>
  rintro c st' ⟨rfl,m,rfl,m1,m2⟩
  dsimp only
  have last:∀ {st2:SortSt} {k:Nat},PB κ a₀ st2->pendingOf st2=pendingOf st'->1<=k->k<=nrem->wpS (model prog w) A E s (forIn [k:nrem] ((none,k):Option (Option Nat)×Nat) λ _ r=>do
    let y <- ltAt' (lo+r.snd) (lo+r.snd - 1)
    match y with
   |some b=>if b=true then pure (ForInStep.done (none,r.snd)) else pure (ForInStep.yield (none,r.snd+1))
   |_=>pure (ForInStep.done (some none,r.snd))) (λ c st3=>∃ k',c=(none,k')/\1<=k'/\k'<=nrem/\PB κ a₀ st3/\pendingOf st3=pendingOf st') st2:=λ {st2 k} b1 b2 k1 k2=>by
   refine wpS_forRange (I:=λ x c st3=>st3=st2/\c=(none,x)) ?s5 ?f5 ⟨rfl,rfl⟩
   case f5 =>
    rintro c st3 ⟨rfl,rfl⟩
    exact ⟨_,rfl,by lia,by lia,b1,b2⟩
   case s5 =>
    rintro x c st3 hx1 hx2 ⟨rfl,rfl⟩
    dsimp only
    refine wpS_bind (ps_ltAt hc b1 (by lia) (by lia) λ b=>?_)
    cases b
    ·exact wpS_pure ⟨rfl,rfl⟩
    ·exact wpS_pure ⟨x,rfl,by lia,by lia,b1,b2⟩
  by_cases e:m=nrem
  ·rw [if_pos (by simp [e])]
   exact wpS_pure (h m st' m1 m2 hB rfl)
  rw [if_neg (by simp [e])]
  split
  ·refine wpS_bind (ps_ltAt hc hB (by lia) (by lia) λ b=>?_)
   cases b
   ·refine wpS_bind (ps_rev hB λ st2 b1 b2=>?_)
    refine wpS_bind (wpS_lift (wpAny_rule ⟨rfl,?_⟩))
    refine wpS_bind (wpS_mono (wpS_forRange (I:=λ x c st3=>∃ q,c=(none,x,q)/\PB κ a₀ st3/\pendingOf st3=pendingOf st') (Q:=λ c st3=>∃ k q,c=(none,k,q)/\1<=k/\k<=nrem/\PB κ a₀ st3/\pendingOf st3=pendingOf st') ?s2 ?f2 ⟨0,rfl,b1,b2⟩) ?p2)
    case f2 =>
     rintro c st3 ⟨q,rfl,c1,c2⟩
     exact ⟨_,q,rfl,by lia,by lia,c1,c2⟩
    case s2 =>
     rintro x c st3 hx1 hx2 ⟨q,rfl,c1,c2⟩
     dsimp only
     refine wpS_bind (ps_ltAt hc c1 (by lia) (by lia) λ b=>?_)
     cases b
     ·refine wpS_bind (ps_ltAt hc c1 (by lia) (by lia) λ b=>?_)
      cases b
      ·exact wpS_pure ⟨_,rfl,c1,c2⟩
      ·exact wpS_pure ⟨x,q,rfl,by lia,by lia,c1,c2⟩
     ·dsimp only
      rw [if_pos rfl]
      split
      ·exact wpS_bind (ps_rev c1 λ st4 d1 d2=>wpS_pure ⟨_,rfl,d1,d2.trans c2⟩)
      ·exact wpS_pure ⟨_,rfl,c1,c2⟩
    case p2 =>
     rintro c st3 ⟨k,q,rfl,k1,k2,c1,c2⟩
     dsimp only
     split
     ·refine wpS_bind (ps_rev c1 λ st4 d1 d2=>wpS_bind (ps_rev d1 λ st5 e1 e2=>wpS_bind (wpS_mono (last e1 (e2.trans (d2.trans c2)) k1 k2) ?_)))
      rintro c st6 ⟨k',rfl,g1,g2,g3,g4⟩
      exact wpS_pure (h k' st6 g1 g2 g3 g4)
     ·refine wpS_bind (ps_rev c1 λ st5 e1 e2=>wpS_bind (wpS_mono (last e1 (e2.trans c2) k1 k2) ?_))
      rintro c st6 ⟨k',rfl,g1,g2,g3,g4⟩
      exact wpS_pure (h k' st6 g1 g2 g3 g4)
   ·exact wpS_pure (h m st' m1 m2 hB rfl)
  ·have b1:=hB
   have b2:pendingOf st'=pendingOf st':=rfl
   refine wpS_bind (wpS_lift (wpAny_rule ⟨rfl,?_⟩))
   refine wpS_bind (wpS_mono (wpS_forRange (I:=λ x c st3=>∃ q,c=(none,x,q)/\PB κ a₀ st3/\pendingOf st3=pendingOf st') (Q:=λ c st3=>∃ k q,c=(none,k,q)/\1<=k/\k<=nrem/\PB κ a₀ st3/\pendingOf st3=pendingOf st') ?s2 ?f2 ⟨0,rfl,b1,b2⟩) ?p2)
   case f2 =>
    rintro c st3 ⟨q,rfl,c1,c2⟩
    exact ⟨_,q,rfl,by lia,by lia,c1,c2⟩
   case s2 =>
    rintro x c st3 hx1 hx2 ⟨q,rfl,c1,c2⟩
    dsimp only
    refine wpS_bind (ps_ltAt hc c1 (by lia) (by lia) λ b=>?_)
    cases b
    ·refine wpS_bind (ps_ltAt hc c1 (by lia) (by lia) λ b=>?_)
     cases b
     ·exact wpS_pure ⟨_,rfl,c1,c2⟩
     ·exact wpS_pure ⟨x,q,rfl,by lia,by lia,c1,c2⟩
    ·dsimp only
     rw [if_pos rfl]
     split
     ·exact wpS_bind (ps_rev c1 λ st4 d1 d2=>wpS_pure ⟨_,rfl,d1,d2.trans c2⟩)
     ·exact wpS_pure ⟨_,rfl,c1,c2⟩
   case p2 =>
    rintro c st3 ⟨k,q,rfl,k1,k2,c1,c2⟩
    dsimp only
    split
    ·refine wpS_bind (ps_rev c1 λ st4 d1 d2=>wpS_bind (ps_rev d1 λ st5 e1 e2=>wpS_bind (wpS_mono (last e1 (e2.trans (d2.trans c2)) k1 k2) ?_)))
     rintro c st6 ⟨k',rfl,g1,g2,g3,g4⟩
     exact wpS_pure (h k' st6 g1 g2 g3 g4)
    ·refine wpS_bind (ps_rev c1 λ st5 e1 e2=>wpS_bind (wpS_mono (last e1 (e2.trans c2) k1 k2) ?_))
     rintro c st6 ⟨k',rfl,g1,g2,g3,g4⟩
     exact wpS_pure (h k' st6 g1 g2 g3 g4)
end
def gal (left:Bool) (key:Keyed) (arr:Array Keyed) (base n hint:Nat):StateT SortSt Sem (Option Nat):=(sortPriv% PySem.Builtin.gallop) left key arr base n hint
section
variable {prog:Program} {w:World} {A:Around} {E:Value->Shared->Prop} {s:Shared} {κ:SortKind} {a₀:Array Keyed} {st:SortSt}
theorem ps_gal (hc:Cmp prog w A s κ a₀) (hk:kindOf st=κ) {left:Bool} {key:Keyed} {arr:Array Keyed} {base n hint:Nat} (hkey:key∈a₀.toList) (ha:∀ x∈arr.toList,x∈a₀.toList) (hb:base+n<=arr.size) (hh:hint < n) {Q:Option Nat->SortSt->Prop} (h:∀ k,k<=n->Q (some k) st):wpS (model prog w) A E s (gal left key arr base n hint) Q st:=by
 have bey:∀ i,i < n->∀ {R:Option Bool->SortSt->Prop},(∀ b,R (some b) st)->wpS (model prog w) A E s (elem' arr (base+i) >>= λ x=>if left=true then lt' x key else lt' key x >>= λ r=>pure (r.map λ z=>!z)) R st:=λ i hi R q=>by
  have hlt:base+i < arr.size:=by lia
  refine wpS_bind (ps_elem hlt ?_)
  have hx:=ha arr[base+i] (by simp)
  split
  ·exact ps_lt hc hk hx hkey q
  ·exact wpS_bind (ps_lt hc hk hkey hx λ b=>wpS_pure (q _))
 have fin:∀ (lo hi:Nat),hi<=n->∀ {R:Option (Option Nat)×Nat×Nat->SortSt->Prop},(∀ l k,k<=n->R (none,l,k) st)->wpS (model prog w) A E s (forIn [0:n] ((none,lo,hi):Option (Option Nat)×Nat×Nat) λ _ c=>if c.2.1 ≥ c.2.2 then pure (ForInStep.done (none,c.2.1,c.2.2)) else (elem' arr (base+(c.2.1+(c.2.2 - c.2.1) / 2)) >>= λ x=>if left=true then lt' x key else lt' key x >>= λ r=>pure (r.map λ z=>!z)) >>= λ y=>match y with
   |some b=>if b=true then pure (ForInStep.yield (none,c.2.1+(c.2.2 - c.2.1) / 2+1,c.2.2)) else pure (ForInStep.yield (none,c.2.1,c.2.1+(c.2.2 - c.2.1) / 2))
   |_=>pure (ForInStep.done (some none,c.2.1,c.2.2))) R st:=λ lo hi hle R q=>by
  refine wpS_forRange (I:=λ _ c st'=>st'=st/\∃ l k,c=(none,l,k)/\k<=n) ?s ?f ⟨rfl,lo,hi,rfl,hle⟩
  case f =>
   rintro c st' ⟨rfl,l,k,rfl,hk'⟩
   exact q l k hk'
  case s =>
   rintro x c st' _ _ ⟨rfl,l,k,rfl,hk'⟩
   dsimp only
   split
   ·exact wpS_pure (q l k hk')
   ·rename_i hlk
    refine wpS_bind (bey _ (by lia) λ b=>?_)
    cases b
    ·exact wpS_pure ⟨rfl,_,_,rfl,by lia⟩
    ·exact wpS_pure ⟨rfl,_,_,rfl,hk'⟩
 unfold gal
 refine wpS_bind (bey hint hh λ b=>?_)
 cases b
 ·dsimp only
  rw [if_neg Bool.false_ne_true]
  refine wpS_bind (wpS_mono (wpS_forRange (I:=λ _ c st'=>st'=st/\∃ l o,c=(none,l,o)) (Q:=λ c st'=>st'=st/\∃ l o,c=(none,l,o)) ?s1 (λ c st' z=>z) ⟨rfl,0,1,rfl⟩) ?p1)
  case s1 =>
   rintro x c st' _ _ ⟨rfl,l,o,rfl⟩
   dsimp only
   split
   ·exact wpS_pure ⟨rfl,_,_,rfl⟩
   ·refine wpS_bind (bey _ (by lia) λ b=>?_)
    cases b
    ·exact wpS_pure ⟨rfl,_,_,rfl⟩
    ·exact wpS_pure ⟨rfl,_,_,rfl⟩
  case p1 =>
   rintro c st' ⟨rfl,l,o,rfl⟩
   exact wpS_bind (fin _ _ (by lia) λ _ k hk'=>wpS_pure (h k hk'))
 ·dsimp only
  rw [if_pos rfl]
  refine wpS_bind (wpS_mono (wpS_forRange (I:=λ _ c st'=>st'=st/\∃ l o,c=(none,l,o)) (Q:=λ c st'=>st'=st/\∃ l o,c=(none,l,o)) ?s1 (λ c st' z=>z) ⟨rfl,0,1,rfl⟩) ?p1)
  case s1 =>
   rintro x c st' _ _ ⟨rfl,l,o,rfl⟩
   dsimp only
   split
   ·exact wpS_pure ⟨rfl,_,_,rfl⟩
   ·refine wpS_bind (bey _ (by lia) λ b=>?_)
    cases b
    ·exact wpS_pure ⟨rfl,_,_,rfl⟩
    ·exact wpS_pure ⟨rfl,_,_,rfl⟩
  case p1 =>
   rintro c st' ⟨rfl,l,o,rfl⟩
   exact wpS_bind (fin _ _ (by lia) λ _ k hk'=>wpS_pure (h k hk'))
end
def mlo (a b:Array Keyed):StateT SortSt Sem (Array Keyed):=(sortPriv% PySem.Builtin.mergeLo) a b
def mhi (a b:Array Keyed):StateT SortSt Sem (Array Keyed):=(sortPriv% PySem.Builtin.mergeHi) a b
structure Sm (st st':SortSt):Prop where
 arr:arrOf st'=arrOf st
 pend:pendingOf st'=pendingOf st
 kind:kindOf st'=kindOf st
 failed:failedOf st'=failedOf st
def Mg (a b out:Array Keyed) (i j:Nat):Prop:=out.toList.Perm (a.toList.take i++b.toList.take j)
section
variable {a b out:Array Keyed} {i j k:Nat}
theorem take_snoc (h:i < a.size):a.toList.take (i+1)=a.toList.take i++[a[i]]:=by
 rw [List.take_succ,Array.getElem?_toList,Array.getElem?_eq_getElem h];rfl
theorem Mg.pushA (m:Mg a b out i j) (h:i < a.size):Mg a b (out.push a[i]) (i+1) j:=by
 unfold Mg at m ⊢
 rw [Array.toList_push,take_snoc h,List.append_assoc]
 refine (m.append_right _).trans ?_
 rw [List.append_assoc]
 exact List.Perm.append_left _ List.perm_append_comm
theorem Mg.pushB (m:Mg a b out i j) (h:j < b.size):Mg a b (out.push b[j]) i (j+1):=by
 unfold Mg at m ⊢
 rw [Array.toList_push,take_snoc h,<- List.append_assoc]
 exact m.append_right _
theorem take_app (h:i+k<=a.size):a.toList.take (i+k)=a.toList.take i++(a.extract i (i+k)).toList:=by
 rw [Array.toList_extract,List.extract_eq_drop_take,Nat.add_sub_cancel_left,List.take_add]
theorem Mg.appA (m:Mg a b out i j) (h:i+k<=a.size):Mg a b (out++a.extract i (i+k)) (i+k) j:=by
 unfold Mg at m ⊢
 rw [Array.toList_append,take_app h,List.append_assoc]
 refine (m.append_right _).trans ?_
 rw [List.append_assoc]
 exact List.Perm.append_left _ List.perm_append_comm
theorem Mg.appB (m:Mg a b out i j) (h:j+k<=b.size):Mg a b (out++b.extract j (j+k)) i (j+k):=by
 unfold Mg at m ⊢
 rw [Array.toList_append,take_app h,<- List.append_assoc]
 exact m.append_right _
theorem rest_of (a:Array Keyed) (i:Nat):a.toList=a.toList.take i++(a.extract i a.size).toList:=by
 rw [Array.toList_extract,List.extract_eq_drop_take,List.take_of_length_le (l:=a.toList.drop i) (by simp),List.take_append_drop]
theorem perm4 (p q r t:List Keyed):(p++r++q++t).Perm (p++q++(r++t)):=by
 simp only [List.append_assoc]
 refine List.Perm.append_left _ ?_
 rw [<- List.append_assoc,<- List.append_assoc]
 exact List.Perm.append_right _ List.perm_append_comm
theorem Mg.done (m:Mg a b out i j):(out++a.extract i a.size++b.extract j b.size).toList.Perm (a.toList++b.toList):=by
 unfold Mg at m
 rw [Array.toList_append,Array.toList_append]
 conv=>rhs;rw [rest_of a i,rest_of b j]
 exact ((m.append_right _).append_right _).trans (perm4 _ _ _ _)
theorem Mg.last (m:Mg a b out i j):(out++b.extract j b.size++a.extract i a.size).toList.Perm (a.toList++b.toList):=by
 have:=m.done
 rw [Array.toList_append,Array.toList_append] at this ⊢
 rw [List.append_assoc] at this ⊢
 exact (List.Perm.append_left _ List.perm_append_comm).trans this
end
section
variable {prog:Program} {w:World} {A:Around} {E:Value->Shared->Prop} {s:Shared} {κ:SortKind} {a₀:Array Keyed} {st:SortSt}
theorem ps_ite {α:Type} {c:Prop} [Decidable c] {m n:StateT SortSt Sem α} {Q:α->SortSt->Prop} (h1:c->wpS (model prog w) A E s m Q st) (h2:¬ c->wpS (model prog w) A E s n Q st):wpS (model prog w) A E s (if c then m else n) Q st:=by
 by_cases z:c
 ·rw [if_pos z];exact h1 z
 ·rw [if_neg z];exact h2 z
theorem ps_beq {α:Type} {x y:Nat} {m n:StateT SortSt Sem α} {Q:α->SortSt->Prop} (h1:x=y->wpS (model prog w) A E s m Q st) (h2:¬ x=y->wpS (model prog w) A E s n Q st):wpS (model prog w) A E s (if (x == y)=true then m else n) Q st:=ps_ite (λ z=>h1 (by simpa using z)) λ z=>h2 (by simpa using z)
theorem ps_mlo (hc:Cmp prog w A s κ a₀) (hk:kindOf st=κ) {a b:Array Keyed} (ha:∀ x∈a.toList,x∈a₀.toList) (hb:∀ x∈b.toList,x∈a₀.toList) (na:1<=a.size) (nb:1<=b.size) {Q:Array Keyed->SortSt->Prop} (h:∀ r st',r.toList.Perm (a.toList++b.toList)->Sm st st'->Q r st'):wpS (model prog w) A E s (mlo a b) Q st:=by
 unfold mlo
 refine wpS_bind (wpS_lift (wpAny_rule ⟨rfl,?_⟩))
 refine wpS_bind (ps_elem nb ?_)
 dsimp only
 have m0:Mg a b #[b[0]] 0 1:=by
  have:Mg a b #[] 0 0:=by unfold Mg;simp
  exact this.pushB nb
 refine ps_beq (λ _=>wpS_pure (h _ _ m0.done ⟨rfl,rfl,rfl,rfl⟩)) λ z1=>ps_beq (λ _=>wpS_pure (h _ _ m0.last ⟨rfl,rfl,rfl,rfl⟩)) λ z2=>?_
 refine wpS_bind (wpS_get ?_)
 have mem1:∀ i,(hi:i < a.size)->a[i]∈a₀.toList:=λ i hi=>ha _ (by simp)
 have mem2:∀ i,(hi:i < b.size)->b[i]∈a₀.toList:=λ i hi=>hb _ (by simp)
 refine wpS_bind (wpS_mono (wpS_forRange (I:=λ x c st'=>Sm st st'/\∃ out i j g,c=(none,out,i,j,g)/\Mg a b out i j/\i+1 < a.size/\j < b.size/\x+1<=i+j) (Q:=λ c st'=>Sm st st'/\∃ r y,c=(some r,y)/\r.toList.Perm (a.toList++b.toList)) ?so ?fo ⟨⟨rfl,rfl,rfl,rfl⟩,_,_,_,_,rfl,m0,by lia,by lia,by lia⟩) ?po)
 case po =>
  rintro c st' ⟨sm,r,y,rfl,hr⟩
  exact wpS_pure (h r st' hr sm)
 case fo =>
  rintro c st' ⟨sm,out,i,j,g,rfl,mg,h1,h2,h3⟩
  lia
 case so =>
  rintro x c st1 _ hx ⟨sm,out,i,j,g,rfl,mg,h1,h2,h3⟩
  have hk1:kindOf st1=κ:=sm.kind.trans hk
  refine wpS_bind (wpS_mono (wpS_forRange (I:=λ y c st'=>st'=st1/\∃ out' i' j' ac bc,c=(none,out',i',j',ac,bc)/\Mg a b out' i' j'/\i'+1 < a.size/\j' < b.size/\i'+j'=i+j+y) (Q:=λ c st'=>st'=st1/\((∃ r y,c=(some r,y)/\r.toList.Perm (a.toList++b.toList)) \/ ∃ out' i' j' ac bc,c=(none,out',i',j',ac,bc)/\Mg a b out' i' j'/\i'+1 < a.size/\j' < b.size/\i+j < i'+j')) ?s1 ?f1 ⟨rfl,out,i,j,0,0,rfl,mg,h1,h2,rfl⟩) ?p1)
  case f1 =>
   rintro c st' ⟨rfl,out',i',j',ac,bc,rfl,mg',g1,g2,g3⟩
   lia
  case s1 =>
   rintro y c st' _ hy ⟨rfl,out',i',j',ac,bc,rfl,mg',g1,g2,g3⟩
   dsimp only
   refine wpS_bind (ps_elem g2 (wpS_bind (ps_elem (by lia) (wpS_bind (ps_lt hc hk1 (mem2 _ _) (mem1 _ _) λ b=>?_)))))
   cases b
   ·refine wpS_bind (ps_elem (by lia) ?_)
    have mA:=mg'.pushA (by lia)
    exact ps_beq (λ _=>wpS_pure ⟨rfl,.inl ⟨_,_,rfl,mA.last⟩⟩) λ z=>ps_ite (λ _=>wpS_pure ⟨rfl,.inr ⟨_,_,_,_,_,rfl,mA,by lia,by lia,by lia⟩⟩) λ _=>wpS_pure ⟨rfl,_,_,_,_,_,rfl,mA,by lia,by lia,by lia⟩
   ·refine wpS_bind (ps_elem g2 ?_)
    have mB:=mg'.pushB g2
    exact ps_beq (λ _=>wpS_pure ⟨rfl,.inl ⟨_,_,rfl,mB.done⟩⟩) λ z=>ps_ite (λ _=>wpS_pure ⟨rfl,.inr ⟨_,_,_,_,_,rfl,mB,by lia,by lia,by lia⟩⟩) λ _=>wpS_pure ⟨rfl,_,_,_,_,_,rfl,mB,by lia,by lia,by lia⟩
  case p1 =>
   rintro c st' ⟨rfl,⟨r,y,rfl,hr⟩|⟨out',i',j',ac,bc,rfl,mg',g1,g2,g3⟩⟩
   ·exact wpS_pure ⟨sm,_,_,rfl,hr⟩
   ·refine wpS_bind (wpS_lift (wpAny_rule ⟨rfl,?_⟩))
    refine wpS_bind (wpS_mono (wpS_forRange (I:=λ y c st'=>Sm st st'/\∃ out2 i2 j2 g2 ac bc,c=(none,out2,i2,j2,g2,ac,bc)/\Mg a b out2 i2 j2/\i2+1 < a.size/\j2 < b.size/\i'+j'+y<=i2+j2) (Q:=λ c st'=>Sm st st'/\((∃ r y,c=(some r,y)/\r.toList.Perm (a.toList++b.toList)) \/ ∃ out2 i2 j2 g2 ac bc,c=(none,out2,i2,j2,g2,ac,bc)/\Mg a b out2 i2 j2/\i2+1 < a.size/\j2 < b.size/\i'+j'<=i2+j2)) ?s2 ?f2 ⟨sm,out',i',j',_,_,_,rfl,mg',g1,g2,Nat.le_refl _⟩) ?p2)
    case f2 =>
     rintro c st' ⟨sm2,out2,i2,j2,g3,ac2,bc2,rfl,mg2,k1,k2,k3⟩
     lia
    case p2 =>
     rintro c st' ⟨sm2,⟨r,y,rfl,hr⟩|⟨out2,i2,j2,g3,ac2,bc2,rfl,mg2,k1,k2,k3⟩⟩
     ·exact wpS_pure ⟨sm2,_,_,rfl,hr⟩
     ·exact wpS_bind (wpS_modify (wpS_pure ⟨⟨sm2.arr,sm2.pend,sm2.kind,sm2.failed⟩,out2,i2,j2,_,rfl,mg2,k1,k2,by lia⟩))
    case s2 =>
     rintro y c st2 _ hy ⟨sm2,out2,i2,j2,g3,ac2,bc2,rfl,mg2,k1,k2,k3⟩
     dsimp only
     refine ps_ite (λ _=>?_) λ _=>?_
     ·refine wpS_bind (wpS_modify ?_)
      refine wpS_bind (ps_elem k2 ?_)
      refine wpS_bind (ps_gal (base:=i2) (n:=a.size - i2) (hint:=0) hc (by exact sm2.kind.trans hk) (mem2 _ _) ha (by lia) (by lia) λ k hk2=>?_)
      refine ps_ite (λ kp=>?_) λ kp=>?_
      ·have m3:=mg2.appA (k:=k) (by lia)
       refine ps_beq (λ _=>wpS_pure ⟨⟨sm2.arr,sm2.pend,sm2.kind,sm2.failed⟩,.inl ⟨_,_,rfl,m3.last⟩⟩) λ z1=>ps_beq (λ _=>wpS_pure ⟨⟨sm2.arr,sm2.pend,sm2.kind,sm2.failed⟩,.inl ⟨_,_,rfl,m3.done⟩⟩) λ z2=>?_
       refine wpS_bind (ps_elem k2 ?_)
       have m4:=m3.pushB k2
       refine ps_beq (λ _=>wpS_pure ⟨⟨sm2.arr,sm2.pend,sm2.kind,sm2.failed⟩,.inl ⟨_,_,rfl,m4.done⟩⟩) λ z3=>?_
       refine wpS_bind (ps_elem (by lia) ?_)
       refine wpS_bind (ps_gal (base:=j2+1) (n:=b.size - (j2+1)) (hint:=0) hc (by exact sm2.kind.trans hk) (mem1 _ _) hb (by lia) (by lia) λ k' hk3=>?_)
       refine ps_ite (λ kp2=>?_) λ kp2=>?_
       ·have m5:=m4.appB (k:=k') (by lia)
        refine ps_beq (λ _=>wpS_pure ⟨⟨sm2.arr,sm2.pend,sm2.kind,sm2.failed⟩,.inl ⟨_,_,rfl,m5.done⟩⟩) λ z4=>?_
        refine wpS_bind (ps_elem (by lia) ?_)
        have m6:=m5.pushA (by lia)
        exact ps_beq (λ _=>wpS_pure ⟨⟨sm2.arr,sm2.pend,sm2.kind,sm2.failed⟩,.inl ⟨_,_,rfl,m6.last⟩⟩) λ z5=>ps_ite (λ _=>wpS_pure ⟨⟨sm2.arr,sm2.pend,sm2.kind,sm2.failed⟩,.inr ⟨_,_,_,_,_,_,rfl,m6,by lia,by lia,by lia⟩⟩) λ _=>wpS_pure ⟨⟨sm2.arr,sm2.pend,sm2.kind,sm2.failed⟩,_,_,_,_,_,_,rfl,m6,by lia,by lia,by lia⟩
       ·refine wpS_bind (ps_elem (by lia) ?_)
        have m6:=m4.pushA (by lia)
        exact ps_beq (λ _=>wpS_pure ⟨⟨sm2.arr,sm2.pend,sm2.kind,sm2.failed⟩,.inl ⟨_,_,rfl,m6.last⟩⟩) λ z5=>ps_ite (λ _=>wpS_pure ⟨⟨sm2.arr,sm2.pend,sm2.kind,sm2.failed⟩,.inr ⟨_,_,_,_,_,_,rfl,m6,by lia,by lia,by lia⟩⟩) λ _=>wpS_pure ⟨⟨sm2.arr,sm2.pend,sm2.kind,sm2.failed⟩,_,_,_,_,_,_,rfl,m6,by lia,by lia,by lia⟩
      ·refine wpS_bind (ps_elem k2 ?_)
       have m4:=mg2.pushB k2
       refine ps_beq (λ _=>wpS_pure ⟨⟨sm2.arr,sm2.pend,sm2.kind,sm2.failed⟩,.inl ⟨_,_,rfl,m4.done⟩⟩) λ z3=>?_
       refine wpS_bind (ps_elem (by lia) ?_)
       refine wpS_bind (ps_gal (base:=j2+1) (n:=b.size - (j2+1)) (hint:=0) hc (by exact sm2.kind.trans hk) (mem1 _ _) hb (by lia) (by lia) λ k' hk3=>?_)
       refine ps_ite (λ kp2=>?_) λ kp2=>?_
       ·have m5:=m4.appB (k:=k') (by lia)
        refine ps_beq (λ _=>wpS_pure ⟨⟨sm2.arr,sm2.pend,sm2.kind,sm2.failed⟩,.inl ⟨_,_,rfl,m5.done⟩⟩) λ z4=>?_
        refine wpS_bind (ps_elem (by lia) ?_)
        have m6:=m5.pushA (by lia)
        exact ps_beq (λ _=>wpS_pure ⟨⟨sm2.arr,sm2.pend,sm2.kind,sm2.failed⟩,.inl ⟨_,_,rfl,m6.last⟩⟩) λ z5=>ps_ite (λ _=>wpS_pure ⟨⟨sm2.arr,sm2.pend,sm2.kind,sm2.failed⟩,.inr ⟨_,_,_,_,_,_,rfl,m6,by lia,by lia,by lia⟩⟩) λ _=>wpS_pure ⟨⟨sm2.arr,sm2.pend,sm2.kind,sm2.failed⟩,_,_,_,_,_,_,rfl,m6,by lia,by lia,by lia⟩
       ·refine wpS_bind (ps_elem (by lia) ?_)
        have m6:=m4.pushA (by lia)
        exact ps_beq (λ _=>wpS_pure ⟨⟨sm2.arr,sm2.pend,sm2.kind,sm2.failed⟩,.inl ⟨_,_,rfl,m6.last⟩⟩) λ z5=>ps_ite (λ _=>wpS_pure ⟨⟨sm2.arr,sm2.pend,sm2.kind,sm2.failed⟩,.inr ⟨_,_,_,_,_,_,rfl,m6,by lia,by lia,by lia⟩⟩) λ _=>wpS_pure ⟨⟨sm2.arr,sm2.pend,sm2.kind,sm2.failed⟩,_,_,_,_,_,_,rfl,m6,by lia,by lia,by lia⟩
     ·refine wpS_bind (wpS_modify ?_)
      refine wpS_bind (ps_elem k2 ?_)
      refine wpS_bind (ps_gal (base:=i2) (n:=a.size - i2) (hint:=0) hc (by exact sm2.kind.trans hk) (mem2 _ _) ha (by lia) (by lia) λ k hk2=>?_)
      refine ps_ite (λ kp=>?_) λ kp=>?_
      ·have m3:=mg2.appA (k:=k) (by lia)
       refine ps_beq (λ _=>wpS_pure ⟨⟨sm2.arr,sm2.pend,sm2.kind,sm2.failed⟩,.inl ⟨_,_,rfl,m3.last⟩⟩) λ z1=>ps_beq (λ _=>wpS_pure ⟨⟨sm2.arr,sm2.pend,sm2.kind,sm2.failed⟩,.inl ⟨_,_,rfl,m3.done⟩⟩) λ z2=>?_
       refine wpS_bind (ps_elem k2 ?_)
       have m4:=m3.pushB k2
       refine ps_beq (λ _=>wpS_pure ⟨⟨sm2.arr,sm2.pend,sm2.kind,sm2.failed⟩,.inl ⟨_,_,rfl,m4.done⟩⟩) λ z3=>?_
       refine wpS_bind (ps_elem (by lia) ?_)
       refine wpS_bind (ps_gal (base:=j2+1) (n:=b.size - (j2+1)) (hint:=0) hc (by exact sm2.kind.trans hk) (mem1 _ _) hb (by lia) (by lia) λ k' hk3=>?_)
       refine ps_ite (λ kp2=>?_) λ kp2=>?_
       ·have m5:=m4.appB (k:=k') (by lia)
        refine ps_beq (λ _=>wpS_pure ⟨⟨sm2.arr,sm2.pend,sm2.kind,sm2.failed⟩,.inl ⟨_,_,rfl,m5.done⟩⟩) λ z4=>?_
        refine wpS_bind (ps_elem (by lia) ?_)
        have m6:=m5.pushA (by lia)
        exact ps_beq (λ _=>wpS_pure ⟨⟨sm2.arr,sm2.pend,sm2.kind,sm2.failed⟩,.inl ⟨_,_,rfl,m6.last⟩⟩) λ z5=>ps_ite (λ _=>wpS_pure ⟨⟨sm2.arr,sm2.pend,sm2.kind,sm2.failed⟩,.inr ⟨_,_,_,_,_,_,rfl,m6,by lia,by lia,by lia⟩⟩) λ _=>wpS_pure ⟨⟨sm2.arr,sm2.pend,sm2.kind,sm2.failed⟩,_,_,_,_,_,_,rfl,m6,by lia,by lia,by lia⟩
       ·refine wpS_bind (ps_elem (by lia) ?_)
        have m6:=m4.pushA (by lia)
        exact ps_beq (λ _=>wpS_pure ⟨⟨sm2.arr,sm2.pend,sm2.kind,sm2.failed⟩,.inl ⟨_,_,rfl,m6.last⟩⟩) λ z5=>ps_ite (λ _=>wpS_pure ⟨⟨sm2.arr,sm2.pend,sm2.kind,sm2.failed⟩,.inr ⟨_,_,_,_,_,_,rfl,m6,by lia,by lia,by lia⟩⟩) λ _=>wpS_pure ⟨⟨sm2.arr,sm2.pend,sm2.kind,sm2.failed⟩,_,_,_,_,_,_,rfl,m6,by lia,by lia,by lia⟩
      ·refine wpS_bind (ps_elem k2 ?_)
       have m4:=mg2.pushB k2
       refine ps_beq (λ _=>wpS_pure ⟨⟨sm2.arr,sm2.pend,sm2.kind,sm2.failed⟩,.inl ⟨_,_,rfl,m4.done⟩⟩) λ z3=>?_
       refine wpS_bind (ps_elem (by lia) ?_)
       refine wpS_bind (ps_gal (base:=j2+1) (n:=b.size - (j2+1)) (hint:=0) hc (by exact sm2.kind.trans hk) (mem1 _ _) hb (by lia) (by lia) λ k' hk3=>?_)
       refine ps_ite (λ kp2=>?_) λ kp2=>?_
       ·have m5:=m4.appB (k:=k') (by lia)
        refine ps_beq (λ _=>wpS_pure ⟨⟨sm2.arr,sm2.pend,sm2.kind,sm2.failed⟩,.inl ⟨_,_,rfl,m5.done⟩⟩) λ z4=>?_
        refine wpS_bind (ps_elem (by lia) ?_)
        have m6:=m5.pushA (by lia)
        exact ps_beq (λ _=>wpS_pure ⟨⟨sm2.arr,sm2.pend,sm2.kind,sm2.failed⟩,.inl ⟨_,_,rfl,m6.last⟩⟩) λ z5=>ps_ite (λ _=>wpS_pure ⟨⟨sm2.arr,sm2.pend,sm2.kind,sm2.failed⟩,.inr ⟨_,_,_,_,_,_,rfl,m6,by lia,by lia,by lia⟩⟩) λ _=>wpS_pure ⟨⟨sm2.arr,sm2.pend,sm2.kind,sm2.failed⟩,_,_,_,_,_,_,rfl,m6,by lia,by lia,by lia⟩
       ·refine wpS_bind (ps_elem (by lia) ?_)
        have m6:=m4.pushA (by lia)
        exact ps_beq (λ _=>wpS_pure ⟨⟨sm2.arr,sm2.pend,sm2.kind,sm2.failed⟩,.inl ⟨_,_,rfl,m6.last⟩⟩) λ z5=>ps_ite (λ _=>wpS_pure ⟨⟨sm2.arr,sm2.pend,sm2.kind,sm2.failed⟩,.inr ⟨_,_,_,_,_,_,rfl,m6,by lia,by lia,by lia⟩⟩) λ _=>wpS_pure ⟨⟨sm2.arr,sm2.pend,sm2.kind,sm2.failed⟩,_,_,_,_,_,_,rfl,m6,by lia,by lia,by lia⟩
end
def Mh (a b out:Array Keyed) (p q:Nat):Prop:=out.toList.Perm (a.toList.drop p++b.toList.drop q)
section
variable {a b out:Array Keyed} {p q e:Nat}
theorem drop_pred (h0:0 < p) (h:p<=a.size):a.toList.drop (p - 1)=a[p - 1]'(by lia) :: a.toList.drop p:=by
 rw [List.drop_eq_getElem_cons (by simp;lia),Array.getElem_toList,show p - 1+1=p by lia]
theorem Mh.pushA (m:Mh a b out p q) (h0:0 < p) (h:p<=a.size):Mh a b (out.push (a[p - 1]'(by lia))) (p - 1) q:=by
 unfold Mh at m ⊢
 rw [Array.toList_push,drop_pred h0 h]
 exact (m.append_right _).trans List.perm_append_comm
theorem Mh.pushB (m:Mh a b out p q) (h0:0 < q) (h:q<=b.size):Mh a b (out.push (b[q - 1]'(by lia))) p (q - 1):=by
 unfold Mh at m ⊢
 rw [Array.toList_push,drop_pred h0 h]
 refine (m.append_right _).trans ?_
 rw [List.append_assoc]
 exact List.Perm.append_left _ List.perm_append_comm
theorem drop_app (h1:e<=p) (h:p<=a.size):a.toList.drop e=(a.extract e p).toList++a.toList.drop p:=by
 rw [Array.toList_extract,List.extract_eq_drop_take]
 conv=>lhs;rw [<- List.take_append_drop (p - e) (a.toList.drop e)]
 rw [List.drop_drop,show e+(p - e)=p by lia]
theorem Mh.appA (m:Mh a b out p q) (h1:e<=p) (h:p<=a.size):Mh a b (out++(a.extract e p).reverse) e q:=by
 unfold Mh at m ⊢
 rw [Array.toList_append,drop_app h1 h,Array.toList_reverse,List.append_assoc]
 exact (m.append_right _).trans (List.perm_append_comm.trans (List.Perm.append_right _ (List.reverse_perm _)))
theorem Mh.appB (m:Mh a b out p q) (h1:e<=q) (h:q<=b.size):Mh a b (out++(b.extract e q).reverse) p e:=by
 unfold Mh at m ⊢
 rw [Array.toList_append,drop_app h1 h,Array.toList_reverse]
 refine (m.append_right _).trans ?_
 rw [List.append_assoc]
 exact List.Perm.append_left _ (List.perm_append_comm.trans (List.Perm.append_right _ (List.reverse_perm _)))
theorem front_of (a:Array Keyed) (p:Nat):a.toList=(a.extract 0 p).toList++a.toList.drop p:=by
 rw [Array.toList_extract,List.extract_eq_drop_take,List.drop_zero,Nat.sub_zero,List.take_append_drop]
theorem Mh.done (m:Mh a b out p q):(a.extract 0 p++b.extract 0 q++out.reverse).toList.Perm (a.toList++b.toList):=by
 unfold Mh at m
 rw [Array.toList_append,Array.toList_append,Array.toList_reverse]
 conv=>rhs;rw [front_of a p,front_of b q]
 refine (List.Perm.append_left _ ((List.reverse_perm _).trans m)).trans ?_
 have:=perm4 (a.extract 0 p).toList (a.toList.drop p) (b.extract 0 q).toList (b.toList.drop q)
 rw [List.append_assoc ((a.extract 0 p).toList++(b.extract 0 q).toList)] at this
 exact this
theorem Mh.first (m:Mh a b out p q):(b.extract 0 q++a.extract 0 p++out.reverse).toList.Perm (a.toList++b.toList):=by
 have:=m.done
 rw [Array.toList_append,Array.toList_append] at this ⊢
 exact (List.Perm.append_right _ List.perm_append_comm).trans this
end
section
variable {prog:Program} {w:World} {A:Around} {E:Value->Shared->Prop} {s:Shared} {κ:SortKind} {a₀:Array Keyed} {st:SortSt}
theorem ps_mhi (hc:Cmp prog w A s κ a₀) (hk:kindOf st=κ) {a b:Array Keyed} (ha:∀ x∈a.toList,x∈a₀.toList) (hb:∀ x∈b.toList,x∈a₀.toList) (na:1<=a.size) (nb:1<=b.size) {Q:Array Keyed->SortSt->Prop} (h:∀ r st',r.toList.Perm (a.toList++b.toList)->Sm st st'->Q r st'):wpS (model prog w) A E s (mhi a b) Q st:=by
 unfold mhi
 refine wpS_bind (wpS_lift (wpAny_rule ⟨rfl,?_⟩))
 refine wpS_bind (ps_elem (by lia) ?_)
 dsimp only
 have m0:Mh a b #[a[a.size - 1]'(by lia)] (a.size - 1) b.size:=by
  have:Mh a b #[] a.size b.size:=by unfold Mh;simp
  exact this.pushA (by lia) (Nat.le_refl _)
 refine ps_beq (λ _=>wpS_pure (h _ _ m0.done ⟨rfl,rfl,rfl,rfl⟩)) λ z1=>ps_beq (λ _=>wpS_pure (h _ _ m0.first ⟨rfl,rfl,rfl,rfl⟩)) λ z2=>?_
 refine wpS_bind (wpS_get ?_)
 have mem1:∀ i,(hi:i < a.size)->a[i]∈a₀.toList:=λ i hi=>ha _ (by simp)
 have mem2:∀ i,(hi:i < b.size)->b[i]∈a₀.toList:=λ i hi=>hb _ (by simp)
 refine wpS_bind (wpS_mono (wpS_forRange (I:=λ x c st'=>Sm st st'/\∃ p q out g,c=(none,p,q,out,g)/\Mh a b out p q/\1<=p/\p<=a.size/\2<=q/\q<=b.size/\x+1+(p+q)<=a.size+b.size) (Q:=λ c st'=>Sm st st'/\∃ r y,c=(some r,y)/\r.toList.Perm (a.toList++b.toList)) ?so ?fo ⟨⟨rfl,rfl,rfl,rfl⟩,_,_,_,_,rfl,m0,by lia,by lia,by lia,by lia,by lia⟩) ?po)
 case po =>
  rintro c st' ⟨sm,r,y,rfl,hr⟩
  exact wpS_pure (h r st' hr sm)
 case fo =>
  rintro c st' ⟨sm,p,q,out,g,rfl,mg,h1,h2,h3,h4,h5⟩
  lia
 case so =>
  rintro x c st1 _ hx ⟨sm,p,q,out,g,rfl,mg,h1,h2,h3,h4,h5⟩
  have hk1:kindOf st1=κ:=sm.kind.trans hk
  refine wpS_bind (wpS_mono (wpS_forRange (I:=λ y c st'=>st'=st1/\∃ p' q' out' ac bc,c=(none,p',q',out',ac,bc)/\Mh a b out' p' q'/\1<=p'/\p'<=a.size/\2<=q'/\q'<=b.size/\p'+q'+y=p+q) (Q:=λ c st'=>st'=st1/\((∃ r y,c=(some r,y)/\r.toList.Perm (a.toList++b.toList)) \/ ∃ p' q' out' ac bc,c=(none,p',q',out',ac,bc)/\Mh a b out' p' q'/\1<=p'/\p'<=a.size/\2<=q'/\q'<=b.size/\p'+q' < p+q)) ?s1 ?f1 ⟨rfl,p,q,out,0,0,rfl,mg,h1,h2,h3,h4,rfl⟩) ?p1)
  case f1 =>
   rintro c st' ⟨rfl,p',q',out',ac,bc,rfl,mg',g1,g2,g3,g4,g5⟩
   lia
  case s1 =>
   rintro y c st' _ hy ⟨rfl,p',q',out',ac,bc,rfl,mg',g1,g2,g3,g4,g5⟩
   dsimp only
   refine wpS_bind (ps_elem (by lia) (wpS_bind (ps_elem (by lia) (wpS_bind (ps_lt hc hk1 (mem2 _ _) (mem1 _ _) λ b=>?_)))))
   cases b
   ·refine wpS_bind (ps_elem (by lia) ?_)
    have mB:=mg'.pushB (by lia) g4
    exact ps_beq (λ _=>wpS_pure ⟨rfl,.inl ⟨_,_,rfl,mB.first⟩⟩) λ z=>ps_ite (λ _=>wpS_pure ⟨rfl,.inr ⟨_,_,_,_,_,rfl,mB,by lia,by lia,by lia,by lia,by lia⟩⟩) λ _=>wpS_pure ⟨rfl,_,_,_,_,_,rfl,mB,by lia,by lia,by lia,by lia,by lia⟩
   ·refine wpS_bind (ps_elem (by lia) ?_)
    have mA:=mg'.pushA (by lia) g2
    exact ps_beq (λ _=>wpS_pure ⟨rfl,.inl ⟨_,_,rfl,mA.done⟩⟩) λ z=>ps_ite (λ _=>wpS_pure ⟨rfl,.inr ⟨_,_,_,_,_,rfl,mA,by lia,by lia,by lia,by lia,by lia⟩⟩) λ _=>wpS_pure ⟨rfl,_,_,_,_,_,rfl,mA,by lia,by lia,by lia,by lia,by lia⟩
  case p1 =>
   rintro c st' ⟨rfl,⟨r,y,rfl,hr⟩|⟨p',q',out',ac,bc,rfl,mg',g1,g2,g3,g4,g5⟩⟩
   ·exact wpS_pure ⟨sm,_,_,rfl,hr⟩
   ·refine wpS_bind (wpS_lift (wpAny_rule ⟨rfl,?_⟩))
    refine wpS_bind (wpS_mono (wpS_forRange (I:=λ y c st'=>Sm st st'/\∃ p2 q2 out2 g2 ac bc,c=(none,p2,q2,out2,g2,ac,bc)/\Mh a b out2 p2 q2/\1<=p2/\p2<=a.size/\2<=q2/\q2<=b.size/\p2+q2+y<=p'+q') (Q:=λ c st'=>Sm st st'/\((∃ r y,c=(some r,y)/\r.toList.Perm (a.toList++b.toList)) \/ ∃ p2 q2 out2 g2 ac bc,c=(none,p2,q2,out2,g2,ac,bc)/\Mh a b out2 p2 q2/\1<=p2/\p2<=a.size/\2<=q2/\q2<=b.size/\p2+q2<=p'+q')) ?s2 ?f2 ⟨sm,p',q',out',_,_,_,rfl,mg',g1,g2,g3,g4,Nat.le_refl _⟩) ?p2)
    case f2 =>
     rintro c st' ⟨sm2,p2,q2,out2,g3,ac2,bc2,rfl,mg2,k1,k2,k3,k4,k5⟩
     lia
    case p2 =>
     rintro c st' ⟨sm2,⟨r,y,rfl,hr⟩|⟨p2,q2,out2,g3,ac2,bc2,rfl,mg2,k1,k2,k3,k4,k5⟩⟩
     ·exact wpS_pure ⟨sm2,_,_,rfl,hr⟩
     ·exact wpS_bind (wpS_modify (wpS_pure ⟨⟨sm2.arr,sm2.pend,sm2.kind,sm2.failed⟩,p2,q2,out2,_,rfl,mg2,k1,k2,k3,k4,by lia⟩))
    case s2 =>
     rintro y c st2 _ hy ⟨sm2,p2,q2,out2,g3,ac2,bc2,rfl,mg2,k1,k2,k3,k4,k5⟩
     dsimp only
     refine ps_ite (λ _=>?_) λ _=>?_
     ·refine wpS_bind (wpS_modify ?_)
      refine wpS_bind (ps_elem (by lia) ?_)
      refine wpS_bind (ps_gal (base:=0) (n:=p2) (hint:=p2 - 1) hc (by exact sm2.kind.trans hk) (mem2 _ _) ha (by lia) (by lia) λ e he=>?_)
      refine ps_ite (λ kp=>?_) λ kp=>?_
      ·have m3:=mg2.appA (e:=e) (by lia) (by lia)
       refine ps_beq (λ _=>wpS_pure ⟨⟨sm2.arr,sm2.pend,sm2.kind,sm2.failed⟩,.inl ⟨_,_,rfl,m3.done⟩⟩) λ z1=>?_
       refine wpS_bind (ps_elem (by lia) ?_)
       have m4:=m3.pushB (by lia) (by lia)
       refine ps_beq (λ _=>wpS_pure ⟨⟨sm2.arr,sm2.pend,sm2.kind,sm2.failed⟩,.inl ⟨_,_,rfl,m4.first⟩⟩) λ z3=>?_
       refine wpS_bind (ps_elem (by lia) ?_)
       refine wpS_bind (ps_gal (base:=0) (n:=q2 - 1) (hint:=q2 - 1 - 1) hc (by exact sm2.kind.trans hk) (mem1 _ _) hb (by lia) (by lia) λ e' he'=>?_)
       refine ps_ite (λ kp2=>?_) λ kp2=>?_
       ·have m5:=m4.appB (e:=e') (by lia) (by lia)
        refine ps_beq (λ _=>wpS_pure ⟨⟨sm2.arr,sm2.pend,sm2.kind,sm2.failed⟩,.inl ⟨_,_,rfl,m5.first⟩⟩) λ z4=>ps_beq (λ _=>wpS_pure ⟨⟨sm2.arr,sm2.pend,sm2.kind,sm2.failed⟩,.inl ⟨_,_,rfl,m5.done⟩⟩) λ z6=>?_
        refine wpS_bind (ps_elem (by lia) ?_)
        have m6:=m5.pushA (by lia) (by lia)
        exact ps_beq (λ _=>wpS_pure ⟨⟨sm2.arr,sm2.pend,sm2.kind,sm2.failed⟩,.inl ⟨_,_,rfl,m6.done⟩⟩) λ z5=>ps_ite (λ _=>wpS_pure ⟨⟨sm2.arr,sm2.pend,sm2.kind,sm2.failed⟩,.inr ⟨_,_,_,_,_,_,rfl,m6,by lia,by lia,by lia,by lia,by lia⟩⟩) λ _=>wpS_pure ⟨⟨sm2.arr,sm2.pend,sm2.kind,sm2.failed⟩,_,_,_,_,_,_,rfl,m6,by lia,by lia,by lia,by lia,by lia⟩
       ·refine wpS_bind (ps_elem (by lia) ?_)
        have m6:=m4.pushA (by lia) (by lia)
        exact ps_beq (λ _=>wpS_pure ⟨⟨sm2.arr,sm2.pend,sm2.kind,sm2.failed⟩,.inl ⟨_,_,rfl,m6.done⟩⟩) λ z5=>ps_ite (λ _=>wpS_pure ⟨⟨sm2.arr,sm2.pend,sm2.kind,sm2.failed⟩,.inr ⟨_,_,_,_,_,_,rfl,m6,by lia,by lia,by lia,by lia,by lia⟩⟩) λ _=>wpS_pure ⟨⟨sm2.arr,sm2.pend,sm2.kind,sm2.failed⟩,_,_,_,_,_,_,rfl,m6,by lia,by lia,by lia,by lia,by lia⟩
      ·refine wpS_bind (ps_elem (by lia) ?_)
       have m4:=mg2.pushB (by lia) (by lia)
       refine ps_beq (λ _=>wpS_pure ⟨⟨sm2.arr,sm2.pend,sm2.kind,sm2.failed⟩,.inl ⟨_,_,rfl,m4.first⟩⟩) λ z3=>?_
       refine wpS_bind (ps_elem (by lia) ?_)
       refine wpS_bind (ps_gal (base:=0) (n:=q2 - 1) (hint:=q2 - 1 - 1) hc (by exact sm2.kind.trans hk) (mem1 _ _) hb (by lia) (by lia) λ e' he'=>?_)
       refine ps_ite (λ kp2=>?_) λ kp2=>?_
       ·have m5:=m4.appB (e:=e') (by lia) (by lia)
        refine ps_beq (λ _=>wpS_pure ⟨⟨sm2.arr,sm2.pend,sm2.kind,sm2.failed⟩,.inl ⟨_,_,rfl,m5.first⟩⟩) λ z4=>ps_beq (λ _=>wpS_pure ⟨⟨sm2.arr,sm2.pend,sm2.kind,sm2.failed⟩,.inl ⟨_,_,rfl,m5.done⟩⟩) λ z6=>?_
        refine wpS_bind (ps_elem (by lia) ?_)
        have m6:=m5.pushA (by lia) (by lia)
        exact ps_beq (λ _=>wpS_pure ⟨⟨sm2.arr,sm2.pend,sm2.kind,sm2.failed⟩,.inl ⟨_,_,rfl,m6.done⟩⟩) λ z5=>ps_ite (λ _=>wpS_pure ⟨⟨sm2.arr,sm2.pend,sm2.kind,sm2.failed⟩,.inr ⟨_,_,_,_,_,_,rfl,m6,by lia,by lia,by lia,by lia,by lia⟩⟩) λ _=>wpS_pure ⟨⟨sm2.arr,sm2.pend,sm2.kind,sm2.failed⟩,_,_,_,_,_,_,rfl,m6,by lia,by lia,by lia,by lia,by lia⟩
       ·refine wpS_bind (ps_elem (by lia) ?_)
        have m6:=m4.pushA (by lia) (by lia)
        exact ps_beq (λ _=>wpS_pure ⟨⟨sm2.arr,sm2.pend,sm2.kind,sm2.failed⟩,.inl ⟨_,_,rfl,m6.done⟩⟩) λ z5=>ps_ite (λ _=>wpS_pure ⟨⟨sm2.arr,sm2.pend,sm2.kind,sm2.failed⟩,.inr ⟨_,_,_,_,_,_,rfl,m6,by lia,by lia,by lia,by lia,by lia⟩⟩) λ _=>wpS_pure ⟨⟨sm2.arr,sm2.pend,sm2.kind,sm2.failed⟩,_,_,_,_,_,_,rfl,m6,by lia,by lia,by lia,by lia,by lia⟩
     ·refine wpS_bind (wpS_modify ?_)
      refine wpS_bind (ps_elem (by lia) ?_)
      refine wpS_bind (ps_gal (base:=0) (n:=p2) (hint:=p2 - 1) hc (by exact sm2.kind.trans hk) (mem2 _ _) ha (by lia) (by lia) λ e he=>?_)
      refine ps_ite (λ kp=>?_) λ kp=>?_
      ·have m3:=mg2.appA (e:=e) (by lia) (by lia)
       refine ps_beq (λ _=>wpS_pure ⟨⟨sm2.arr,sm2.pend,sm2.kind,sm2.failed⟩,.inl ⟨_,_,rfl,m3.done⟩⟩) λ z1=>?_
       refine wpS_bind (ps_elem (by lia) ?_)
       have m4:=m3.pushB (by lia) (by lia)
       refine ps_beq (λ _=>wpS_pure ⟨⟨sm2.arr,sm2.pend,sm2.kind,sm2.failed⟩,.inl ⟨_,_,rfl,m4.first⟩⟩) λ z3=>?_
       refine wpS_bind (ps_elem (by lia) ?_)
       refine wpS_bind (ps_gal (base:=0) (n:=q2 - 1) (hint:=q2 - 1 - 1) hc (by exact sm2.kind.trans hk) (mem1 _ _) hb (by lia) (by lia) λ e' he'=>?_)
       refine ps_ite (λ kp2=>?_) λ kp2=>?_
       ·have m5:=m4.appB (e:=e') (by lia) (by lia)
        refine ps_beq (λ _=>wpS_pure ⟨⟨sm2.arr,sm2.pend,sm2.kind,sm2.failed⟩,.inl ⟨_,_,rfl,m5.first⟩⟩) λ z4=>ps_beq (λ _=>wpS_pure ⟨⟨sm2.arr,sm2.pend,sm2.kind,sm2.failed⟩,.inl ⟨_,_,rfl,m5.done⟩⟩) λ z6=>?_
        refine wpS_bind (ps_elem (by lia) ?_)
        have m6:=m5.pushA (by lia) (by lia)
        exact ps_beq (λ _=>wpS_pure ⟨⟨sm2.arr,sm2.pend,sm2.kind,sm2.failed⟩,.inl ⟨_,_,rfl,m6.done⟩⟩) λ z5=>ps_ite (λ _=>wpS_pure ⟨⟨sm2.arr,sm2.pend,sm2.kind,sm2.failed⟩,.inr ⟨_,_,_,_,_,_,rfl,m6,by lia,by lia,by lia,by lia,by lia⟩⟩) λ _=>wpS_pure ⟨⟨sm2.arr,sm2.pend,sm2.kind,sm2.failed⟩,_,_,_,_,_,_,rfl,m6,by lia,by lia,by lia,by lia,by lia⟩
       ·refine wpS_bind (ps_elem (by lia) ?_)
        have m6:=m4.pushA (by lia) (by lia)
        exact ps_beq (λ _=>wpS_pure ⟨⟨sm2.arr,sm2.pend,sm2.kind,sm2.failed⟩,.inl ⟨_,_,rfl,m6.done⟩⟩) λ z5=>ps_ite (λ _=>wpS_pure ⟨⟨sm2.arr,sm2.pend,sm2.kind,sm2.failed⟩,.inr ⟨_,_,_,_,_,_,rfl,m6,by lia,by lia,by lia,by lia,by lia⟩⟩) λ _=>wpS_pure ⟨⟨sm2.arr,sm2.pend,sm2.kind,sm2.failed⟩,_,_,_,_,_,_,rfl,m6,by lia,by lia,by lia,by lia,by lia⟩
      ·refine wpS_bind (ps_elem (by lia) ?_)
       have m4:=mg2.pushB (by lia) (by lia)
       refine ps_beq (λ _=>wpS_pure ⟨⟨sm2.arr,sm2.pend,sm2.kind,sm2.failed⟩,.inl ⟨_,_,rfl,m4.first⟩⟩) λ z3=>?_
       refine wpS_bind (ps_elem (by lia) ?_)
       refine wpS_bind (ps_gal (base:=0) (n:=q2 - 1) (hint:=q2 - 1 - 1) hc (by exact sm2.kind.trans hk) (mem1 _ _) hb (by lia) (by lia) λ e' he'=>?_)
       refine ps_ite (λ kp2=>?_) λ kp2=>?_
       ·have m5:=m4.appB (e:=e') (by lia) (by lia)
        refine ps_beq (λ _=>wpS_pure ⟨⟨sm2.arr,sm2.pend,sm2.kind,sm2.failed⟩,.inl ⟨_,_,rfl,m5.first⟩⟩) λ z4=>ps_beq (λ _=>wpS_pure ⟨⟨sm2.arr,sm2.pend,sm2.kind,sm2.failed⟩,.inl ⟨_,_,rfl,m5.done⟩⟩) λ z6=>?_
        refine wpS_bind (ps_elem (by lia) ?_)
        have m6:=m5.pushA (by lia) (by lia)
        exact ps_beq (λ _=>wpS_pure ⟨⟨sm2.arr,sm2.pend,sm2.kind,sm2.failed⟩,.inl ⟨_,_,rfl,m6.done⟩⟩) λ z5=>ps_ite (λ _=>wpS_pure ⟨⟨sm2.arr,sm2.pend,sm2.kind,sm2.failed⟩,.inr ⟨_,_,_,_,_,_,rfl,m6,by lia,by lia,by lia,by lia,by lia⟩⟩) λ _=>wpS_pure ⟨⟨sm2.arr,sm2.pend,sm2.kind,sm2.failed⟩,_,_,_,_,_,_,rfl,m6,by lia,by lia,by lia,by lia,by lia⟩
       ·refine wpS_bind (ps_elem (by lia) ?_)
        have m6:=m4.pushA (by lia) (by lia)
        exact ps_beq (λ _=>wpS_pure ⟨⟨sm2.arr,sm2.pend,sm2.kind,sm2.failed⟩,.inl ⟨_,_,rfl,m6.done⟩⟩) λ z5=>ps_ite (λ _=>wpS_pure ⟨⟨sm2.arr,sm2.pend,sm2.kind,sm2.failed⟩,.inr ⟨_,_,_,_,_,_,rfl,m6,by lia,by lia,by lia,by lia,by lia⟩⟩) λ _=>wpS_pure ⟨⟨sm2.arr,sm2.pend,sm2.kind,sm2.failed⟩,_,_,_,_,_,_,rfl,m6,by lia,by lia,by lia,by lia,by lia⟩
end
theorem write_at (sa:Nat):∀ (l:List Keyed) (k:Nat) (xs:Array Keyed),sa+k+l.length<=xs.size->((l.zipIdx k).foldl (λ a (q:Keyed×Nat)=>a.setIfInBounds (sa+q.2) q.1) xs).toList=xs.toList.take (sa+k)++l++xs.toList.drop (sa+k+l.length)
|[],k,xs,h=>by simp
|x :: r,k,xs,h=>by
  rw [List.length_cons] at h
  rw [List.zipIdx_cons,List.foldl_cons,write_at sa r (k+1) _ (by rw [Array.size_setIfInBounds];lia),Array.toList_setIfInBounds]
  have hk:sa+k < xs.toList.length:=by simp;lia
  rw [List.take_set,List.drop_set_of_lt (by lia),show sa+(k+1)=sa+k+1 by lia,List.take_succ,List.getElem?_eq_getElem hk]
  simp only [Option.toList,List.length_cons]
  rw [List.set_append_right _ _ (by simp;lia),List.length_take,Nat.min_eq_left (by lia),Nat.sub_self,List.set_cons_zero,show sa+k+1+r.length=sa+k+(r.length+1) by lia]
  simp
section
variable {prog:Program} {w:World} {A:Around} {E:Value->Shared->Prop} {s:Shared} {κ:SortKind} {a₀:Array Keyed} {st:SortSt}
theorem ps_set {st':SortSt} {Q:PUnit->SortSt->Prop} (h:Q ⟨⟩ st'):wpS (model prog w) A E s (set st':StateT SortSt Sem PUnit) Q st:=by
 unfold wpS;rw [StateT.run_set];exact wpAny_pure ⟨rfl,h⟩
theorem ps_mergeAt (hc:Cmp prog w A s κ a₀) (hB:PB κ a₀ st) {i sa na pa nb pb:Nat} (e1:(pendingOf st)[i]?=some (sa,na,pa)) (e2:(pendingOf st)[i+1]?=some (sa+na,nb,pb)) (h1:1<=na) (h2:1<=nb) (h3:sa+na+nb<=a₀.size) {Q:Bool->SortSt->Prop}
  (h:∀ st',PB κ a₀ st'->pendingOf st'=((pendingOf st).setIfInBounds i (sa,na+nb,pa)).eraseIdxIfInBounds (i+1)->Q true st'):wpS (model prog w) A E s (mergeAt' i) Q st:=by
 unfold mergeAt'
 refine wpS_bind (wpS_get ?_)
 rw [e1,e2]
 dsimp only
 refine wpS_bind (ps_set ?_)
 have sz:=hB.size
 have memA:∀ x∈(arrOf st).toList,x∈a₀.toList:=λ x hx=>hB.mem hx
 refine wpS_bind (ps_elem (by rw [sz];lia) ?_)
 refine wpS_bind (ps_gal (base:=sa) (n:=na) (hint:=0) hc (by exact hB.kind) (memA _ (by simp)) memA (by rw [sz];lia) (by lia) λ k hk=>?_)
 refine ps_beq (λ _=>wpS_pure (h _ ⟨hB.perm,hB.kind,hB.failed⟩ rfl)) λ z1=>?_
 refine wpS_bind (ps_elem (by rw [sz];lia) ?_)
 refine wpS_bind (ps_gal (base:=sa+na) (n:=nb) (hint:=nb - 1) hc (by exact hB.kind) (memA _ (by simp)) memA (by rw [sz];lia) (by lia) λ m hm=>?_)
 refine ps_beq (λ _=>wpS_pure (h _ ⟨hB.perm,hB.kind,hB.failed⟩ rfl)) λ z2=>?_
 have szX:((arrOf st).extract (sa+k) (sa+na)).size=na - k:=by rw [Array.size_extract,sz];lia
 have szY:((arrOf st).extract (sa+na) (sa+na+m)).size=m:=by rw [Array.size_extract,sz];lia
 have memX:∀ x∈((arrOf st).extract (sa+k) (sa+na)).toList,x∈a₀.toList:=λ x hx=>memA x (by
  rw [Array.toList_extract,List.extract_eq_drop_take] at hx
  exact List.mem_of_mem_drop (List.mem_of_mem_take hx))
 have memY:∀ x∈((arrOf st).extract (sa+na) (sa+na+m)).toList,x∈a₀.toList:=λ x hx=>memA x (by
  rw [Array.toList_extract,List.extract_eq_drop_take] at hx
  exact List.mem_of_mem_drop (List.mem_of_mem_take hx))
 have wr:∀ (r:Array Keyed) (st':SortSt),r.toList.Perm (((arrOf st).extract (sa+k) (sa+na)).toList++((arrOf st).extract (sa+na) (sa+na+m)).toList)->Sm (SortSt.mk' (kindOf st) (arrOf st) (((pendingOf st).setIfInBounds i (sa,na+nb,pa)).eraseIdxIfInBounds (i+1)) (gallopOf st) (failedOf st)) st' ->
   Q (failedOf (setArr st' (r.toList.zipIdx.foldl (λ a (q:Keyed×Nat)=>a.setIfInBounds (sa+k+q.2) q.1) (arrOf st')))).isNone (setArr st' (r.toList.zipIdx.foldl (λ a (q:Keyed×Nat)=>a.setIfInBounds (sa+k+q.2) q.1) (arrOf st'))):=λ r st' hr sm=>by
  have ef:failedOf st'=none:=sm.failed.trans hB.failed
  have lr:r.toList.length=na - k+m:=by
   rw [hr.length_eq,List.length_append,Array.length_toList,Array.length_toList,szX,szY]
  have ea:arrOf st'=arrOf st:=sm.arr
  have hw:=write_at (sa+k) r.toList 0 (arrOf st') (by rw [ea,sz];lia)
  show Q (failedOf st').isNone _
  rw [ef]
  refine h _ ⟨?_,sm.kind.trans hB.kind,ef⟩ sm.pend
  refine Array.Perm.trans ?_ hB.perm
  rw [Array.perm_iff_toList_perm]
  show ((r.toList.zipIdx.foldl (λ a (q:Keyed×Nat)=>a.setIfInBounds (sa+k+q.2) q.1) (arrOf st'))).toList.Perm _
  rw [hw,ea,Nat.add_zero,lr]
  have e3:(arrOf st).toList=(arrOf st).toList.take (sa+k)++(((arrOf st).extract (sa+k) (sa+na)).toList++((arrOf st).extract (sa+na) (sa+na+m)).toList)++(arrOf st).toList.drop (sa+k+(na - k+m)):=by
   have t1:=take_app (a:=arrOf st) (i:=sa+k) (k:=na - k) (by rw [sz];lia)
   have t2:=take_app (a:=arrOf st) (i:=sa+na) (k:=m) (by rw [sz];lia)
   rw [show sa+k+(na - k)=sa+na by lia] at t1
   conv=>lhs;rw [<- List.take_append_drop (sa+na+m) (arrOf st).toList,t2,t1]
   rw [show sa+k+(na - k+m)=sa+na+m by lia,List.append_assoc ((arrOf st).toList.take (sa+k))]
  conv=>rhs;rw [e3]
  exact (List.Perm.append_left _ hr).append_right _
 refine ps_ite (λ _=>?_) λ _=>?_
 ·refine wpS_bind (ps_mlo hc (by exact hB.kind) memX memY (by rw [szX];lia) (by rw [szY];lia) λ r st' hr sm=>?_)
  refine wpS_bind (wpS_modify (wpS_bind (wpS_get (wpS_pure ?_))))
  exact wr r st' hr sm
 ·refine wpS_bind (ps_mhi hc (by exact hB.kind) memX memY (by rw [szX];lia) (by rw [szY];lia) λ r st' hr sm=>?_)
  refine wpS_bind (wpS_modify (wpS_bind (wpS_get (wpS_pure ?_))))
  exact wr r st' hr sm
end
def Chn:List (Nat×Nat×Nat)->Nat->Nat->Prop
|[],b,e=>b=e
|q :: r,b,e=>q.1=b/\1<=q.2.1/\Chn r (b+q.2.1) e
theorem Chn.le:∀ {l:List (Nat×Nat×Nat)} {b e:Nat},Chn l b e->b<=e
|[],_,_,h=>Nat.le_of_eq h
|q :: r,b,e,h=>by have:=Chn.le h.2.2;lia
theorem Chn.snoc:∀ {l:List (Nat×Nat×Nat)} {b e n p:Nat},Chn l b e->1<=n->Chn (l++[(e,n,p)]) b (e+n)
|[],_,_,_,_,h,hn=>by cases h;exact ⟨rfl,hn,rfl⟩
|q :: r,b,e,n,p,h,hn=>⟨h.1,h.2.1,Chn.snoc h.2.2 hn⟩
theorem Chn.two:∀ {l:List (Nat×Nat×Nat)} {b e i:Nat},Chn l b e->i+1 < l.length->∃ sa na pa nb pb,l[i]?=some (sa,na,pa)/\l[i+1]?=some (sa+na,nb,pb)/\1<=na/\1<=nb/\sa+na+nb<=e/\Chn ((l.set i (sa,na+nb,pa)).eraseIdx (i+1)) b e
|(x,n,p) :: (y,m,p') :: r,b,e,0,h,_=>by
  obtain ⟨h1,h2,h3,h4,h5⟩:=h
  have h1:x=b:=h1
  have h3:y=b+n:=h3
  subst h1 h3
  have le:=h5.le
  refine ⟨_,_,_,_,_,rfl,rfl,h2,h4,le,rfl,?_,?_⟩
  ·show 1<=n+m
   have h2:1<=n:=h2
   lia
  ·show Chn r (x+(n+m)) e
   rw [show x+(n+m)=x+n+m by lia];exact h5
|q :: r,b,e,i+1,h,hl=>by
  obtain ⟨sa,na,pa,nb,pb,g1,g2,g3,g4,g5,g6⟩:=Chn.two (i:=i) h.2.2 (by simpa using hl)
  exact ⟨sa,na,pa,nb,pb,by simpa using g1,by simpa using g2,g3,g4,g5,h.1,h.2.1,g6⟩
|[_],_,_,0,_,h=>by simp at h
|[],_,_,_,_,h=>by simp at h
theorem Chn.pow:∀ {l:List (Nat×Nat×Nat)} {b e i pw:Nat},Chn l b e->Chn (l.modify i λ q=>(q.1,q.2.1,pw)) b e
|[],_,_,_,_,h=>by simpa using h
|q :: r,b,e,0,pw,h=>by simpa [Chn] using h
|q :: r,b,e,i+1,pw,h=>by
  rw [List.modify_succ_cons]
  exact ⟨h.1,h.2.1,Chn.pow h.2.2⟩
section
variable {prog:Program} {w:World} {A:Around} {E:Value->Shared->Prop} {s:Shared} {κ:SortKind} {a₀:Array Keyed} {st:SortSt}
theorem ite_lt {c:Prop} [Decidable c] {u v n:Nat} (h1:u+1 < n) (h2:v+1 < n):(if c then u else v)+1 < n:=by split <;> assumption
theorem ps_merge (hc:Cmp prog w A s κ a₀) (hB:PB κ a₀ st) {i e:Nat} (hch:Chn (pendingOf st).toList 0 e) (he:e<=a₀.size) (hi:i+1 < (pendingOf st).size) {Q:Bool->SortSt->Prop} (h:∀ st',PB κ a₀ st'->Chn (pendingOf st').toList 0 e->Q true st'):wpS (model prog w) A E s (mergeAt' i) Q st:=by
 obtain ⟨sa,na,pa,nb,pb,g1,g2,g3,g4,g5,g6⟩:=hch.two (i:=i) (by simpa using hi)
 refine ps_mergeAt hc hB (by rw [<- Array.getElem?_toList];exact g1) (by rw [<- Array.getElem?_toList];exact g2) g3 g4 (by lia) λ st' b1 b2=>h st' b1 ?_
 rw [b2]
 simp only [Array.toList_eraseIdxIfInBounds,Array.toList_setIfInBounds]
 exact g6
theorem ps_runs (hc:Cmp prog w A s κ a₀) (hB:PB κ a₀ st) (hp:pendingOf st=#[]) {Q:Unit->SortSt->Prop} (h:∀ st',PB κ a₀ st'->Q () st'):wpS (model prog w) A E s sortRuns' Q st:=by
 rw [sortRuns'_eq]
 refine wpS_bind (wpS_get ?_)
 dsimp only
 rw [hB.size]
 generalize minRun' a₀.size a₀.size 0=mr
 refine wpS_bind (wpS_mono (wpS_forRange (I:=λ _ c st'=>∃ lo,c=(none,lo)/\PB κ a₀ st'/\Chn (pendingOf st').toList 0 lo/\lo<=a₀.size) (Q:=λ c st'=>∃ lo,c=(none,lo)/\PB κ a₀ st'/\Chn (pendingOf st').toList 0 lo/\lo<=a₀.size) ?step (λ c st' z=>z) ⟨0,rfl,hB,by rw [hp];rfl,Nat.zero_le _⟩) ?post)
 case post =>
  rintro c st' ⟨lo,rfl,b1,b2,b3⟩
  dsimp only
  refine wpS_bind (wpS_mono (wpS_forRange (I:=λ _ c st2=>c=(none,())/\PB κ a₀ st2/\Chn (pendingOf st2).toList 0 lo) (Q:=λ c st2=>c=(none,())/\PB κ a₀ st2/\Chn (pendingOf st2).toList 0 lo) ?s2 (λ c st' z=>z) ⟨rfl,b1,b2⟩) ?p2)
  case p2 =>
   rintro c st2 ⟨rfl,c1,c2⟩
   exact wpS_pure (h st2 c1)
  case s2 =>
   rintro x c st2 _ _ ⟨rfl,c1,c2⟩
   refine wpS_bind (wpS_get ?_)
   refine ps_ite (λ _=>wpS_pure ⟨rfl,c1,c2⟩) λ z=>?_
   refine wpS_bind (ps_merge hc c1 c2 b3 (ite_lt (by lia) (by lia)) λ st3 d1 d2=>wpS_pure ⟨rfl,d1,d2⟩)
 case step =>
  rintro x c st1 _ hx ⟨lo,rfl,b1,b2,b3⟩
  dsimp only
  refine ps_ite (λ _=>wpS_pure ⟨lo,rfl,b1,b2,b3⟩) λ hlo=>?_
  refine wpS_bind (ps_count hc b1 (by lia) (by lia) λ m st2 m1 m2 c1 ep=>?_)
  have c2:Chn (pendingOf st2).toList 0 lo:=by rw [ep];exact b2
  dsimp only
  refine ps_ite (λ hm=>?_) λ hm=>?_
  ·have hn1:1<=min (a₀.size - lo) mr:=by lia
   have hn2:lo+min (a₀.size - lo) mr<=a₀.size:=by lia
   refine wpS_bind (wpS_lift (wpAny_rule ⟨rfl,?_⟩))
   refine wpS_bind (ps_bin hc c1 hn2 λ st2 c1 ep2=>?_)
   have c2:Chn (pendingOf st2).toList 0 lo:=by rw [ep2];exact c2
   simp only [Bool.not_true,Bool.false_eq_true,if_false]
   refine wpS_bind (wpS_get ?_)
   cases hbk:(pendingOf st2).back? with
  |none =>
    dsimp only
    exact wpS_bind (wpS_modify (wpS_pure ⟨_,rfl,⟨c1.perm,c1.kind,c1.failed⟩,by rw [Array.toList_push];exact c2.snoc hn1,hn2⟩))
  |some q =>
    obtain ⟨s1,n1,p1⟩:=q
    dsimp only
    refine wpS_bind (wpS_mono (wpS_forRange (I:=λ _ c st'=>c=(none,())/\PB κ a₀ st'/\Chn (pendingOf st').toList 0 lo) (Q:=λ c st'=>c=(none,())/\PB κ a₀ st'/\Chn (pendingOf st').toList 0 lo) ?sx (λ c st' z=>z) ⟨rfl,c1,c2⟩) ?px)
    case px =>
     rintro c st3 ⟨rfl,d1,d2⟩
     exact wpS_bind (wpS_modify (wpS_bind (wpS_modify (wpS_pure ⟨_,rfl,⟨d1.perm,d1.kind,d1.failed⟩,by rw [Array.toList_push,Array.toList_modify];exact (Chn.pow d2).snoc hn1,hn2⟩))))
    case sx =>
     rintro y c st3 _ _ ⟨rfl,d1,d2⟩
     refine wpS_bind (wpS_get ?_)
     by_cases cz:(pendingOf st3).size > 1
     ·rw [if_pos cz,Array.getElem?_eq_getElem (by lia)]
      dsimp only
      refine ps_ite (λ _=>wpS_pure ⟨rfl,d1,d2⟩) λ _=>?_
      exact wpS_bind (ps_merge hc d1 d2 b3 (by lia) λ st4 f1 f2=>wpS_pure ⟨rfl,f1,f2⟩)
     ·rw [if_neg cz]
      exact wpS_pure ⟨rfl,d1,d2⟩
  ·have hn1:1<=m:=m1
   have hn2:lo+m<=a₀.size:=by lia
   refine wpS_bind (wpS_get ?_)
   cases hbk:(pendingOf st2).back? with
  |none =>
    dsimp only
    exact wpS_bind (wpS_modify (wpS_pure ⟨_,rfl,⟨c1.perm,c1.kind,c1.failed⟩,by rw [Array.toList_push];exact c2.snoc hn1,hn2⟩))
  |some q =>
    obtain ⟨s1,n1,p1⟩:=q
    dsimp only
    refine wpS_bind (wpS_mono (wpS_forRange (I:=λ _ c st'=>c=(none,())/\PB κ a₀ st'/\Chn (pendingOf st').toList 0 lo) (Q:=λ c st'=>c=(none,())/\PB κ a₀ st'/\Chn (pendingOf st').toList 0 lo) ?sx (λ c st' z=>z) ⟨rfl,c1,c2⟩) ?px)
    case px =>
     rintro c st3 ⟨rfl,d1,d2⟩
     exact wpS_bind (wpS_modify (wpS_bind (wpS_modify (wpS_pure ⟨_,rfl,⟨d1.perm,d1.kind,d1.failed⟩,by rw [Array.toList_push,Array.toList_modify];exact (Chn.pow d2).snoc hn1,hn2⟩))))
    case sx =>
     rintro y c st3 _ _ ⟨rfl,d1,d2⟩
     refine wpS_bind (wpS_get ?_)
     by_cases cz:(pendingOf st3).size > 1
     ·rw [if_pos cz,Array.getElem?_eq_getElem (by lia)]
      dsimp only
      refine ps_ite (λ _=>wpS_pure ⟨rfl,d1,d2⟩) λ _=>?_
      exact wpS_bind (ps_merge hc d1 d2 b3 (by lia) λ st4 f1 f2=>wpS_pure ⟨rfl,f1,f2⟩)
     ·rw [if_neg cz]
      exact wpS_pure ⟨rfl,d1,d2⟩
end
end L5
namespace L3
open PySem PySem.W PySem.Spec PyProof.Rows L2 L5
theorem perm_map {α β:Type} (f:α->β) {o m:List β} (h:o.Perm m):∀ {l:List α},m=l.map f->∃ l':List α,l'.Perm l/\o=l'.map f:=by
 induction h with
|nil=>intro l e;exact ⟨[],by cases l with|nil=>exact .rfl|cons _ _=>simp at e,rfl⟩
|cons x _ ih =>
  intro l e
  cases l with
 |nil=>simp at e
 |cons y r =>
   rw [List.map_cons] at e
   obtain ⟨e1,e2⟩:=List.cons.inj e
   obtain ⟨l',p,q⟩:=ih e2
   exact ⟨y :: l',p.cons y,by rw [List.map_cons,<- e1,q]⟩
|swap x y _ =>
  intro l e
  match l,e with
 |a :: b :: r,e =>
   simp only [List.map_cons,List.cons.injEq] at e
   exact ⟨b :: a :: r,List.Perm.swap ..,by simp [e]⟩
 |[_],e=>simp at e
 |[],e=>simp at e
|trans _ _ i1 i2 =>
  intro l e
  obtain ⟨l1,p1,q1⟩:=i2 e
  obtain ⟨l2,p2,q2⟩:=i1 q1
  exact ⟨l2,p2.trans p1,q2⟩
section
variable {s:Shared} {w:World} {prog:Program} {E:Value->Shared->Prop} {A:Around}
theorem sort_anyT {a:Addr} {vs:List Value} {rows:List (List Int)} {n:Nat} {P:PySem.Fin->Shared->Prop} (go:s.heap.get? a=some (seqObj "list" vs.toArray n)) (t:TupRows s.heap vs rows) (h2:2<=vs.length) (hz:vs.length<=1000)
  (h:∀ out:List Value,out.Perm vs->P (.done (.ret .none)) { s with heap:=sortedHeap s.heap a vs out.toArray }) :
  wpAny (model prog w) A (Builtin.«list.sort» ⟨[.ref a],[]⟩) P E s:=by
 have al:a < s.heap.objs.size:=Heap.lt_size go
 obtain ⟨e1,g1⟩:∃ e1,(s.heap.update a (Obj.mapSeq λ _=>#[])).get? a=some (seqObj "list" #[] e1):=⟨_,get?_update_seq go λ _=>#[]⟩
 rw [list_sort_plain]
 refine wpAny_bind (listItems_at go rfl (wpAny_bind (listUpdate_at go rfl (wpAny_bind (seqEpoch_at g1 rfl (wpAny_bind (wpAny_newTuple (wpAny_bind (wpAny_newList (wpAny_holding ?_) (by size_fits))) (by show vs.length<=_;rw [sizeLine_eq];lia))))) (by rw [List.size_toArray,sizeLine_eq];lia) (Nat.zero_le _))))
 have g6:(((s.heap.update a (Obj.mapSeq λ _=>#[])).push (seqObj "tuple" vs.toArray 0)).push (seqObj "list" #[] 0)).get? a=some (seqObj "list" #[] e1):=Heap.get?_push_of_some _ (Heap.get?_push_of_some _ g1)
 have t6:TupRows (((s.heap.update a (Obj.mapSeq λ _=>#[])).push (seqObj "tuple" vs.toArray 0)).push (seqObj "list" #[] 0)) vs rows:=t.mono λ b o ho hc=>by
  have hb:b≠a:=by
   rintro rfl
   rw [go] at ho
   cases ho
   simp at hc
  exact Heap.get?_push_of_some _ (Heap.get?_push_of_some _ (by rw [Heap.get?_update_ne _ _ _ _ hb];exact ho))
 refine (show wpAny (model prog w) A _ P E { s with heap:=((s.heap.update a (Obj.mapSeq λ _=>#[])).push (seqObj "tuple" vs.toArray 0)).push (seqObj "list" #[] 0) } from ?_)
 dsimp only
 have hn2:¬ vs.toArray.size < 2:=by rw [List.size_toArray];lia
 rw [if_neg hn2,if_neg hn2]
 obtain ⟨fs,k1,k2,k3⟩:=t6.firsts
 refine wpAny_bind (kat_kind (T:=.type "int") k1 (by lia) (λ v hv=>?_) rfl ?_)
 ·obtain ⟨x,u,rfl⟩:=k3 v hv
  exact .now
 have cmp:Cmp prog w A { s with heap:=((s.heap.update a (Obj.mapSeq λ _=>#[])).push (seqObj "tuple" vs.toArray 0)).push (seqObj "list" #[] 0) } (tuples' (Value.type "int" != Value.type "tuple")) (vs.toArray.zip vs.toArray):=by
  intro x y hx hy
  have at1:∀ x:Keyed,x∈(vs.toArray.zip vs.toArray).toList->∃ i,i < vs.length/\x.1=vs.getD i .none:=λ x hx=>by
   rw [Array.toList_zip] at hx
   have:=(List.of_mem_zip (a:=x.1) (b:=x.2) hx).1
   obtain ⟨i,hi,e⟩:=List.mem_iff_getElem.mp (show x.1∈vs by simpa using this)
   exact ⟨i,hi,by rw [List.getD_eq_getElem?_getD,List.getElem?_eq_getElem hi];exact e.symm⟩
  obtain ⟨i,hi,ei⟩:=at1 x hx
  obtain ⟨j,hj,ej⟩:=at1 y hy
  obtain ⟨b,o,its,n,a1,a2,a3,a4,a5,a6⟩:=t6.at hi
  obtain ⟨b',o',its',n',c1,c2,c3,c4,c5,c6⟩:=t6.at hj
  rw [ei,ej,a1,c1]
  refine ⟨lexB (rows.getD i []) (rows.getD j []),λ Q hq=>?_⟩
  refine kat_lt a2 a4 c2 c4 (lex_at _ _ _ _ 0 a5 c5 ?_ hq)
  rw [<- Array.length_toList,<- Array.length_toList,a5.length,c5.length]
 have run:=ps_runs (E:=E) (st:=SortSt.mk' (tuples' (Value.type "int" != Value.type "tuple")) (vs.toArray.zip vs.toArray) #[] 7 none) cmp ⟨Array.Perm.refl _,rfl,rfl⟩ rfl (Q:=λ _ st'=>PB (tuples' (Value.type "int" != Value.type "tuple")) (vs.toArray.zip vs.toArray) st') λ st' b=>b
 refine wpAny_bind (wpAny_mono run ?_ λ _ _ e=>e)
 rintro ⟨⟨⟩,st'⟩ s' ⟨rfl,b⟩
 dsimp only
 have po:((arrOf st').map (·.2)).toList.Perm vs:=by
  rw [Array.toList_map]
  refine ((Array.perm_iff_toList_perm.mp b.perm).map _).trans ?_
  rw [Array.toList_zip,List.map_snd_zip (by simp)]
 have hsz:((arrOf st').map (·.2)).size=vs.length:=by rw [<- Array.length_toList];exact po.length_eq
 have hf:failedOf st'=none:=b.failed
 refine wpAny_bind (seqEpoch_at g6 rfl (wpAny_bind (listUpdate_at (hsz2:=?_) g6 rfl ?_)))
 ·rw [hf]
  rw [if_neg (by simp)]
  have:=h _ po
  rw [Array.toArray_toList] at this
  exact wpAny_pure this
 ·rw [hsz,sizeLine_eq];lia
end
def rSortP (K:Fg):List V->Hp->VK->Prop:=λ vs H Q=>∃ (a:Addr) (kvs:List (List Key×V)) (rows:List (List Int)),vs=[.ref a]/\H a=some (.dT kvs)/\kvs.map (·.1)=rows.map (List.map Sum.inl)/\(∀ r∈rows,r≠[])/\rows.length<=1000 /\
 ∀ bs,KeysAt H rows bs->∀ p:List Nat,p.Perm (List.range rows.length)->∀ l,H l=none->Q (.ref l) (upd H l (.lst (p.map λ i=>.ref (bs.getD i 0))))
theorem call_sortP {X:Cx} {K:Fg} (h:X.K=K) (hc:X.calm=true):CallR X (.builtin "sorted") (rSortP K):=by
 subst h
 intro pins s σ H xs us Q I r h
 obtain ⟨a,kvs,rows,rfl,hx,hk,hn,hz,q⟩:=h
 obtain ⟨u,rfl,r1⟩:=vals1 r
 cases r1
 obtain ⟨z,lo,xs,r,od,es,ep,h1,h2,h3,h4,h5⟩:=(show ObjOk X.prog X.w H s.heap a (.dT kvs) from I.hok a _ hx)
 have hes:es.size=xs.length:=by rw [<- Array.length_toList,h4,List.length_map]
 have hkr:kvs.length=rows.length:=by simpa using congrArg List.length hk
 have hlen:es.size=rows.length:=by rw [hes,<- hkr];exact (kts_len r).symm
 have hat:∀ (i:Nat) (rr:List Int),rows[i]?=some rr->∃ b u,xs[i]?=some (rr.map Sum.inl,b,u)/\H b=some (.tup (rr.map V.int)):=λ i rr e=>by
  have e1:(kvs.map (·.1))[i]?=some (rr.map Sum.inl):=by rw [hk,List.getElem?_map,e];rfl
  rw [List.getElem?_map] at e1
  obtain ⟨⟨k,v⟩,e2,e3⟩:=Option.map_eq_some_iff.mp e1
  dsimp only at e3
  subst e3
  obtain ⟨b,u,g1,g2,_⟩:=kt_get r e2
  exact ⟨b,u,g1,by rw [<- map_kv];exact g2⟩
 refine Calls.call_function_entry kind_sorted plain_sorted entry_sorted (args_sorted1 _) ?_
 unfold Builtin.«sorted»
 refine wpAny_bind (m:=checkCount "sorted" 1 1 _) (wpAny_pure ?_)
 refine wpAny_bind (PySem.W.kdu_collect (A:=X.A.in1) (kdl_tups h2.1 h3 lo) (I.ok.hd hc) h1 (by rw [sizeLine_eq];lia) λ h' tk acc hk' hacc=>?_)
 have hl:acc.toList.length=rows.length:=by rw [Array.length_toList,<- hlen];exact hacc.1
 have I2:=I.kept (t':=tk) hk'
 have hkey:∀ (i:Nat) v rr,acc.toList[i]?=some v->rows[i]?=some rr->∃ b u,xs[i]?=some (rr.map Sum.inl,b,u)/\v=.ref b/\H b=some (.tup (rr.map V.int)):=λ i v rr e1 e2=>by
  obtain ⟨b,u,g1,g2⟩:=hat i rr e2
  obtain ⟨e,e3,e4⟩:=hacc.2 i v (by rw [<- Array.getElem?_toList];exact e1)
  have e5:es.toList[i]?=some (entryOfKey (tupleKind (mixKind X.prog X.w)) (rr.map Sum.inl,b,u)):=by rw [h4,List.getElem?_map,g1];rfl
  rw [Array.getElem?_toList,e3] at e5
  cases e5
  exact ⟨b,u,g1,e4,g2⟩
 have hT:TupRows h' acc.toList rows:=tupRows_of hl λ i v rr e1 e2=>by
  obtain ⟨b,u,_,e4,g2⟩:=hkey i v rr e1 e2
  obtain ⟨_,its,rv,o,k1,k2,n,k3⟩:=(show ObjOk X.prog X.w H h' b (.tup (rr.map V.int)) from I2.hok b _ g2)
  exact ⟨b,o,its.toArray,n,e4,k1,k2,k3,by simpa using intsAre_of rv,hn rr (List.mem_of_getElem? e2)⟩
 -- where the keys lie
 let bs:List Addr:=xs.map (·.2.1)
 have hbs:KeysAt H rows bs:=⟨by rw [List.length_map,<- hes,hlen],λ i b rr e1 e2=>by
  obtain ⟨b',u,g1,g2⟩:=hat i rr e2
  rw [List.getElem?_map,g1] at e1
  cases e1
  exact g2⟩
 have hv:∀ i,i < rows.length->acc.toList.getD i .none=.ref (bs.getD i 0):=λ i hi=>by
  have e1:acc.toList[i]?=some (acc.toList[i]'(by lia)):=List.getElem?_eq_getElem (by lia)
  obtain ⟨b,u,g1,e4,_⟩:=hkey i _ rows[i] e1 (List.getElem?_eq_getElem hi)
  have e2:bs[i]?=some b:=by rw [List.getElem?_map,g1];rfl
  rw [List.getD_eq_getElem?_getD,List.getD_eq_getElem?_getD,e1,e2]
  exact e4
 have vals:∀ p:List Nat,(∀ i∈p,i < rows.length)->Vals (p.map λ i=>V.ref (bs.getD i 0)) (p.map λ i=>acc.toList.getD i .none):=λ p=>by
  induction p with
 |nil=>intro _;exact .nil
 |cons i p ih=>intro hp;exact .cons (by show L2.RelV (V.ref (bs.getD i 0)) (acc.toList.getD i .none);rw [hv i (hp i (.head _))];rfl) (ih λ j hj=>hp j (.tail _ hj))
 refine wpAny_bind (wpAny_newList ?_ (by rw [hl,sizeLine_eq];lia))
 have hoL:(h'.push { cls:=.type "list",data:=.seq acc.toList.toArray }).get? h'.objs.size=some (seqObj "list" acc.toList.toArray 0):=Heap.get?_push_size _ rfl
 have fin:∀ out:List Value,out.Perm acc.toList->EP X pins σ Q (.ref h'.objs.size) { s with heap:=sortedHeap (h'.push { cls:=.type "list",data:=.seq acc.toList.toArray }) h'.objs.size acc.toList out.toArray,toks:=tk }:=λ out po=>by
  have ea:acc.toList=(List.range rows.length).map (λ i=>acc.toList.getD i .none):=by
   apply List.ext_getElem
   ·rw [List.length_map,List.length_range,hl]
   ·intro i h1 h3;rw [List.getElem_map,List.getElem_range,List.getD_eq_getElem?_getD,List.getElem?_eq_getElem h1];rfl
  obtain ⟨p,pp,rfl⟩:=perm_map (λ i=>acc.toList.getD i .none) po ea
  obtain ⟨e,he⟩:=sortedHeap_at (out:=List.toArray (p.map λ i=>acc.toList.getD i .none)) hoL
  refine ⟨.ref _,upd H h'.objs.size (.lst (p.map λ i=>V.ref (bs.getD i 0))),I2.laid (a:=h'.objs.size) (t':=tk) (λ b o ho=>?_) (Nat.le_refl _) ?_,rfl,q bs hbs _ pp _ (I2.hok.fresh (Nat.le_refl _))⟩
  ·have hlt:=Heap.lt_size ho
   rw [sortedHeap_old (Nat.ne_of_lt hlt) (by rw [size_push'];exact Nat.lt_succ_of_lt hlt)]
   exact Heap.get?_push_of_some _ ho
  ·exact ⟨by rw [List.length_map,pp.length_eq,List.length_range,sizeLine_eq];lia,_,e,vals p λ i hi=>List.mem_range.mp (pp.mem_iff.mp hi),he⟩
 by_cases hf:acc.toList.length < 2
 ·have eo:(acc.toList.toArray.zip acc.toList.toArray).map (·.2)=acc.toList.toArray:=by
   apply Array.toList_inj.mp
   rw [Array.toList_map,Array.toList_zip];exact List.map_snd_zip (Nat.le_refl _)
  refine wpAny_bind (wpAny_holding (wpAny_call_entry slot_list_sort ⟨_,hoL,rfl⟩ entry_list_sort (sort_few hoL (by simpa using hf) ⟨_,rfl,?_⟩) (args_list_sort _)))
  refine wpAny_pure ⟨_,rfl,?_⟩
  rw [eo]
  exact fin _ .rfl
 ·refine wpAny_bind (wpAny_holding (wpAny_call_entry slot_list_sort ⟨_,hoL,rfl⟩ entry_list_sort (sort_anyT hoL (hT.mono λ b o ho _=>Heap.get?_push_of_some _ ho) (by lia) (by lia) λ out po=>⟨_,rfl,?_⟩) (args_list_sort _)))
  exact wpAny_pure ⟨_,rfl,fin _ po⟩
end L3
namespace L4
open PySem PySem.Spec PyProof.Rows L2 L3
section
variable {K:Fg} {ta:TE} {dp:DP}
def fSortP (u:T) (Q:List D->Prop):Prop:=match u with
|.dt kvs=>∃ rows:List (List Int),kvs.map (·.1)=rows.map (List.map Sum.inl)/\(∀ r∈rows,r≠[])/\rows.length<=1000/\∀ rows':List (List Int),rows'.Perm rows->Q (rows'.map rowD)
|_=>False
def nSortP (dp:DP):DF:=λ δ Q=>dp δ λ _ _ u=>fSortP u Q
theorem rf_sortP (hp:RfP K ta dp):RfF K (tCB (rSortP K) (tCons ta tNil)) (nSortP dp):=by
 intro F H σ δ Qd Q s rv h k
 refine hp s rv h λ i p u hu v F2 H2 e2 at2=>?_
 obtain ⟨fn,hr⟩:=at2.rt (rv.ext e2)
 cases hr with
|dt h1 h2 h3 =>
  obtain ⟨rows,ek,hne,hz,q⟩:=hu
  refine ⟨_,_,rows,rfl,h1,by rw [<- ek];exact h3.keysT,hne,hz,λ bs hbs pp po l hl=>?_⟩
  have hlt:∀ i∈pp,i < rows.length:=λ i hi=>List.mem_range.mp (po.mem_iff.mp hi)
  obtain ⟨F3,e3,f3⟩:=fz_keys e2.fh bs λ b hb=>by
   obtain ⟨i,hi,rfl⟩:=List.mem_iff_getElem.mp hb
   exact ⟨(rows[i]'(by rw [<- hbs.1];exact hi)).map Sum.inl,by rw [map_kv];exact hbs.2 i _ _ (List.getElem?_eq_getElem hi) (List.getElem?_eq_getElem (by rw [<- hbs.1];exact hi))⟩
  obtain ⟨ex,fn⟩:=new_lst (xs:=pp.map λ i=>V.ref (bs.getD i 0)) e3.fh hl
  have hn:H l=none:=by
   cases z:H l with
  |none=>rfl
  |some o=>rw [e2.h l o z] at hl;cases hl
  have e4:(List.range rows.length).map (λ i=>rows.getD i [])=rows:=by
   apply List.ext_getElem
   ·simp
   ·intro i h1 h3;simp [List.getElem?_eq_getElem h3]
  refine k _ (q (pp.map λ i=>rows.getD i []) ?_) l _ F3 _ ((e2.trans e3).trans ex) hn upd_same fn ?_
  ·have:=po.map λ i=>rows.getD i []
   rw [e4] at this
   exact this
  ·have all:∀ pp:List Nat,(∀ i∈pp,i < rows.length)->IsAll K F3 (pp.map λ i=>V.ref (bs.getD i 0)) ((pp.map λ i=>rows.getD i []).map rowD):=λ pp=>by
    induction pp with
   |nil=>intro _;exact .nil
   |cons i pp ih =>
     intro hp
     have hi:=hp i (.head _)
     have hib:i < bs.length:=by rw [hbs.1];exact hi
     refine .cons ?_ (ih λ j hj=>hp j (.tail _ hj))
     have e5:bs.getD i 0=bs[i]:=by simp [hib]
     have e6:rows.getD i []=rows[i]:=by simp [hi]
     show Is K F3 (V.ref (bs.getD i 0)) (rowD (rows.getD i []))
     rw [e5,e6]
     refine .tup (xs:=rows[i].map V.int) ?_ (is_ints _)
     rw [f3 _ (List.getElem_mem _)]
     exact hbs.2 i _ _ (List.getElem?_eq_getElem hib) (List.getElem?_eq_getElem hi)
   exact all pp hlt
|fz _=>exact hu.elim
|li _ _ _=>exact hu.elim
|ls _ _ _=>exact hu.elim
|ob _ _ _ _ _=>exact hu.elim
|dk _ _ _=>exact hu.elim
|tp _ _ _ _=>exact hu.elim
|wh=>exact hu.elim
|dz _ _ _=>exact hu.elim
theorem e_nSortP (dp:DP) (δ:DSt) (Q:List D->Prop):nSortP dp δ Q=(dp δ λ _ _ u=>fSortP u Q):=rfl
theorem e_fSortP (kvs:List (List Key×D)) (Q:List D->Prop):fSortP (.dt kvs) Q=∃ rows:List (List Int),kvs.map (·.1)=rows.map (List.map Sum.inl)/\(∀ r∈rows,r≠[])/\rows.length<=1000/\∀ rows':List (List Int),rows'.Perm rows->Q (rows'.map rowD):=rfl
end
end L4
open PySem PySem.Spec PyProof.Rows L2 L3 L4 L5
local macro_rules|`(tactic| walk_at "sc")=>`(tactic| exact ⟨rfl,rfl,rfl,by decide +kernel,rfl,by decide +kernel,by decide +kernel⟩)
local macro_rules|`(tactic| walk_at "csc")=>`(tactic| exact ⟨rfl,by decide +kernel,by decide +kernel,by decide +kernel,by decide +kernel⟩)
local macro_rules|`(tactic| walk_at "ds")=>do `(tactic| simp only [$(<- ("dStart tStart slotA List.map_cons List.map_nil List.length_cons List.length_nil Nat.reduceAdd Nat.reduceSub List.replicate List.cons_append List.nil_append".splitOn " ").toArray.mapM λ s=>`(Lean.Parser.Tactic.simpLemma| $(Lean.mkIdent s.toName):ident)),*])
local macro_rules|`(tactic| walk_at "cs")=>do `(tactic| simp only [$(<- ("cST List.map_cons List.map_nil List.replicate List.cons_append List.nil_append List.getD_cons_zero List.getD_cons_succ".splitOn " ").toArray.mapM λ s=>`(Lean.Parser.Tactic.simpLemma| $(Lean.mkIdent s.toName):ident)),*])
local macro_rules|`(tactic| walk_at "dd")=>do `(tactic| simp only [$(<- ("e_dF e_nSortP e_fSortP itD getA_kN e_nDictT e_dHandN0 e_dHandNS e_dAs e_dG e_dC e_dOp e_dNotV e_dAndV e_dTest e_dTru e_dAnd e_dOr e_dNot e_dIfE e_dNil e_dCons e_dTup e_dLst e_dCall e_dCB e_dCF e_dIs e_dPart e_dIt e_dRng1 e_dRng2 e_gN e_gsNil e_gsCons e_gT e_dTrue e_pFld e_dPV e_dPE e_cE e_cF e_dNext e_dAsg e_dSet e_dDrop e_dRet e_dRetO e_dIf e_cBM e_dPut e_dAug e_nIn e_cDT e_cN e_dFld e_dFrz e_aNil e_aD e_aB e_nCall e_eN e_nMake e_nMethX e_dHand0 e_dHandS e_cCoreX0 e_dVar e_dVarV e_pVar e_pAt0 e_pAtS e_mutS e_fzS e_setP0 e_tyN1 e_tyN2 e_tyN3 e_tyN4 e_rDf e_rDl e_rDs e_nCore e_comp e_ncomp e_for e_dRng3 fAdd fCat fI fI0 fMul fEq fNe fIx fB fTru fLen fMax2 fMin2 fSum fList fIter isT_ii isT_bi isT_ll isT_tt isT_ss nd_int nd_list nd_tup nd_str nd_bl nd_non fzT vwT slT slot Sl.wth mApp fPut fHas fII keyD nFld nCls noM nSet noO noS notFz ArgP.arg toD xor_one tEnds exA oIx List.getElem?_cons_zero List.getElem?_cons_succ List.set_cons_zero List.set_cons_succ List.length_cons List.length_nil List.map_cons List.map_nil List.nil_append List.cons_append List.lookup putA setP getP beq_self_eq_true Nat.reduceAdd Nat.reduceSub Nat.reduceMul Int.reduceAdd Int.reduceSub Int.reduceMul Int.reduceNeg Int.reduceLT Int.reduceLE Int.reducePow Int.reduceToNat Nat.reducePow Nat.reduceLT Nat.reduceLeDiff Nat.reduceEqDiff Int.reduceEq Int.reduceMod Int.reduceDiv Int.reduceBEq Int.reduceBNe Int.reduceGT Int.reduceGE CDivW CPow sizeLine_eq decide_eq_true_eq decide_true decide_false Bool.not_true Bool.not_false Bool.not_eq_true' Bool.not_eq_eq_eq_not Bool.not_not decide_eq_false_iff_not decide_not true_and and_true if_true if_false Bool.false_eq_true reduceCtorEq ite_true ite_false not_false_eq_true not_true_eq_false ne_eq Option.some.injEq exists_eq_left' exists_eq_left Option.map_some Option.map_none Option.bind_some nb_wide_since nb_wide_other nb_wide_turn nb_since_wide nb_other_wide nb_other_turn nb_turn_wide nb_turn_other nb_width_at_wide nb_width_at_since nb_width_at_other nb_width_at_turn nq_wide_since nq_wide_other nq_wide_turn nq_other_turn".splitOn " ").toArray.mapM λ s=>`(Lean.Parser.Tactic.simpLemma| $(Lean.mkIdent s.toName):ident)),*])
local macro_rules|`(tactic| walk_at "dn")=>`(tactic| (refine seq_hide λ J hJ=>?_;walk_at "dd";refine hJ _ ?_;clear hJ))
local macro_rules|`(tactic| walk_at "dns")=>`(tactic| repeat walk_at "dn")
namespace K26
open PySem PySem.Spec PyProof.Rows L2 L3 L4 L5
def top (i:Nat):Stmt:=PySem.Challenge.pw_vatyard_k26_what_a_part_lets_in.main.body.getD i (.Pass ⟨0,0,0,0⟩)
abbrev s_Steady___init__:Stmt:=inClass (top 2) 0
abbrev s_Steady_width_at:Stmt:=inClass (top 2) 1
abbrev s_Late___init__:Stmt:=inClass (top 3) 0
abbrev s_Late_width_at:Stmt:=inClass (top 3) 1
abbrev s_Tidal___init__:Stmt:=inClass (top 4) 0
abbrev s_Tidal_width_at:Stmt:=inClass (top 4) 1
abbrev s_gate_of:Stmt:=top 5
abbrev s_width:Stmt:=top 6
abbrev s_spot_lets_in:Stmt:=top 8
abbrev s_pipe_lets_in:Stmt:=top 9
abbrev s_lets_in:Stmt:=top 10
abbrev s__law_cell_at:Stmt:=top 12
abbrev s__law_great:Stmt:=top 13
abbrev s__law_gate:Stmt:=top 14
abbrev s__law_pipe:Stmt:=top 15
abbrev s__law_wide_at:Stmt:=top 16
abbrev s__law_stretch:Stmt:=top 17
abbrev s__law_whole:Stmt:=top 18
abbrev s__law_comes_in:Stmt:=top 19
abbrev s_law:Stmt:=top 20
inductive Gt where
|st (x:Int)|la (x:Int) (f:Nat)|ti (x y:Int) (t:Nat)
def Gt.d:Gt->D
|.st x=>.tuple [.str "steady",.int x]
|.la x f=>.tuple [.str "late",.int x,.int (f:Int)]
|.ti x y t=>.tuple [.str "tidal",.int x,.int y,.int (t:Int)]
def Gt.at:Gt->Nat->Int
|.st x,_=>x
|.la x f,m=>if f<=m then x else 0
|.ti x y t,m=>if m % t=0 then x else y
def Gt.ob (C1 C2 C3:Addr):Gt->L4.T
|.st x=>.ob C1 [("wide",.fz (.int x))]
|.la x f=>.ob C2 [("wide",.fz (.int x)),("since",.fz (.int (f:Int)))]
|.ti x y t=>.ob C3 [("wide",.fz (.int x)),("other",.fz (.int y)),("turn",.fz (.int (t:Int)))]
def Gt.ok:Gt->Prop
|.ti _ _ t=>0 < t/\t < 1000
|_=>True
section
variable {P:Program} {w:World} {K:Fg} {mg:Str->Option Value} {base:Heap} {jA jC jB:Addr}
def p_Steady___init__ (C:Addr):DSpT:=λ as Q=>∃ x:Int,as=[.o (.ob C []),.d (.int x)]/\Q (.fz .none) (.ob C [("wide",.fz (.int x))])
def p_Late___init__ (C:Addr):DSpT:=λ as Q=>∃ x y:Int,as=[.o (.ob C []),.d (.int x),.d (.int y)]/\Q (.fz .none) (.ob C [("wide",.fz (.int x)),("since",.fz (.int y))])
def p_Tidal___init__ (C:Addr):DSpT:=λ as Q=>∃ x y z:Int,as=[.o (.ob C []),.d (.int x),.d (.int y),.d (.int z)]/\Q (.fz .none) (.ob C [("wide",.fz (.int x)),("other",.fz (.int y)),("turn",.fz (.int z))])
def p_Steady_width_at (C:Addr):DSpT:=λ as Q=>∃ (x:Int) (m:Nat),as=[.b (.ob C [("wide",.fz (.int x))]),.d (.int (m:Int))]/\Q (.fz (.int (Gt.at (.st x) m))) (.fz .none)
def p_Late_width_at (C:Addr):DSpT:=λ as Q=>∃ (x:Int) (f m:Nat),as=[.b (.ob C [("wide",.fz (.int x)),("since",.fz (.int (f:Int)))]),.d (.int (m:Int))]/\Q (.fz (.int (Gt.at (.la x f) m))) (.fz .none)
def p_Tidal_width_at (C:Addr):DSpT:=λ as Q=>∃ (x y:Int) (t m:Nat),as=[.b (.ob C [("wide",.fz (.int x)),("other",.fz (.int y)),("turn",.fz (.int (t:Int)))]),.d (.int (m:Int))]/\0 < t/\t < 1000/\Q (.fz (.int (Gt.at (.ti x y t) m))) (.fz .none)
def p_gate_of (C1 C2 C3:Addr):DSpT:=λ as Q=>∃ g:Gt,as=[.d g.d]/\Q (g.ob C1 C2 C3) (.fz .none)
def p_width:DSp:=λ ds Q=>∃ (g:Gt) (m:Nat),ds=[g.d,.int (m:Int)]/\g.ok/\Q (.int (g.at m))
theorem sc_Steady___init__:FnScope ["self", "wide"] ["self", "wide"] (defScope s_Steady___init__):=by walk_at "sc"
theorem ok_Steady___init__ (M:Md K mg) (cT:TopCls K "Steady" jA) (T:TopMeth K jA "__init__" "Steady.__init__" s_Steady___init__) (jE:NoAttr K jA "wide"):MakeD P w K mg base "Steady" jA 1 ["self", "wide"] (spT K (p_Steady___init__ jA)):=by
 have jN:=cT.cls
 refine make_of M cT T sc_Steady___init__ (λ _ _ _ _ _ _ us hl=>by obtain ⟨_,_,rfl⟩:=ar2 hl;rfl) (len_T λ as Qd h=>by obtain ⟨_,rfl,_⟩:=h;rfl) (body_T ?_)
 intro f cdv A outer s H E hr
 have nd:=sc_Steady___init__.nd
 refine ⟨_,_,(pss_one (ps_fld (pv 0) (pv 1) rfl)),(rs_fld jN jE (RfE.c (rf_var 1)) (rp_var 0)),?_⟩
 rintro as Qd a ⟨x,rfl,q⟩
 walk_at "ds"
 walk_at "dd"
 exact ⟨_,rfl,q⟩
theorem sc_Late___init__:FnScope ["self", "wide", "since"] ["self", "wide", "since"] (defScope s_Late___init__):=by walk_at "sc"
theorem ok_Late___init__ (M:Md K mg) (cT:TopCls K "Late" jC) (T:TopMeth K jC "__init__" "Late.__init__" s_Late___init__) (jK:NoAttr K jC "wide") (jG:NoAttr K jC "since"):MakeD P w K mg base "Late" jC 1 ["self", "wide", "since"] (spT K (p_Late___init__ jC)):=by
 have jS:=cT.cls
 refine make_of M cT T sc_Late___init__ (λ _ _ _ _ _ _ us hl=>by obtain ⟨_,_,_,rfl⟩:=ar3 hl;rfl) (len_T λ as Qd h=>by obtain ⟨_,_,rfl,_⟩:=h;rfl) (body_T ?_)
 intro f cdv A outer s H E hr
 have nd:=sc_Late___init__.nd
 refine ⟨_,_,(pss_cons (ps_fld (pv 0) (pv 1) rfl)
   (pss_one (ps_fld (pv 0) (pv 2) rfl))),(rs_seq (rs_fld jS jK (RfE.c (rf_var 1)) (rp_var 0))
   (rs_fld jS jG (RfE.c (rf_var 2)) (rp_var 0))),?_⟩
 rintro as Qd a ⟨x,y,rfl,q⟩
 walk_at "ds"
 walk_at "dn"
 walk_at "dd"
 exact ⟨_,rfl,q⟩
theorem sc_Tidal___init__:FnScope ["self", "wide", "other", "turn"] ["self", "wide", "other", "turn"] (defScope s_Tidal___init__):=by walk_at "sc"
theorem ok_Tidal___init__ (M:Md K mg) (cT:TopCls K "Tidal" jB) (T:TopMeth K jB "__init__" "Tidal.__init__" s_Tidal___init__) (jH:NoAttr K jB "wide") (jF:NoAttr K jB "other") (jI:NoAttr K jB "turn"):MakeD P w K mg base "Tidal" jB 1 ["self", "wide", "other", "turn"] (spT K (p_Tidal___init__ jB)):=by
 have jL:=cT.cls
 refine make_of M cT T sc_Tidal___init__ (λ _ _ _ _ _ _ us hl=>by obtain ⟨_,_,_,_,rfl⟩:=ar4 hl;rfl) (len_T λ as Qd h=>by obtain ⟨_,_,_,rfl,_⟩:=h;rfl) (body_T ?_)
 intro f cdv A outer s H E hr
 have nd:=sc_Tidal___init__.nd
 refine ⟨_,_,(pss_cons (ps_fld (pv 0) (pv 1) rfl)
   (pss_cons (ps_fld (pv 0) (pv 2) rfl)
   (pss_one (ps_fld (pv 0) (pv 3) rfl)))),(rs_seq (rs_fld jL jH (RfE.c (rf_var 1)) (rp_var 0))
   (rs_seq (rs_fld jL jF (RfE.c (rf_var 2)) (rp_var 0))
   (rs_fld jL jI (RfE.c (rf_var 3)) (rp_var 0)))),?_⟩
 rintro as Qd a ⟨x,y,z,rfl,q⟩
 walk_at "ds"
 walk_at "dn"
 walk_at "dn"
 walk_at "dd"
 exact ⟨_,rfl,q⟩
theorem sc_Steady_width_at:FnScope ["self", "moment"] ["self", "moment"] (defScope s_Steady_width_at):=by walk_at "sc"
theorem ok_Steady_width_at (jN:Cls K jA) (T:TopMeth K jA "width_at" "Steady.width_at" s_Steady_width_at) (jE:NoAttr K jA "wide"):MethD P w K mg base jA "width_at" 1 ["self", "moment"] (spT K (p_Steady_width_at jA)):=by
 refine meth_of jN T sc_Steady_width_at (λ _ _ _ _ _ _ us hl=>by obtain ⟨_,_,rfl⟩:=ar2 hl;rfl) (len_T λ as Qd h=>by obtain ⟨_,_,rfl,_⟩:=h;rfl) (body_T ?_)
 intro f cdv A outer s H E hr
 have nd:=sc_Steady_width_at.nd
 refine ⟨_,_,(pss_one (ps_ret (pe_fldU (K:=K) rfl (pv 0) rfl))),(rs_ret (RfE.c (RfP.e (rp_fld jN jE (rp_var 0))))),?_⟩
 rintro as Qd a ⟨x,m,rfl,q⟩
 walk_at "ds"
 walk_at "dd"
 exact q
theorem sc_Late_width_at:FnScope ["self", "moment"] ["self", "moment"] (defScope s_Late_width_at):=by walk_at "sc"
theorem ok_Late_width_at (jS:Cls K jC) (T:TopMeth K jC "width_at" "Late.width_at" s_Late_width_at) (jK:NoAttr K jC "wide") (jG:NoAttr K jC "since"):MethD P w K mg base jC "width_at" 1 ["self", "moment"] (spT K (p_Late_width_at jC)):=by
 refine meth_of jS T sc_Late_width_at (λ _ _ _ _ _ _ us hl=>by obtain ⟨_,_,rfl⟩:=ar2 hl;rfl) (len_T λ as Qd h=>by obtain ⟨_,_,_,rfl,_⟩:=h;rfl) (body_T ?_)
 intro f cdv A outer s H E hr
 have nd:=sc_Late_width_at.nd
 refine ⟨_,_,(pss_one (ps_ret (pe_ifExp (pt_cmpU op_ge (pv 1) (pe_fldU (K:=K) rfl (pv 0) rfl) (nomark _)) (pe_fldU (K:=K) rfl (pv 0) rfl) pe_int))),(rs_ret (RfE.c (rf_ifE (rf_test (rf_op r_ge (rf_varV 1) (RfP.v (rp_fld jS jG (rp_var 0))))) (RfP.e (rp_fld jS jK (rp_var 0))) rf_int))),?_⟩
 rintro as Qd a ⟨x,f,m,rfl,q⟩
 walk_at "ds"
 walk_at "dd"
 have q:Qd (.fz (.int (if f<=m then x else 0))) (.fz .none):=q
 refine two (λ h=>?_) λ h=>?_
 ·rw [if_pos (by lia)] at q;exact q
 ·rw [if_neg (by lia)] at q;exact q
theorem sc_Tidal_width_at:FnScope ["self", "moment"] ["self", "moment"] (defScope s_Tidal_width_at):=by walk_at "sc"
theorem ok_Tidal_width_at (jL:Cls K jB) (T:TopMeth K jB "width_at" "Tidal.width_at" s_Tidal_width_at) (jH:NoAttr K jB "wide") (jF:NoAttr K jB "other") (jI:NoAttr K jB "turn"):MethD P w K mg base jB "width_at" 1 ["self", "moment"] (spT K (p_Tidal_width_at jB)):=by
 refine meth_of jL T sc_Tidal_width_at (λ _ _ _ _ _ _ us hl=>by obtain ⟨_,_,rfl⟩:=ar2 hl;rfl) (len_T λ as Qd h=>by obtain ⟨_,_,_,_,rfl,_⟩:=h;rfl) (body_T ?_)
 intro f cdv A outer s H E hr
 have nd:=sc_Tidal_width_at.nd
 refine ⟨_,_,(pss_one (ps_ret (pe_ifExp (pt_cmpU (op_eqD (K:=K) rfl (Room.units hr)) (pe_op op_mod (pv 1) (pe_fldU (K:=K) rfl (pv 0) rfl)) pe_int (nomark _)) (pe_fldU (K:=K) rfl (pv 0) rfl) (pe_fldU (K:=K) rfl (pv 0) rfl)))),(rs_ret (RfE.c (rf_ifE (rf_test (rf_opH q_eq (RfV.h (RfE.v (rf_op r_mod (rf_varV 1) (RfP.v (rp_fld jL jI (rp_var 0)))))) (RfV.h rvi))) (RfP.e (rp_fld jL jH (rp_var 0))) (RfP.e (rp_fld jL jF (rp_var 0)))))),?_⟩
 rintro as Qd a ⟨x,y,t,m,rfl,h0,h1,q⟩
 walk_at "ds"
 walk_at "dd"
 have q:Qd (.fz (.int (if m % t=0 then x else y))) (.fz .none):=q
 have e:((m:Int) % (t:Int)=0) ↔ m % t=0:=by rw [<- Int.natCast_emod];lia
 refine ⟨by lia,two (λ h=>?_) λ h=>?_⟩
 ·rw [if_pos (e.mp h)] at q;exact q
 ·rw [if_neg (λ z=>h (e.mpr z))] at q;exact q
theorem sc_gate_of:FnScope ["gate"] ["gate"] (defScope s_gate_of):=by walk_at "sc"
theorem ok_gate_of (M:Md K mg) (T:TopDef K "gate_of" s_gate_of) (qG:MakeD P w K mg base "Tidal" jB 1 ["self", "wide", "other", "turn"] (spT K (p_Tidal___init__ jB))) (qC:MakeD P w K mg base "Steady" jA 1 ["self", "wide"] (spT K (p_Steady___init__ jA))) (qL:MakeD P w K mg base "Late" jC 1 ["self", "wide", "since"] (spT K (p_Late___init__ jC))):Def P w K mg base "gate_of" 3 ["gate"] (spT K (p_gate_of jA jC jB)):=by
 refine def_of M T sc_gate_of (λ _ _ _ _ _ _ us hl=>by obtain ⟨_,rfl⟩:=ar1 hl;rfl) (len_T λ as Qd h=>by obtain ⟨_,rfl,_⟩:=h;rfl) (body_T ?_)
 intro f cdv A outer s H E hr
 have nd:=sc_gate_of.nd
 refine ⟨_,_,(pss_cons (ps_if (pt_cmpU (op_eqD (K:=K) rfl (Room.units hr)) (pix w K hr (pv 0) pe_int) pe_str (nomark _)) (pss_one (ps_ret (pe_makeD qC (rmn hr) rfl (pa_cons (pix w K hr (pv 0) pe_int) pa_nil)))) pss_nil)
   (pss_cons (ps_if (pt_cmpU (op_eqD (K:=K) rfl (Room.units hr)) (pix w K hr (pv 0) pe_int) pe_str (nomark _)) (pss_one (ps_ret (pe_makeD qL (rmn hr) rfl (pa_cons (pix w K hr (pv 0) pe_int) (pa_cons (pix w K hr (pv 0) pe_int) pa_nil))))) pss_nil)
   (pss_one (ps_ret (pe_makeD qG (rmn hr) rfl (pa_cons (pix w K hr (pv 0) pe_int) (pa_cons (pix w K hr (pv 0) pe_int) (pa_cons (pix w K hr (pv 0) pe_int) pa_nil)))))))),(rs_seq (rs_if (rf_test (rf_opH q_eq (RfV.h (RfE.v (rf_op r_ix (rf_varV 0) rvi))) (RfV.h (RfE.v rf_str)))) (rs_ret (RfN.c (rn_make (at_d (rf_op r_ix (rf_varV 0) rvi) at_nil)))) rs_next)
   (rs_seq (rs_if (rf_test (rf_opH q_eq (RfV.h (RfE.v (rf_op r_ix (rf_varV 0) rvi))) (RfV.h (RfE.v rf_str)))) (rs_ret (RfN.c (rn_make (at_d (rf_op r_ix (rf_varV 0) rvi) (at_d (rf_op r_ix (rf_varV 0) rvi) at_nil))))) rs_next)
   (rs_ret (RfN.c (rn_make (at_d (rf_op r_ix (rf_varV 0) rvi) (at_d (rf_op r_ix (rf_varV 0) rvi) (at_d (rf_op r_ix (rf_varV 0) rvi) at_nil)))))))),?_⟩
 rintro as Qd a ⟨g,rfl,q⟩
 cases g with
|st x =>
  unfold Gt.d
  walk_at "ds"
  refine seq_hide λ J hJ=>?_
  walk_at "dd"
  refine ⟨_,rfl,?_⟩
  walk_at "dd"
  exact ⟨_,rfl,x,rfl,trivial,q⟩
|la x f =>
  unfold Gt.d
  walk_at "ds"
  refine seq_hide λ J hJ=>?_
  walk_at "dd"
  refine ⟨_,rfl,?_⟩
  walk_at "dd"
  rw [if_neg (by decide +kernel)]
  refine hJ _ ?_
  clear hJ
  refine seq_hide λ J hJ=>?_
  walk_at "dd"
  refine ⟨_,rfl,?_⟩
  walk_at "dd"
  exact ⟨_,rfl,_,rfl,x,f,rfl,trivial,q⟩
|ti x y t =>
  unfold Gt.d
  walk_at "ds"
  refine seq_hide λ J hJ=>?_
  walk_at "dd"
  refine ⟨_,rfl,?_⟩
  walk_at "dd"
  rw [if_neg (by decide +kernel)]
  refine hJ _ ?_
  clear hJ
  refine seq_hide λ J hJ=>?_
  walk_at "dd"
  refine ⟨_,rfl,?_⟩
  walk_at "dd"
  rw [if_neg (by decide +kernel)]
  refine hJ _ ?_
  clear hJ
  walk_at "dd"
  exact ⟨_,rfl,_,rfl,_,rfl,x,y,t,rfl,trivial,q⟩
theorem sc_width:FnScope ["gate", "moment"] ["gate", "moment"] (defScope s_width):=by walk_at "sc"
theorem ok_width (M:Md K mg) (T:TopDef K "width" s_width) (kX:Def P w K mg base "gate_of" 3 ["gate"] (spT K (p_gate_of jA jC jB))) (jS:Cls K jC) (jN:Cls K jA) (jL:Cls K jB) (jP:MethD P w K mg base jA "width_at" 1 ["self", "moment"] (spT K (p_Steady_width_at jA))) (jW:MethD P w K mg base jC "width_at" 1 ["self", "moment"] (spT K (p_Late_width_at jC))) (jT:MethD P w K mg base jB "width_at" 1 ["self", "moment"] (spT K (p_Tidal_width_at jB))):Def P w K mg base "width" 4 ["gate", "moment"] (spD K p_width):=by
 refine def_of M T sc_width (λ _ _ _ _ _ _ us hl=>by obtain ⟨_,_,rfl⟩:=ar2 hl;rfl) (len_D λ ds Qd h=>by obtain ⟨_,_,rfl,_⟩:=h;rfl) (body_D ?_)
 intro f cdv A outer s H E hr
 have nd:=sc_width.nd
 refine ⟨_,_,(pss_one (ps_ret (pe_methX (P:=P) (w:=w) (K:=K) (mg:=mg) (base:=base) (k:=1) rfl rfl rfl rfl rfl (rmn hr) (pe_callD kX (rmn hr) rfl (pa_cons (pv 0) pa_nil)) (pa_cons (pv 1) pa_nil)))),(rs_ret (RfE.c (RfN.ex (rn_methX (tab:=[(jA,(p_Steady_width_at jA)),(jC,(p_Late_width_at jC)),(jB,(p_Tidal_width_at jB))]) (tab3 ⟨_,jP⟩ ⟨_,jW⟩ ⟨_,jT⟩) (rn_call (at_d (rf_var 0) at_nil)) (ra_cons (rf_var 1) ra_nil))))),?_⟩
 rintro ds Qd ⟨g,m,rfl,ok,q⟩
 walk_at "ds"
 walk_at "dd"
 refine ⟨g,rfl,?_⟩
 cases g with
|st x =>
  unfold Gt.ob
  walk_at "dd"
  exact ⟨_,List.mem_cons_self,x,m,rfl,q⟩
|la x f =>
  unfold Gt.ob
  walk_at "dd"
  exact ⟨_,List.mem_cons_of_mem _ List.mem_cons_self,x,f,m,rfl,q⟩
|ti x y t =>
  unfold Gt.ob
  walk_at "dd"
  exact ⟨_,List.mem_cons_of_mem _ (List.mem_cons_of_mem _ List.mem_cons_self),x,y,t,m,rfl,ok.1,ok.2,q⟩
end
structure Pi where
 u:Nat
 v:Nat
 len:Nat
 pr:Int
 g:Gt
def Pi.d (p:Pi):D:=.tuple [.int (p.u:Int),.int (p.v:Int),.int (p.len:Int),.int p.pr,p.g.d]
structure Va where
 nm:Str
 room:Int
 fill:Int
def Va.d (v:Va):D:=.tuple [.str v.nm,.int v.room,.int v.fill]
structure Le where
 t:Nat
 at_:Nat
 am:Int
def Le.d (l:Le):D:=.tuple [.int (l.t:Int),.int (l.at_:Int),.int l.am]
def Gt.okk (g:Gt):Prop:=g.ok/\∀ m,0<=g.at m
def PiOk (n:Nat) (p:Pi):Prop:=p.u < n/\p.v < n/\1<=p.len/\g_le p.len/\p.g.okk
where g_le (l:Nat):Prop:=l<=20
def dY (vs:List Va) (ps:List Pi):D:=.tuple [.list (vs.map Va.d),.list (ps.map Pi.d)]
theorem ints_mapF {α:Type} (g:α->Int) (l:List α):intsD (l.map λ a=>PyData.int (g a))=some (l.map g):=by
 rw [show (l.map λ a=>PyData.int (g a))=(l.map g).map PyData.int by rw [List.map_map];rfl];exact ints_map _
def cellAt (ns:List Int) (k:Int):Int:=(ns[k.toNat]?).getD 0
theorem cell_at {ns:List Int} {k:Int} (h0:0<=k) (h:k < (ns.length:Int)):atI (ns.map PyData.int) k=some (.int (cellAt ns k)):=by
 obtain ⟨x,h1,h2⟩:=at_map_of PyData.int h0 h
 rw [h2]
 unfold cellAt
 rw [h1];rfl
def p_law_cell_at:DSp:=λ ds Q=>∃ (ns:List Int) (k:Nat),ds=[.list (ns.map .int),.int (k:Int)]/\k<=1000/\∀ m:Int,Q (.int m)
def p_law_great:DSp:=λ ds Q=>∃ (c g:Int),ds=[.int c,.int g]/\∀ m:Int,0<=m->m<=80000000000->Q (.int m)
def p_law_gate:DSp:=λ ds Q=>∃ (c g:Int) (u:Nat),ds=[.int c,.int g,.int (u:Int)]/\∀ x:Gt,x.okk->Q x.d
def p_law_pipe:DSp:=λ ds Q=>∃ (c g:Int) (n u:Nat),ds=[.int c,.int (n:Int),.int g,.int (u:Int)]/\2<=n/\n<=12/\∀ p:Pi,PiOk n p->Q p.d
def p_law_wide_at:DSp:=λ ds Q=>∃ (g:Gt) (m:Nat),ds=[g.d,.int (m:Int)]/\g.ok/\Q (.int (g.at m))
section
variable {P:Program} {w:World} {K:Fg} {mg:Str->Option Value} {base:Heap}
theorem sc__law_cell_at:FnScope ["script", "k"] ["script", "k"] (defScope s__law_cell_at):=by walk_at "sc"
theorem ok__law_cell_at (M:Md K mg) (T:TopDef K "_law_cell_at" s__law_cell_at) (qA:mg "len"=none):Def P w K mg base "_law_cell_at" 1 ["script", "k"] (spD K p_law_cell_at):=by
 refine def_of M T sc__law_cell_at (λ _ _ _ _ _ _ us hl=>by obtain ⟨_,_,rfl⟩:=ar2 hl;rfl) (len_D λ ds Qd h=>by obtain ⟨_,_,rfl,_⟩:=h;rfl) (body_D ?_)
 intro f cdv A outer s H E hr
 have nd:=sc__law_cell_at.nd
 refine ⟨_,_,(pss_cons (ps_if (pt_cmpU op_lt (pv 1) (pe_callB (call_lenU (K:=K) rfl) rfl qA bt_len (pa_cons (pv 0) pa_nil)) (nomark _)) (pss_one (ps_ret (pix w K hr (pv 0) (pv 1)))) pss_nil)
   (pss_one (ps_ret (pe_op (op_addW (K:=K) rfl) (pe_op op_mulV (pe_op op_mulV pe_int (pv 1)) (pv 1)) pe_int)))),(rs_seq (rs_if (rf_test (rf_op r_lt (rf_varV 1) (RfE.v (rf_cb c_len (rw_cons (rf_varV 0) rw_nil))))) (rs_ret (RfE.c (rf_op r_ix (rf_varV 0) (rf_varV 1)))) rs_next)
   (rs_ret (RfE.c (rf_op r_add (RfE.v (rf_op r_mul (RfE.v (rf_op r_mul rvi (rf_varV 1))) (rf_varV 1))) rvi)))),?_⟩
 rintro ds Qd ⟨ns,k,rfl,hk,q⟩
 walk_at "ds"
 refine seq_go ?_
 walk_at "dd"
 rw [List.length_map]
 refine two (λ h=>⟨_,cell_at (by lia) h,q _⟩) λ h=>?_
 exact ⟨.inl ⟨by decide,by decide⟩,.inr ⟨by lia,by lia⟩,q _⟩
theorem sc__law_great:FnScope ["cell", "large"] ["cell", "large"] (defScope s__law_great):=by walk_at "sc"
theorem ok__law_great (M:Md K mg) (T:TopDef K "_law_great" s__law_great) :Def P w K mg base "_law_great" 1 ["cell", "large"] (spD K p_law_great):=by
 refine def_of M T sc__law_great (λ _ _ _ _ _ _ us hl=>by obtain ⟨_,_,rfl⟩:=ar2 hl;rfl) (len_D λ ds Qd h=>by obtain ⟨_,_,rfl,_⟩:=h;rfl) (body_D ?_)
 intro f cdv A outer s H E hr
 have nd:=sc__law_great.nd
 refine ⟨_,_,(pss_cons (ps_if (PW.pt (pw_or (pt_cmpU (op_eqD (K:=K) rfl (Room.units hr)) (pv 1) pe_int (nomark _)) (pw_or1 (pt_cmpU (op_eqD (K:=K) rfl (Room.units hr)) (pe_op op_mod (pv 0) pe_int) pe_int (nomark _))))) (pss_one (ps_ret (pe_op op_mod (pe_op op_fdivW (pv 0) pe_int) pe_int))) pss_nil)
   (pss_one (ps_ret (pe_op op_mod (pe_op op_mod (pe_op op_mulV (pv 0) pe_int) pe_int) (pe_op (op_addW (K:=K) rfl) (pe_op op_mulV pe_int (pe_op op_pow pe_int pe_int)) pe_int))))),(rs_seq (rs_if (rf_or (rf_test (rf_opH q_eq (RfV.h (rf_varV 1)) (RfV.h rvi))) (rf_test (rf_opH q_eq (RfV.h (RfE.v (rf_op r_mod (rf_varV 0) rvi))) (RfV.h rvi)))) (rs_ret (RfE.c (rf_op r_mod (RfE.v (rf_op r_div (rf_varV 0) rvi)) rvi))) rs_next)
   (rs_ret (RfE.c (rf_op r_mod (RfE.v (rf_op r_mod (RfE.v (rf_op r_mul (rf_varV 0) rvi)) rvi)) (RfE.v (rf_op r_add (RfE.v (rf_op r_mul rvi (RfE.v (rf_op r_pow rvi rvi)))) rvi)))))),?_⟩
 rintro ds Qd ⟨c,g,rfl,q⟩
 walk_at "ds"
 refine seq_go ?_
 walk_at "dd"
 refine two (λ _=>q _ (by lia) (by lia)) λ _=>two (λ _=>q _ (by lia) (by lia)) λ _=>⟨.inr ⟨by decide,by decide⟩,by decide,.inl ⟨by decide,by decide⟩,q _ (by lia) (by lia)⟩
theorem sc__law_gate:FnScope ["cell", "large", "until", "wide", "late", "other"] ["cell", "large", "until"] (defScope s__law_gate):=by walk_at "sc"
theorem ok__law_gate (M:Md K mg) (T:TopDef K "_law_gate" s__law_gate) (qB:mg "min"=none) (jJ:Def P w K mg base "_law_great" 1 ["cell", "large"] (spD K p_law_great)):Def P w K mg base "_law_gate" 2 ["cell", "large", "until"] (spD K p_law_gate):=by
 refine def_of M T sc__law_gate (λ _ _ _ _ _ _ us hl=>by obtain ⟨_,_,_,rfl⟩:=ar3 hl;rfl) (len_D λ ds Qd h=>by obtain ⟨_,_,_,rfl,_⟩:=h;rfl) (body_D ?_)
 intro f cdv A outer s H E hr
 have nd:=sc__law_gate.nd
 refine ⟨_,_,(pss_cons (pset 3 nd (pe_op (op_addW (K:=K) rfl) pe_int (pe_op op_mod (pe_callD jJ (rmn hr) rfl (pa_cons (pe_op op_mod (pe_op op_mulV (pe_op op_fdivW (pv 0) pe_int) pe_int) pe_int) (pa_cons (pv 1) pa_nil))) (pe_op op_pow pe_int pe_int))))
   (pss_cons (pset 4 nd (pe_op op_mod (pe_op op_mulV (pe_op op_fdivW (pv 0) pe_int) pe_int) pe_int))
   (pss_cons (ps_if (pt_cmpU (op_eqD (K:=K) rfl (Room.units hr)) (pe_op op_mod (pv 4) pe_int) pe_int (nomark _)) (pss_one (ps_ret (pe_tupU (pa_cons pe_str (pa_cons (pv 3) pa_nil))))) pss_nil)
   (pss_cons (ps_if (pt_cmpU (op_eqD (K:=K) rfl (Room.units hr)) (pe_op op_mod (pv 4) pe_int) pe_int (nomark _)) (pss_one (ps_ret (pe_tupU (pa_cons pe_str (pa_cons (pv 3) (pa_cons (pe_op op_mod (pe_op op_fdivW (pv 4) pe_int) (pe_callB (call_min2 rfl) rfl qB bt_min (pa_cons (pe_op (op_addW (K:=K) rfl) (pv 2) pe_int) (pa_cons pe_int pa_nil)))) pa_nil)))))) pss_nil)
   (pss_cons (pset 5 nd (pe_op (op_addW (K:=K) rfl) pe_int (pe_op op_mod (pe_callD jJ (rmn hr) rfl (pa_cons (pe_op op_mod (pe_op op_mulV (pe_op op_fdivW (pv 0) pe_int) pe_int) pe_int) (pa_cons (pv 1) pa_nil))) (pe_op op_pow pe_int pe_int))))
   (pss_one (ps_ret (pe_tupU (pa_cons pe_str (pa_cons (pv 3) (pa_cons (pv 5) (pa_cons (pe_op (op_addW (K:=K) rfl) pe_int (pe_op op_mod (pe_op op_fdivW (pv 4) pe_int) pe_int)) pa_nil)))))))))))),(rs_seq (rs_asg (rf_op r_add rvi (RfE.v (rf_op r_mod (RfE.v (rf_call (ra_cons (rf_op r_mod (RfE.v (rf_op r_mul (RfE.v (rf_op r_div (rf_varV 0) rvi)) rvi)) rvi) (ra_cons (rf_var 1) ra_nil)))) (RfE.v (rf_op r_pow rvi rvi))))) (rgn 3))
   (rs_seq (rs_asg (rf_op r_mod (RfE.v (rf_op r_mul (RfE.v (rf_op r_div (rf_varV 0) rvi)) rvi)) rvi) (rgn 4))
   (rs_seq (rs_if (rf_test (rf_opH q_eq (RfV.h (RfE.v (rf_op r_mod (rf_varV 4) rvi))) (RfV.h rvi))) (rs_ret (RfE.c (rf_tup (ra_cons rf_str (ra_cons (rf_var 3) ra_nil))))) rs_next)
   (rs_seq (rs_if (rf_test (rf_opH q_eq (RfV.h (RfE.v (rf_op r_mod (rf_varV 4) rvi))) (RfV.h rvi))) (rs_ret (RfE.c (rf_tup (ra_cons rf_str (ra_cons (rf_var 3) (ra_cons (rf_op r_mod (RfE.v (rf_op r_div (rf_varV 4) rvi)) (RfE.v (rf_cb c_min2 (rw_cons (RfE.v (rf_op r_add (rf_varV 2) rvi)) (rw_cons rvi rw_nil))))) ra_nil)))))) rs_next)
   (rs_seq (rs_asg (rf_op r_add rvi (RfE.v (rf_op r_mod (RfE.v (rf_call (ra_cons (rf_op r_mod (RfE.v (rf_op r_mul (RfE.v (rf_op r_div (rf_varV 0) rvi)) rvi)) rvi) (ra_cons (rf_var 1) ra_nil)))) (RfE.v (rf_op r_pow rvi rvi))))) (rgn 5))
   (rs_ret (RfE.c (rf_tup (ra_cons rf_str (ra_cons (rf_var 3) (ra_cons (rf_var 5) (ra_cons (rf_op r_add rvi (RfE.v (rf_op r_mod (RfE.v (rf_op r_div (rf_varV 4) rvi)) rvi))) ra_nil)))))))))))),?_⟩
 rintro ds Qd ⟨c,g,u,rfl,q⟩
 walk_at "ds"
 refine seq_hide λ J hJ=>?_
 walk_at "dd"
 refine ⟨.inr ⟨by decide,by decide⟩,_,_,rfl,λ m m0 m1=>⟨by decide,?_⟩⟩
 walk_at "dd"
 refine hJ _ ?_
 clear hJ
 refine seq_hide λ J hJ=>?_
 walk_at "dd"
 refine ⟨.inr ⟨by decide,by decide⟩,hJ _ ?_⟩
 clear hJ
 generalize c / 5 * 60013 % 2147483579=la
 have hx:0<=1+m % 100000000000:=by lia
 generalize 1+m % 100000000000=x at hx ⊢
 refine seq_hide λ J hJ=>?_
 walk_at "dd"
 refine two (λ _=>q (.st x) ⟨trivial,λ _=>hx⟩) λ _=>hJ _ ?_
 clear hJ
 refine seq_hide λ J hJ=>?_
 walk_at "dd"
 refine two (λ _=>?_) λ _=>hJ _ ?_
 ·obtain ⟨y,hy⟩:∃ y:Int,y=if (61:Int) < (u:Int)+2 then 61 else (u:Int)+2:=⟨_,rfl⟩
  have y0:0 < y:=by rw [hy];split <;> lia
  rw [<- hy]
  refine ⟨y0,?_⟩
  obtain ⟨f,hf⟩:=Int.eq_ofNat_of_zero_le (Int.emod_nonneg (la / 3) (b:=y) (by lia))
  rw [hf]
  refine q (.la x f) ⟨trivial,λ t=>?_⟩
  show 0<=if f<=t then x else 0
  split <;> lia
 clear hJ
 refine seq_hide λ J hJ=>?_
 walk_at "dd"
 refine ⟨.inr ⟨by decide,by decide⟩,_,_,rfl,λ m' m0' m1'=>⟨by decide,?_⟩⟩
 walk_at "dd"
 refine hJ _ ?_
 clear hJ
 walk_at "dd"
 obtain ⟨f,hf⟩:=Int.eq_ofNat_of_zero_le (show 0<=2+la / 3 % 3 by lia)
 rw [hf]
 refine q (.ti x (1+m' % 100000000000) f) ⟨⟨by lia,by lia⟩,λ t=>?_⟩
 show 0<=if t % f=0 then x else 1+m' % 100000000000
 split <;> lia
theorem sc__law_pipe:FnScope ["cell", "many", "large", "until", "start", "goal", "length", "price"] ["cell", "many", "large", "until"] (defScope s__law_pipe):=by walk_at "sc"
theorem ok__law_pipe (M:Md K mg) (T:TopDef K "_law_pipe" s__law_pipe) (kP:Def P w K mg base "_law_gate" 2 ["cell", "large", "until"] (spD K p_law_gate)):Def P w K mg base "_law_pipe" 3 ["cell", "many", "large", "until"] (spD K p_law_pipe):=by
 refine def_of M T sc__law_pipe (λ _ _ _ _ _ _ us hl=>by obtain ⟨_,_,_,_,rfl⟩:=ar4 hl;rfl) (len_D λ ds Qd h=>by obtain ⟨_,_,_,_,rfl,_⟩:=h;rfl) (body_D ?_)
 intro f cdv A outer s H E hr
 have nd:=sc__law_pipe.nd
 refine ⟨_,_,(pss_cons (pset 4 nd (pe_op op_mod (pv 0) (pv 1)))
   (pss_cons (pset 5 nd (pe_op op_mod (pe_op (op_addW (K:=K) rfl) (pe_op (op_addW (K:=K) rfl) (pv 4) pe_int) (pe_op op_mod (pe_op op_fdivW (pv 0) (pv 1)) (pe_op op_sub (pv 1) pe_int))) (pv 1)))
   (pss_cons (pset 6 nd (pix w K hr (pe_lstU (pa_cons pe_int (pa_cons pe_int (pa_cons pe_int (pa_cons (pe_op (op_addW (K:=K) rfl) pe_int (pe_op op_mod (pe_op op_fdivW (pv 0) pe_int) pe_int)) pa_nil))))) (pe_op op_mod (pe_op op_fdivW (pv 0) pe_int) pe_int)))
   (pss_cons (pset 7 nd (pe_op op_mod (pe_op op_mod (pe_op op_mulV (pv 0) pe_int) pe_int) pe_int))
   (pss_one (ps_ret (pe_tupU (pa_cons (pv 4) (pa_cons (pv 5) (pa_cons (pv 6) (pa_cons (pv 7) (pa_cons (pe_callD kP (rmn hr) rfl (pa_cons (pv 0) (pa_cons (pv 2) (pa_cons (pv 3) pa_nil)))) pa_nil)))))))))))),(rs_seq (rs_asg (rf_op r_mod (rf_varV 0) (rf_varV 1)) (rgn 4))
   (rs_seq (rs_asg (rf_op r_mod (RfE.v (rf_op r_add (RfE.v (rf_op r_add (rf_varV 4) rvi)) (RfE.v (rf_op r_mod (RfE.v (rf_op r_div (rf_varV 0) (rf_varV 1))) (RfE.v (rf_op r_sub (rf_varV 1) rvi)))))) (rf_varV 1)) (rgn 5))
   (rs_seq (rs_asg (rf_op r_ix (RfE.v (RfF.e (rf_lst (ra_cons rf_int (ra_cons rf_int (ra_cons rf_int (ra_cons (rf_op r_add rvi (RfE.v (rf_op r_mod (RfE.v (rf_op r_div (rf_varV 0) rvi)) rvi))) ra_nil))))))) (RfE.v (rf_op r_mod (RfE.v (rf_op r_div (rf_varV 0) rvi)) rvi))) (rgn 6))
   (rs_seq (rs_asg (rf_op r_mod (RfE.v (rf_op r_mod (RfE.v (rf_op r_mul (rf_varV 0) rvi)) rvi)) rvi) (rgn 7))
   (rs_ret (RfE.c (rf_tup (ra_cons (rf_var 4) (ra_cons (rf_var 5) (ra_cons (rf_var 6) (ra_cons (rf_var 7) (ra_cons (rf_call (ra_cons (rf_var 0) (ra_cons (rf_var 2) (ra_cons (rf_var 3) ra_nil)))) ra_nil)))))))))))),?_⟩
 rintro ds Qd ⟨c,g,n,u,rfl,hn,hn2,q⟩
 walk_at "ds"
 refine seq_hide λ J hJ=>?_
 walk_at "dd"
 have u0:=Int.emod_nonneg c (b:=(n:Int)) (by lia)
 have u1:=Int.emod_lt_of_pos c (b:=(n:Int)) (by lia)
 refine ⟨by lia,hJ _ ?_⟩
 clear hJ
 refine seq_hide λ J hJ=>?_
 walk_at "dd"
 have v1:=Int.emod_lt_of_pos (c % (n:Int)+1+c / (n:Int) % ((n:Int) - 1)) (b:=(n:Int)) (by lia)
 have v0:=Int.emod_nonneg (c % (n:Int)+1+c / (n:Int) % ((n:Int) - 1)) (b:=(n:Int)) (by lia)
 refine ⟨⟨by lia,by lia⟩,by lia,by lia,hJ _ ?_⟩
 clear hJ
 obtain ⟨a,ha⟩:=Int.eq_ofNat_of_zero_le u0
 obtain ⟨v,hv⟩:=Int.eq_ofNat_of_zero_le v0
 rw [hv,ha]
 rw [hv] at v1
 rw [ha] at u1
 clear hv ha v0 u0
 refine seq_hide λ J hJ=>?_
 walk_at "dd"
 obtain ⟨l,l1,l2,hl⟩:∃ l:Nat,1<=l/\l<=20/\atI [PyData.int 1,PyData.int 1,PyData.int 2,PyData.int (1+c / 800 % 20)] (c / 200 % 4)=some (.int (l:Int)):=by
  rcases (show c / 200 % 4=0 \/ c / 200 % 4=1 \/ c / 200 % 4=2 \/ c / 200 % 4=3 by lia) with h|h|h|h <;> rw [h]
  ·exact ⟨1,by lia,by lia,rfl⟩
  ·exact ⟨1,by lia,by lia,rfl⟩
  ·exact ⟨2,by lia,by lia,rfl⟩
  ·obtain ⟨l,hl⟩:=Int.eq_ofNat_of_zero_le (show 0<=1+c / 800 % 20 by lia)
   rw [hl]
   exact ⟨l,by lia,by lia,rfl⟩
 refine ⟨_,hl,hJ _ ?_⟩
 clear hJ hl
 refine seq_hide λ J hJ=>?_
 walk_at "dd"
 refine ⟨.inr ⟨by decide,by decide⟩,hJ _ ?_⟩
 clear hJ
 generalize c * 69621 % 2147483629 % 1000001=pr
 walk_at "dd"
 refine ⟨c,g,u,rfl,λ x hx=>?_⟩
 exact q ⟨a,v,l,pr,x⟩ ⟨by show a < n;lia,by show v < n;lia,l1,l2,hx⟩
end
section
variable {P:Program} {w:World} {K:Fg} {mg:Str->Option Value} {base:Heap}
theorem sc__law_wide_at:FnScope ["gate", "moment"] ["gate", "moment"] (defScope s__law_wide_at):=by walk_at "sc"
theorem ok__law_wide_at (M:Md K mg) (T:TopDef K "_law_wide_at" s__law_wide_at) :Def P w K mg base "_law_wide_at" 1 ["gate", "moment"] (spD K p_law_wide_at):=by
 refine def_of M T sc__law_wide_at (λ _ _ _ _ _ _ us hl=>by obtain ⟨_,_,rfl⟩:=ar2 hl;rfl) (len_D λ ds Qd h=>by obtain ⟨_,_,rfl,_⟩:=h;rfl) (body_D ?_)
 intro f cdv A outer s H E hr
 have nd:=sc__law_wide_at.nd
 refine ⟨_,_,(pss_cons (ps_if (PW.pt (pw_and (pt_cmpU (op_eqD (K:=K) rfl (Room.units hr)) (pix w K hr (pv 0) pe_int) pe_str (nomark _)) (pw_and1 (pt_cmpU op_lt (pv 1) (pix w K hr (pv 0) pe_int) (nomark _))))) (pss_one (ps_ret pe_int)) pss_nil)
   (pss_cons (ps_if (PW.pt (pw_and (pt_cmpU (op_eqD (K:=K) rfl (Room.units hr)) (pix w K hr (pv 0) pe_int) pe_str (nomark _)) (pw_and1 (pt_cmpU (op_neD (K:=K) rfl (Room.units hr)) (pe_op op_mod (pv 1) (pix w K hr (pv 0) pe_int)) pe_int (nomark _))))) (pss_one (ps_ret (pix w K hr (pv 0) pe_int))) pss_nil)
   (pss_one (ps_ret (pix w K hr (pv 0) pe_int))))),(rs_seq (rs_if (rf_and (rf_test (rf_opH q_eq (RfV.h (RfE.v (rf_op r_ix (rf_varV 0) rvi))) (RfV.h (RfE.v rf_str)))) (rf_test (rf_op r_lt (rf_varV 1) (RfE.v (rf_op r_ix (rf_varV 0) rvi))))) (rs_ret (RfE.c rf_int)) rs_next)
   (rs_seq (rs_if (rf_and (rf_test (rf_opH q_eq (RfV.h (RfE.v (rf_op r_ix (rf_varV 0) rvi))) (RfV.h (RfE.v rf_str)))) (rf_test (rf_opH q_ne (RfV.h (RfE.v (rf_op r_mod (rf_varV 1) (RfE.v (rf_op r_ix (rf_varV 0) rvi))))) (RfV.h rvi)))) (rs_ret (RfE.c (rf_op r_ix (rf_varV 0) rvi))) rs_next)
   (rs_ret (RfE.c (rf_op r_ix (rf_varV 0) rvi))))),?_⟩
 rintro ds Qd ⟨g,m,rfl,ok,q⟩
 walk_at "ds"
 cases g with
|st x =>
  unfold Gt.d
  refine seq_hide λ J hJ=>?_
  walk_at "dd"
  refine ⟨_,rfl,?_⟩
  walk_at "dd"
  rw [if_neg (by decide +kernel)]
  refine hJ _ ?_
  clear hJ
  refine seq_hide λ J hJ=>?_
  walk_at "dd"
  refine ⟨_,rfl,?_⟩
  walk_at "dd"
  rw [if_neg (by decide +kernel)]
  refine hJ _ ?_
  clear hJ
  walk_at "dd"
  exact ⟨_,rfl,q⟩
|la x f =>
  unfold Gt.d
  refine seq_hide λ J hJ=>?_
  walk_at "dd"
  refine ⟨_,rfl,?_⟩
  walk_at "dd"
  refine ⟨_,rfl,?_⟩
  walk_at "dd"
  refine two (λ h=>?_) λ h=>hJ _ ?_
  ·have e:Gt.at (.la x f) m=0:=if_neg (by lia)
   rw [e] at q;exact q
  clear hJ
  refine seq_hide λ J hJ=>?_
  walk_at "dd"
  refine ⟨_,rfl,?_⟩
  walk_at "dd"
  rw [if_neg (by decide +kernel)]
  refine hJ _ ?_
  clear hJ
  walk_at "dd"
  have e:Gt.at (.la x f) m=x:=if_pos (by lia)
  rw [e] at q
  exact ⟨_,rfl,q⟩
|ti x y t =>
  obtain ⟨o1,o2⟩:=ok
  unfold Gt.d
  refine seq_hide λ J hJ=>?_
  walk_at "dd"
  refine ⟨_,rfl,?_⟩
  walk_at "dd"
  rw [if_neg (by decide +kernel)]
  refine hJ _ ?_
  clear hJ
  refine seq_hide λ J hJ=>?_
  walk_at "dd"
  refine ⟨_,rfl,?_⟩
  walk_at "dd"
  refine ⟨_,rfl,?_⟩
  walk_at "dd"
  refine ⟨by lia,two (λ h=>⟨_,rfl,?_⟩) λ h=>hJ _ ?_⟩
  ·have e:Gt.at (.ti x y t) m=y:=if_neg (by lia)
   rw [e] at q;exact q
  clear hJ
  walk_at "dd"
  have e:Gt.at (.ti x y t) m=x:=if_pos (by lia)
  rw [e] at q
  exact ⟨_,rfl,q⟩
end
abbrev Sp:=Nat×Nat
abbrev ky (m i:Nat):List Key:=[.inl (m:Int),.inl (i:Int)]
theorem ky_inj {m i m' i':Nat} (h:ky m i=ky m' i'):m=m'/\i=i':=by
 simp only [ky,List.cons.injEq,Sum.inl.injEq,and_true] at h
 lia
def sxD (x:Sp):D:=.tuple [.int (x.1:Int),.int (x.2:Int)]
def kvS (x:Sp):List Key×D:=(ky x.1 x.2,.bool true)
def rmV (vs:List Va) (k:Nat):Int:=((vs[k]?).map Va.room).getD 0
def flV (vs:List Va) (k:Nat):Int:=((vs[k]?).map Va.fill).getD 0
theorem get_S:∀ {S:List Sp} {m k:Nat},(getA (S.map kvS) (ky m k)).isSome=decide ((m,k)∈S)
|[],m,k=>rfl
|x :: r,m,k=>by
  have ih:=get_S (S:=r) (m:=m) (k:=k)
  unfold getA at ih ⊢
  rw [List.map_cons]
  by_cases c:x=(m,k)
  ·subst c
   rw [List.find?_cons_of_pos (by exact decide_eq_true rfl),decide_eq_true (List.mem_cons_self ..)];rfl
  ·rw [List.find?_cons_of_neg (by
    intro z
    have:=ky_inj (of_decide_eq_true z)
    exact c (Prod.ext this.1 this.2)),ih]
   exact decide_eq_decide.mpr ⟨λ z=>List.mem_cons_of_mem _ z,λ z=>(List.mem_cons.mp z).elim (λ e=>absurd e.symm c) id⟩
def p_spot_lets_in:DSpT:=λ as Q=>∃ (vs:List Va) (S:List Sp) (x:Sp),as=[.d (.list (vs.map Va.d)),.b (.dt (S.map kvS)),.d (sxD x)]/\x.2 < vs.length/\Q (.fz (.int (spI S (flV vs) (rmV vs) x))) (.fz .none)
def p_pipe_lets_in:DSpT:=λ as Q=>∃ (n:Nat) (p:Pi) (S:List Sp),as=[.d p.d,.b (.dt (S.map kvS))]/\PiOk n p/\Q (.fz (.int (su S (ppI S p.u p.v p.len p.g.at)))) (.fz .none)
def p_lets_in:DSp:=λ ds Q=>∃ (n:Nat) (vs:List Va) (ps:List Pi) (S:List Sp) (u:D),ds=[dY vs ps,.list (S.map sxD),u]/\S.Nodup/\S.length<=200/\ps.length<=100/\(∀ x∈S,x.2 < vs.length)/\(∀ p∈ps,PiOk n p)/\Q (.int (su S (spI S (flV vs) (rmV vs))+su ps λ p=>su S (ppI S p.u p.v p.len p.g.at)))
theorem few_S {S:List Sp} {u n:Nat} (nd:S.Nodup) (hb:∀ x∈S,x.1<=u/\x.2 < n):S.length<=(u+1) * n:=by
 have:=len_le_of_nodup ((u+1) * n) (S.map λ x=>x.1 * n+x.2) (nodup_map' _ nd λ x hx y hy e=>?_) λ z hz=>?_
 ·rw [List.length_map] at this;exact this
 ·have h1:=hb x hx
  have h2:=hb y hy
  have d1:(x.1 * n+x.2) / n=x.1:=by rw [Nat.mul_comm,Nat.mul_add_div (by lia),Nat.div_eq_of_lt h1.2];rfl
  have d2:(y.1 * n+y.2) / n=y.1:=by rw [Nat.mul_comm,Nat.mul_add_div (by lia),Nat.div_eq_of_lt h2.2];rfl
  have e1:x.1=y.1:=by rw [<- d1,<- d2];exact congrArg (· / n) e
  refine Prod.ext e1 ?_
  have e:x.1 * n+x.2=y.1 * n+y.2:=e
  rw [e1] at e
  lia
 ·obtain ⟨x,hx,rfl⟩:=List.mem_map.mp hz
  have h1:=hb x hx
  have:x.1 * n<=u * n:=Nat.mul_le_mul_right n h1.1
  rw [Nat.add_mul,Nat.one_mul]
  show x.1 * n+x.2 < _
  lia
theorem put_S (l:List Sp) (nd:l.Nodup) (m k:Nat):∃ l':List Sp,putD (l.map kvS) (ky m k) (.bool true)=l'.map kvS/\l'.Nodup/\((m,k) ∉ l->l'=l++[(m,k)])/\∀ y∈l',y∈l \/ y=(m,k):=by
 unfold putD
 have ek:∀ y:Sp,(kvS y).1=ky m k ↔ y=(m,k):=λ y=>⟨λ z=>by have:=ky_inj z;exact Prod.ext this.1 this.2,λ z=>by rw [z];rfl⟩
 split
 ·rename_i c
  refine ⟨l,?_,nd,λ z=>?_,λ y hy=>.inl hy⟩
  ·rw [List.map_map]
   refine List.map_congr_left λ y _=>?_
   simp only [Function.comp]
   by_cases c:y=(m,k)
   ·rw [if_pos ((ek y).mpr c),c];rfl
   ·rw [if_neg (λ z=>c ((ek y).mp z))]
  ·obtain ⟨y,hy,e⟩:=List.any_eq_true.mp c
   obtain ⟨x,hx,rfl⟩:=List.mem_map.mp hy
   exact absurd ((ek x).mp (of_decide_eq_true e) ▸ hx) z
 ·rename_i c
  refine ⟨l++[(m,k)],by rw [List.map_append];rfl,?_,λ _=>rfl,λ y hy=>?_⟩
  ·refine List.nodup_append.mpr ⟨nd,by simp,λ x hx y hy e=>c ?_⟩
   simp at hy
   rw [hy] at e
   exact List.any_eq_true.mpr ⟨kvS x,List.mem_map.mpr ⟨x,hx,rfl⟩,decide_eq_true ((ek x).mpr e)⟩
  ·rcases List.mem_append.mp hy with z|z
   ·exact .inl z
   ·simp at z;exact .inr z
def inM (S:List Sp) (st go ln:Nat) (wd:Nat->Int) (m:Nat):Int:=if (m,st) ∉ S/\(m+ln,go)∈S then wd m else 0
theorem in_pp {S:List Sp} {u st go ln:Nat} {wd:Nat->Int} (nd:S.Nodup) (hb:∀ x∈S,x.1<=u):su (List.range (u+1 - ln)) (inM S st go ln wd)=su S (ppI S st go ln wd):=by
 obtain ⟨T,hT⟩:∃ T,T=(S.filter λ x=>decide (x.2=go/\ln<=x.1)).map λ x=>x.1 - ln:=⟨_,rfl⟩
 have mem:∀ m,m∈T ↔ (m+ln,go)∈S:=λ m=>by
  rw [hT,List.mem_map]
  constructor
  ·rintro ⟨x,hx,rfl⟩
   obtain ⟨h1,h2⟩:=List.mem_filter.mp hx
   have h2:=of_decide_eq_true h2
   have:(x.1 - ln+ln,go)=x:=Prod.ext (by show x.1 - ln+ln=x.1;lia) h2.1.symm
   rw [this];exact h1
  ·intro h
   exact ⟨(m+ln,go),List.mem_filter.mpr ⟨h,decide_eq_true ⟨rfl,by show ln<=m+ln;lia⟩⟩,by show m+ln - ln=m;lia⟩
 have ndT:T.Nodup:=by
  rw [hT]
  refine nodup_map' _ (nd.sublist List.filter_sublist) λ x hx y hy e=>?_
  have h1:=of_decide_eq_true (List.mem_filter.mp hx).2
  have h2:=of_decide_eq_true (List.mem_filter.mp hy).2
  exact Prod.ext (by lia) (h1.1.trans h2.1.symm)
 have e1:su S (ppI S st go ln wd)=su T λ m=>if (m,st) ∉ S then wd m else 0:=by
  rw [hT,su_map,su_filter]
  refine su_congr λ x _=>?_
  unfold ppI
  by_cases c:x.2=go/\ln<=x.1
  ·rw [if_pos (decide_eq_true c)]
   by_cases c2:(x.1 - ln,st)∈S
   ·rw [if_neg (λ z=>z.2.2 c2),if_neg (λ z=>z c2)]
   ·rw [if_pos ⟨c.1,c.2,c2⟩,if_pos c2]
  ·rw [if_neg (λ z=>c ⟨z.1,z.2.1⟩),if_neg (λ z=>c (of_decide_eq_true z))]
 rw [e1,<- su_mem (c:=u+1 - ln) _ ndT λ m hm=>?_]
 ·refine su_congr λ m _=>?_
  unfold inM
  by_cases c:m∈T
  ·rw [if_pos c]
   have:=(mem m).mp c
   by_cases c2:(m,st)∈S
   ·rw [if_neg (λ z=>z.1 c2),if_neg (λ z=>z c2)]
   ·rw [if_pos ⟨c2,this⟩,if_pos c2]
  ·rw [if_neg c,if_neg (λ z=>c ((mem m).mpr z.2))]
 ·have:=hb _ ((mem m).mp hm)
  have:m+ln<=u:=this
  lia
section
variable {P:Program} {w:World} {K:Fg} {mg:Str->Option Value} {base:Heap} {jA jC jB:Addr}
theorem sc_spot_lets_in:FnScope ["vats", "within", "place", "moment", "vat"] ["vats", "within", "place"] (defScope s_spot_lets_in):=by walk_at "sc"
theorem ok_spot_lets_in (M:Md K mg) (T:TopDef K "spot_lets_in" s_spot_lets_in) :Def P w K mg base "spot_lets_in" 1 ["vats", "within", "place"] (spT K p_spot_lets_in):=by
 refine def_of M T sc_spot_lets_in (λ _ _ _ _ _ _ us hl=>by obtain ⟨_,_,_,rfl⟩:=ar3 hl;rfl) (len_T λ as Qd h=>by obtain ⟨_,_,_,rfl,_⟩:=h;rfl) (body_T ?_)
 intro f cdv A outer s H E hr
 have nd:=sc_spot_lets_in.nd
 refine ⟨_,_,(pss_cons (pset 3 nd (pix w K hr (pv 2) pe_int))
   (pss_cons (pset 4 nd (pix w K hr (pv 2) pe_int))
   (pss_cons (ps_if (pt_cmpU (op_eqD (K:=K) rfl (Room.units hr)) (pv 3) pe_int (nomark _)) (pss_one (ps_ret (pix w K hr (pix w K hr (pv 0) (pv 4)) pe_int))) pss_nil)
   (pss_one (ps_ret (pe_ifExp (pt_cmpU (op_inV (w:=w) (K:=K) (Room.units hr) rfl rfl) (pe_tupU (pa_cons (pe_op op_sub (pv 3) pe_int) (pa_cons (pv 4) pa_nil))) (pv 1) (by with_unfolding_all rfl)) pe_int (pix w K hr (pix w K hr (pv 0) (pv 4)) pe_int))))))),(rs_seq (rs_asg (rf_op r_ix (rf_varV 2) rvi) (rgn 3))
   (rs_seq (rs_asg (rf_op r_ix (rf_varV 2) rvi) (rgn 4))
   (rs_seq (rs_if (rf_test (rf_opH q_eq (RfV.h (rf_varV 3)) (RfV.h rvi))) (rs_ret (RfE.c (rf_op r_ix (RfE.v (rf_op r_ix (rf_varV 0) (rf_varV 4))) rvi))) rs_next)
   (rs_ret (RfE.c (rf_ifE (rf_test (rf_nin (rf_tup (ra_cons (rf_op r_sub (rf_varV 3) rvi) (ra_cons (rf_var 4) ra_nil))) (rp_var 1))) rf_int (rf_op r_ix (RfE.v (rf_op r_ix (rf_varV 0) (rf_varV 4))) rvi))))))),?_⟩
 rintro as Qd a ⟨vs,S,x,rfl,hx,q⟩
 obtain ⟨m,k⟩:=x
 have hx:k < vs.length:=hx
 have e:vs[k]?=some vs[k]:=List.getElem?_eq_getElem hx
 have ev:atI (vs.map Va.d) (k:Int)=some (vs[k]).d:=atI_nat (by rw [List.getElem?_map,e];rfl)
 unfold sxD
 walk_at "ds"
 refine seq_hide λ J hJ=>?_
 walk_at "dd"
 refine ⟨_,rfl,hJ _ ?_⟩
 clear hJ
 refine seq_hide λ J hJ=>?_
 walk_at "dd"
 refine ⟨_,rfl,hJ _ ?_⟩
 clear hJ
 refine seq_hide λ J hJ=>?_
 walk_at "dd"
 refine two (λ h=>⟨_,ev,?_⟩) λ h=>hJ _ ?_
 ·unfold Va.d
  walk_at "dd"
  refine ⟨_,rfl,?_⟩
  have e2:spI S (flV vs) (rmV vs) (m,k)=(vs[k]).fill:=by
   unfold spI flV
   rw [if_pos (show (m,k).1=0 by show m=0;lia),e];rfl
  rw [e2] at q
  exact q
 clear hJ
 have m1:(m:Int) - 1=((m - 1:Nat):Int):=by lia
 walk_at "dd"
 rw [m1]
 refine ⟨ky (m - 1) k,rfl,?_⟩
 rw [get_S]
 refine two (λ h2=>?_) λ h2=>⟨_,ev,?_⟩
 ·have e2:spI S (flV vs) (rmV vs) (m,k)=0:=by
   unfold spI
   rw [if_neg (show ¬ (m,k).1=0 by show ¬ m=0;lia),if_pos (of_decide_eq_true h2)]
  rw [e2] at q
  exact q
 ·unfold Va.d
  walk_at "dd"
  refine ⟨_,rfl,?_⟩
  have e2:spI S (flV vs) (rmV vs) (m,k)=(vs[k]).room:=by
   unfold spI rmV
   rw [if_neg (show ¬ (m,k).1=0 by show ¬ m=0;lia),if_neg (λ z=>h2 (decide_eq_true z)),e];rfl
  rw [e2] at q
  exact q
end
section
variable {P:Program} {w:World} {K:Fg} {mg:Str->Option Value} {base:Heap} {jA jC jB:Addr}
theorem g_hide {dg:DG} {db:DS} {E:DEnds} {d:D} {δ':DSt} (h:∀ B:DS,(∀ E δ,db E δ->B E δ)->dg d δ' λ δ2=>B E δ2):dg d δ' λ δ2=>db E δ2:=h db λ _ _ z=>z
theorem sc_pipe_lets_in:FnScope ["pipe", "within", "told", "moment", "vat", "begun"] ["pipe", "within"] (defScope s_pipe_lets_in):=by walk_at "sc"
theorem ok_pipe_lets_in (M:Md K mg) (T:TopDef K "pipe_lets_in" s_pipe_lets_in) (qH:Def P w K mg base "width" 4 ["gate", "moment"] (spD K p_width)):Def P w K mg base "pipe_lets_in" 5 ["pipe", "within"] (spT K p_pipe_lets_in):=by
 refine def_of M T sc_pipe_lets_in (λ _ _ _ _ _ _ us hl=>by obtain ⟨_,_,rfl⟩:=ar2 hl;rfl) (len_T λ as Qd h=>by obtain ⟨_,_,_,rfl,_⟩:=h;rfl) (body_T ?_)
 intro f cdv A outer s H E hr
 have nd:=sc_pipe_lets_in.nd
 refine ⟨_,_,(pss_cons (pset 2 nd pe_int)
   (pss_cons (ps_thaw (ps_for PassesOwn.never rfl (pi_keys (pv 1)) (pg_tupU (K:=K) (n:=2) rfl rfl (pgs_cons (pgn 3 nd) (pgs_cons (pgn 4 nd) pgs_nil))) (pss_cons (pset 5 nd (pe_op op_sub (pv 3) (pix w K hr (pv 0) pe_int)))
   (pss_one (ps_if (PW.pt (pw_and (pt_cmpU (op_eqD (K:=K) rfl (Room.units hr)) (pv 4) (pix w K hr (pv 0) pe_int) (nomark _)) (pw_and (pt_cmpU op_ge (pv 5) pe_int (nomark _)) (pw_and1 (pt_cmpU (op_notInV (w:=w) (K:=K) (Room.units hr) rfl rfl) (pe_tupU (pa_cons (pv 5) (pa_cons (pix w K hr (pv 0) pe_int) pa_nil))) (pv 1) (by with_unfolding_all rfl)))))) (pss_one (ps_aug (i:=2) nd rfl (by first|exact Or.inl rfl|exact Or.inr rfl) (pe_callD qH (rmn hr) rfl (pa_cons (pix w K hr (pv 0) pe_int) (pa_cons (pv 5) pa_nil))) ip_add)) pss_nil)))))
   (pss_one (ps_ret (pv 2))))),(rs_seq (rs_asg rf_int (rgn 2))
   (rs_seq (rs_forK (i:=1) (rg_tup (rgs_cons (rgn 3) (rgs_cons (rgn 4) rgs_nil))) (rs_seq (rs_asg (rf_op r_sub (rf_varV 3) (RfE.v (rf_op r_ix (rf_varV 0) rvi))) (rgn 5))
   (rs_if (rf_and (rf_test (rf_opH q_eq (RfV.h (rf_varV 4)) (RfV.h (RfE.v (rf_op r_ix (rf_varV 0) rvi))))) (rf_and (rf_test (rf_op r_ge (rf_varV 5) rvi)) (rf_test (rf_nnin (rf_tup (ra_cons (rf_var 5) (ra_cons (rf_op r_ix (rf_varV 0) rvi) ra_nil))) (rp_var 1))))) (rs_aug (rf_call (ra_cons (rf_op r_ix (rf_varV 0) rvi) (ra_cons (rf_var 5) ra_nil)))) rs_next)))
   (rs_ret (RfE.c (rf_var 2))))),?_⟩
 rintro as Qd a ⟨n,p,S,rfl,ok,q⟩
 walk_at "ds"
 refine seq_hide λ J hJ=>?_
 walk_at "dd"
 refine hJ _ ?_
 clear hJ
 refine seq_hide λ J hJ=>?_
 refine forK_inv (kvs:=S.map kvS) rfl (λ a j δ=>∃ (s3 s4 s5:Sl),δ=[.sh p.d,.bo (.dz a (S.map kvS)),.sh (.int (su (S.take j) (ppI S p.u p.v p.len p.g.at))),s3,s4,s5]) (λ a=>⟨_,_,_,rfl⟩) (λ a j δ' h=>?_) (λ a j kv δ' hk h=>?_) λ a δ' h=>?_
 ·obtain ⟨s3,s4,s5,rfl⟩:=h
  rfl
 ·obtain ⟨s3,s4,s5,rfl⟩:=h
  rw [List.getElem?_map] at hk
  obtain ⟨x,hx,rfl⟩:=Option.map_eq_some_iff.mp hk
  have tk:S.take (j+1)=S.take j++[x]:=by rw [List.take_add_one,hx];rfl
  have es:su (S.take (j+1)) (ppI S p.u p.v p.len p.g.at)=su (S.take j) (ppI S p.u p.v p.len p.g.at)+ppI S p.u p.v p.len p.g.at x:=by
   rw [tk,su_app,su_cons,su_nil,Int.add_zero]
  rw [es]
  generalize su (S.take j) (ppI S p.u p.v p.len p.g.at)=tot
  obtain ⟨m,k⟩:=x
  have hg:∀ m k,(getA (S.map kvS) (ky m k)).isSome=decide ((m,k)∈S):=λ m k=>get_S
  generalize S.map kvS=KS at hg ⊢
  refine g_hide λ B hB=>?_
  unfold kvS kD
  walk_at "dd"
  refine hB _ _ ?_
  clear hB
  refine seq_hide λ J2 hJ2=>?_
  unfold Pi.d
  walk_at "dd"
  refine ⟨_,rfl,?_⟩
  walk_at "dd"
  refine hJ2 _ ?_
  clear hJ2
  have no:¬ (k=p.v/\p.len<=m/\(m - p.len,p.u) ∉ S)->ppI S p.u p.v p.len p.g.at (m,k)=0:=λ z=>if_neg z
  walk_at "dd"
  refine ⟨_,rfl,?_⟩
  walk_at "dd"
  refine two (λ h1=>two (λ h2=>⟨_,rfl,?_⟩) λ h2=>?_) λ h1=>?_
  ·have e1:(m:Int) - (p.len:Int)=((m - p.len:Nat):Int):=by lia
   rw [e1]
   refine ⟨ky (m - p.len) p.u,rfl,?_⟩
   rw [hg]
   refine two (λ h3=>?_) λ h3=>?_
   ·rw [show ppI S p.u p.v p.len p.g.at (m,k)=p.g.at (m - p.len) from if_pos ⟨show k=p.v by lia,show p.len<=m by lia,of_decide_eq_false h3⟩]
    exact ⟨_,rfl,p.g,m - p.len,rfl,ok.2.2.2.2.1,_,_,_,rfl⟩
   ·rw [no λ z=>h3 (decide_eq_false z.2.2),Int.add_zero]
    exact ⟨_,_,_,rfl⟩
  ·rw [no λ z=>h2 (by lia),Int.add_zero]
   exact ⟨_,_,_,rfl⟩
  ·rw [no λ z=>h1 (by lia),Int.add_zero]
   exact ⟨_,_,_,rfl⟩
 ·obtain ⟨s3,s4,s5,rfl⟩:=h
  rw [List.length_map,List.take_length]
  refine hJ _ ?_
  clear hJ
  unfold offA
  simp only [List.map_cons,List.map_nil,offB]
  walk_at "dd"
  exact q
end
section
variable {P:Program} {w:World} {K:Fg} {mg:Str->Option Value} {base:Heap} {jA jC jB:Addr}
theorem mD_go {κ:Type} [DecidableEq κ]:∀ {l acc:List (κ×D)},((acc++l).map (·.1)).Nodup->l.foldl (λ a x=>putD a x.1 x.2) acc=acc++l
|[],acc,_=>by simp
|x :: l,acc,nd=>by
  have h:putD acc x.1 x.2=acc++[x]:=by
   unfold putD
   rw [if_neg]
   intro z
   obtain ⟨y,hy,e⟩:=List.any_eq_true.mp z
   rw [List.map_append,List.nodup_append] at nd
   exact nd.2.2 y.1 (List.mem_map.mpr ⟨y,hy,rfl⟩) x.1 (by simp) (of_decide_eq_true e)
  rw [List.foldl_cons,h,mD_go (by rw [List.append_assoc];exact nd),List.append_assoc];rfl
theorem mD_S {S:List Sp} (nd:S.Nodup):mD (S.map kvS)=S.map kvS:=by
 unfold mD
 rw [mD_go (acc:=[])]
 ·rfl
 ·rw [List.nil_append,List.map_map]
  exact nodup_map' _ nd λ x _ y _ e=>by
   have:=ky_inj e
   exact Prod.ext this.1 this.2
theorem sc_lets_in:FnScope ["yard", "part", "until", "within", "by_vats"] ["yard", "part", "until"] (defScope s_lets_in):=by walk_at "sc"
theorem ok_lets_in (M:Md K mg) (T:TopDef K "lets_in" s_lets_in) (qD:mg "dict"=none) (qF:mg "sum"=none) (kC:Def P w K mg base "spot_lets_in" 1 ["vats", "within", "place"] (spT K p_spot_lets_in)) (kE:Def P w K mg base "pipe_lets_in" 5 ["pipe", "within"] (spT K p_pipe_lets_in)):Def P w K mg base "lets_in" 6 ["yard", "part", "until"] (spD K p_lets_in):=by
 refine def_of M T sc_lets_in (λ _ _ _ _ _ _ us hl=>by obtain ⟨_,_,_,rfl⟩:=ar3 hl;rfl) (len_D λ ds Qd h=>by obtain ⟨_,_,_,_,_,rfl,_⟩:=h;rfl) (body_D ?_)
 intro f cdv A outer s H E hr
 have nd:=sc_lets_in.nd
 refine ⟨_,_,(pss_cons (pset 3 nd (pe_callTy (call_dictU (K:=K) rfl rfl (Room.units hr)) rfl qD bt_dict (pa_cons (pe_comp (sc:=defScope s_lets_in) (N:=["yard", "part", "until", "within", "by_vats"]) (own:=["place"]) (ix:=[]) rfl rfl rfl (by walk_at "csc") (pi_W (K:=K) rfl (pv 1)) (λ _ _ _ _=>⟨(pgn 0 (nds ["place"])),pif_nil,(pe_tupU (pa_cons (pv 0) (pa_cons pe_bl pa_nil)))⟩)) pa_nil)))
   (pss_cons (pset 4 nd (pe_callB (call_sumU (K:=K) rfl rfl) rfl qF bt_sum (pa_cons (pe_comp (sc:=defScope s_lets_in) (N:=["yard", "part", "until", "within", "by_vats"]) (own:=["place"]) (ix:=[3,0]) rfl rfl rfl (by walk_at "csc") (pi_W (K:=K) rfl (pv 1)) (λ _ _ _ _=>⟨(pgn 0 (nds ["place", "within", "yard"])),pif_nil,(pe_callD kC (rmn hr) rfl (pa_cons (pix w K hr (pv 2) pe_int) (pa_cons (pv 1) (pa_cons (pv 0) pa_nil))))⟩)) pa_nil)))
   (pss_one (ps_ret (pe_op (op_addW (K:=K) rfl) (pv 4) (pe_callB (call_sumU (K:=K) rfl rfl) rfl qF bt_sum (pa_cons (pe_comp (sc:=defScope s_lets_in) (N:=["yard", "part", "until", "within", "by_vats"]) (own:=["pipe"]) (ix:=[3]) rfl rfl rfl (by walk_at "csc") (pi_W (K:=K) rfl (pix w K hr (pv 0) pe_int)) (λ _ _ _ _=>⟨(pgn 0 (nds ["pipe", "within"])),pif_nil,(pe_callD kE (rmn hr) rfl (pa_cons (pv 0) (pa_cons (pv 1) pa_nil)))⟩)) pa_nil))))))),(rs_seq (rs_set (RfN.c (rn_dictT (RfF.e (rf_comp (rj_of (rf_varV 1)) (rg_name (i:=0) (n:=1) (by decide)) rt_true (rf_tup (ra_cons (rf_var 0) (ra_cons rf_bl ra_nil))))))))
   (rs_seq (rs_asg (rf_cb c_sum (rw_cons (RfE.v (RfF.e (rf_comp (rj_of (rf_varV 1)) (rg_name (i:=0) (n:=1) (by decide)) rt_true (RfN.ex (rn_call (at_d (rf_op r_ix (rf_varV 2) rvi) (at_b (rp_var 1) (at_d (rf_var 0) at_nil)))))))) rw_nil)) (rgn 4))
   (rs_ret (RfE.c (rf_op r_add (rf_varV 4) (RfE.v (rf_cb c_sum (rw_cons (RfE.v (RfF.e (rf_comp (rj_of (RfE.v (rf_op r_ix (rf_varV 0) rvi))) (rg_name (i:=0) (n:=1) (by decide)) rt_true (RfN.ex (rn_call (at_d (rf_var 0) (at_b (rp_var 1) at_nil))))))) rw_nil)))))))),?_⟩
 rintro ds Qd ⟨n,vs,ps,S,u,rfl,nd,hS,hp,hb,ok,q⟩
 unfold dY
 walk_at "ds"
 refine seq_hide λ J hJ=>?_
 walk_at "dd"
 refine compM (λ x:Sp=>.tuple [sxD x,.bool true]) (by rw [sizeLine_eq];lia) (λ x hx=>?_) ?_
 ·walk_at "cs"
  walk_at "dd"
 refine ⟨S.map kvS,?_,by rw [List.length_map];lia,hJ _ ?_⟩
 ·rw [List.map_map];rfl
 clear hJ
 rw [mD_S nd]
 refine seq_hide λ J hJ=>?_
 walk_at "dd"
 refine compM (λ x:Sp=>.int (spI S (flV vs) (rmV vs) x)) (by rw [sizeLine_eq];lia) (λ x hx=>?_) ?_
 ·walk_at "cs"
  walk_at "dd"
  refine ⟨_,rfl,?_⟩
  exact ⟨vs,S,x,rfl,hb x hx,rfl⟩
 refine ⟨S.map (spI S (flV vs) (rmV vs)),ints_mapF _ _,hJ _ ?_⟩
 clear hJ
 walk_at "dd"
 refine ⟨_,rfl,?_⟩
 walk_at "dd"
 refine compM (λ p:Pi=>.int (su S (ppI S p.u p.v p.len p.g.at))) (by rw [sizeLine_eq];lia) (λ p hp'=>?_) ?_
 ·walk_at "cs"
  walk_at "dd"
  exact ⟨n,p,S,rfl,ok p hp',rfl⟩
 refine ⟨ps.map λ p=>su S (ppI S p.u p.v p.len p.g.at),ints_mapF _ _,?_⟩
 exact q
end
def p_law_whole:DSp:=λ ds Q=>∃ i,ds=[.int i]/\Q (.bool true)
def p_law_stretch:DSp:=λ ds Q=>∃ (c:Int) (n u:Nat),ds=[.int c,.int (n:Int),.int (u:Int)]/\1<=n/\u<=100/\∀ l:List Sp,l.length<=101->(∀ x∈l,x.1<=u/\x.2 < n)->Q (.list (l.map sxD))
section
variable {P:Program} {w:World} {K:Fg} {mg:Str->Option Value} {base:Heap}
theorem sc__law_whole:FnScope ["found"] ["found"] (defScope s__law_whole):=by walk_at "sc"
theorem ok__law_whole (M:Md K mg) (T:TopDef K "_law_whole" s__law_whole) (kt:Kit K) (qE:mg "bool"=none) (qJ:mg "int"=none) (jO:mg "isinstance"=none):Def P w K mg base "_law_whole" 1 ["found"] (spD K p_law_whole):=by
 refine def_of M T sc__law_whole (λ _ _ _ _ _ _ us hl=>by obtain ⟨_,rfl⟩:=ar1 hl;rfl) (len_D λ ds Qd h=>by obtain ⟨_,rfl,_⟩:=h;rfl) (body_D ?_)
 intro f cdv A outer s H E hr
 have nd:=sc__law_whole.nd
 refine ⟨_,_,(pss_one (ps_ret (pe_and (pe_callB (call_isW (K:=K) rfl) rfl jO bt_isinstance (pa_cons (pv 0) (pa_cons (pe_bltn (v:=.ty "int") rfl qJ bt_int rfl) pa_nil))) (pe_one (pe_not (pe_callB (call_isW (K:=K) rfl) rfl jO bt_isinstance (pa_cons (pv 0) (pa_cons (pe_bltn (v:=.ty "bool") rfl qE bt_bool rfl) pa_nil)))))))),(rs_ret (RfE.c (rf_andV (rf_is kt (by simp) (rf_varV 0)) (rf_notV (rf_is kt (by simp) (rf_varV 0)))))),?_⟩
 rintro ds Qd ⟨i,rfl,q⟩
 walk_at "ds"
 walk_at "dd"
 exact ⟨λ _=>trivial,λ _=>trivial,q⟩
theorem sc__law_stretch:FnScope ["cell", "many", "until", "begin", "last"] ["cell", "many", "until"] (defScope s__law_stretch):=by walk_at "sc"
theorem ok__law_stretch (M:Md K mg) (T:TopDef K "_law_stretch" s__law_stretch) (jM:mg "range"=none):Def P w K mg base "_law_stretch" 1 ["cell", "many", "until"] (spD K p_law_stretch):=by
 refine def_of M T sc__law_stretch (λ _ _ _ _ _ _ us hl=>by obtain ⟨_,_,_,rfl⟩:=ar3 hl;rfl) (len_D λ ds Qd h=>by obtain ⟨_,_,_,rfl,_⟩:=h;rfl) (body_D ?_)
 intro f cdv A outer s H E hr
 have nd:=sc__law_stretch.nd
 refine ⟨_,_,(pss_cons (pset 3 nd (pe_op op_mod (pe_op op_fdivW (pv 0) pe_int) (pe_op (op_addW (K:=K) rfl) (pv 2) pe_int)))
   (pss_cons (pset 4 nd (pe_op (op_addW (K:=K) rfl) (pv 3) (pe_op op_mod (pe_op op_mod (pe_op op_mulV (pv 0) pe_int) pe_int) (pe_op op_sub (pe_op (op_addW (K:=K) rfl) (pv 2) pe_int) (pv 3)))))
   (pss_cons (ps_if (pt_cmpU (op_eqD (K:=K) rfl (Room.units hr)) (pe_op op_mod (pe_op op_fdivW (pv 0) pe_int) pe_int) pe_int (nomark _)) (pss_one (pset 4 nd (pv 2))) pss_nil)
   (pss_one (ps_ret (pe_comp (sc:=defScope s__law_stretch) (N:=["cell", "many", "until", "begin", "last"]) (own:=["moment"]) (ix:=[0,1]) rfl rfl rfl (by walk_at "csc") (pi_range2 rfl jM (pa_cons (pv 3) (pa_cons (pe_op (op_addW (K:=K) rfl) (pv 4) pe_int) pa_nil))) (λ _ _ _ _=>⟨(pgn 0 (nds ["moment", "cell", "many"])),pif_nil,(pe_tupU (pa_cons (pv 0) (pa_cons (pe_op op_mod (pv 1) (pv 2)) pa_nil)))⟩))))))),(rs_seq (rs_asg (rf_op r_mod (RfE.v (rf_op r_div (rf_varV 0) rvi)) (RfE.v (rf_op r_add (rf_varV 2) rvi))) (rgn 3))
   (rs_seq (rs_asg (rf_op r_add (rf_varV 3) (RfE.v (rf_op r_mod (RfE.v (rf_op r_mod (RfE.v (rf_op r_mul (rf_varV 0) rvi)) rvi)) (RfE.v (rf_op r_sub (RfE.v (rf_op r_add (rf_varV 2) rvi)) (rf_varV 3)))))) (rgn 4))
   (rs_seq (rs_if (rf_test (rf_opH q_eq (RfV.h (RfE.v (rf_op r_mod (RfE.v (rf_op r_div (rf_varV 0) rvi)) rvi))) (RfV.h rvi))) (rs_asg (rf_var 2) (rgn 4)) rs_next)
   (rs_ret (RfF.c (rf_comp (RfI.j (ri_rng2 (ra_cons (rf_var 3) (ra_cons (rf_op r_add (rf_varV 4) rvi) ra_nil)))) (rg_name (i:=0) (n:=1) (by decide)) rt_true (rf_tup (ra_cons (rf_var 0) (ra_cons (rf_op r_mod (rf_varV 1) (rf_varV 2)) ra_nil))))))))),?_⟩
 rintro ds Qd ⟨c,n,u,rfl,n1,u2,q⟩
 walk_at "ds"
 refine seq_hide λ J2 hJ2=>?_
 walk_at "dd"
 have b0:=Int.emod_nonneg (c / 12) (b:=(u:Int)+1) (by lia)
 have b1:=Int.emod_lt_of_pos (c / 12) (b:=(u:Int)+1) (by lia)
 refine ⟨by lia,hJ2 _ ?_⟩
 clear hJ2
 generalize c / 12 % ((u:Int)+1)=bb at *
 obtain ⟨b,rfl⟩:=Int.eq_ofNat_of_zero_le b0
 refine seq_hide λ J2 hJ2=>?_
 walk_at "dd"
 have d0:=Int.emod_nonneg (c * 16807 % 2147483647) (b:=(u:Int)+1 - (b:Int)) (by lia)
 have d1:=Int.emod_lt_of_pos (c * 16807 % 2147483647) (b:=(u:Int)+1 - (b:Int)) (by lia)
 refine ⟨.inr ⟨by decide,by decide⟩,by lia,hJ2 _ ?_⟩
 clear hJ2
 generalize c * 16807 % 2147483647 % ((u:Int)+1 - (b:Int))=dd at *
 obtain ⟨d,rfl⟩:=Int.eq_ofNat_of_zero_le d0
 refine seq_hide λ J2 hJ2=>?_
 have x0:=Int.emod_nonneg c (b:=(n:Int)) (by lia)
 have x1:=Int.emod_lt_of_pos c (b:=(n:Int)) (by lia)
 obtain ⟨x,hx⟩:=Int.eq_ofNat_of_zero_le x0
 have rest:∀ e:Int,(b:Int)<=e->e<=(u:Int)->J2 [Sl.sh (.int c),.sh (.int (n:Int)),.sh (.int (u:Int)),.sh (.int (b:Int)),.sh (.int e)]:=λ e e0 e1=>by
  refine hJ2 _ ?_
  clear hJ2
  walk_at "dd"
  unfold rngD
  refine ⟨by lia,?_⟩
  refine compM (λ j:Nat=>sxD (b+j,x)) (by rw [sizeLine_eq,List.length_range];lia) (λ j hj=>?_) ?_
  ·walk_at "cs"
   walk_at "dd"
   rw [hx]
   refine ⟨by lia,?_⟩
   unfold sxD
   rw [show (b:Int)+(j:Int)=((b+j:Nat):Int) by lia]
  ·rw [show ((List.range (e+1 - (b:Int)).toNat).map λ j:Nat=>sxD (b+j,x))=((List.range (e+1 - (b:Int)).toNat).map λ j:Nat=>((b+j,x):Sp)).map sxD by rw [List.map_map];rfl]
   refine q _ (by rw [List.length_map,List.length_range];lia) λ y hy=>?_
   obtain ⟨j,hj,rfl⟩:=List.mem_map.mp hy
   have:=List.mem_range.mp hj
   exact ⟨by show b+j<=u;lia,by show x < n;lia⟩
 walk_at "dd"
 exact two (λ _=>rest _ (by lia) (by lia)) λ _=>rest _ (by lia) (by lia)
end
def p_law_comes_in:DSp:=λ ds Q=>∃ (n u:Nat) (vs:List Va) (ps:List Pi) (S:List Sp),ds=[dY vs ps,.list (S.map sxD),.int (u:Int)]/\S.Nodup/\S.length<=200/\ps.length<=100/\u<=100/\(∀ x∈S,x.1<=u/\x.2 < vs.length)/\(∀ p∈ps,PiOk n p)/\Q (.int (su S (spI S (flV vs) (rmV vs))+su ps λ p=>su S (ppI S p.u p.v p.len p.g.at)))
section
variable {P:Program} {w:World} {K:Fg} {mg:Str->Option Value} {base:Heap}
theorem sc__law_comes_in:FnScope ["yard", "part", "until", "within", "place", "total", "moment", "vat", "pipe"] ["yard", "part", "until"] (defScope s__law_comes_in):=by walk_at "sc"
theorem ok__law_comes_in (M:Md K mg) (T:TopDef K "_law_comes_in" s__law_comes_in) (jM:mg "range"=none) (kF:Def P w K mg base "_law_wide_at" 1 ["gate", "moment"] (spD K p_law_wide_at)):Def P w K mg base "_law_comes_in" 2 ["yard", "part", "until"] (spD K p_law_comes_in):=by
 refine def_of M T sc__law_comes_in (λ _ _ _ _ _ _ us hl=>by obtain ⟨_,_,_,rfl⟩:=ar3 hl;rfl) (len_D λ ds Qd h=>by obtain ⟨_,_,_,_,_,rfl,_⟩:=h;rfl) (body_D ?_)
 intro f cdv A outer s H E hr
 have nd:=sc__law_comes_in.nd
 refine ⟨_,_,(pss_cons (pset 3 nd pe_dnewT)
   (pss_cons (ps_for PassesOwn.never rfl (pi_W (K:=K) rfl (pv 1)) (pgn 4 nd) (pss_one (ps_asg pe_bl (pg_sub (pv 3) (pv 4) (set_V (Room.units hr))))))
   (pss_cons (pset 5 nd pe_int)
   (pss_cons (ps_for PassesOwn.never rfl (pi_W (K:=K) rfl (pv 1)) (pg_tupU (K:=K) (n:=2) rfl rfl (pgs_cons (pgn 6 nd) (pgs_cons (pgn 7 nd) pgs_nil))) (pss_one (ps_if (pt_cmpU (op_eqD (K:=K) rfl (Room.units hr)) (pv 6) pe_int (nomark _)) (pss_one (ps_aug (i:=5) nd rfl (by first|exact Or.inl rfl|exact Or.inr rfl) (pix w K hr (pix w K hr (pix w K hr (pv 0) pe_int) (pv 7)) pe_int) ip_add)) (pss_one (ps_if (pt_cmpU (op_notInV (w:=w) (K:=K) (Room.units hr) rfl rfl) (pe_tupU (pa_cons (pe_op op_sub (pv 6) pe_int) (pa_cons (pv 7) pa_nil))) (pv 3) (by with_unfolding_all rfl)) (pss_one (ps_aug (i:=5) nd rfl (by first|exact Or.inl rfl|exact Or.inr rfl) (pix w K hr (pix w K hr (pix w K hr (pv 0) pe_int) (pv 7)) pe_int) ip_add)) pss_nil)))))
   (pss_cons (ps_for PassesOwn.never rfl (pi_W (K:=K) rfl (pix w K hr (pv 0) pe_int)) (pgn 8 nd) (pss_one (ps_for PassesOwn.never rfl (pi_range1 rfl jM (pa_cons (pe_op op_sub (pe_op (op_addW (K:=K) rfl) (pv 2) pe_int) (pix w K hr (pv 8) pe_int)) pa_nil)) (pgn 6 nd) (pss_one (ps_if (PW.pt (pw_and (pt_cmpU (op_notInV (w:=w) (K:=K) (Room.units hr) rfl rfl) (pe_tupU (pa_cons (pv 6) (pa_cons (pix w K hr (pv 8) pe_int) pa_nil))) (pv 3) (by with_unfolding_all rfl)) (pw_and1 (pt_cmpU (op_inV (w:=w) (K:=K) (Room.units hr) rfl rfl) (pe_tupU (pa_cons (pe_op (op_addW (K:=K) rfl) (pv 6) (pix w K hr (pv 8) pe_int)) (pa_cons (pix w K hr (pv 8) pe_int) pa_nil))) (pv 3) (by with_unfolding_all rfl))))) (pss_one (ps_aug (i:=5) nd rfl (by first|exact Or.inl rfl|exact Or.inr rfl) (pe_callD kF (rmn hr) rfl (pa_cons (pix w K hr (pv 8) pe_int) (pa_cons (pv 6) pa_nil))) ip_add)) pss_nil)))))
   (pss_one (ps_ret (pv 5)))))))),(rs_seq (rs_set rc_dt)
   (rs_seq (rs_for (ri_of (rf_var 1)) (rgn 4) (rs_put rf_bl (rp_var 3) (rf_var 4)))
   (rs_seq (rs_asg rf_int (rgn 5))
   (rs_seq (rs_for (ri_of (rf_var 1)) (rg_tup (rgs_cons (rgn 6) (rgs_cons (rgn 7) rgs_nil))) (rs_if (rf_test (rf_opH q_eq (RfV.h (rf_varV 6)) (RfV.h rvi))) (rs_aug (rf_op r_ix (RfE.v (rf_op r_ix (RfE.v (rf_op r_ix (rf_varV 0) rvi)) (rf_varV 7))) rvi)) (rs_if (rf_test (rf_nnin (rf_tup (ra_cons (rf_op r_sub (rf_varV 6) rvi) (ra_cons (rf_var 7) ra_nil))) (rp_var 3))) (rs_aug (rf_op r_ix (RfE.v (rf_op r_ix (RfE.v (rf_op r_ix (rf_varV 0) rvi)) (rf_varV 7))) rvi)) rs_next)))
   (rs_seq (rs_for (ri_of (rf_op r_ix (rf_varV 0) rvi)) (rgn 8) (rs_for (ri_rng1 (ra_cons (rf_op r_sub (RfE.v (rf_op r_add (rf_varV 2) rvi)) (RfE.v (rf_op r_ix (rf_varV 8) rvi))) ra_nil)) (rgn 6) (rs_if (rf_and (rf_test (rf_nnin (rf_tup (ra_cons (rf_var 6) (ra_cons (rf_op r_ix (rf_varV 8) rvi) ra_nil))) (rp_var 3))) (rf_test (rf_nin (rf_tup (ra_cons (rf_op r_add (rf_varV 6) (RfE.v (rf_op r_ix (rf_varV 8) rvi))) (ra_cons (rf_op r_ix (rf_varV 8) rvi) ra_nil))) (rp_var 3)))) (rs_aug (rf_call (ra_cons (rf_op r_ix (rf_varV 8) rvi) (ra_cons (rf_var 6) ra_nil)))) rs_next)))
   (rs_ret (RfE.c (rf_var 5)))))))),?_⟩
 rintro ds Qd ⟨n,u,vs,ps,S,rfl,nd,hS,hp,hu,hb,ok,q⟩
 unfold dY
 walk_at "ds"
 refine seq_hide λ J hJ=>?_
 walk_at "dd"
 refine hJ _ ?_
 clear hJ
 refine seq_hide λ J hJ=>?_
 refine for_hide λ B hB=>?_
 walk_at "dd"
 refine for_inv (λ i δ=>∃ s4,δ=[.sh (.tuple [.list (vs.map Va.d),.list (ps.map Pi.d)]),.sh (.list (S.map sxD)),.sh (.int (u:Int)),.ow (.dt ((S.take i).map kvS)),s4,.un,.un,.un,.un]) ⟨_,rfl⟩ (λ i x δ hi hp=>?_) λ δ hp=>?_
 ·obtain ⟨s4,rfl⟩:=hp
  obtain ⟨hi1,rfl⟩:=List.getElem?_eq_some_iff.mp hi
  walk_at "dd"
  refine hB _ _ ?_
  clear hB
  unfold sxD
  walk_at "dd"
  have nin:(S[i].1,S[i].2) ∉ S.take i:=λ z=>by
   obtain ⟨j,hj,e⟩:=List.mem_iff_getElem.mp z
   rw [List.length_take] at hj
   rw [List.getElem_take] at e
   have:j=i:=(List.getElem_inj nd).mp e
   lia
  obtain ⟨l',e1,_,e2,_⟩:=put_S (S.take i) (nd.sublist (List.take_sublist ..)) S[i].1 S[i].2
  refine ⟨ky S[i].1 S[i].2,rfl,by rw [List.length_map,List.length_take];lia,.sh (sxD S[i]),?_⟩
  rw [e1,e2 nin,List.take_add_one,List.getElem?_eq_getElem hi1]
  rfl
 ·obtain ⟨s4,rfl⟩:=hp
  rw [List.take_length]
  refine hJ _ ?_
  clear hJ hB
  refine seq_hide λ J hJ=>?_
  walk_at "dd"
  refine hJ _ ?_
  clear hJ
  refine seq_hide λ J hJ=>?_
  refine for_hide λ B hB=>?_
  walk_at "dd"
  have hg:∀ m k,(getA (S.map kvS) (ky m k)).isSome=decide ((m,k)∈S):=λ m k=>get_S
  generalize S.map kvS=KS at hg ⊢
  refine for_inv (λ i δ=>∃ s6 s7,δ=[.sh (.tuple [.list (vs.map Va.d),.list (ps.map Pi.d)]),.sh (.list (S.map sxD)),.sh (.int (u:Int)),.ow (.dt KS),s4,.sh (.int (su (S.take i) (spI S (flV vs) (rmV vs)))),s6,s7,.un]) ⟨_,_,rfl⟩ (λ i x δ hi hp=>?_) λ δ hp=>?_
  ·obtain ⟨s6,s7,rfl⟩:=hp
   obtain ⟨hi1,hi2⟩:=List.getElem?_eq_some_iff.mp hi
   have tk:S.take (i+1)=S.take i++[x]:=by rw [List.take_add_one,hi];rfl
   rw [tk,su_app,su_cons,su_nil,Int.add_zero]
   have hx:=hb x (hi2 ▸ List.getElem_mem hi1)
   obtain ⟨m,k⟩:=x
   have hk:k < vs.length:=hx.2
   have e:vs[k]?=some vs[k]:=List.getElem?_eq_getElem hk
   have ev:atI (vs.map Va.d) (k:Int)=some (vs[k]).d:=atI_nat (by rw [List.getElem?_map,e];rfl)
   generalize su (S.take i) (spI S (flV vs) (rmV vs))=tot
   generalize PyData.list (S.map sxD)=dS
   unfold sxD
   walk_at "dd"
   refine hB _ _ ?_
   clear hB
   walk_at "dd"
   refine two (λ h=>⟨_,rfl,⟨_,ev,?_⟩⟩) λ h=>?_
   ·unfold Va.d
    walk_at "dd"
    refine ⟨_,rfl,?_⟩
    have e2:spI S (flV vs) (rmV vs) (m,k)=(vs[k]).fill:=by
     unfold spI flV
     rw [if_pos (show (m,k).1=0 by show m=0;lia),e];rfl
    rw [e2]
    exact ⟨_,_,rfl⟩
   have m1:(m:Int) - 1=((m - 1:Nat):Int):=by lia
   rw [m1]
   refine ⟨ky (m - 1) k,rfl,?_⟩
   rw [hg]
   refine two (λ h2=>⟨_,rfl,⟨_,ev,?_⟩⟩) λ h2=>?_
   ·unfold Va.d
    walk_at "dd"
    refine ⟨_,rfl,?_⟩
    have e2:spI S (flV vs) (rmV vs) (m,k)=(vs[k]).room:=by
     unfold spI rmV
     rw [if_neg (show ¬ (m,k).1=0 by show ¬ m=0;lia),if_neg (of_decide_eq_false h2),e];rfl
    rw [e2]
    exact ⟨_,_,rfl⟩
   ·have e2:spI S (flV vs) (rmV vs) (m,k)=0:=by
     unfold spI
     rw [if_neg (show ¬ (m,k).1=0 by show ¬ m=0;lia),if_pos (Decidable.not_not.mp λ z=>h2 (decide_eq_false z))]
    rw [e2,Int.add_zero]
    exact ⟨_,_,rfl⟩
  ·obtain ⟨s6,s7,rfl⟩:=hp
   rw [List.take_length]
   refine hJ _ ?_
   clear hJ hB
   refine seq_hide λ J hJ=>?_
   refine for_hide λ B hB=>?_
   generalize su S (spI S (flV vs) (rmV vs))=tot at q ⊢
   walk_at "dd"
   refine ⟨_,rfl,?_⟩
   refine for_inv (λ i δ=>∃ s6 s8,δ=[.sh (.tuple [.list (vs.map Va.d),.list (ps.map Pi.d)]),.sh (.list (S.map sxD)),.sh (.int (u:Int)),.ow (.dt KS),s4,.sh (.int (tot+su (ps.take i) λ p=>su S (ppI S p.u p.v p.len p.g.at))),s6,s7,s8]) ⟨s6,.un,by rw [List.take_zero,su_nil,Int.add_zero]⟩ (λ i x δ hi hp=>?_) λ δ hp=>?_
   ·obtain ⟨s6,s8,rfl⟩:=hp
    obtain ⟨hi1,hi2⟩:=List.getElem?_eq_some_iff.mp hi
    have tk:ps.take (i+1)=ps.take i++[x]:=by rw [List.take_add_one,hi];rfl
    have okx:=ok x (hi2 ▸ List.getElem_mem hi1)
    rw [tk,su_app,su_cons,su_nil,Int.add_zero,<- Int.add_assoc,<- in_pp (u:=u) nd λ y hy=>(hb y hy).1]
    generalize tot+su (ps.take i) (λ p=>su S (ppI S p.u p.v p.len p.g.at))=tot
    generalize PyData.list (S.map sxD)=dS
    have er:((u:Int)+1 - (x.len:Int)).toNat=u+1 - x.len:=by lia
    generalize PyData.tuple [.list (vs.map Va.d),.list (ps.map Pi.d)]=dY
    unfold Pi.d
    walk_at "dd"
    refine hB _ _ ?_
    clear hB
    refine for_hide λ B hB=>?_
    walk_at "dd"
    refine ⟨_,rfl,?_⟩
    walk_at "dd"
    unfold rngD
    have lx:x.len<=20:=okx.2.2.2.1
    refine ⟨by lia,by lia,?_⟩
    rw [er]
    generalize hdp:PyData.tuple [.int (x.u:Int),.int (x.v:Int),.int (x.len:Int),.int x.pr,x.g.d]=dp
    refine for_inv (λ j δ=>∃ s6,δ=[.sh dY,.sh dS,.sh (.int (u:Int)),.ow (.dt KS),s4,.sh (.int (tot+su (List.range j) (inM S x.u x.v x.len x.g.at))),s6,s7,.sh dp]) ⟨s6,by rw [List.range_zero,su_nil,Int.add_zero]⟩ (λ j y δ hj hp=>?_) λ δ hp=>?_
    ·obtain ⟨s6,rfl⟩:=hp
     obtain ⟨hj1,hj2⟩:=List.getElem?_eq_some_iff.mp hj
     rw [List.length_range] at hj1
     rw [List.getElem_range] at hj2
     subst hj2 hdp
     rw [List.range_succ,su_app,su_cons,su_nil,Int.add_zero,<- Int.add_assoc]
     generalize tot+su (List.range j) (inM S x.u x.v x.len x.g.at)=tot
     walk_at "dd"
     refine hB _ _ ?_
     clear hB
     walk_at "dd"
     rw [show (0:Int)+(j:Int)=(j:Int) by lia]
     refine ⟨_,rfl,ky j x.u,rfl,?_⟩
     rw [hg]
     refine two (λ h1=>⟨_,rfl,?_⟩) λ h1=>?_
     ·show ∃ d,_/\_
      refine ⟨_,rfl,?_⟩
      rw [<- Int.natCast_add]
      refine ⟨ky (j+x.len) x.v,rfl,?_⟩
      rw [hg]
      refine two (λ h2=>⟨_,rfl,x.g,j,rfl,okx.2.2.2.2.1,?_⟩) λ h2=>?_
      ·rw [show inM S x.u x.v x.len x.g.at j=x.g.at j from if_pos ⟨of_decide_eq_false h1,of_decide_eq_true h2⟩]
       exact ⟨_,rfl⟩
      ·rw [show inM S x.u x.v x.len x.g.at j=0 from if_neg λ z=>h2 (decide_eq_true z.2),Int.add_zero]
       exact ⟨_,rfl⟩
     ·rw [show inM S x.u x.v x.len x.g.at j=0 from if_neg λ z=>h1 (decide_eq_false z.1),Int.add_zero]
      exact ⟨_,rfl⟩
    ·obtain ⟨s6,rfl⟩:=hp
     rw [List.length_range]
     exact ⟨_,_,rfl⟩
   ·obtain ⟨s6,s8,rfl⟩:=hp
    rw [List.take_length]
    refine hJ _ ?_
    clear hJ hB
    walk_at "dd"
    exact q
end
theorem fit_vs (vs:List Va) (h:∀ v∈vs,(v.nm.cps.all λ x=>decide (x < 1114112))=true):Fit 4 (.list (vs.map Va.d)):=by
 have cn:∀ {n:Nat} {a:D} {r:List D},Fit n a->(∀ d∈r,Fit n d)->∀ d∈a :: r,Fit n d:=λ h k=>List.forall_mem_cons.mpr ⟨h,k⟩
 have nn:∀ {n:Nat},∀ d∈([]:List D),Fit n d:=λ d h=>nomatch h
 refine Fit.lst λ d hd=>?_
 obtain ⟨v,hv,rfl⟩:=List.mem_map.mp hd
 exact Fit.tup (cn (Fit.str (h v hv)) (cn (Fit.int _) (cn (Fit.int _) nn)))
theorem fit_ps (ps:List Pi):Fit 4 (.list (ps.map Pi.d)):=by
 have cn:∀ {n:Nat} {a:D} {r:List D},Fit n a->(∀ d∈r,Fit n d)->∀ d∈a :: r,Fit n d:=λ h k=>List.forall_mem_cons.mpr ⟨h,k⟩
 have nn:∀ {n:Nat},∀ d∈([]:List D),Fit n d:=λ d h=>nomatch h
 refine Fit.lst λ d hd=>?_
 obtain ⟨p,_,rfl⟩:=List.mem_map.mp hd
 have fg:Fit 2 p.g.d:=by
  cases p.g with
 |st x=>exact Fit.tup (cn (Fit.str (by decide +kernel)) (cn (Fit.int _) nn))
 |la x f=>exact Fit.tup (cn (Fit.str (by decide +kernel)) (cn (Fit.int _) (cn (Fit.int _) nn)))
 |ti x y t=>exact Fit.tup (cn (Fit.str (by decide +kernel)) (cn (Fit.int _) (cn (Fit.int _) (cn (Fit.int _) nn))))
 exact Fit.tup (cn (Fit.int _) (cn (Fit.int _) (cn (Fit.int _) (cn (Fit.int _) (cn fg nn)))))
theorem shape5 (c:Int):∃ n u w:Nat,atI [PyData.tuple [.int 12,.int 3,.int 24],.tuple [.int 2,.int 60,.int 6],.tuple [.int 4,.int 10,.int 12],.tuple [.int 3,.int 5,.int 9],.tuple [.int 2,.int 1,.int 3]] (c % 5)=some (.tuple [.int (n:Int),.int (u:Int),.int (w:Int)])/\2<=n/\n<=12/\u<=60/\(u+1) * n<=122/\w<=24:=by
 rcases (show c % 5=0 \/ c % 5=1 \/ c % 5=2 \/ c % 5=3 \/ c % 5=4 by lia) with h|h|h|h|h <;> rw [h]
 ·exact ⟨12,3,24,rfl,by decide,by decide,by decide,by decide,by decide⟩
 ·exact ⟨2,60,6,rfl,by decide,by decide,by decide,by decide,by decide⟩
 ·exact ⟨4,10,12,rfl,by decide,by decide,by decide,by decide,by decide⟩
 ·exact ⟨3,5,9,rfl,by decide,by decide,by decide,by decide,by decide⟩
 ·exact ⟨2,1,3,rfl,by decide,by decide,by decide,by decide,by decide⟩
section
variable {P:Program} {w:World} {K:Fg} {mg:Str->Option Value} {base:Heap} {jA jC jB:Addr}
theorem sc_law:FnScope ["script", "first", "shapes", "many", "until", "ways", "large", "vats", "k", "fill", "pipes", "behind", "spots", "place", "part", "handed", "yard", "found", "none"] ["script"] (defScope s_law):=by walk_at "sc"
theorem body_law (qA:mg "len"=none) (kW:mg "list"=none) (qK:mg "max"=none) (qB:mg "min"=none) (jM:mg "range"=none) (kQ:mg "sorted"=none) (kU:Def P w K mg base "lets_in" 6 ["yard", "part", "until"] (spD K p_lets_in)) (jD:Def P w K mg base "_law_cell_at" 1 ["script", "k"] (spD K p_law_cell_at)) (jJ:Def P w K mg base "_law_great" 1 ["cell", "large"] (spD K p_law_great)) (kR:Def P w K mg base "_law_pipe" 3 ["cell", "many", "large", "until"] (spD K p_law_pipe)) (kG:Def P w K mg base "_law_stretch" 1 ["cell", "many", "until"] (spD K p_law_stretch)) (kB:Def P w K mg base "_law_whole" 1 ["found"] (spD K p_law_whole)) (jX:Def P w K mg base "_law_comes_in" 2 ["yard", "part", "until"] (spD K p_law_comes_in)) :
  ∀ (f:Addr) (cdv:Value) (A:Around) (outer:List Env) (s:Shared) (H:Hp) (E:XK),Room 6 (A.deeper (envOfC "law" (defScope s_law) s.heap.objs.size f cdv)) ->
   ∃ t d,PSs (cxOf CX0 P w K mg base ["script", "first", "shapes", "many", "until", "ways", "large", "vats", "k", "fill", "pipes", "behind", "spots", "place", "part", "handed", "yard", "found", "none"] "law" (defScope s_law) f cdv A outer s H E).nox (defBody s_law) t/\RfS K t d/\∀ (ns:List Int) (Qd:D->Prop),ns.length<=63->Qd (.bool true)->d { nx:=λ _=>Qd .none,rt:=rD Qd } (dStart ["script", "first", "shapes", "many", "until", "ways", "large", "vats", "k", "fill", "pipes", "behind", "spots", "place", "part", "handed", "yard", "found", "none"] [.list (ns.map .int)]):=by
 intro f cdv A outer s H E hr
 have nd:=sc_law.nd
 refine ⟨_,_,(pss_hid (pss_cons (pset 1 nd (pe_callD jD (rmn hr) rfl (pa_cons (pv 0) (pa_cons pe_int pa_nil))))
   (pss_cons (pset 2 nd (pe_lstH (pax_i3 (pax_i3 (pax_i3 (pax_i3 (pax_i3 pax_nil)))))))
   (pss_cons (ps_asg (pix w K hr (pv 2) (pe_op op_mod (pv 1) pe_int)) (pg_tupU (K:=K) (n:=3) rfl rfl (pgs_cons (pgn 3 nd) (pgs_cons (pgn 4 nd) (pgs_cons (pgn 5 nd) pgs_nil)))))
   (pss_cons (pset 6 nd (pe_op op_mod (pe_op op_fdivW (pv 1) pe_int) pe_int))
   (pss_cons (pset 7 nd (pe_lstU pa_nil))
   (pss_cons (ps_for PassesOwn.never rfl (pi_range1 rfl jM (pa_cons (pv 3) pa_nil)) (pgn 8 nd) (pss_cons (pset 9 nd (pe_callD jJ (rmn hr) rfl (pa_cons (pe_callD jD (rmn hr) rfl (pa_cons (pv 0) (pa_cons (pe_op (op_addW (K:=K) rfl) pe_int (pv 8)) pa_nil))) (pa_cons (pv 6) pa_nil))))
   (pss_one (ps_expr (pe_bmU (K:=K) rfl PySem.F.plainAttrs_list PySem.F.slot_list_append PySem.F.type_list_append mt_append (pv 7) (pa_cons (pe_tupU (pa_cons (pix w K hr pe_str (pv 8)) (pa_cons (pe_op (op_addW (K:=K) rfl) (pv 9) (pe_callD jJ (rmn hr) rfl (pa_cons (pe_op op_fdivW (pe_callD jD (rmn hr) rfl (pa_cons (pv 0) (pa_cons (pe_op (op_addW (K:=K) rfl) pe_int (pv 8)) pa_nil))) pe_int) (pa_cons (pv 6) pa_nil)))) (pa_cons (pv 9) pa_nil)))) pa_nil))))))
   (pss_cons (pset 10 nd (pe_lstU pa_nil))
   (pss_cons (pset 11 nd (pe_op (op_addW (K:=K) rfl) (pe_op (op_addW (K:=K) rfl) pe_int (pv 3)) (pe_op op_mod (pe_callD jD (rmn hr) rfl (pa_cons (pv 0) (pa_cons pe_int pa_nil))) (pe_op (op_addW (K:=K) rfl) (pv 5) pe_int))))
   (pss_cons (ps_for PassesOwn.never rfl (pi_range2 rfl jM (pa_cons (pe_op (op_addW (K:=K) rfl) pe_int (pv 3)) (pa_cons (pv 11) pa_nil))) (pgn 8 nd) (pss_one (ps_expr (pe_bmU (K:=K) rfl PySem.F.plainAttrs_list PySem.F.slot_list_append PySem.F.type_list_append mt_append (pv 10) (pa_cons (pe_callD kR (rmn hr) rfl (pa_cons (pe_callD jD (rmn hr) rfl (pa_cons (pv 0) (pa_cons (pv 8) pa_nil))) (pa_cons (pv 3) (pa_cons (pv 6) (pa_cons (pv 4) pa_nil))))) pa_nil)))))
   (pss_cons (pset 12 nd pe_dnewT)
   (pss_cons (ps_for PassesOwn.never rfl (pi_range2 rfl jM (pa_cons (pv 11) (pa_cons (pe_callB (call_maxU rfl) rfl qK bt_max (pa_cons (pe_op (op_addW (K:=K) rfl) (pv 11) pe_int) (pa_cons (pe_callB (call_min2 rfl) rfl qB bt_min (pa_cons pe_int (pa_cons (pe_callB (call_lenU (K:=K) rfl) rfl qA bt_len (pa_cons (pv 0) pa_nil)) pa_nil))) pa_nil))) pa_nil))) (pgn 8 nd) (pss_one (ps_for PassesOwn.never rfl (pi_W (K:=K) rfl (pe_callD kG (rmn hr) rfl (pa_cons (pe_callD jD (rmn hr) rfl (pa_cons (pv 0) (pa_cons (pv 8) pa_nil))) (pa_cons (pv 3) (pa_cons (pv 4) pa_nil))))) (pgn 13 nd) (pss_one (ps_asg pe_bl (pg_sub (pv 12) (pv 13) (set_V (Room.units hr))))))))
   (pss_cons (pset 14 nd (pe_callB (call_sortP (K:=K) rfl rfl) rfl kQ bt_sorted (pa_cons (pv 12) pa_nil)))
   (pss_cons (ps_if (pt_cmpU (op_eqD (K:=K) rfl (Room.units hr)) (pe_op op_mod (pe_op op_fdivW (pv 1) pe_int) pe_int) pe_int (nomark _)) (pss_one (ps_setComp (i:=14) (sc:=defScope s_law) (N:=["script", "first", "shapes", "many", "until", "ways", "large", "vats", "k", "fill", "pipes", "behind", "spots", "place", "part", "handed", "yard", "found", "none"]) (own:=["k"]) (ix:=[3]) rfl rfl rfl (by walk_at "csc") nd rfl rfl (pi_range1 rfl jM (pa_cons (pe_op op_mulV (pe_op (op_addW (K:=K) rfl) (pv 4) pe_int) (pv 3)) pa_nil)) (λ _ _ _ _=>⟨(pgn 0 (nds ["k", "many"])),pif_nil,(pe_tupU (pa_cons (pe_op op_fdivW (pv 0) (pv 1)) (pa_cons (pe_op op_mod (pv 0) (pv 1)) pa_nil)))⟩))) pss_nil)
   (pss_cons (pset 15 nd (pe_callTy (call_listU (K:=K) rfl) rfl kW bt_list (pa_cons (pv 14) pa_nil)))
   (pss_cons (pset 16 nd (pe_tupU (pa_cons (pe_callTy (call_listU (K:=K) rfl) rfl kW bt_list (pa_cons (pv 7) pa_nil)) (pa_cons (pe_callTy (call_listU (K:=K) rfl) rfl kW bt_list (pa_cons (pv 10) pa_nil)) pa_nil))))
   (pss_cons (pset 17 nd (pe_callD kU (rmn hr) rfl (pa_cons (pv 16) (pa_cons (pv 15) (pa_cons (pv 4) pa_nil)))))
   (pss_cons (ps_if (PW.pt (pw_or (pt_not (pt_truU (K:=K) rfl (pe_callD kB (rmn hr) rfl (pa_cons (pv 17) pa_nil)) (λ _=>rfl))) (pw_or (pt_cmpU (op_neD (K:=K) rfl (Room.units hr)) (pv 17) (pe_callD jX (rmn hr) rfl (pa_cons (pe_tupU (pa_cons (pv 7) (pa_cons (pv 10) pa_nil))) (pa_cons (pv 14) (pa_cons (pv 4) pa_nil)))) (nomark _)) (pw_or1 (pt_cmpU (op_neD (K:=K) rfl (Room.units hr)) (pv 15) (pv 14) (nomark _)))))) (pss_one (ps_ret pe_bl)) pss_nil)
   (pss_cons (pset 18 nd (pe_callD kU (rmn hr) rfl (pa_cons (pv 16) (pa_cons (pe_lstU pa_nil) (pa_cons (pv 4) pa_nil)))))
   (pss_one (ps_ret (pe_and (pe_callD kB (rmn hr) rfl (pa_cons (pv 18) pa_nil)) (pe_and (pe_cmpR (op_eqD (K:=K) rfl (Room.units hr)) (pv 18) pe_int (nomark _)) (pe_one (pe_cmpR (op_eqD (K:=K) rfl (Room.units hr)) (pv 16) (pe_tupU (pa_cons (pv 7) (pa_cons (pv 10) pa_nil))) (nomark _)))))))))))))))))))))))))),(rs_seq (rs_asg (rf_call (ra_cons (rf_var 0) (ra_cons rf_int ra_nil))) (rgn 1))
   (rs_seq (rs_asg (RfF.e (rf_lst (ra_cons (rf_tup (ra_cons rf_int (ra_cons rf_int (ra_cons rf_int ra_nil)))) (ra_cons (rf_tup (ra_cons rf_int (ra_cons rf_int (ra_cons rf_int ra_nil)))) (ra_cons (rf_tup (ra_cons rf_int (ra_cons rf_int (ra_cons rf_int ra_nil)))) (ra_cons (rf_tup (ra_cons rf_int (ra_cons rf_int (ra_cons rf_int ra_nil)))) (ra_cons (rf_tup (ra_cons rf_int (ra_cons rf_int (ra_cons rf_int ra_nil)))) ra_nil))))))) (rgn 2))
   (rs_seq (rs_asg (rf_op r_ix (rf_varV 2) (RfE.v (rf_op r_mod (rf_varV 1) rvi))) (rg_tup (rgs_cons (rgn 3) (rgs_cons (rgn 4) (rgs_cons (rgn 5) rgs_nil)))))
   (rs_seq (rs_asg (rf_op r_mod (RfE.v (rf_op r_div (rf_varV 1) rvi)) rvi) (rgn 6))
   (rs_seq (rs_set (RfF.c (rf_lst ra_nil)))
   (rs_seq (rs_for (ri_rng1 (ra_cons (rf_var 3) ra_nil)) (rgn 8) (rs_seq (rs_asg (rf_call (ra_cons (rf_call (ra_cons (rf_var 0) (ra_cons (rf_op r_add rvi (rf_varV 8)) ra_nil))) (ra_cons (rf_var 6) ra_nil))) (rgn 9))
   (rs_drop (rc_bm mo_app (rp_var 7) (ra_cons (rf_tup (ra_cons (rf_op r_ix (RfE.v rf_str) (rf_varV 8)) (ra_cons (rf_op r_add (rf_varV 9) (RfE.v (rf_call (ra_cons (rf_op r_div (RfE.v (rf_call (ra_cons (rf_var 0) (ra_cons (rf_op r_add rvi (rf_varV 8)) ra_nil)))) rvi) (ra_cons (rf_var 6) ra_nil))))) (ra_cons (rf_var 9) ra_nil)))) ra_nil)))))
   (rs_seq (rs_set (RfF.c (rf_lst ra_nil)))
   (rs_seq (rs_asg (rf_op r_add (RfE.v (rf_op r_add rvi (rf_varV 3))) (RfE.v (rf_op r_mod (RfE.v (rf_call (ra_cons (rf_var 0) (ra_cons rf_int ra_nil)))) (RfE.v (rf_op r_add (rf_varV 5) rvi))))) (rgn 11))
   (rs_seq (rs_for (ri_rng2 (ra_cons (rf_op r_add rvi (rf_varV 3)) (ra_cons (rf_var 11) ra_nil))) (rgn 8) (rs_drop (rc_bm mo_app (rp_var 10) (ra_cons (rf_call (ra_cons (rf_call (ra_cons (rf_var 0) (ra_cons (rf_var 8) ra_nil))) (ra_cons (rf_var 3) (ra_cons (rf_var 6) (ra_cons (rf_var 4) ra_nil))))) ra_nil))))
   (rs_seq (rs_set rc_dt)
   (rs_seq (rs_for (ri_rng2 (ra_cons (rf_var 11) (ra_cons (rf_cb c_max2 (rw_cons (RfE.v (rf_op r_add (rf_varV 11) rvi)) (rw_cons (RfE.v (rf_cb c_min2 (rw_cons rvi (rw_cons (RfE.v (rf_cb c_len (rw_cons (rf_varV 0) rw_nil))) rw_nil)))) rw_nil))) ra_nil))) (rgn 8) (rs_for (ri_of (rf_call (ra_cons (rf_call (ra_cons (rf_var 0) (ra_cons (rf_var 8) ra_nil))) (ra_cons (rf_var 3) (ra_cons (rf_var 4) ra_nil))))) (rgn 13) (rs_put rf_bl (rp_var 12) (rf_var 13))))
   (rs_seq (rs_asg (RfF.e (rf_sortP (rp_var 12))) (rgn 14))
   (rs_seq (rs_if (rf_test (rf_opH q_eq (RfV.h (RfE.v (rf_op r_mod (RfE.v (rf_op r_div (rf_varV 1) rvi)) rvi))) (RfV.h rvi))) (rs_asg (RfF.e (rf_comp (RfI.j (ri_rng1 (ra_cons (rf_op r_mul (RfE.v (rf_op r_add (rf_varV 4) rvi)) (rf_varV 3)) ra_nil))) (rg_name (i:=0) (n:=1) (by decide)) rt_true (rf_tup (ra_cons (rf_op r_div (rf_varV 0) (rf_varV 1)) (ra_cons (rf_op r_mod (rf_varV 0) (rf_varV 1)) ra_nil))))) (rgn 14)) rs_next)
   (rs_seq (rs_asg (RfF.e (rf_cf c_list (rw_cons (rf_varV 14) rw_nil))) (rgn 15))
   (rs_seq (rs_asg (rf_tup (ra_cons (RfF.e (rf_cf c_list (rw_cons (rf_varV 7) rw_nil))) (ra_cons (RfF.e (rf_cf c_list (rw_cons (rf_varV 10) rw_nil))) ra_nil))) (rgn 16))
   (rs_seq (rs_asg (rf_call (ra_cons (rf_var 16) (ra_cons (rf_var 15) (ra_cons (rf_var 4) ra_nil)))) (rgn 17))
   (rs_seq (rs_frz 7 [] (rs_frz 10 [] (rs_if (rf_or (rf_not (rf_tru (RfE.v (rf_call (ra_cons (rf_var 17) ra_nil))))) (rf_or (rf_test (rf_opH q_ne (RfV.h (rf_varV 17)) (RfV.h (RfE.v (rf_call (ra_cons (rf_tup (ra_cons (rf_var 7) (ra_cons (rf_var 10) ra_nil))) (ra_cons (rf_var 14) (ra_cons (rf_var 4) ra_nil)))))))) (rf_test (rf_opH q_ne (RfV.h (rf_varV 15)) (RfV.h (rf_varV 14)))))) (rs_ret (RfE.c rf_bl)) rs_next)))
   (rs_seq (rs_asg (rf_call (ra_cons (rf_var 16) (ra_cons (RfF.e (rf_lst ra_nil)) (ra_cons (rf_var 4) ra_nil)))) (rgn 18))
   (rs_ret (RfE.c (rf_andV (rf_call (ra_cons (rf_var 18) ra_nil)) (rf_andV (rf_opH q_eq (RfV.h (rf_varV 18)) (RfV.h rvi)) (rf_opH q_eq (RfV.h (rf_varV 16)) (rh_tup (rh_cons (RfV.h (rf_varV 7)) (rh_cons (RfV.h (rf_varV 10)) rh_nil)))))))))))))))))))))))))),?_⟩
 intro ns Qd hl q
 walk_at "ds"
 refine seq_hide λ J hJ=>?_
 walk_at "dd"
 refine ⟨ns,0,rfl,by decide,λ c=>hJ _ ?_⟩
 clear hJ
 refine seq_hide λ J hJ=>?_
 walk_at "dd"
 refine hJ _ ?_
 clear hJ
 refine seq_hide λ J hJ=>?_
 walk_at "dd"
 obtain ⟨n,u,ww,e5,n0,n1,u1,nu,w1⟩:=shape5 c
 refine ⟨_,e5,rfl,?_⟩
 generalize PyData.list [PyData.tuple [.int 12,.int 3,.int 24],.tuple [.int 2,.int 60,.int 6],.tuple [.int 4,.int 10,.int 12],.tuple [.int 3,.int 5,.int 9],.tuple [.int 2,.int 1,.int 3]]=dsh
 walk_at "dd"
 refine hJ _ ?_
 clear hJ
 refine seq_hide λ J hJ=>?_
 walk_at "dd"
 refine hJ _ ?_
 clear hJ
 generalize c / 5 % 2=g
 refine seq_hide λ J hJ=>?_
 walk_at "dd"
 refine hJ _ ?_
 clear hJ
 refine seq_hide λ J hJ=>?_
 refine for_hide λ B hB=>?_
 walk_at "dd"
 unfold rngD
 refine ⟨by lia,by lia,?_⟩
 rw [Int.toNat_natCast]
 refine for_inv (λ i δ=>∃ (vs:List Va) (s8 s9:Sl),δ=[.sh (.list (ns.map .int)),.sh (.int c),.sh dsh,.sh (.int (n:Int)),.sh (.int (u:Int)),.sh (.int (ww:Int)),.sh (.int g),.ow (.li (vs.map Va.d)),s8,s9,.un,.un,.un,.un,.un,.un,.un,.un,.un]/\vs.length=i/\(∀ v∈vs,(v.nm.cps.all λ x=>decide (x < 1114112))=true)) ⟨[],_,_,rfl,rfl,λ v h=>by simp at h⟩ (λ i kk δ hi hp=>?_) λ δ hp=>?_
 ·obtain ⟨vs,s8,s9,rfl,hlv,hnm⟩:=hp
  obtain ⟨hi1,hi2⟩:=List.getElem?_eq_some_iff.mp hi
  rw [List.length_range] at hi1
  rw [List.getElem_range] at hi2
  subst hi2
  walk_at "dd"
  refine hB _ _ ?_
  clear hB
  rw [show (0:Int)+(i:Int)=(i:Int) by lia]
  refine seq_hide λ J2 hJ2=>?_
  walk_at "dd"
  refine ⟨ns,2+i,by rw [Int.natCast_add];rfl,by lia,λ m=>⟨m,g,rfl,λ f f0 f1=>hJ2 _ ?_⟩⟩
  clear hJ2
  obtain ⟨ch,hch,hch2⟩:∃ ch,atI (Str.ofString "kfcaljbdheig").cps.toList (i:Int)=some ch/\decide (ch < 1114112)=true:=by
   have hl:(Str.ofString "kfcaljbdheig").cps.toList.length=12:=by decide +kernel
   have hall:((Str.ofString "kfcaljbdheig").cps.toList.all λ c=>decide (c < 1114112))=true:=by decide +kernel
   exact ⟨_,at_nat (by lia) (List.getElem?_eq_getElem (by rw [Int.toNat_natCast];lia)),List.all_eq_true.mp hall _ (List.getElem_mem _)⟩
  walk_at "dd"
  refine ⟨by decide +kernel,ch,hch,ns,3+i,by rw [Int.natCast_add];rfl,by lia,λ m2=>?_⟩
  walk_at "dd"
  refine ⟨m2 / 7,g,rfl,λ f2 f20 f21=>?_⟩
  walk_at "dd"
  refine ⟨by rw [List.length_map];lia,vs++[⟨⟨#[ch]⟩,f+f2,f⟩],_,_,by rw [List.map_append];rfl,by rw [List.length_append,hlv];rfl,λ v hv=>(List.mem_append.mp hv).elim (hnm v) λ z=>?_⟩
  simp at z
  rw [z]
  show (#[ch].all λ x=>decide (x < 1114112))=true
  simpa using hch2
 ·obtain ⟨vs,s8,s9,rfl,hlv,hnm⟩:=hp
  rw [List.length_range] at hlv
  refine hJ _ ?_
  clear hJ hB
  refine seq_hide λ J hJ=>?_
  walk_at "dd"
  refine hJ _ ?_
  clear hJ
  refine seq_hide λ J hJ=>?_
  walk_at "dd"
  have b0:∀ m:Int,0<=m % ((ww:Int)+1):=λ m=>Int.emod_nonneg m (by lia)
  have b1:∀ m:Int,m % ((ww:Int)+1) < (ww:Int)+1:=λ m=>Int.emod_lt_of_pos m (by lia)
  refine ⟨ns,1,rfl,by decide,λ m=>⟨by lia,hJ _ ?_⟩⟩
  clear hJ
  have b0:=b0 m
  have b1:=b1 m
  generalize m % ((ww:Int)+1)=y at b0 b1 ⊢
  obtain ⟨y,rfl⟩:=Int.eq_ofNat_of_zero_le b0
  rw [show (2:Int)+(n:Int)+(y:Int)=((2+n+y:Nat):Int) by lia]
  refine seq_hide λ J hJ=>?_
  refine for_hide λ B hB=>?_
  walk_at "dd"
  unfold rngD
  refine ⟨⟨by lia,by lia,by lia,by lia⟩,?_⟩
  rw [show (((2+n+y:Nat):Int) - (2+(n:Int))).toNat=y by lia]
  refine for_inv (λ i δ=>∃ (ps:List Pi) (s8:Sl),δ=[.sh (.list (ns.map .int)),.sh (.int c),.sh dsh,.sh (.int (n:Int)),.sh (.int (u:Int)),.sh (.int (ww:Int)),.sh (.int g),.ow (.li (vs.map Va.d)),s8,s9,.ow (.li (ps.map Pi.d)),.sh (.int ((2+n+y:Nat):Int)),.un,.un,.un,.un,.un,.un,.un]/\ps.length=i/\∀ p∈ps,PiOk n p) ⟨[],_,rfl,rfl,λ v h=>by simp at h⟩ (λ i kk δ hi hp=>?_) λ δ hp=>?_
  ·obtain ⟨ps,s8,rfl,hlp,hpk⟩:=hp
   obtain ⟨hi1,hi2⟩:=List.getElem?_eq_some_iff.mp hi
   rw [List.length_range] at hi1
   rw [List.getElem_range] at hi2
   subst hi2
   walk_at "dd"
   refine hB _ _ ?_
   clear hB
   rw [show (2:Int)+(n:Int)+(i:Int)=((2+n+i:Nat):Int) by lia]
   walk_at "dd"
   refine ⟨ns,2+n+i,rfl,by lia,λ m=>⟨m,g,n,u,rfl,n0,n1,λ p hp=>⟨by rw [List.length_map];lia,ps++[p],_,by rw [List.map_append];rfl,by rw [List.length_append,hlp];rfl,λ p' hp'=>(List.mem_append.mp hp').elim (hpk p') λ z=>?_⟩⟩⟩
   simp at z
   rw [z];exact hp
  ·obtain ⟨ps,s8,rfl,hlp,hpk⟩:=hp
   rw [List.length_range] at hlp
   refine hJ _ ?_
   clear hJ hB
   refine seq_hide λ J hJ=>?_
   walk_at "dd"
   refine hJ _ ?_
   clear hJ
   refine seq_hide λ J hJ=>?_
   refine for_hide λ B hB=>?_
   walk_at "dd"
   unfold rngD
   generalize hX:(if (if ((ns.map PyData.int).length:Int) < 63 then ((ns.map PyData.int).length:Int) else 63) > ((2+n+y:Nat):Int)+4 then (if ((ns.map PyData.int).length:Int) < 63 then ((ns.map PyData.int).length:Int) else 63) else ((2+n+y:Nat):Int)+4)=X
   have X0:0<=X/\X<=63:=by
    rw [<- hX]
    split <;> (try split) <;> lia
   clear hX
   refine ⟨⟨by lia,by lia,by lia,by lia⟩,?_⟩
   refine for_inv (λ i δ=>∃ (S:List Sp) (s8 s13:Sl),δ=[.sh (.list (ns.map .int)),.sh (.int c),.sh dsh,.sh (.int (n:Int)),.sh (.int (u:Int)),.sh (.int (ww:Int)),.sh (.int g),.ow (.li (vs.map Va.d)),s8,s9,.ow (.li (ps.map Pi.d)),.sh (.int ((2+n+y:Nat):Int)),.ow (.dt (S.map kvS)),s13,.un,.un,.un,.un,.un]/\S.Nodup/\∀ x∈S,x.1<=u/\x.2 < n) ⟨[],_,_,rfl,List.nodup_nil,λ v h=>by simp at h⟩ (λ i kk δ hi hp=>?_) λ δ hp=>?_
   ·obtain ⟨S,s8,s13,rfl,nd,hb⟩:=hp
    obtain ⟨hi1,hi2⟩:=List.getElem?_eq_some_iff.mp hi
    rw [List.length_range] at hi1
    rw [List.getElem_range] at hi2
    subst hi2
    walk_at "dd"
    refine hB _ _ ?_
    clear hB
    rw [<- Int.natCast_add]
    refine for_hide λ B hB=>?_
    walk_at "dd"
    refine ⟨ns,2+n+y+i,rfl,by lia,λ m=>⟨m,n,u,rfl,by lia,by lia,λ l ll lb=>?_⟩⟩
    refine for_inv (λ j δ=>∃ (S:List Sp) (s13:Sl),δ=[.sh (.list (ns.map .int)),.sh (.int c),.sh dsh,.sh (.int (n:Int)),.sh (.int (u:Int)),.sh (.int (ww:Int)),.sh (.int g),.ow (.li (vs.map Va.d)),.sh (.int ((2+n+y+i:Nat):Int)),s9,.ow (.li (ps.map Pi.d)),.sh (.int ((2+n+y:Nat):Int)),.ow (.dt (S.map kvS)),s13,.un,.un,.un,.un,.un]/\S.Nodup/\∀ x∈S,x.1<=u/\x.2 < n) ⟨S,_,rfl,nd,hb⟩ (λ j x δ hj hp=>?_) λ δ hp=>?_
    ·obtain ⟨S,s13,rfl,nd,hb⟩:=hp
     have hx:=lb x (List.mem_of_getElem? hj)
     obtain ⟨a,b⟩:=x
     unfold sxD
     walk_at "dd"
     refine hB _ _ ?_
     clear hB
     walk_at "dd"
     obtain ⟨S',e1,nd',_,hb'⟩:=put_S S nd a b
     have few:=few_S nd hb
     refine ⟨ky a b,rfl,by rw [List.length_map];lia,S',_,by rw [e1],nd',λ z hz=>?_⟩
     rcases hb' z hz with h|h
     ·exact hb z h
     ·rw [h];exact hx
    ·obtain ⟨S,s13,rfl,nd,hb⟩:=hp
     exact ⟨S,_,_,rfl,nd,hb⟩
   ·obtain ⟨S,s8,s13,rfl,nd,hb⟩:=hp
    refine hJ _ ?_
    clear hJ hB
    refine seq_hide λ J hJ=>?_
    walk_at "dd"
    have few:=few_S nd hb
    let f:Sp->List Int:=λ x=>[(x.1:Int),(x.2:Int)]
    refine ⟨S.map f,by rw [List.map_map,List.map_map];rfl,λ r hr=>?_,by rw [List.length_map];lia,λ rows hr=>hJ _ ?_⟩
    ·obtain ⟨x,_,rfl⟩:=List.mem_map.mp hr
     exact show ¬ [(x.1:Int),(x.2:Int)]=[] from λ z=>by cases z
    clear hJ
    obtain ⟨S1,e1,nd1,hb1⟩:∃ S1:List Sp,rows.map rowD=S1.map sxD/\S1.Nodup/\∀ x∈S1,x.1<=u/\x.2 < n:=by
     have hp:(rows.map λ r=>(((r.getD 0 0).toNat,(r.getD 1 0).toNat):Sp)).Perm S:=by
      have:=hr.map λ r=>(((r.getD 0 0).toNat,(r.getD 1 0).toNat):Sp)
      rw [List.map_map] at this
      rw [show S.map ((λ r:List Int=>(((r.getD 0 0).toNat,(r.getD 1 0).toNat):Sp)) ∘ f)=S.map id from List.map_congr_left λ x _=>rfl,List.map_id] at this
      exact this
     refine ⟨_,?_,hp.nodup_iff.mpr nd,λ x hx=>hb x (hp.mem_iff.mp hx)⟩
     rw [List.map_map]
     refine List.map_congr_left λ r h=>?_
     obtain ⟨x,_,rfl⟩:=List.mem_map.mp (hr.mem_iff.mp h)
     rfl
    rw [e1]
    clear e1 hr rows few
    generalize T.dt (S.map kvS)=dS
    refine seq_join (λ δ=>∃ S:List Sp,S.Nodup/\(∀ x∈S,x.1<=u/\x.2 < n)/\δ=[.sh (.list (ns.map .int)),.sh (.int c),.sh dsh,.sh (.int (n:Int)),.sh (.int (u:Int)),.sh (.int (ww:Int)),.sh (.int g),.ow (.li (vs.map Va.d)),s8,s9,.ow (.li (ps.map Pi.d)),.sh (.int ((2+n+y:Nat):Int)),.ow dS,s13,.sh (.list (S.map sxD)),.un,.un,.un,.un]) ?_ ?_
    ·walk_at "dd"
     refine two (λ _=>?_) λ _=>⟨S1,nd1,hb1,rfl⟩
     unfold rngD
     have em:((u:Int)+1) * (n:Int)=(((u+1) * n:Nat):Int):=by rw [Int.natCast_mul];rfl
     rw [em]
     refine ⟨.inr ⟨by lia,by lia⟩,by lia,by lia,?_⟩
     rw [Int.toNat_natCast]
     refine compM (λ k:Nat=>sxD (k / n,k % n)) (by rw [sizeLine_eq,List.length_range];lia) (λ k hk=>?_) ?_
     ·walk_at "cs"
      walk_at "dd"
      rw [show (0:Int)+(k:Int)=(k:Int) by lia]
      refine ⟨by lia,by lia,?_⟩
      unfold sxD
      rw [Int.natCast_ediv,Int.natCast_emod]
     refine ⟨(List.range ((u+1) * n)).map λ k=>(k / n,k % n),?_,λ x hx=>?_,by rw [List.map_map];rfl⟩
     ·refine nodup_map' _ List.nodup_range λ a _ b _ e=>?_
      have e1:a / n=b / n:=congrArg Prod.fst e
      have e2:a % n=b % n:=congrArg Prod.snd e
      rw [<- Nat.div_add_mod a n,<- Nat.div_add_mod b n,e1,e2]
     ·obtain ⟨k,hk,rfl⟩:=List.mem_map.mp hx
      have hk:=List.mem_range.mp hk
      refine ⟨?_,Nat.mod_lt _ (by lia)⟩
      show k / n<=u
      have:=(Nat.div_lt_iff_lt_mul (show 0 < n by lia)).mpr hk
      lia
    ·rintro δ ⟨S,nd,hb,rfl⟩
     have few:=few_S nd hb
     refine seq_hide λ J hJ=>?_
     walk_at "dd"
     refine hJ _ ?_
     clear hJ
     refine seq_hide λ J hJ=>?_
     walk_at "dd"
     refine hJ _ ?_
     clear hJ
     refine seq_hide λ J hJ=>?_
     walk_at "dd"
     refine ⟨n,vs,ps,S,_,rfl,nd,by lia,by lia,λ x hx=>by rw [hlv];exact (hb x hx).2,hpk,hJ _ ?_⟩
     clear hJ
     have fS:Fit 2 (.list (S.map sxD)):=Fit.lst λ d hd=>by
      obtain ⟨x,_,rfl⟩:=List.mem_map.mp hd
      exact Fit.tup (List.forall_mem_cons.mpr ⟨Fit.int _,List.forall_mem_cons.mpr ⟨Fit.int _,λ d h=>nomatch h⟩⟩)
     have fy:Fit 5 (.tuple [.list (vs.map Va.d),.list (ps.map Pi.d)]):=Fit.tup (List.forall_mem_cons.mpr ⟨fit_vs vs hnm,List.forall_mem_cons.mpr ⟨fit_ps ps,λ d h=>nomatch h⟩⟩)
     refine seq_hide λ J hJ=>?_
     walk_at "dd"
     refine ⟨_,_,rfl,rfl,_,_,rfl,rfl,_,rfl,?_⟩
     generalize hT:(su S (spI S (flV vs) (rmV vs))+su ps λ p=>su S (ppI S p.u p.v p.len p.g.at))=tot
     walk_at "dd"
     refine ⟨n,u,vs,ps,S,rfl,nd,by lia,by lia,by lia,λ x hx=>by rw [hlv];exact hb x hx,hpk,?_⟩
     rw [hT]
     walk_at "dd"
     refine ⟨fS.shaped (by decide),fS.shaped (by decide),?_⟩
     rw [fS.eqv,if_neg (by decide)]
     refine hJ _ ?_
     clear hJ
     refine seq_hide λ J hJ=>?_
     walk_at "dd"
     refine ⟨n,vs,ps,[],_,rfl,List.nodup_nil,by simp,by lia,λ x hx=>by simp at hx,hpk,hJ _ ?_⟩
     clear hJ
     walk_at "dd"
     have z0:(su ([]:List Sp) (spI [] (flV vs) (rmV vs))+su ps λ p=>su ([]:List Sp) (ppI [] p.u p.v p.len p.g.at))=0:=by
      rw [su_nil,Int.zero_add]
      exact su_zero ..
     rw [z0]
     refine ⟨_,rfl,?_⟩
     walk_at "dd"
     refine ⟨fy.shaped (by decide),fy.shaped (by decide),?_⟩
     rw [fy.eqv]
     exact q
end
theorem all_mk {l:PySem.W.OpenLaw} {w:World} {K:Fg} {h:Heap} {mg:Str->Option Value} {fa:Addr} {jB jA jC:Addr} (X:K.In h) (G:h.Ns mainGlobals mg) (hfa:mg "law"=some (.ref fa))
  (jL:TopCls K "Tidal" jB)
  (jN:TopCls K "Steady" jA)
  (jS:TopCls K "Late" jC)
  (jH:PySem.W.findIn K (.ref jB) "wide"=some none)
  (jF:PySem.W.findIn K (.ref jB) "other"=some none)
  (jI:PySem.W.findIn K (.ref jB) "turn"=some none)
  (jE:PySem.W.findIn K (.ref jA) "wide"=some none)
  (jK:PySem.W.findIn K (.ref jC) "wide"=some none)
  (jG:PySem.W.findIn K (.ref jC) "since"=some none)
  (kH:TopDef K "spot_lets_in" s_spot_lets_in)
  (jU:TopMeth K jB "__init__" "Tidal.__init__" s_Tidal___init__)
  (jQ:TopMeth K jA "__init__" "Steady.__init__" s_Steady___init__)
  (jY:TopMeth K jC "__init__" "Late.__init__" s_Late___init__)
  (kY:TopDef K "gate_of" s_gate_of)
  (jR:TopMeth K jA "width_at" "Steady.width_at" s_Steady_width_at)
  (jZ:TopMeth K jC "width_at" "Late.width_at" s_Late_width_at)
  (jV:TopMeth K jB "width_at" "Tidal.width_at" s_Tidal_width_at)
  (qI:TopDef K "width" s_width)
  (kI:TopDef K "pipe_lets_in" s_pipe_lets_in)
  (kZ:TopDef K "lets_in" s_lets_in)
  (kJ:TopDef K "_law_cell_at" s__law_cell_at)
  (kM:TopDef K "_law_great" s__law_great)
  (kS:TopDef K "_law_gate" s__law_gate)
  (kT:TopDef K "_law_pipe" s__law_pipe)
  (kK:TopDef K "_law_stretch" s__law_stretch)
  (kO:TopDef K "_law_whole" s__law_whole)
  (kL:TopDef K "_law_wide_at" s__law_wide_at)
  (kA:TopDef K "_law_comes_in" s__law_comes_in)
  (qM:TopDef K "law" s_law)
  (qE:PySem.W.nsIn K mainGlobals "bool"=some none)
  (qD:PySem.W.nsIn K mainGlobals "dict"=some none)
  (qJ:PySem.W.nsIn K mainGlobals "int"=some none)
  (jO:PySem.W.nsIn K mainGlobals "isinstance"=some none)
  (qA:PySem.W.nsIn K mainGlobals "len"=some none)
  (kW:PySem.W.nsIn K mainGlobals "list"=some none)
  (qK:PySem.W.nsIn K mainGlobals "max"=some none)
  (qB:PySem.W.nsIn K mainGlobals "min"=some none)
  (jM:PySem.W.nsIn K mainGlobals "range"=some none)
  (kQ:PySem.W.nsIn K mainGlobals "sorted"=some none)
  (qF:PySem.W.nsIn K mainGlobals "sum"=some none) (kt:Kit K)
 :∃ fd:FuncData,(∀ (s:Shared) (v:Value),BindsTo s fd ⟨[v],[]⟩ [("script",v)])/\∀ base:Heap,K.In base->base.Ns mainGlobals mg->FnOk l.prog w K mg base CX0 7 fa fd ["script"] (spLaw K):=by
 have M:Md K mg:=⟨⟨h,X,G⟩⟩
 refine law_D M qM hfa sc_law (λ _ _ _ _ _ _ us hl=>by obtain ⟨_,rfl⟩:=ar1 hl;rfl) λ base kb nb=>?_
 have kC:=ok_spot_lets_in (P:=l.prog) (w:=w) (K:=K) (mg:=mg) (base:=base) M kH
 have qG:=ok_Tidal___init__ (P:=l.prog) (w:=w) (K:=K) (mg:=mg) (base:=base) M jL jU jH jF jI
 have qC:=ok_Steady___init__ (P:=l.prog) (w:=w) (K:=K) (mg:=mg) (base:=base) M jN jQ jE
 have qL:=ok_Late___init__ (P:=l.prog) (w:=w) (K:=K) (mg:=mg) (base:=base) M jS jY jK jG
 have kX:=ok_gate_of (P:=l.prog) (w:=w) (K:=K) (mg:=mg) (base:=base) (jC:=jC) (jA:=jA) (jB:=jB) M kY qG qC qL
 have jP:=ok_Steady_width_at (P:=l.prog) (w:=w) (K:=K) (mg:=mg) (base:=base) jN.cls jR jE
 have jW:=ok_Late_width_at (P:=l.prog) (w:=w) (K:=K) (mg:=mg) (base:=base) jS.cls jZ jK jG
 have jT:=ok_Tidal_width_at (P:=l.prog) (w:=w) (K:=K) (mg:=mg) (base:=base) jL.cls jV jH jF jI
 have qH:=ok_width (P:=l.prog) (w:=w) (K:=K) (mg:=mg) (base:=base) M qI kX jS.cls jN.cls jL.cls jP jW jT
 have kE:=ok_pipe_lets_in (P:=l.prog) (w:=w) (K:=K) (mg:=mg) (base:=base) M kI qH
 have kU:=ok_lets_in (P:=l.prog) (w:=w) (K:=K) (mg:=mg) (base:=base) M kZ (M.not qD) (M.not qF) kC kE
 have jD:=ok__law_cell_at (P:=l.prog) (w:=w) (K:=K) (mg:=mg) (base:=base) M kJ (M.not qA)
 have jJ:=ok__law_great (P:=l.prog) (w:=w) (K:=K) (mg:=mg) (base:=base) M kM
 have kP:=ok__law_gate (P:=l.prog) (w:=w) (K:=K) (mg:=mg) (base:=base) M kS (M.not qB) jJ
 have kR:=ok__law_pipe (P:=l.prog) (w:=w) (K:=K) (mg:=mg) (base:=base) M kT kP
 have kG:=ok__law_stretch (P:=l.prog) (w:=w) (K:=K) (mg:=mg) (base:=base) M kK (M.not jM)
 have kB:=ok__law_whole (P:=l.prog) (w:=w) (K:=K) (mg:=mg) (base:=base) M kO kt (M.not qE) (M.not qJ) (M.not jO)
 have kF:=ok__law_wide_at (P:=l.prog) (w:=w) (K:=K) (mg:=mg) (base:=base) M kL
 have jX:=ok__law_comes_in (P:=l.prog) (w:=w) (K:=K) (mg:=mg) (base:=base) M kA (M.not jM) kF
 exact body_law (M.not qA) (M.not kW) (M.not qK) (M.not qB) (M.not jM) (M.not kQ) kU jD jJ kR kG kB jX
end K26
local macro_rules|`(tactic| walk_at "top")=>`(tactic| (refine' topDef_mk ?a ?l ?c ?k;(case a=>k_is);(case l=>k_is);(case c=>k_is);(case k=>k_is)))
local macro_rules|`(tactic| walk_at "topn")=>`(tactic| (refine' topDefN_mk ?a ?l ?c ?k ?t ?d;(case a=>k_is);(case l=>k_is);(case c=>k_is);(case k=>k_is);(case t=>k_is);(case d=>rfl)))
local macro_rules|`(tactic| walk_at "meth")=>`(tactic| (refine' topMeth_mk ?a ?i ?l ?c ?k;(case a=>k_is);(case i=>k_is);(case l=>k_is);(case c=>k_is);(case k=>k_is)))
local macro_rules|`(tactic| walk_at "cls")=>`(tactic| (refine' topCls_mk ?a ?pg ?hd ?po ?sa ?mk ?kc;(case a=>k_is);(case pg=>k_is);(case hd=>k_is);(case po=>k_is);(case sa=>k_is);(case mk=>k_is);(case kc=>k_is)))
def PySem.W.Fast.tw10121187507127288785 : Nat := 0
def PySem.W.Fast.tw11156067468232091599 : Nat := 0
def PySem.W.Fast.tw16799471595683684463 : Nat := 0
def PySem.W.Fast.tw3281119040881362220 : Nat := 0
def PySem.W.Fast.tw343721436470773657 : Nat := 0
def PySem.W.Fast.tw12791816260968566072 : Nat := 0
def PySem.W.Fast.tw15205622298204751924 : Nat := 0
def PySem.W.Fast.tw15622281784236500303 : Nat := 0
def PySem.W.Fast.tw10969983157316582639 : Nat := 0
def PySem.W.Fast.tw12183389994939011442 : Nat := 0
def PySem.W.Fast.tw14186114540713537937 : Nat := 0
def PySem.W.Fast.tw3179220645806321027 : Nat := 0
def PySem.W.Fast.tw14900698434508870923 : Nat := 0
def PySem.W.Fast.tw12889032267401741187 : Nat := 0
def PySem.W.Fast.tw1020696544010663909 : Nat := 0
def PySem.W.Fast.tw8353466355347431210 : Nat := 0
def PySem.W.Fast.tw10012086534790311538 : Nat := 0
def PySem.W.Fast.tw3265281427289300071 : Nat := 0
def PySem.W.Fast.tw9805703449587758864 : Nat := 0
def PySem.W.Fast.tw7935526621034228843 : Nat := 0
def PySem.W.Fast.tw1968401930923351286 : Nat := 0
def PySem.W.Fast.tw7254193730731635858 : Nat := 0
def PySem.W.Fast.tw11483010169113637639 : Nat := 0
def PySem.W.Fast.tw14319526741041348124 : Nat := 0
def PySem.W.Fast.tw16277622575819679093 : Nat := 0
def PySem.W.Fast.tw17885604261167673659 : Nat := 0
def PySem.W.Fast.tw9924881373411063688 : Nat := 0
def PySem.W.Fast.tw18399856833768101099 : Nat := 0
def PySem.W.Fast.tw13206449984013354175 : Nat := 0
def PySem.W.Fast.tw9068257224600276430 : Nat := 0
def PySem.W.Fast.tw11560745497598982788 : Nat := 0
open PySem PySem.W PyProof.Rows L3 L4
set_option maxRecDepth 100000 in
set_option maxHeartbeats 0 in
theorem PySem.Challenge.cw_vatyard_k26_what_a_part_lets_in_holds : PySem.Challenge.rw_vatyard_k26_what_a_part_lets_in.Holds := by
  w_on; o_law; k_head; (case hw => w_witness2)
  k_fill
  refine L3.law_walk (k := 7) (l := PySem.Challenge.rw_vatyard_k26_what_a_part_lets_in) ⟨rfl, by decide, rfl, by decide⟩ rfl rfl (fun w h Y => PySem.W.kIn_of Y) ?F
  case F =>
    intro w mg fa h KX G hmg
    refine' K26.all_mk KX G hmg ?jL ?jN ?jS ?jH ?jF ?jI ?jE ?jK ?jG ?kH ?jU ?jQ ?jY ?kY ?jR ?jZ ?jV ?qI ?kI ?kZ ?kJ ?kM ?kS ?kT ?kK ?kO ?kL ?kA ?qM ?qE ?qD ?qJ ?jO ?qA ?kW ?qK ?qB ?jM ?kQ ?qF ?kt
    (case jL => walk_at "cls")
    (case jN => walk_at "cls")
    (case jS => walk_at "cls")
    (case jH => k_is)
    (case jF => k_is)
    (case jI => k_is)
    (case jE => k_is)
    (case jK => k_is)
    (case jG => k_is)
    (case kH => walk_at "top")
    (case jU => walk_at "meth")
    (case jQ => walk_at "meth")
    (case jY => walk_at "meth")
    (case kY => walk_at "top")
    (case jR => walk_at "meth")
    (case jZ => walk_at "meth")
    (case jV => walk_at "meth")
    (case qI => walk_at "top")
    (case kI => walk_at "top")
    (case kZ => walk_at "top")
    (case kJ => walk_at "top")
    (case kM => walk_at "top")
    (case kS => walk_at "top")
    (case kT => walk_at "top")
    (case kK => walk_at "top")
    (case kO => walk_at "top")
    (case kL => walk_at "top")
    (case kA => walk_at "top")
    (case qM => walk_at "top")
    (case qE => k_is)
    (case qD => k_is)
    (case qJ => k_is)
    (case jO => k_is)
    (case qA => k_is)
    (case kW => k_is)
    (case qK => k_is)
    (case qB => k_is)
    (case jM => k_is)
    (case kQ => k_is)
    (case qF => k_is)
    (case kt => exact ⟨fun t ht T hT => by simp only [List.mem_cons, List.not_mem_nil, or_false] at ht hT; rcases ht with rfl | rfl | rfl | rfl | rfl | rfl <;> rcases hT with rfl | rfl | rfl | rfl | rfl <;> rfl⟩)
